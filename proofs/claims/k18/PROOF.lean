import PyProof.Rows.All
import Wide.All
import OpenK.AllK
import Wide.FinOn
import Lean
import PyProof.EqAt
import PyProof.EqKinds
import PyProof.TupleCall
import PyProof.CodeObj
import PyProof.Rows.Own
import PyProof.ExcBaseAll.ValueError
import PyProof.RaisesMany
import PyProof.WalksPairs
import KE.KTurns
import PyProof.DictItems
import PyProof.DictWalks
import PyProof.DictCopy
import PyProof.DictValues
import PyProof.WalksEnum
import PyProof.EnumMake
import KE.KEqDict
import PyProof.FactsAll.dict_3
import PyProof.FactsAll.str_5
import PyProof.StrCalls2
import PyProof.AutoListH
import KE.LcSums
import KE.KxPercent
import PyProof.FactsAll.list_3
import PyProof.FactsAll.list_4
import PyProof.FactsAll.tuple_3
import PyProof.CompFree
import PyProof.CompMap
import PyProof.CompUse
import PyProof.DictCompW
import KE.KSortTup
import KE.KDictSum
import PyProof.NeKinds
import PyProof.WalkInts
import PyProof.FString5
import PyProof.ListRange
import PyProof.LongRange
import PyProof.AttrMissHeap
import PyProof.Rows.SetFrom
import KE.KDictOf
import PyProof.StrOps
import KE.KNestM
import KE.KLam
import PyProof.OldK
import KE.KSortKey
import PyProof.Rows.CallKwBuiltin
import PyProof.Rows.CallKw2
import PyProof.MeetsIn
import PyProof.ExcArgsOwn
import PyProof.ZipIter
import PyProof.LayNew
import PyProof.InstStoreFacts
import PyProof.ExcClass3
import KE.KUnpack
import PySem.Challenge.RW_wayhold_k18_shared_runs
set_option maxHeartbeats 4000000
set_option maxRecDepth 100000
set_option Elab.async false
set_option linter.all false
noncomputable abbrev iA:=PySem.W.Frag
noncomputable abbrev iB:=List (PySem.Addr×PySem.Obj)
noncomputable abbrev iE:=PySem.Value->PySem.Shared->Prop
noncomputable abbrev iF:=PySem.Str->Option PySem.Value
noncomputable abbrev iG:=List PySem.Addr
noncomputable abbrev iH:=List PySem.Value
noncomputable abbrev iI:=Option PySem.Addr
noncomputable abbrev iJ:=Array PySem.Value
noncomputable abbrev iK:=List PySem.Str
noncomputable abbrev iL:=List PySem.Expr
noncomputable abbrev iM:=List Int
noncomputable def aa:=@PySem.wpAny_bind
noncomputable def ae:=@PySem.wpAny_pure
noncomputable def af:=@PySem.Heap.get?_push_of_some
noncomputable def ag:=@List.getElem?_eq_some_iff
noncomputable def ah:=@Option.map_eq_some_iff
noncomputable def ai:=@Option.bind_eq_some_iff
noncomputable def ak:=@List.getElem?_eq_getElem
noncomputable def ao:=@PySem.Heap.get?_push_size
noncomputable def aq:=@Bool.and_eq_true
noncomputable def au:=@List.size_toArray
noncomputable def av:=@List.map_cons
noncomputable def aw:=@List.mem_cons
noncomputable def ax:=@if_neg
noncomputable def ay:=@List.mem_cons_of_mem
noncomputable def az:=@List.length_append
noncomputable def aA:=@PySem.Heap.lt_size
noncomputable def aB:=@List.mem_of_getElem?
noncomputable def aC:=@List.mem_cons_self
noncomputable def aD:=@List.mem_singleton
noncomputable def aE:=@if_pos
noncomputable def aF:=@decide_eq_true_eq
noncomputable def aG:=@Bool.false_ne_true
noncomputable def aH:=@Nat.ne_of_lt
noncomputable def aI:=@Nat.le_refl
noncomputable def aJ:=@List.getElem?_append_right
noncomputable def aK:=@PySem.wpAny_holding
noncomputable def aL:=@List.not_mem_nil
noncomputable def aM:=@List.length_map
noncomputable def aN:=@PySem.wpAny_newObj_type
noncomputable def aO:=@List.getElem?_set_ne
noncomputable def aP:=@List.all_eq_true
noncomputable def aQ:=@List.mem_map
noncomputable def aR:=@Bool.false_eq_true
noncomputable def aS:=@PySem.Heap.SameBut.update
noncomputable def aT:=@List.mem_append_right
noncomputable def aU:=@List.getElem?_append_left
noncomputable def aV:=@List.getElem?_set_self
noncomputable def aW:=@List.getElem?_map
noncomputable def aX:=@PySem.wpAny_loadPart'
noncomputable def aY:=@PySem.wpAny_mono
noncomputable def aZ:=@decide_eq_false
noncomputable def ba:=@Nat.le_trans
noncomputable def bb:=@Option.bind_some
noncomputable def bc:=@PySem.Heap.get?_update_self
noncomputable def bg:=@PySem.Heap.get?_update_other
noncomputable def bh:=@PySem.wpAny_dictEntries
noncomputable def bj:=@PySem.wpAny_call_entry
noncomputable def bp:=@PySem.wpAny_callSpecial?_slot
noncomputable def bq:=@List.nodup_cons
noncomputable def br:=@decide_eq_true
noncomputable def bu:=@Nat.lt_succ_self
noncomputable def bw:=@PySem.Heap.get?_none_of_le
noncomputable def bx:=@List.length_singleton
noncomputable def bz:=@Nat.zero_le
noncomputable def b9:=@List.mem_append
noncomputable def bA:=@Option.isSome_iff_exists
noncomputable def bB:=@PySem.wpAny_field
noncomputable def bC:=@Array.getElem?_eq_some_iff
noncomputable def bD:=@Nat.le_add_right
noncomputable def bE:=@Array.length_toList
noncomputable def bG:=@Array.getElem?_eq_getElem
noncomputable def bH:=@PySem.Around.under_plainId
noncomputable def bI:=@List.cons_append
noncomputable def bJ:=@PySem.wpAny_dictEpoch
noncomputable def bK:=@PySem.wpAny_truthy_bool
noncomputable def bL:=@PySem.wpAny_loadPart_at
noncomputable def bM:=@Option.some.inj
noncomputable def bN:=@Ne.symm
noncomputable def bO:=@List.length_cons
noncomputable def bP:=@PySem.Calls.callWith_builtin
noncomputable def bQ:=@Prod.mk.inj
noncomputable def bR:=@if_false
noncomputable def bS:=@Nat.lt_of_lt_of_le
noncomputable def bT:=@PySem.Obj.data_mapFields
noncomputable def bU:=@PySem.Calls.spliced_cons
noncomputable def bV:=@List.length_filterMap_le
noncomputable def bW:=@PySem.wpAny_notOrdered_dict
noncomputable def bX:=@Bool.or_eq_true
noncomputable def bY:=@congrArg
noncomputable def bZ:=@or_false
noncomputable def cb:=@Nat.add_sub_cancel_left
noncomputable def cf:=@PySem.F.excBase_ValueError
noncomputable def cj:=@List.mem_filterMap
noncomputable def ck:=@List.drop_eq_getElem_cons
noncomputable def cm:=@PySem.wpAny_standAt
noncomputable def cq:=@List.map_congr_left
noncomputable def cu:=@PySem.sizeLine_eq
noncomputable def cv:=@PySem.wpAny_rule
noncomputable def cw:=@PySem.Obj.isFreed_of_fields
noncomputable def cy:=@List.filterMap_cons_none
noncomputable def cz:=@List.map_append
noncomputable def c9:=@PySem.codeAny_builtin
noncomputable def cA:=@PySem.wpAny_setField_rec
noncomputable def cB:=@PySem.F.plainAttrs_dict
noncomputable def cC:=@beq_iff_eq
noncomputable def cD:=@PySem.Calls.evalArgs_plain
noncomputable def cE:=@List.any_eq_true
noncomputable def cF:=@List.lookup_cons
noncomputable def cG:=@List.getD_eq_getElem?_getD
noncomputable def cH:=@List.filterMap_cons
noncomputable def cI:=@of_decide_eq_true
noncomputable def cJ:=@PySem.wpAny_setField
noncomputable def cK:=@PySem.plainId_quiet
noncomputable def cL:=@Nat.lt_irrefl
noncomputable def cM:=@List.mem_iff_getElem?
noncomputable def cN:=@Nat.le_of_lt
noncomputable def cO:=@List.cons_lt_cons_iff
noncomputable def cP:=@PySem.F.store_ValueError
noncomputable def cQ:=@List.filterMap_cons_some
noncomputable def cS:=@PySem.Obj.data_mapDictKeys
noncomputable def cT:=@PySem.W.looks_findIn
noncomputable def cU:=@Nat.ne_of_gt
noncomputable def cV:=@List.map_inj_left
noncomputable def cW:=@List.length_set
noncomputable def cX:=@List.nil_append
noncomputable def cY:=@Array.getElem?_eq_none_iff
noncomputable def cZ:=@PySem.wpAny_forIn_list
noncomputable def dg:=@List.getElem_mem
noncomputable def dh:=@PySem.slot_dict_contains
noncomputable def di:=@Nat.sub_self
noncomputable def dj:=@PySem.Heap.size_push
noncomputable def dk:=@List.mem_append_left
noncomputable def dq:=@Nat.not_lt_zero
noncomputable def dt:=@Option.some.injEq
noncomputable def du:=@List.nodup_append
noncomputable def dv:=@List.mem_filter
noncomputable def dy:=@if_true
noncomputable def dz:=@PySem.Calls.spliced_nil
noncomputable def d7:=@PySem.plainObj_wpAny_Assign_Attribute
noncomputable def d8:=@PySem.wpAny_passesOwn
noncomputable def dA:=@Int.toNat_natCast
noncomputable def dB:=@Bool.not_eq_true'
noncomputable def dE:=@List.map_map
noncomputable def dF:=@PySem.wpAny_typeNameOfWhole_itemiter
noncomputable def dG:=@PySem.F.slot_dict_valueiterator_next
noncomputable def dH:=@PySem.F.slot_list_getattribute
noncomputable def dI:=@List.getElem?_cons_zero
noncomputable def dJ:=@List.filter_cons_of_neg
noncomputable def dK:=@List.filter_cons_of_pos
noncomputable def dM:=@PySem.wpAny_attempt
noncomputable def dN:=@PySem.mem_of_lookup
noncomputable def dO:=@PySem.wpAny_isSubtype_exc
noncomputable def dP:=@PySem.wpAny_typeNameOfWhole_keyiter
noncomputable def dQ:=@PySem.wpAny_isInstance
noncomputable def dT:=@PySem.F.slot_dict_itemiterator_next
noncomputable def dU:=@PySem.wpAny_typeNameOfWhole_valiter
noncomputable def dW:=@Nat.le_of_not_lt
noncomputable def dX:=@List.mem_range
noncomputable def dY:=@PySem.wpAny_seqItems
noncomputable def dZ:=@List.find?_eq_none
noncomputable def ee:=@PyProof.Rows.slot_tuple_getitem
noncomputable def ef:=@PySem.F.slot_dict_keyiterator_next
noncomputable def el:=@PySem.call_meetsIn
noncomputable def et:=@PySem.wpAny_letGo
noncomputable def ew:=@List.cons.injEq
noncomputable def eB:=@Nat.lt_trans
noncomputable def eE:=@List.contains_iff_mem
noncomputable def eF:=@PySem.Obj.cls_mapFields
noncomputable def eH:=@PySem.wpAny_newFunctionEnv_cells
noncomputable def eI:=@Bool.and_eq_true_iff
noncomputable def eJ:=@PySem.wpAny_missedRemoval_other
noncomputable def eK:=@Classical.byContradiction
noncomputable def eM:=@PySem.wpAny_typeNameOf_itemiter
noncomputable def eP:=@Nat.not_lt_of_le
noncomputable def eQ:=@PySem.Obj.isFreed_of_dict
noncomputable def eS:=@List.filter_eq_self
noncomputable def eU:=@List.filter_sublist
noncomputable def eV:=@List.mem_map_of_mem
noncomputable def eX:=@Nat.lt_or_ge
noncomputable def eY:=@PySem.wpAny_typeNameOf_keyiter
noncomputable def eZ:=@PySem.wpAny_typeNameOf_valiter
noncomputable def fc:=@PySem.F.slot_list_append
noncomputable def fg:=@List.getElem?_cons_succ
noncomputable def fj:=@PySem.wpAny_specialOf
noncomputable def fq:=@PySem.wpAny_callSpecialUnlessNone?_slot
noncomputable def fy:=@List.of_mem_zip
noncomputable def f7:=@PySem.wpAny_pyIter_tuple
noncomputable def fA:=@PySem.wpAny_Call_method0_late
noncomputable def fB:=@PySem.wpAny_Call_Name_kw
noncomputable def fE:=@Bool.eq_iff_iff
noncomputable def fF:=@Nat.lt_of_le_of_lt
noncomputable def fG:=@PySem.F.plainAttrs_list
noncomputable def fH:=@Int.emod_nonneg
noncomputable def fJ:=@Int.emod_lt_of_pos
noncomputable def fK:=@decide_eq_true_iff
noncomputable def fL:=@Array.all_eq_true_iff_forall_mem
noncomputable def fM:=@List.filter_eq_nil_iff
noncomputable def fN:=@PySem.W.cellsFrom_some
noncomputable def fO:=@PySem.wpAny_isOneOf_itemiter
noncomputable def fP:=@PySem.richCompare_meets_room
noncomputable def fQ:=@Sum.inr.inj
noncomputable def fR:=@PySem.wpAny_sequenceKey
noncomputable def fS:=@PyProof.Rows.slot_tuple_getitem
noncomputable def fU:=@PySem.wpAny_of_eq
noncomputable def fV:=@PySem.wpAny_pyIter_list
noncomputable def fW:=@Nat.lt_succ_of_lt
noncomputable def fX:=@Nat.le_succ
noncomputable def fY:=@List.append_assoc
noncomputable def fZ:=@PySem.isSubtype_stop
noncomputable def gb:=@PySem.wpAny_tryCatch
noncomputable def gc:=@Array.mem_of_getElem?
noncomputable def gf:=@PySem.wpAny_typeOf
noncomputable def gh:=@PySem.wpAny_isOneOf_valiter
noncomputable def gj:=@List.length_replicate
noncomputable def gm:=@PySem.codeAny_call_function
noncomputable def gp:=@PySem.F.slot_dict_get
noncomputable def gq:=@List.length_filter_le
noncomputable def gr:=@List.set_append_right
noncomputable def gu:=@List.length_take
noncomputable def gv:=@Array.mem_toList_iff
noncomputable def gw:=@PySem.wpAny_updateDictKeys
noncomputable def gx:=@PySem.F.slot_dict_setdefault
noncomputable def gy:=@PySem.wpAny_call
noncomputable def gz:=@PySem.F.slot_dict_len
noncomputable def g0:=@PySem.W.plainGet_of
noncomputable def gA:=@List.find?_cons
noncomputable def gB:=@PySem.wpAny_execs_nil
noncomputable def gC:=@List.length_nil
noncomputable def gD:=@PySem.evalArgs_none
noncomputable def gE:=@PySem.W.callWith_K0
noncomputable def gF:=@PySem.wpAny_updateSeq
noncomputable def gG:=@Option.map_some
noncomputable def gH:=@Array.getD_eq_getD_getElem?
noncomputable def gI:=@Bool.or_eq_true_iff
noncomputable def gJ:=@Int.toNat_of_nonneg
noncomputable def gK:=@PySem.F.args_list_append_2
noncomputable def gM:=@PySem.F.excAttr_ValueError
noncomputable def gO:=@Option.isNone_none
noncomputable def gP:=@PySem.W.callWith_K
noncomputable def gQ:=@List.getElem?_zip_eq_some
noncomputable def gS:=@PySem.F.entry_list_append
noncomputable def gT:=@List.lt_irrefl
noncomputable def gU:=@List.tail_cons
noncomputable def gV:=@PySem.F.args_tuple_add_2
noncomputable def gW:=@PySem.wpAny_pyIter_slot
noncomputable def gX:=@PySem.F.slot_dict_values
noncomputable def gY:=@PySem.call_meets
noncomputable def gZ:=@PySem.F.slot_list_remove
noncomputable def hI:=@PySem.F.slot_tuple_index
noncomputable def hJ:=@List.pairwise_map
noncomputable def hV:=@List.getElem?_inj
noncomputable def hY:=@PySem.wpAny_Call_ofName
noncomputable def hZ:=@List.find?_isSome
noncomputable def ia:=@List.Perm.eq_of_pairwise
noncomputable def ib:=@Bool.not_true
noncomputable def ic:=@PySem.wpAny_throw
noncomputable def ie:=@PySem.wpAny_handled
noncomputable def ig:=@PySem.Paired.length
noncomputable def ij:=@Prod.mk.injEq
noncomputable def iq:=@decide_eq_decide
noncomputable def ir:=@PySem.wpAny_lookBehind
noncomputable def iu:=@PySem.pastItsLine_dict
noncomputable def iw:=@PySem.wpAny_execs_cons
noncomputable def iy:=@PySem.wpAny_pyIter_zip
noncomputable def iz:=@beq_self_eq_true
noncomputable def i0:=@Nat.sub_zero
noncomputable def i3:=@List.append_nil
noncomputable def i4:=@List.map_nil
noncomputable def i5:=@List.set_set
noncomputable def i6:=@Sum.inl.inj
noncomputable def i7:=@List.all_cons
namespace L2
open PySem PySem.Spec PyProof.Rows
noncomputable abbrev Key:=Sum Int Str
noncomputable def vJ:Key->Value->Bool
 |.inl k,v=>Value.isInt k v
 |.inr x,v=>Value.isStrOf x v
noncomputable def keyH(w:World):Key->Int
 |.inl k=>hashInt k
 |.inr x=>hashStr w x
theorem qk:∀{k:Key}{v:Value},vJ k v=true->(∃i t,k=Sum.inl i/\v=Value.int i t)\/(∃x t,k=Sum.inr x/\v=Value.str x t)
 |.inl i,v,h=>by
  obtain⟨t,e⟩:=Value.isInt_shape (k:=i) (v:=v) h;exact .inl ⟨i,t,rfl,e⟩
 |.inr x,v,h=>by
  obtain⟨t,e⟩:=Value.isStrOf_shape (x:=x) (v:=v) h;exact .inr ⟨x,t,rfl,e⟩
theorem Js(i:Int)(t:Tok):vJ (.inl i) (.int i t)=true:=by simp[vJ,Value.isInt]
theorem ye(x:Str)(t:Tok):vJ (.inr x) (.str x t)=true:=by simp[vJ,Value.isStrOf]
theorem Y7(a b:Int):decide ((Sum.inl a:Key)=Sum.inl b)=(a == b):=by
 by_cases e:a=b
 ·subst e;simp
 ·have h:¬ (Sum.inl a:Key)=Sum.inl b:=fun q=>e (i6 q)
  rw[aZ h];exact(beq_eq_false_iff_ne.mpr e).symm
theorem Y4(a b:Str):decide ((Sum.inr a:Key)=Sum.inr b)=decide (a=b):=by
 by_cases e:a=b
 ·subst e;simp
 ·have h:¬ (Sum.inr a:Key)=Sum.inr b:=fun q=>e (fQ q)
  rw[aZ h,aZ e]
theorem Y6(a:Int)(b:Str):decide ((Sum.inl a:Key)=Sum.inr b)=false:=aZ (fun q=>nomatch q)
theorem Y5(a:Str)(b:Int):decide ((Sum.inr a:Key)=Sum.inl b)=false:=aZ (fun q=>nomatch q)
noncomputable def qr(prog:Program)(w:World):PySem.KeyKind prog w Key where
 is:=vJ
 hash:=keyH w
 inj:=fun v a b ha hb=>by
  rcases qk ha with⟨i,t,rfl,rfl⟩|⟨x,t,rfl,rfl⟩
  ·rcases qk hb with⟨j,u,rfl,e⟩|⟨y,u,rfl,e⟩
   ·injection e with e1 _;rw[e1]
   ·exact nomatch e
  ·rcases qk hb with⟨j,u,rfl,e⟩|⟨y,u,rfl,e⟩
   ·exact nomatch e
   ·injection e with e1 _;rw[e1]
 byValue:=fun k v h=>by
  rcases qk h with⟨i,t,rfl,rfl⟩|⟨x,t,rfl,rfl⟩ <;> rfl
 pyHash:=fun hv h=>by
  rcases qk hv with⟨i,t,rfl,rfl⟩|⟨x,t,rfl,rfl⟩
  ·exact wpAny_pyHash_int h
  ·exact wpAny_pyHash_str h
 eqBool:=fun hu hv h=>by
  rcases qk hu with⟨i,t,rfl,rfl⟩|⟨x,t,rfl,rfl⟩
  ·rcases qk hv with⟨j,u,rfl,rfl⟩|⟨y,u,rfl,rfl⟩
   ·rw[Y7]at h;exact wpAny_eqBool_int h
   ·rw[Y6]at h;exact SeqAt.EqAt.int_str i t y u _ _ _ _ h
  ·rcases qk hv with⟨j,u,rfl,rfl⟩|⟨y,u,rfl,rfl⟩
   ·rw[Y5]at h;exact SeqAt.EqAt.str_int x t j u _ _ _ _ h
   ·rw[Y4]at h;exact wpAny_eqBool_str h
 «strs»:=fun k x t v h=>by
  rcases qk h with⟨i,u,rfl,e⟩|⟨y,u,rfl,e⟩
  ·exact nomatch e
  ·injection e with e1 _
   subst e1;cases v <;> rfl
end L2
namespace L2
open PySem PySem.Spec PyProof PyProof.Rows
structure AK(P:Program)(w:World)(K:Type)[DecidableEq K] where
 is:Heap->K->Value->Prop
 hash:K->Int
 draws:K->Nat
 room:Around->Prop
 roomH:Around->Prop
 hr:∀{A:Around},roomH A->room A
 inj:∀{h:Heap}{v:Value}{x y:K},is h x v->is h y v->x=y
 keeps:∀{h h':Heap}{k:K}{v:Value}{d:Addr}{o:Obj}{es ep},is h k v->h.get? d=some o->o.data=.dict es ep->Heap.SameBut d h h'->is h' k v
 pyHash:∀{A:Around}{E:iE}{s:Shared}{k:K}{v:Value}{Q:Int->Shared->Prop},roomH A->is s.heap k v->Q (hash k) { s with toks:=s.toks+draws k }->wpAny (model P w) A (PySem.pyHash v) Q E s
 eqBool:∀{A:Around}{E:iE}{s:Shared}{x y:K}{u v:Value}{Q:Bool->Shared->Prop},room A->is s.heap x u->is s.heap y v->Q (decide (x=y)) s->wpAny (model P w) A (PySem.eqBool u v) Q E s
 quiet:∀{A:Around}{E:iE}{s:Shared}{k:K}{v:Value}{Q:Bool->Shared->Prop},is s.heap k v->Q true s->wpAny (model P w) A (eqIsQuiet 8 v) Q E s
 txt:∀{h:Heap}{k k':K}{x:Str}{t:Tok}{v:Value},is h k (.str x t)->is h k' v->(v.isStr x=true↔k'=k)
section
variable{P:Program}{w:World}{K:Type}[DecidableEq K]{knd:AK P w K}{A:Around}{E:iE}{s:Shared}
noncomputable def entA(knd:AK P w K)(x:K×Value×Value):DictEntry:=⟨knd.hash x.1,x.2.1,x.2.2⟩
theorem zB{es:Array DictEntry}{xs:List (K×Value×Value)}(he:es.toList=xs.map (entA knd))(j:Nat):es[j]?=(xs[j]?).map (entA knd):=by
 rw[<- Array.getElem?_toList,he,aW]
theorem qU{es:Array DictEntry}{xs:List (K×Value×Value)}(he:es.toList=xs.map (entA knd)):es.size=xs.length:=by
 rw[<- bE,he,aM]
theorem Ju{xs:List (K×Value×Value)}(hn:(xs.map (·.1)).Nodup){i j:Nat}{k:K}{p q:Value×Value}(h1:xs[i]?=some (k,p))(h2:xs[j]?=some (k,q)):i=j:=by
 obtain⟨l1,e1⟩:=ag.mp h1;obtain⟨l2,e2⟩:=ag.mp h2;have:=(List.getElem_inj (h₀:=by simpa using l1) (h₁:=by simpa using l2) hn).mp (by rw[List.getElem_map,List.getElem_map,e1,e2]);exact this
theorem x9{key:Value}{k:K}{st:iH}{Q:Bool->Shared->Prop}(hkey:knd.is s.heap k key)(hst:∀v∈st,∃k',knd.is s.heap k' v)(h:Q false s):wpAny (model P w) A (tableMayTell key st) Q E s:=by
 unfold tableMayTell
 split
 ·exact ae h
 refine aa (knd.quiet hkey ?_);simp only[ib,aR,bR];refine aa (cZ _ (fun rest r s'=>s'=s/\r=(none,())/\∀v∈rest,∃k',knd.is s.heap k' v) _ ?_ ?_ _ _ ⟨rfl,rfl,hst⟩)
 ·rintro x rest r s' ⟨rfl,rfl,hr⟩
  obtain⟨k',hb⟩:=hr x aC;refine aa (knd.quiet hb ?_);simp only[ib,aR,bR];exact ae ⟨rfl,rfl,fun v hv=>hr v (ay _ hv)⟩
 ·rintro r s' ⟨rfl,rfl,_⟩
  exact ae h
structure EntOk(knd:AK P w K)(h:Heap)(es:Array DictEntry)(xs:List (K×Value×Value)):Prop where
 he:es.toList=xs.map (entA knd)
 is:∀x∈xs,knd.is h x.1 x.2.1
 nd:(xs.map (·.1)).Nodup
theorem EntOk.key{h:Heap}{es:Array DictEntry}{xs:List (K×Value×Value)}(k:K)(o:EntOk knd h es xs){j:Nat}{p:Value×Value}(e:xs[j]?=some (k,p)):((es[j]?.map (·.hash)) == some (knd.hash k))=true:=by
 rw[zB o.he j,e];simp[entA]
theorem EntOk.mem{h:Heap}{es:Array DictEntry}{xs:List (K×Value×Value)}(o:EntOk knd h es xs):∀e∈es,∃x∈xs,e=entA knd x:=by
 intro e hin;have:e∈xs.map (entA knd):=o.he▸gv.mpr hin;obtain⟨x,hx,rfl⟩:=aQ.mp this;exact⟨x,hx,rfl⟩
theorem Zg{d:Addr}{o:Obj}{es ep}{xs:List (K×Value×Value)}{k:K}{key:Value}{Q:Option Nat->Shared->Prop}(hu:knd.room A)(hkey:knd.is s.heap k key)(ho:s.heap.get? d=some o)(hd:o.data=.dict es ep)(eo:EntOk knd s.heap es xs)
  (hnone:(∀(j:Nat)(p:Value×Value),xs[j]?≠some (k,p))->Q none s)(hsome:∀(j:Nat)(p:Value×Value),xs[j]?=some (k,p)->Q (some j) s) :
  wpAny (model P w) A (dictWalkPlain d key (knd.hash k) es (placesWithHash es.size (fun i=>es[i]?.map (·.hash)) (knd.hash k))) Q E s:=by
 have hsz:=qU eo.he;refine aa (cZ _ (fun rest b s'=>s'=s/\b=(none,())/\∃i,rest=(List.range' i (es.size - i)).filter (fun i=>(es[i]?.map (·.hash)) == some (knd.hash k))/\i<=es.size/\∀j p,j<i->xs[j]?≠some (k,p)) _ ?_ ?_ _ _ ⟨rfl,rfl,0,by rw[placesWithHash,List.range_eq_range',i0],bz _,fun _ _ h=>absurd h (dq _)⟩)
 ·rintro x rest b s' ⟨rfl,rfl,i,hr,hi,hno⟩
  obtain⟨hix,hxn,hpx,hskip,hrest⟩:=filter_range'_cons _ _ _ _ _ hr.symm;have hlt:x<es.size:=by omega
  obtain⟨⟨k',b,v'⟩,hkv⟩:∃y,xs[x]?=some y:=⟨xs[x]'(by rw[<- hsz];exact hlt),ak _⟩;have hib:knd.is s'.heap k' b:=eo.is _ (aB hkv);have hex:es[x]?=some ⟨knd.hash k',b,v'⟩:=by rw[zB eo.he x,hkv];rfl
  have hno':∀j p,j<x->xs[j]?≠some (k,p):=fun j p hj e=>by
   rcases eX j i with h|h
   ·exact hno j p h e
   ·have:=hskip j h hj
    rw[eo.key k e]at this;cases this
  have next:¬ k'=k->∃i,rest=(List.range' i (es.size - i)).filter (fun i=>(es[i]?.map (·.hash)) == some (knd.hash k))/\i<=es.size/\∀j p,j<i->xs[j]?≠some (k,p):=fun hne=>⟨x+1,by rw[hrest];congr 2;omega,hlt,fun j p hj e=>by
   rcases eX j x with h|h
   ·exact hno' j p h e
   ·obtain rfl:j=x:=by omega
    rw[hkv]at e;exact hne (by injection e with e;injection e)⟩
  simp only[hex]
  by_cases hh:(knd.hash k' == knd.hash k)=true
  ·rw[aE hh]
   refine aa (bJ ho hd (aa (knd.eqBool (x:=k') (y:=k) hu hib hkey (aa (bJ ho hd ?_)))));show wpAny _ _ (if(ep != ep)=true then _ else _) _ E _;rw[ax (by simp)]
   by_cases hkk:k'=k
   ·rw[br hkk]
    subst hkk;exact aa (cv (ae (ae (hsome x _ hkv))))
   ·rw[aZ hkk]
    exact aa (cv (ae ⟨rfl,rfl,next hkk⟩))
  ·rw[ax hh]
   refine ae ⟨rfl,rfl,next fun hkk=>?_⟩;rw[hkk]at hh;simp at hh
 ·rintro b s' ⟨rfl,rfl,i,hr,hi,hno⟩
  refine ae (hnone fun j p hj=>?_);rcases eX j i with h|h
  ·exact hno j p h hj
  ·have hjl:j<es.size:=by rw[hsz];exact(ag.mp hj).1
   have:=fM.mp hr.symm j (List.mem_range'_1.mpr ⟨h,by omega⟩);rw[eo.key k hj]at this;exact this rfl
theorem kF{d:Addr}{o:Obj}{es ep}{xs:List (K×Value×Value)}{k:K}{key:Value}{Q:Option Nat->Shared->Prop}(hu:knd.room A)(hkey:knd.is s.heap k key)(ho:s.heap.get? d=some o)(hd:o.data=.dict es ep)(eo:EntOk knd s.heap es xs)
  (hnone:(∀(j:Nat)(p:Value×Value),xs[j]?≠some (k,p))->Q none s)(hsome:∀(j:Nat)(p:Value×Value),xs[j]?=some (k,p)->Q (some j) s) :
  wpAny (model P w) A (dictFind d key (knd.hash k)) Q E s:=by
 have hsz:=qU eo.he;have hany:¬ (es.any fun e=>e.key == key && e.hash != knd.hash k)=true:=by
  rw[<- Array.any_toList,cE];rintro⟨e,hin,hc⟩;obtain⟨x,hx,rfl⟩:=eo.mem e (gv.mp hin);simp only[entA,aq,cC,bne_iff_ne,ne_eq]at hc;obtain⟨hxa,hne⟩:=hc;have:=eo.is x hx;rw[hxa]at this;exact hne (by rw[knd.inj this hkey])
 have hst:∀v∈(placesWithHash es.size (fun i=>es[i]?.map (·.hash)) (knd.hash k)).filterMap (fun i=>es[i]?.map (·.key)),∃k',knd.is s.heap k' v:=by
  intro v hv;obtain⟨i,_,hi⟩:=cj.mp hv;cases hei:es[i]? with
  |none=>rw[hei]at hi;cases hi
  |some e=>
   rw[hei]at hi;obtain rfl:e.key=v:=by simpa using hi
   obtain⟨x,hx,rfl⟩:=eo.mem e (gc hei);exact⟨x.1,eo.is x hx⟩
 have loop:∀st:iH,wpAny (model P w) A (do
   let mut hit:Option Nat:=none
   for i in placesWithHash es.size (fun i=>es[i]?.map (·.hash)) (knd.hash k) do
    if let some e:=es[i]? then
     if e.hash == knd.hash k then
      let before <- dictEpoch d (keyPart key);let same <- PySem.eqBool e.key key
      if(<- dictEpoch d (keyPart key)) != before then unsupported "dict.changed-during-lookup"
      if same then
       if hit.isSome then unsupported "dict.find:order-among-keys-of-one-hash"
       rule "dict.find.hit"
       if st.length<2 then return some i
       hit:=some i
      else
       rule "dict.find.same-hash-other-key"
       if false && !(0<=knd.hash k && knd.hash k<32)then unsupported "dict.find:asked-again-or-not-hangs-on-the-table"
   return hit) Q E s:=by
  intro st;refine aa (cZ _ (fun rest b s'=>s'=s/\∃i hit,b=(none,hit)/\rest=(List.range' i (es.size - i)).filter (fun i=>(es[i]?.map (·.hash)) == some (knd.hash k))/\i<=es.size/\((hit=none/\∀j p,j<i->xs[j]?≠some (k,p))\/∃j p,hit=some j/\j<i/\xs[j]?=some (k,p))) _ ?_ ?_ _ _ ⟨rfl,0,none,rfl,by rw[placesWithHash,List.range_eq_range',i0],bz _,.inl ⟨rfl,fun _ _ h=>absurd h (dq _)⟩⟩)
  ·rintro x rest b s' ⟨rfl,i,hit,rfl,hr,hi,hH⟩
   obtain⟨hix,hxn,hpx,hskip,hrest⟩:=filter_range'_cons _ _ _ _ _ hr.symm;have hlt:x<es.size:=by omega
   have hrest':rest=(List.range' (x+1) (es.size - (x+1))).filter (fun i=>(es[i]?.map (·.hash)) == some (knd.hash k)):=by rw[hrest];congr 2;omega
   obtain⟨⟨k',b,v'⟩,hkv⟩:∃y,xs[x]?=some y:=⟨xs[x]'(by rw[<- hsz];exact hlt),ak _⟩;have hib:knd.is s'.heap k' b:=eo.is _ (aB hkv);have hex:es[x]?=some ⟨knd.hash k',b,v'⟩:=by rw[zB eo.he x,hkv];rfl
   have hHx:(hit=none/\∀j p,j<x->xs[j]?≠some (k,p))\/∃j p,hit=some j/\j<x/\xs[j]?=some (k,p):=by
    rcases hH with⟨h0,hno⟩|⟨j,p,h1,hji,hj⟩
    ·refine .inl ⟨h0,fun j p hjx hj=>?_⟩
     rcases eX j i with h|h
     ·exact hno j p h hj
     ·have:=hskip j h hjx
      rw[eo.key k hj]at this;cases this
    ·exact .inr ⟨j,p,h1,by omega,hj⟩
   have hstay:¬ k'=k->((hit=none/\∀j p,j<x+1->xs[j]?≠some (k,p))\/∃j p,hit=some j/\j<x+1/\xs[j]?=some (k,p)):=by
    intro hne;rcases hHx with⟨h0,hno⟩|⟨j,p,h1,hjx,hj⟩
    ·refine .inl ⟨h0,fun j p hjx hj=>?_⟩
     rcases eX j x with h|h
     ·exact hno j p h hj
     ·obtain rfl:j=x:=by omega
      rw[hkv]at hj;exact hne (by injection hj with hj;injection hj)
    ·exact .inr ⟨j,p,h1,by omega,hj⟩
   rw[hex];dsimp only
   by_cases hh:(knd.hash k' == knd.hash k)=true
   ·rw[aE hh]
    refine aa (bJ ho hd (aa (knd.eqBool (x:=k') (y:=k) hu hib hkey (aa (bJ ho hd ?_)))));show wpAny _ _ (if(ep != ep)=true then _ else _) _ E _;rw[ax (by simp)]
    by_cases hkk:k'=k
    ·rw[br hkk]
     subst hkk;rcases hHx with⟨rfl,_⟩|⟨j,p,_,hjx,hj⟩
     ·first|rw[aE rfl]|skip
      simp only[Option.isSome_none,aR,bR]
      first|refine aa (ae ?_)|skip
      refine aa (cv ?_)
      split
      ·exact ae (ae (hsome x _ hkv))
      ·exact ae ⟨rfl,x+1,some x,rfl,hrest',hlt,.inr ⟨x,_,rfl,bu x,hkv⟩⟩
     ·exact absurd (Ju eo.nd hj hkv) (by omega)
    ·rw[aZ hkk]
     simp only[aR,bR];refine aa (cv ?_)
     first|rw[ax (by simp)]|skip
     first
      |exact ae ⟨rfl,x+1,hit,rfl,hrest',hlt,hstay hkk⟩
      |exact aa (ae (ae ⟨rfl,x+1,hit,rfl,hrest',hlt,hstay hkk⟩))
   ·rw[ax hh]
    refine ae ⟨rfl,x+1,hit,rfl,hrest',hlt,hstay fun hkk=>?_⟩;rw[hkk]at hh;simp at hh
  ·rintro b s' ⟨rfl,i,hit,rfl,hr,hi,hH⟩
   rcases hH with⟨rfl,hno⟩|⟨j,p,rfl,_,hj⟩
   ·refine ae (hnone fun j p hj=>?_)
    rcases eX j i with h|h
    ·exact hno j p h hj
    ·have hjl:j<es.size:=by rw[hsz];exact(ag.mp hj).1
     have:=fM.mp hr.symm j (List.mem_range'_1.mpr ⟨h,by omega⟩);rw[eo.key k hj]at this;exact this rfl
   ·exact ae (hsome j p hj)
 unfold dictFind
 try with_reducible refine aK ?_
 refine aa (bh ho hd ?_);dsimp only
 by_cases hall:((key::(placesWithHash es.size (fun i=>es[i]?.map (·.hash)) (knd.hash k)).filterMap fun i=>es[i]?.map (·.key)).all carriedByValue)=true
 ·rw[aE hall]
  have old:=Zg (E:=E) hu hkey ho hd eo hnone hsome
  split
  ·rename_i x t
   split
   ·unfold foundByValue
    cases hf:es.findIdx? (fun e=>e.key.isStr x)with
    |none=>
     refine ae (hnone fun j p hj=>?_);have hm:es[j]?=some (entA knd (k,p)):=by rw[zB eo.he j,hj];rfl
     have:=Array.findIdx?_eq_none_iff.mp hf _ (gc hm);have e1:(entA knd (k,p)).key.isStr x=true:=(knd.txt hkey (eo.is _ (aB hj))).mpr rfl;rw[e1]at this;cases this
    |some i=>
     obtain⟨hlt,hi,_⟩:=Array.findIdx?_eq_some_iff_getElem.mp hf;obtain⟨⟨k',b,v'⟩,hkv⟩:∃y,xs[i]?=some y:=⟨xs[i]'(by rw[<- hsz];exact hlt),ak _⟩;have hex:es[i]?=some ⟨knd.hash k',b,v'⟩:=by rw[zB eo.he i,hkv];rfl
     have hex':es[i]=⟨knd.hash k',b,v'⟩:=by rw[bG hlt]at hex;exact bM hex
     rw[hex']at hi;have hib:knd.is s.heap k' b:=eo.is _ (aB hkv);have hkk:k'=k:=(knd.txt hkey hib).mp hi;simp only[hex];refine aa (bJ ho hd (aa (knd.eqBool (x:=k') (y:=k) hu hib hkey (aa (bJ ho hd ?_)))));show wpAny _ _ (if(ep != ep)=true then _ else _) _ E _;rw[ax (by simp),br hkk];subst hkk;exact aa (cv (ae (hsome i _ hkv)))
   ·exact old
  ·exact old
 ·rw[ax hall]
  split
  ·rename_i x t
   by_cases hs:(es.all fun e=>isExactStrKey e.key)=true
   ·refine absurd ?_ hall
    rw[i7,aP.mpr,Bool.and_true]
    ·rfl
    ·intro v hv
     obtain⟨i,_,hi⟩:=cj.mp hv;cases he:es[i]? with
     |none=>rw[he]at hi;cases hi
     |some e=>
      rw[he]at hi;obtain rfl:e.key=v:=by simpa using hi
      have:=fL.mp hs e (gc he);cases hk:e.key <;> rw[hk]at this <;> first|rfl|cases this
   ·rw[ax hs]
    by_cases hone:(((placesWithHash es.size (fun i=>es[i]?.map (·.hash)) (knd.hash k)).filterMap (fun i=>es[i]?.map (·.key))) == [Value.str x t])=true
    ·rw[aE hone]
     refine aa (ae ?_);rw[ax (by simp)];exact loop _
    ·rw[ax hone]
     refine aa (x9 hkey hst ?_);rw[ax (by simp)];exact loop _
  ·split
   ·rename_i a _
    rw[ax hany]
    by_cases hone:(((placesWithHash es.size (fun i=>es[i]?.map (·.hash)) (knd.hash k)).filterMap (fun i=>es[i]?.map (·.key))) == [Value.ref a])=true
    ·rw[aE hone]
     refine aa (ae ?_);rw[ax (by simp)];exact loop _
    ·rw[ax hone]
     refine aa (x9 hkey hst ?_);rw[ax (by simp)];exact loop _
   ·by_cases hone:(((placesWithHash es.size (fun i=>es[i]?.map (·.hash)) (knd.hash k)).filterMap (fun i=>es[i]?.map (·.key))) == [key])=true
    ·rw[aE hone]
     refine aa (ae ?_);rw[ax (by simp)];exact loop _
    ·rw[ax hone]
     refine aa (x9 hkey hst ?_);rw[ax (by simp)];exact loop _
end
noncomputable abbrev KK:=Key ⊕ List Key
noncomputable def kkIs(P:Program)(w:World)(h:Heap):KK->Value->Prop
 |.inl k,v=>vJ k v=true
 |.inr ks,v=>∃a,v=.ref a/\IsTupleKey (qr P w) h ks a
theorem QM{P:Program}{w:World}{h:Heap}{ks:List Key}{a:Addr}(x:IsTupleKey (qr P w) h ks a):∃items,h.IsTuple a items:=by
 obtain⟨o,items,n,ho,hc,hd,_⟩:=x;exact⟨items,o,ho,hc,n,hd⟩
noncomputable def qH(P:Program)(w:World):AK P w KK where
 is:=kkIs P w
 hash:=fun k=>match k with|.inl a=>(qr P w).hash a|.inr ks=>tupleKeyHash (qr P w) ks
 draws:=fun k=>match k with|.inl _=>1|.inr ks=>ks.length+1
 room:=fun A=>A.units<cLine
 roomH:=fun A=>A.units<cLine
 hr:=id
 inj:=fun{h v x y} hx hy=>by
  cases x with
  |inl a=>
   cases y with
   |inl b=>exact bY Sum.inl ((qr P w).inj v a b hx hy)
   |inr ks=>
    obtain⟨z,rfl,_⟩:=hy;exact absurd ((qr P w).byValue a _ hx) (by simp[carriedByValue])
  |inr js=>
   obtain⟨z,rfl,hz⟩:=hx;cases y with
   |inl b=>exact absurd ((qr P w).byValue b _ hy) (by simp[carriedByValue])
   |inr ks=>
    obtain⟨z',e,hz'⟩:=hy;cases e;exact bY Sum.inr (hz.inj hz')
 keeps:=fun{h h' k v d o es ep} hk ho hd hs=>by
  cases k with
  |inl a=>exact hk
  |inr ks=>obtain⟨z,rfl,hz⟩:=hk;exact⟨z,rfl,hz.keeps ho hd hs⟩
 pyHash:=fun{A E s k v Q} hu hk h=>by
  cases k with
  |inl a=>exact(qr P w).pyHash hk h
  |inr ks=>obtain⟨z,rfl,hz⟩:=hk;exact wpAny_pyHash_tuple hu hz h
 eqBool:=fun{A E s x y u v Q} hu hx hy h=>by
  cases x with
  |inl a=>
   cases y with
   |inl b=>exact(qr P w).eqBool hx hy (by have e:decide (a=b)=decide ((Sum.inl a:KK)=Sum.inl b):=iq.mpr (by simp);rw[e];exact h)
   |inr ks=>
    obtain⟨z,rfl,hz⟩:=hy;obtain⟨items,hi⟩:=QM hz;rw[aZ (by simp)]at h;rcases qk hx with⟨i,t,rfl,rfl⟩|⟨x,t,rfl,rfl⟩
    ·exact SeqAt.EqAt.int_tuple i t hi hu _ _ _ _ h
    ·exact SeqAt.EqAt.str_tuple x t hi hu _ _ _ _ h
  |inr js=>
   obtain⟨z,rfl,hz⟩:=hx;cases y with
   |inl b=>
    obtain⟨items,hi⟩:=QM hz;rw[aZ (by simp)]at h;rcases qk hy with⟨i,t,rfl,rfl⟩|⟨x,t,rfl,rfl⟩
    ·exact SeqAt.EqAt.tuple_int i t hi hu _ _ _ _ h
    ·exact SeqAt.EqAt.tuple_str x t hi hu _ _ _ _ h
   |inr ks=>
    obtain⟨z',rfl,hz'⟩:=hy;exact wpAny_eqBool_tuple hu hz hz' (by have e:decide (js=ks)=decide ((Sum.inr js:KK)=Sum.inr ks):=iq.mpr (by simp);rw[e];exact h)
 quiet:=fun{A E s k v Q} hk h=>by
  cases k with
  |inl a=>rcases qk hk with⟨i,t,rfl,rfl⟩|⟨x,t,rfl,rfl⟩ <;> exact ae h
  |inr ks=>obtain⟨z,rfl,hz⟩:=hk;exact wpAny_eqIsQuiet_tuple hz h
 txt:=fun{h k k' x t v} hk hv=>by
  cases k with
  |inr ks=>obtain⟨z,e,_⟩:=hk;cases e
  |inl a=>
   rcases qk hk with⟨i,u,rfl,e⟩|⟨y,u,rfl,e⟩
   ·cases e
   cases e;cases k' with
   |inr ks=>
    obtain⟨z,rfl,_⟩:=hv;exact⟨fun q=>by simp[Value.isStr]at q,fun q=>by cases q⟩
   |inl b=>
    have q:=(qr P w).strs (.inr x) x t v hk;constructor
    ·intro z
     exact bY Sum.inl ((qr P w).inj v b (.inr x) hv (q.trans z))
    ·intro z
     cases z;exact q.symm.trans hv
noncomputable def Zq(P:Program)(w:World)(hs:KK->Int):AK P w KK:={ qH P w with hash:=hs,roomH:=fun _=>False,hr:=fun z=>z.elim,pyHash:=fun z=>z.elim }
theorem Jv{P P':Program}{w w':World}{ks:List Key}{vs:iH}(h:ItemsAre (qr P w) ks vs):ItemsAre (qr P' w') ks vs:=by
 induction h with
 |nil=>exact .nil
 |cons a t ih=>exact .cons a ih
theorem Y2{P P':Program}{w w':World}{h:Heap}{k:KK}{v:Value}(x:kkIs P w h k v):kkIs P' w' h k v:=by
 cases k with
 |inl k=>exact x
 |inr ks=>
  obtain⟨a,e,o,items,n,h1,h2,h3,h4⟩:=x;exact⟨a,e,o,items,n,h1,h2,h3,Jv h4⟩
section
variable{P:Program}{w:World}{K:Type}[DecidableEq K]{knd:AK P w K}{A:Around}{E:iE}{s:Shared}
noncomputable def DictA(knd:AK P w K)(h:Heap)(d:Addr)(xs:List (K×Value×Value)):Prop:=∃o es ep,h.get? d=some o/\o.ExactDict/\o.data=.dict es ep/\EntOk knd h es xs
noncomputable def atA(xs:List (K×Value×Value))(k:K):Option (Value×Value):=(xs.find? fun x=>decide (x.1=k)).map (·.2)
noncomputable def putA(k:K)(v:Value)(x:K×Value×Value):K×Value×Value:=if x.1=k then(x.1,x.2.1,v)else x
noncomputable def stoA(xs:List (K×Value×Value))(k:K)(key v:Value):List (K×Value×Value):=if(atA xs k).isSome then xs.map (putA k v)else xs++[(k,key,v)]
theorem xn{xs:List (K×Value×Value)}(hn:(xs.map (·.1)).Nodup){i:Nat}{k:K}{p:Value×Value}(hx:xs[i]?=some (k,p)):atA xs k=some p:=by
 unfold atA;cases e:xs.find? fun x=>decide (x.1=k)with
 |none=>
  have:=dZ.mp e _ (aB hx);simp at this
 |some y=>
  obtain⟨j,hj⟩:=cM.mp (List.mem_of_find?_eq_some e);have hy:y.1=k:=by simpa using List.find?_some e
  have:=Ju hn hx (show xs[j]?=some (k,y.2) by rw[hj,<- hy]);subst this;rw[hx]at hj;cases hj;rfl
theorem kN{xs:List (K×Value×Value)}{k:K}(h:∀(j:Nat)(p:Value×Value),xs[j]?≠some (k,p)):atA xs k=none/\k∉xs.map (·.1):=by
 have no:k∉xs.map (·.1):=fun z=>by
  obtain⟨y,hy,rfl⟩:=aQ.mp z;obtain⟨j,hj⟩:=cM.mp hy;exact h j y.2 hj
 refine⟨?_,no⟩;unfold atA;rw[dZ.mpr fun y hy=>by simpa using fun z=>no (aQ.mpr ⟨y,hy,z⟩)];rfl
theorem Z5(xs:List (K×Value×Value))(k:K)(v:Value):(xs.map (putA k v)).map (·.1)=xs.map (·.1):=by
 rw[dE];refine cq fun x _=>?_
 show(putA k v x).1=x.1;unfold putA
 split <;> rfl
theorem vU(k:K)(v:Value):∀{xs:List (K×Value×Value)}{j:Nat}{p:Value×Value},(xs.map (·.1)).Nodup->xs[j]?=some (k,p)->(xs.map (entA knd)).modify j (fun e=>{ e with val:=v })=(xs.map (putA k v)).map (entA knd)
 |[],j,p,_,h=>by simp at h
 |x::xs,0,p,hn,h=>by
  simp only[dI,dt]at h;subst h;rw[av,bq]at hn;have e:xs.map (putA k v)=xs:=by
   rw[cq (g:=id) fun y hy=>?_,List.map_id];unfold putA;rw[ax fun z=>hn.1 (aQ.mpr ⟨y,hy,z⟩)];rfl
  rw[av,av,e,List.modify_zero_cons,av];unfold putA;rw[aE rfl];rfl
 |x::xs,j+1,p,hn,h=>by
  simp only[fg]at h;rw[av,bq]at hn;have ne:¬ x.1=k:=fun z=>hn.1 (by rw[z];exact aQ.mpr ⟨_,aB h,rfl⟩)
  rw[av,av,List.modify_succ_cons,av,vU k v hn.2 h];unfold putA;rw[ax ne]
theorem xd{d:Addr}{xs:List (K×Value×Value)}{k:K}{key:Value}{Q:Option Value->Shared->Prop}(hu:knd.roomH A)(hkey:knd.is s.heap k key)(hm:DictA knd s.heap d xs)
  (h:Q ((atA xs k).map (·.2)) { s with toks:=s.toks+knd.draws k }):wpAny (model P w) A (dictGet d key) Q E s:=by
 obtain⟨o,es,ep,ho,_,hd,eo⟩:=hm;unfold dictGet
 try with_reducible refine aK ?_
 refine aa (knd.pyHash hu hkey (aa (kF (s:={ s with toks:=s.toks+knd.draws k }) (knd.hr hu) hkey ho hd eo ?_ ?_)))
 ·intro hno
  rw[(kN hno).1]at h;exact ae h
 ·intro j p hj
  rw[xn eo.nd hj]at h;refine aa (bh (s:={ s with toks:=s.toks+knd.draws k }) ho hd ?_);rw[zB eo.he j,hj];exact ae h
theorem ZS{d:Addr}{xs:List (K×Value×Value)}{k:K}{key v:Value}{Q:Unit->Shared->Prop}(hu:knd.roomH A)(hkey:knd.is s.heap k key)(hm:DictA knd s.heap d xs)
  (hQ:∀h',DictA knd h' d (stoA xs k key v)->Heap.SameBut d s.heap h'->Q () { s with heap:=h',toks:=s.toks+knd.draws k })(hsz:xs.length<=sizeLine):wpAny (model P w) A (dictSet d key v) Q E s:=by
 obtain⟨o,es,ep,ho,hc,hd,eo⟩:=hm;have hz:=qU eo.he;unfold dictSet
 try with_reducible refine aK ?_
 refine aa (knd.pyHash hu hkey ?_);unfold dictSetHashed
 try with_reducible refine aK ?_
 refine aa (kF (s:={ s with toks:=s.toks+knd.draws k }) (knd.hr hu) hkey ho hd eo ?_ ?_)
 ·intro hno
  obtain⟨h1,h2⟩:=kN hno;have e:stoA xs k key v=xs++[(k,key,v)]:=by unfold stoA;rw[h1];rfl
  refine aa (cv (gw (hz:=by omega) (s:={ s with toks:=s.toks+knd.draws k }) ho hd (hQ _ ⟨_,_,ep+1,bc _ ho (eQ (cS hd _)),hc.mapDictKeys _,cS hd _,?_,?_,?_⟩ (aS ..))))
  ·rw[e]
   simp[eo.he,entA]
  ·rw[e]
   intro x hx;rcases b9.mp hx with hx|hx
   ·exact knd.keeps (eo.is x hx) ho hd (aS ..)
   ·rw[aD.mp hx]
    exact knd.keeps hkey ho hd (aS ..)
  ·rw[e,cz,du]
   refine⟨eo.nd,by simp,fun x hx y hy z=>h2 ?_⟩;simp at hy;rw[<- hy,<- z];exact hx
 ·intro j p hj
  have e:stoA xs k key v=xs.map (putA k v):=by unfold stoA;rw[xn eo.nd hj];rfl
  refine aa (cv (aa (wpAny_updateDict (s:={ s with toks:=s.toks+knd.draws k }) ho hd (wpAny_point (hQ _ ⟨_,_,ep,bc _ ho (eQ (Obj.data_mapDict hd _)),hc.mapDict _,Obj.data_mapDict hd _,?_,?_,?_⟩ (aS ..))))))
  ·rw[e]
   have:=vU (knd:=knd) k v eo.nd hj;rw[<- eo.he]at this;obtain⟨l⟩:=es;simpa using this
  ·rw[e]
   intro x hx;obtain⟨y,hy,rfl⟩:=aQ.mp hx;unfold putA
   split <;> exact knd.keeps (eo.is y hy) ho hd (aS ..)
  ·rw[e,Z5];exact eo.nd
end
section
variable{P:Program}{w:World}{K:Type}[DecidableEq K]{knd:AK P w K}{A:Around}{E:iE}{s:Shared}{d:Addr}{xs:List (K×Value×Value)}{k:K}{key v:Value}
theorem DictA.typeIs(hm:DictA knd s.heap d xs):s.TypeIs (.ref d) "dict":=let⟨o,_,_,ho,hc,_⟩:=hm;⟨o,ho,hc.1⟩
theorem YX(hd:(d == sysModules)=false):MeetsIn P w (Builtin.«dict.get» ⟨[.ref d,key],[]⟩) (fun A R s=>knd.roomH A.in1/\∃k xs,knd.is s.heap k key/\DictA knd s.heap d xs/\R (.ok (.ret (((atA xs k).map (·.2)).getD .none))) { s with toks:=s.toks+knd.draws k }):=
 .of_wp fun A R s⟨hu,k,xs,hkey,hm,h⟩=>by
  show wpAny _ _ (dictGet d key >>= _) _ _ s;refine aa (xd hu hkey hm ?_);cases hf:(atA xs k).map (·.2)with
  |some v=>rw[hf]at h;exact ae ⟨v,rfl,h⟩
  |none=>
   rw[hf]at h;show wpAny _ _ (Builtin.Dict.missed d key >>= _) _ _ _;exact aa (wpAny_missed_other hd (ae ⟨.none,rfl,h⟩))
theorem YW(hd:(d == sysModules)=false)(x:Value):MeetsIn P w (Builtin.«dict.get» ⟨[.ref d,key,x],[]⟩) (fun A R s=>knd.roomH A.in1/\∃k xs,knd.is s.heap k key/\DictA knd s.heap d xs/\R (.ok (.ret (((atA xs k).map (·.2)).getD x))) { s with toks:=s.toks+knd.draws k }):=
 .of_wp fun A R s⟨hu,k,xs,hkey,hm,h⟩=>by
  show wpAny _ _ (dictGet d key >>= _) _ _ s;refine aa (xd hu hkey hm ?_);cases hf:(atA xs k).map (·.2)with
  |some v=>rw[hf]at h;exact ae ⟨v,rfl,h⟩
  |none=>
   rw[hf]at h;show wpAny _ _ (Builtin.Dict.missed d key >>= _) _ _ _;exact aa (wpAny_missed_other hd (ae ⟨x,rfl,h⟩))
theorem uo{Q:iE}(hu:knd.roomH A.in1)(hkey:knd.is s.heap k key)(hd:(d == sysModules)=false)(hm:DictA knd s.heap d xs)(h:Q (.bool (atA xs k).isSome) { s with toks:=s.toks+knd.draws k }):wpAny (model P w) A (compareOp .In key (.ref d)) Q E s:=by
 show wpAny _ _ (do return .bool (<- contains (.ref d) key)) Q E s;refine aa ?_;unfold contains
 try with_reducible refine aK ?_
 refine aa (fj hm.typeIs dh.lookup ?_);show wpAny _ _ (if(some (Value.builtin "dict.__contains__") == some Value.none)=true then _ else _) _ E s;rw[ax (by rw[beq_builtin_none];exact aG)];refine aa (fq (name:=Str.ofString "__contains__") hm.typeIs dh (bj dh hm.typeIs entry_dict_contains ?_ (args_dict_contains _ _)));show wpAny _ _ (dictGet d key >>= _) _ _ s;refine aa (xd hu hkey hm ?_);cases hf:atA xs k with
 |some p=>
  rw[hf]at h;show wpAny _ _ (ret (.bool true)) _ _ _;exact ae ⟨_,rfl,bK (ae h)⟩
 |none=>
  rw[hf]at h;show wpAny _ _ (Builtin.Dict.pendingKey? d key >>= _) _ _ _;exact aa (wpAny_pendingKey_other hd (ae ⟨_,rfl,bK (ae h)⟩))
theorem Vp{p:Value×Value}{Q:iE}(hu:knd.roomH A.in1)(hkey:knd.is s.heap k key)(hm:DictA knd s.heap d xs)(hp:atA xs k=some p)(h:Q p.2 { s with toks:=s.toks+knd.draws k }):wpAny (model P w) A (getItem (.ref d) key) Q E s:=by
 unfold getItem
 try with_reducible refine aK ?_
 refine aa (fR hm.typeIs (by decide) ?_);refine aa (bp (name:=Str.ofString "__getitem__") hm.typeIs slot_dict_getitem (bj slot_dict_getitem hm.typeIs entry_dict_getitem ?_ (args_dict_getitem _ _)));show wpAny _ _ (dictGet d key >>= _) _ _ s;refine aa (xd hu hkey hm ?_);rw[hp];exact ae ⟨p.2,rfl,ae h⟩
theorem ZP{Q:Unit->Shared->Prop}(hu:knd.roomH A.in1)(hkey:knd.is s.heap k key)(hm:DictA knd s.heap d xs)(hQ:∀h',DictA knd h' d (stoA xs k key v)->Heap.SameBut d s.heap h'->Q () { s with heap:=h',toks:=s.toks+knd.draws k })(hsz:xs.length<=sizeLine):wpAny (model P w) A (setItem (.ref d) key v) Q E s:=by
 unfold setItem
 try with_reducible refine aK ?_
 refine aa (fR hm.typeIs (by decide) ?_);refine aa (bp (name:=Str.ofString "__setitem__") hm.typeIs slot_dict_setitem (bj slot_dict_setitem hm.typeIs entry_dict_setitem ?_ (args_dict_setitem _ _ _)));show wpAny _ _ (Builtin.Dict.notOrdered "__setitem__" ⟨[.ref d,key,v],[]⟩ >>= _) _ _ s;refine aa (bW hm.typeIs ?_);show wpAny _ _ (dictSet d key v >>= _) _ _ s;exact aa (ZS hu hkey hm (fun h' hm' hs'=>ae ⟨.none,rfl,ae (hQ h' hm' hs')⟩) hsz)
theorem Zj{Q:iE}(hu:knd.roomH A)(hkey:knd.is s.heap k key)(hm:DictA knd s.heap d xs)(there:∀p,atA xs k=some p->Q p.2 { s with toks:=s.toks+knd.draws k })
  (new:atA xs k=none->∀h',DictA knd h' d (xs++[(k,key,v)])->Heap.SameBut d s.heap h'->Q v { s with heap:=h',toks:=s.toks+knd.draws k })(hsz:xs.length<=sizeLine):wpAny (model P w) A (dictSetDefault d key v) Q E s:=by
 obtain⟨o,es,ep,ho,hc,hd,eo⟩:=hm;have hz:=qU eo.he;unfold dictSetDefault
 try with_reducible refine aK ?_
 refine aa (knd.pyHash hu hkey ?_);refine aa (kF (s:={ s with toks:=s.toks+knd.draws k }) (knd.hr hu) hkey ho hd eo ?_ ?_)
 ·intro hno
  obtain⟨h1,h2⟩:=kN hno;refine aa (cv (aa (gw (hz:=by omega) (s:={ s with toks:=s.toks+knd.draws k }) ho hd (ae (new h1 _ ⟨_,_,ep+1,bc _ ho (eQ (cS hd _)),hc.mapDictKeys _,cS hd _,?_,?_,?_⟩ (aS ..))))))
  ·simp[eo.he,entA]
  ·intro x hx
   rcases b9.mp hx with hx|hx
   ·exact knd.keeps (eo.is x hx) ho hd (aS ..)
   ·rw[aD.mp hx]
    exact knd.keeps hkey ho hd (aS ..)
  ·rw[cz,du]
   refine⟨eo.nd,by simp,fun x hx y hy z=>h2 ?_⟩;simp at hy;rw[<- hy,<- z];exact hx
 ·intro j p hj
  refine aa (bh (s:={ s with toks:=s.toks+knd.draws k }) ho hd ?_);rw[zB eo.he j,hj];exact aa (cv (ae (there p (xn eo.nd hj))))
theorem Vk(hd:(d == sysModules)=false):MeetsIn P w (Builtin.«dict.setdefault» ⟨[.ref d,key,v],[]⟩) (fun A R s=>knd.roomH A.in1/\∃k xs,knd.is s.heap k key/\DictA knd s.heap d xs/\xs.length<=sizeLine/\(∀p,atA xs k=some p->R (.ok (.ret p.2)) { s with toks:=s.toks+knd.draws k })/\
   (atA xs k=none->∀h',DictA knd h' d (xs++[(k,key,v)])->Heap.SameBut d s.heap h'->R (.ok (.ret v)) { s with heap:=h',toks:=s.toks+knd.draws k })):=
 .of_wp fun A R s⟨hu,k,xs,hkey,hm,hz,h1,h2⟩=>by
  unfold Builtin.«dict.setdefault»;refine aa ?_;unfold Builtin.Dict.keyAndDefault;refine aa (bW hm.typeIs ?_);show wpAny _ _ (pure (d,key,some v)) _ _ s;refine ae ?_;show wpAny _ _ (if(d == sysModules)=true then _ else(dictSetDefault d key v >>= _)) _ _ s;rw[ax (by rw[hd];exact aG)];exact aa (Zj hu hkey hm (fun p hp=>ae ⟨p.2,rfl,h1 p hp⟩) (fun hn h' hm' hs'=>ae ⟨v,rfl,h2 hn h' hm' hs'⟩) hz)
end
section
variable{P:Program}{w:World}{K:Type}[DecidableEq K]{knd:AK P w K}{A:Around}{E:iE}{s:Shared}{d:Addr}{xs:List (K×Value×Value)}{k:K}{key:Value}
theorem Jc{Q:iE}(hu:knd.roomH A.in1)(hkey:knd.is s.heap k key)(hd:(d == sysModules)=false)(hm:DictA knd s.heap d xs)(h:Q (.bool (!(atA xs k).isSome)) { s with toks:=s.toks+knd.draws k }):wpAny (model P w) A (compareOp .NotIn key (.ref d)) Q E s:=by
 show wpAny _ _ (do return .bool (!(<- contains (.ref d) key))) Q E s;refine aa ?_;unfold contains
 try with_reducible refine aK ?_
 refine aa (fj hm.typeIs dh.lookup ?_);show wpAny _ _ (if(some (Value.builtin "dict.__contains__") == some Value.none)=true then _ else _) _ E s;rw[ax (by rw[beq_builtin_none];exact aG)];refine aa (fq (name:=Str.ofString "__contains__") hm.typeIs dh (bj dh hm.typeIs entry_dict_contains ?_ (args_dict_contains _ _)));show wpAny _ _ (dictGet d key >>= _) _ _ s;refine aa (xd hu hkey hm ?_);cases hf:atA xs k with
 |some p=>
  rw[hf]at h;show wpAny _ _ (ret (.bool true)) _ _ _;exact ae ⟨_,rfl,bK (ae h)⟩
 |none=>
  rw[hf]at h;show wpAny _ _ (Builtin.Dict.pendingKey? d key >>= _) _ _ _;exact aa (wpAny_pendingKey_other hd (ae ⟨_,rfl,bK (ae h)⟩))
theorem qci(hd:(d == sysModules)=false):MeetsIn P w (Builtin.«dict.__len__» ⟨[.ref d],[]⟩) (fun _ R s=>∃xs,DictA knd s.heap d xs/\R (.ok (.ret (.int xs.length s.toks))) { s with toks:=s.toks+1 }):=
 .of_wp fun A R s⟨xs,hm,h⟩=>by
  obtain⟨o,es,ep,ho,hc,hdat,eo⟩:=hm;show wpAny _ _ (dictSize d >>= _) _ _ s;unfold dictSize;refine aa (aa (bh ho hdat (ae ?_)));show wpAny _ _ (Builtin.Dict.pendingCount d >>= _) _ _ s;refine aa (wpAny_pendingCount_other hd ?_);refine wpAny_ret_mkInt ?_;rw[Nat.add_zero,qU eo.he];exact h
theorem QI{Q:iE}(hd:(d == sysModules)=false)(hm:DictA knd s.heap d xs)(hfit:(xs.length:Int)<2 ^ 63)(h:Q (.int xs.length (s.toks+1)) { s with toks:=s.toks+1+1 }):wpAny (model P w) A (Builtin.«len» ⟨[.ref d],[]⟩) (fun fin s'=>∃r,fin=.done (.ret r)/\Q r s') E s:=by
 unfold Builtin.«len»;refine aa (m:=oneArg "len" _) (ae ?_);refine aa (m:=callSpecial? (.ref d) (Str.ofString "__len__")) (bp (name:=Str.ofString "__len__") hm.typeIs gz
  (el gz hm.typeIs F.entry_dict_len (F.args_dict_len_1 _) (qci (knd:=knd) hd) ⟨xs,hm,?_⟩))
 show wpAny _ _ _ _ _ { s with toks:=s.toks+1 };refine aa (aK (ae ?_));refine aa (et ?_);show wpAny _ _ (if((xs.length:Nat):Int)<0 then _ else _) _ _ _;rw[ax (by omega)];show wpAny _ _ (if((xs.length:Nat):Int) >= 2 ^ 63 then _ else _) _ _ _;rw[ax (by omega)];exact aa (wpAny_mkInt (ae ⟨_,rfl,h⟩))
theorem Wa{Q:iE}(hd:(d == sysModules)=false)(hm:DictA knd s.heap d xs)(hfit:(xs.length:Int)<2 ^ 63)(h:Q (.int xs.length (s.toks+1)) { s with toks:=s.toks+1+1 }):wpAny (model P w) A (call (.builtin "len") [.ref d]) Q E s:=
 Calls.call_function_entry kind_len plain_len entry_len (args_len1 _) (QI hd hm hfit h)
theorem Zh{Q:Bool->Shared->Prop}(hd:(d == sysModules)=false)(hm:DictA knd s.heap d xs)(hfit:(xs.length:Int)<2 ^ 63)(h:Q (!xs.isEmpty) { s with toks:=s.toks+1+1 }):wpAny (model P w) A (truthy (.ref d)) Q E s:=by
 have hne:((xs.length:Int) != 0)=!xs.isEmpty:=by cases xs <;> simp <;> omega
 have key:wpAny (model P w) A (runValue (.builtin "len" ⟨[.ref d],[]⟩)) (fun r s'=>r=.int xs.length (s.toks+1)/\Q (!xs.isEmpty) s') E s:=by
  refine wpAny_runValue (c9 entry_len ?_);rw[bH plain_len _];exact aY (QI (Q:=fun r s'=>r=.int xs.length (s.toks+1)/\Q (!xs.isEmpty) s') hd hm hfit ⟨rfl,h⟩)
   (fun fin s' h'=>by obtain⟨r,rfl,hq⟩:=h';exact hq) fun _ _ e=>e
 unfold truthy
 first
  |refine aa (wpAny_callSpecial?_none (name:=Str.ofString "__bool__") hm.typeIs noBool_dict ?_)
  |refine aa (ae (aa (wpAny_callSpecial?_none (name:=Str.ofString "__bool__") hm.typeIs noBool_dict ?_)))
 first
  |refine aa (fj (name:=Str.ofString "__len__") hm.typeIs gz.lookup ?_)
  |refine aa (ae (aa (fj (name:=Str.ofString "__len__") hm.typeIs gz.lookup ?_)))
 first
  |exact aa (aY key (fun r s' h'=>by obtain⟨rfl,hq⟩:=h';exact ae (hne▸hq)) fun _ _ e=>e)
  |exact aa (ae (aa (aY key (fun r s' h'=>by obtain⟨rfl,hq⟩:=h';exact ae (hne▸hq)) fun _ _ e=>e)))
end
section
variable{P:Program}{w:World}{K:Type}[DecidableEq K]{knd:AK P w K}{A:Around}{E:iE}{s:Shared}{d:Addr}{xs:List (K×Value×Value)}{k:K}{key v:Value}
noncomputable def outA(xs:List (K×Value×Value))(k:K):List (K×Value×Value):=xs.filter fun x=>decide (x.1≠k)
theorem xL(k:K):∀{xs:List (K×Value×Value)}{j:Nat}{p:Value×Value},(xs.map (·.1)).Nodup->xs[j]?=some (k,p)->(xs.map (entA knd)).eraseIdx j=(outA xs k).map (entA knd)
 |[],j,p,_,h=>by simp at h
 |x::xs,0,p,hn,h=>by
  simp only[dI,dt]at h;subst h;rw[av,bq]at hn;unfold outA;rw[dJ (by simp),eS.mpr fun y hy=>by simpa using fun z=>hn.1 (aQ.mpr ⟨y,hy,z⟩)];rfl
 |x::xs,j+1,p,hn,h=>by
  simp only[fg]at h;rw[av,bq]at hn;have ne:x.1≠k:=fun z=>hn.1 (by rw[z];exact aQ.mpr ⟨_,aB h,rfl⟩)
  have ih:=xL k hn.2 h;unfold outA at ih ⊢;rw[dK (by simpa using ne),av,av,List.eraseIdx_cons_succ,ih]
theorem Qp{Q:Option DictEntry->Shared->Prop}(hu:knd.roomH A)(hkey:knd.is s.heap k key)(hm:DictA knd s.heap d xs)(none':atA xs k=none->Q none { s with toks:=s.toks+knd.draws k })
  (some':∀p,atA xs k=some p->∀h',DictA knd h' d (outA xs k)->Heap.SameBut d s.heap h'->Q (some ⟨knd.hash k,p.1,p.2⟩) { s with heap:=h',toks:=s.toks+knd.draws k })(hsz:xs.length<=sizeLine):wpAny (model P w) A (Builtin.Dict.takeOut d key) Q E s:=by
 obtain⟨o,es,ep,ho,hc,hd,eo⟩:=hm;have hz:=qU eo.he;unfold Builtin.Dict.takeOut
 try with_reducible refine aK ?_
 refine aa (knd.pyHash hu hkey ?_);refine aa (kF (s:={ s with toks:=s.toks+knd.draws k }) (knd.hr hu) hkey ho hd eo ?_ ?_)
 ·intro hno
  exact ae (none' (kN hno).1)
 ·intro j p hj
  refine aa (bh (s:={ s with toks:=s.toks+knd.draws k }) ho hd ?_);rw[zB eo.he j,hj];have hjl:j<es.size:=by rw[hz];exact(ag.mp hj).1
  refine aa (gw (hz:=by omega) (s:={ s with toks:=s.toks+knd.draws k }) ho hd (ae (some' p (xn eo.nd hj) _ ⟨_,_,ep+1,bc _ ho (eQ (cS hd _)),hc.mapDictKeys _,cS hd _,?_,?_,?_⟩ (aS ..))))
  ·have:=xL (knd:=knd) k eo.nd hj
   rw[<- eo.he]at this;rw[<- this];obtain⟨l⟩:=es;simp[Array.eraseIdxIfInBounds,hjl]
   split
   ·simp
   ·rename_i z
    exact absurd hjl (by simpa using z)
  ·intro x hx
   exact knd.keeps (eo.is x (dv.mp hx).1) ho hd (aS ..)
  ·exact eo.nd.sublist ((eU).map _)
theorem YV(hd:(d == sysModules)=false)(x:Value):MeetsIn P w (Builtin.«dict.pop» ⟨[.ref d,key,x],[]⟩) (fun A R s=>knd.roomH A.in1/\∃k xs,knd.is s.heap k key/\DictA knd s.heap d xs/\xs.length<=sizeLine/\(atA xs k=none->∀n,R (.ok (.ret x)) { s with toks:=s.toks+n })/\
   ∀p,atA xs k=some p->∀h',DictA knd h' d (outA xs k)->Heap.SameBut d s.heap h'->R (.ok (.ret p.2)) { s with heap:=h',toks:=s.toks+knd.draws k }):=
 .of_wp fun A R s⟨hu,k,xs,hkey,hm,hz,h1,h2⟩=>by
  unfold Builtin.«dict.pop»;refine aa ?_;unfold Builtin.Dict.keyAndDefault;refine aa (bW hm.typeIs ?_);show wpAny _ _ (pure (d,key,some x)) _ _ s;refine ae ?_
  by_cases hpart:(keyPart key).isSome=true
  ·simp only[hpart,dy]
   refine aa (ae ?_);simp only[aR,bR];refine aa (Qp hu hkey hm ?_ ?_ hz)
   ·intro hn
    simp only[gO,dy];refine aa (eJ hd ?_);exact aa (cv (ae ⟨x,rfl,h1 hn _⟩))
   ·intro p hp h' hm' hs'
    simp only[Option.isNone_some,aR,bR];exact aa (et (ae ⟨p.2,rfl,h2 p hp h' hm' hs'⟩))
  ·have hpart:(keyPart key).isSome=false:=by simpa using hpart
   simp only[hpart,aR,bR];obtain⟨o,es,ep,ho,hc,hd',eo⟩:=id hm;refine aa (bh ho hd' (aa (ae ?_)));cases he:es.isEmpty with
   |true=>
    simp only[dy];have hx:xs=[]:=by
     have h0:es.size=0:=by simpa using he
     rw[qU eo.he]at h0;exact List.eq_nil_of_length_eq_zero h0
    refine aa (cv (aa (ae ?_)));simp only[gO,dy];refine aa (eJ hd ?_);exact aa (cv (ae ⟨x,rfl,h1 (by rw[hx];rfl) 0⟩))
   |false=>
    simp only[aR,bR];refine aa (Qp hu hkey hm ?_ ?_ hz)
    ·intro hn
     simp only[gO,dy];refine aa (eJ hd ?_);exact aa (cv (ae ⟨x,rfl,h1 hn _⟩))
    ·intro p hp h' hm' hs'
     simp only[Option.isNone_some,aR,bR];exact aa (et (ae ⟨p.2,rfl,h2 p hp h' hm' hs'⟩))
end
end L2
namespace E
open PySem
noncomputable def DkOk(d:iI):Prop:=d=none
theorem WW:DkOk none:=rfl
theorem DkOk.eq{d d':iI}(h:d=d')(k:DkOk d'):DkOk d:=h.trans k
noncomputable def u8:Bool:=false
theorem u7(h:u8=true):∀d,DkOk d:=by cases h
theorem qds{d:iI}(h:DkOk d):d=none:=h
end E
namespace E
open PySem PySem.Spec PyProof PyProof.Rows L2
inductive D where
 |non|bl (b:Bool)|int (i:Int)|str (x:Str)|tup (l:List D)|lst (l:List D)|dic (l:List (KK×D))|obj (n:Nat)|scr (l:List D)|exn (C:Nat)
inductive Ob where
 |lst (h:Bool) (l:List D)|dic (h:Bool) (l:List (KK×D))|ins (C:Nat) (l:List (Nat×D))
noncomputable abbrev Hb:=List Ob
noncomputable abbrev Sc:=List (Option D)
noncomputable def Ob.hd:Ob->Bool
 |.lst h _=>h
 |.dic h _=>h
 |_=>false
inductive Tk where
 |frz (o:Obj)|own (n:Nat)|tbl
structure Co where
 t:Addr->Option Tk
 ad:List (Addr×Addr)
 g:Nat->Option Obj
structure L0(c c':Co):Prop where
 t:∀a x,c.t a=some x->c'.t a=some x
 ad:∀(n:Nat) p,c.ad[n]?=some p->c'.ad[n]?=some p
structure Le(c c':Co):Prop extends L0 c c' where
 g:∀n o,c.g n=some o->c'.g n=some o
instance:CoeOut (Le c c') (L0 c c'):=⟨Le.toL0⟩
theorem L0.refl:L0 c c:=⟨fun _ _ e=>e,fun _ _ e=>e⟩
theorem Le.refl:Le c c:=⟨.refl,fun _ _ e=>e⟩
theorem Le.trans(x:Le a b)(y:Le b c):Le a c:=⟨⟨fun _ _ e=>y.t _ _ (x.t _ _ e),fun _ _ e=>y.ad _ _ (x.ad _ _ e)⟩,fun _ _ e=>y.g _ _ (x.g _ _ e)⟩
structure Wd where
 prog:Program
 w:World
 K:iA
 mg:iF
 base:Heap
 cl:Nat->Addr
 nm:Nat->Str
 nmi:∀i j,nm i=nm j->i=j
 fl:List (Nat×Nat)
 tb:List (Addr×Pos×Str)
noncomputable def LstO(o:Obj)(us:iH):Prop:=us.length<=sizeLine/\∃k,o={ cls:=.type "list",data:=.seq us.toArray k }
noncomputable def TupO(o:Obj)(us:iH):Prop:=us.length<=sizeLine/\∃k,o={ cls:=.type "tuple",data:=.seq us.toArray k }
noncomputable def ScrO(o:Obj)(us:iH):Prop:=us.length<=sizeLine/\o.cls=.type "tuple"/\∃k,o.data=.seq us.toArray k
noncomputable def DicO(W:Wd)(o:Obj)(xs:List (KK×Value×Value)):Prop:=xs.length<=sizeLine/\(xs.map (·.1)).Nodup/\o.ExactDict/\∃es ep,o.data=.dict es ep/\es.toList=xs.map (entA (qH W.prog W.w))
noncomputable def KyR(W:Wd)(c:Co):KK->Value->Prop
 |.inl k,u=>vJ k u=true
 |.inr l,u=>∃a o us,u=.ref a/\c.t a=some (.frz o)/\TupO o us/\ItemsAre (qr W.prog W.w) l us
mutual
noncomputable def Rep(W:Wd)(c:Co):D->Value->Prop
 |.non,u=>u=.none
 |.bl b,u=>u=.bool b
 |.int i,u=>∃t,u=.int i t
 |.str x,u=>∃t,u=.str x t
 |.tup l,u=>∃a o us,u=.ref a/\c.t a=some (.frz o)/\TupO o us/\Reps W c l us
 |.lst l,u=>∃a o us,u=.ref a/\c.t a=some (.frz o)/\LstO o us/\Reps W c l us
 |.dic l,u=>∃a o xs,u=.ref a/\c.t a=some (.frz o)/\DicO W o xs/\Repk W c l xs
 |.obj n,u=>∃p,c.ad[n]?=some p/\u=.ref p.1
 |.scr l,u=>∃a o us,u=.ref a/\c.t a=some (.frz o)/\ScrO o us/\Reps W c l us
 |.exn C,u=>∃a o vs,u=.ref a/\c.t a=some (.frz o)/\o.cls=.ref (W.cl C)/\o.dict=none/\o.data=.fields vs/\vs[2]?=some .none
noncomputable def Reps(W:Wd)(c:Co):List D->iH->Prop
 |[],us=>us=[]
 |d::l,us=>∃u r,us=u::r/\Rep W c d u/\Reps W c l r
noncomputable def Repk(W:Wd)(c:Co):List (KK×D)->List (KK×Value×Value)->Prop
 |[],xs=>xs=[]
 |(k,d)::l,xs=>∃v u r,xs=(k,v,u)::r/\KyR W c k v/\Rep W c d u/\Repk W c l r
end
mutual
theorem Rep.mono(l:L0 c c'):∀{d u},Rep W c d u->Rep W c' d u
 |.non,_,r=>r
 |.bl _,_,r=>r
 |.int _,_,r=>r
 |.str _,_,r=>r
 |.tup _,_,⟨a,o,us,e,h,k,r⟩=>⟨a,o,us,e,l.t _ _ h,k,Reps.mono l r⟩
 |.lst _,_,⟨a,o,us,e,h,k,r⟩=>⟨a,o,us,e,l.t _ _ h,k,Reps.mono l r⟩
 |.dic _,_,⟨a,o,xs,e,h,k,r⟩=>⟨a,o,xs,e,l.t _ _ h,k,Repk.mono l r⟩
 |.obj _,_,⟨p,e,h⟩=>⟨p,l.ad _ _ e,h⟩
 |.scr _,_,⟨a,o,us,e,h,k,r⟩=>⟨a,o,us,e,l.t _ _ h,k,Reps.mono l r⟩
 |.exn _,_,⟨a,o,vs,e,h,r⟩=>⟨a,o,vs,e,l.t _ _ h,r⟩
theorem Reps.mono(l:L0 c c'):∀{ds us},Reps W c ds us->Reps W c' ds us
 |[],_,r=>r
 |_::_,_,⟨u,r,e,h,t⟩=>⟨u,r,e,h.mono l,t.mono l⟩
theorem Repk.mono(l:L0 c c'):∀{ds xs},Repk W c ds xs->Repk W c' ds xs
 |[],_,r=>r
 | (k,_)::_,_,⟨v,u,r,e,z,h,t⟩=>⟨v,u,r,e,(match k,z with
  |.inl _,z=>z
  |.inr _,⟨a,o,us,e,h,q⟩=>⟨a,o,us,e,l.t _ _ h,q⟩),h.mono l,t.mono l⟩
end
theorem Reps.len:∀{ds us},Reps W c ds us->us.length=ds.length
 |[],_,e=>by cases e;rfl
 |_::_,_,⟨_,_,e,_,t⟩=>by cases e;simp[t.len]
theorem Reps.at:∀{ds us}{i:Nat}{d},Reps W c ds us->ds[i]?=some d->∃u,us[i]?=some u/\Rep W c d u
 |_::_,_,0,_,⟨u,_,e,h,_⟩,z=>by cases e;cases z;exact⟨u,rfl,h⟩
 |_::_,_,i+1,_,⟨_,_,e,_,t⟩,z=>by cases e;exact t.at (i:=i) (by simpa using z)
theorem Reps.app:∀{ds us es vs},Reps W c ds us->Reps W c es vs->Reps W c (ds++es) (us++vs)
 |[],_,_,_,e,h=>by cases e;exact h
 |_::_,_,_,_,⟨u,r,e,h,t⟩,k=>by cases e;exact⟨u,_,rfl,h,t.app k⟩
theorem Reps.one(h:Rep W c d u):Reps W c [d] [u]:=⟨u,[],rfl,h,rfl⟩
theorem Reps.two(h:Rep W c d u)(k:Rep W c e v):Reps W c [d,e] [u,v]:=⟨u,_,rfl,h,.one k⟩
theorem Reps.drop:∀(n:Nat){ds us},Reps W c ds us->Reps W c (ds.drop n) (us.drop n)
 |0,_,_,h=>h
 |_+1,[],_,e=>by cases e;rfl
 |n+1,_::_,_,⟨_,_,e,_,t⟩=>by cases e;exact t.drop n
theorem Reps.take:∀(n:Nat){ds us},Reps W c ds us->Reps W c (ds.take n) (us.take n)
 |0,_,_,_=>rfl
 |_+1,[],_,e=>by cases e;rfl
 |n+1,_::_,_,⟨u,_,e,h,t⟩=>by cases e;exact⟨u,_,rfl,h,t.take n⟩
theorem Repk.keys:∀{ds xs},Repk W c ds xs->xs.map (·.1)=ds.map (·.1)
 |[],_,e=>by cases e;rfl
 |(k,d)::_,_,⟨_,_,_,e,_,_,t⟩=>by cases e;simp[t.keys]
theorem Repk.len(r:Repk W c ds xs):xs.length=ds.length:=by simpa using bY List.length r.keys
theorem Repk.at:∀{ds xs}{i:Nat}{k d},Repk W c ds xs->ds[i]?=some (k,d)->∃v u,xs[i]?=some (k,v,u)/\KyR W c k v/\Rep W c d u
 |(_,_)::_,_,0,_,_,⟨v,u,_,e,q,h,_⟩,z=>by cases e;cases z;exact⟨v,u,rfl,q,h⟩
 |(_,_)::_,_,i+1,_,_,⟨_,_,_,e,_,_,t⟩,z=>by cases e;exact t.at (i:=i) (by simpa using z)
noncomputable def keyD:Key->D
 |.inl i=>.int i
 |.inr x=>.str x
noncomputable def kkD:KK->D
 |.inl k=>keyD k
 |.inr l=>.tup (l.map keyD)
theorem Jr{k:Key}(h:vJ k u=true):Rep W c (keyD k) u:=by
 rcases qk h with⟨i,t,rfl,rfl⟩|⟨x,t,rfl,rfl⟩ <;> exact⟨t,rfl⟩
theorem QK:∀{l us},ItemsAre (qr P w) l us->Reps W c (l.map keyD) us
 |_,_,.nil=>rfl
 |_,_,.cons a t=>⟨_,_,rfl,Jr a,QK t⟩
theorem KyR.rep:∀{k:KK}{u},KyR W c k u->Rep W c (kkD k) u
 |.inl _,_,h=>Jr h
 |.inr _,_,⟨a,o,us,e,h,k,r⟩=>⟨a,o,us,e,h,k,QK r⟩
noncomputable def dKey:D->Option Key
 |.int i=>some (.inl i)
 |.str x=>some (.inr x)
 |_=>none
noncomputable def y8:List D->Option (List Key)
 |[]=>some []
 |d::l=>(dKey d).bind fun k=>(y8 l).map (k::·)
noncomputable def dKK:D->Option KK
 |.tup l=>(y8 l).map .inr
 |d=>(dKey d).map .inl
theorem wg(r:Rep W c d u)(z:dKey d=some k):vJ k u=true:=by
 cases d with
 |int i=>cases z;obtain⟨t,rfl⟩:=r;exact Js i t
 |str x=>cases z;obtain⟨t,rfl⟩:=r;exact ye x t
 |_=>cases z
theorem Qv:∀{ds us l},Reps W c ds us->y8 ds=some l->ItemsAre (qr P w) l us
 |[],_,_,e,z=>by cases e;cases z;exact .nil
 |d::ds,_,_,⟨u,r,e,h,t⟩,z=>by
  cases e;obtain⟨k,h1,z⟩:=ai.mp (show(dKey d).bind _=_ from z);obtain⟨l,h2,rfl⟩:=ah.mp z;exact .cons (wg h h1) (Qv t h2)
theorem kj{d:D}{k:KK}(r:Rep W c d u)(z:dKK d=some k):KyR W c k u:=by
 cases d with
 |tup l=>
  obtain⟨ks,h,rfl⟩:=ah.mp (show(y8 l).map _=_ from z);obtain⟨a,o,us,e,h1,h2,h3⟩:=r;exact⟨a,o,us,e,h1,h2,Qv h3 h⟩
 |int i=>cases z;exact wg r rfl
 |str i=>cases z;exact wg r rfl
 |_=>cases z
noncomputable def RepO(W:Wd)(c:Co):Option D->Option Value->Prop
 |some d,some u=>Rep W c d u
 |none,none=>True
 |_,_=>False
noncomputable def ObA(W:Wd)(c:Co)(h:Heap)(p:Addr×Addr):Ob->Prop
 |.lst _ l=>∃o us,h.get? p.1=some o/\LstO o us/\Reps W c l us
 |.dic _ l=>∃o xs,h.get? p.1=some o/\DicO W o xs/\Repk W c l xs
 |.ins C l=>h.get? p.1=some (PySem.W.instObj (W.cl C) p.2)/\p.2≠p.1/\l.length<=1000/\∃m,h.Ns1 p.2 m/\(∀k,RepO W c (l.lookup k) (m (W.nm k)))/\PySem.Within m (l.map fun x=>W.nm x.1)
theorem RepO.mono(l:L0 c c'):∀{d u},RepO W c d u->RepO W c' d u
 |some _,some _,r=>Rep.mono l r
 |none,none,_=>trivial
theorem ObA.mono(l:L0 c c')(k:∀a o,a=p.1\/a=p.2->h.get? a=some o->h'.get? a=some o):∀{o},ObA W c h p o->ObA W c' h' p o
 |.lst _ _,⟨o,us,e,q,r⟩=>⟨o,us,k _ _ (.inl rfl) e,q,r.mono l⟩
 |.dic _ _,⟨o,xs,e,q,r⟩=>⟨o,xs,k _ _ (.inl rfl) e,q,r.mono l⟩
 |.ins _ _,⟨e,n,z,m,⟨o,es,ep,h1,h2⟩,r,q⟩=>⟨k _ _ (.inl rfl) e,n,z,m,⟨o,es,ep,k _ _ (.inr rfl) h1,h2⟩,fun f=>(r f).mono l,q⟩
noncomputable def tbO(ps:iJ):Obj:={ cls:=.none,data:=.fields ps }
noncomputable def TabOk(c:Co)(h:Heap)(x:Addr×Pos×Str):Prop:=c.t x.1=some .tbl/\∃ps,h.get? x.1=some (tbO ps)/\TriplesOk ps.toList/\(codeAmong x.2.1 ps.toList=none\/∃c' o,codeAmong x.2.1 ps.toList=some (.ref c')/\c.t c'=some (.frz o)/\∀h':Heap,h'.get? c'=some o->h'.CodeRec (.ref c') x.2.2)
theorem TabOk.mono(l:L0 c c')(k:∀o,h.get? x.1=some o->h'.get? x.1=some o):TabOk c h x->TabOk c' h' x:=fun⟨h1,ps,h2,h3,h4⟩=>⟨l.t _ _ h1,ps,k _ h2,h3,h4.imp id fun⟨c',o,g1,g2,g3⟩=>⟨c',o,g1,l.t _ _ g2,g3⟩⟩
structure Sto(W:Wd)(c:Co)(b:Hb)(h:Heap):Prop where
 frz:∀a o,c.t a=some (.frz o)->h.get? a=some o
 own:∀(n:Nat) p,c.ad[n]?=some p->c.t p.1=some (.own n)/\c.t p.2=some (.own n)
 obs:∀(n:Nat) o,b[n]?=some o->∃p,c.ad[n]?=some p/\ObA W c h p o
 hld:∀(n:Nat) z,c.g n=some z->∃p o,c.ad[n]?=some p/\h.get? p.1=some z/\b[n]?=some o/\o.hd=true
 len:c.ad.length=b.length
 dom:∀a x,c.t a=some x->∃o,h.get? a=some o
 sys:∀x,c.t sysModules≠some x
 tab:∀x∈W.tb,TabOk c h x
theorem Sto.lt(S:Sto W c b h)(e:c.t a=some x):a<h.objs.size:=let⟨_,q⟩:=S.dom a x e;aA q
theorem Sto.fresh(S:Sto W c b h)(e:h.objs.size<=a):c.t a=none:=by
 cases q:c.t a with
 |none=>rfl
 |some x=>exact absurd (S.lt q) (eP e)
theorem Sto.keep(S:Sto W c b h)(k:∀a o,c.t a≠none->h.get? a=some o->h'.get? a=some o):Sto W c b h':=by
 have kk:∀{a x o},c.t a=some x->h.get? a=some o->h'.get? a=some o:=fun e q=>k _ _ (by rw[e];simp) q
 refine⟨fun a o e=>kk e (S.frz a o e),S.own,fun n o e=>?_,fun n z e=>let⟨p,o,h1,h2,h3⟩:=S.hld n z e;⟨p,o,h1,kk (S.own n p h1).1 h2,h3⟩,S.len,fun a x e=>let⟨o,q⟩:=S.dom a x e;⟨o,kk e q⟩,S.sys,fun x hx=>(S.tab x hx).mono .refl fun o e=>kk (S.tab x hx).1 e⟩;obtain⟨p,h1,h2⟩:=S.obs n o e;obtain⟨o1,o2⟩:=S.own n p h1;refine⟨p,h1,h2.mono .refl fun a u z q=>?_⟩;rcases z with rfl|rfl
 ·exact kk o1 q
 ·exact kk o2 q
noncomputable def upT(t:Addr->Option Tk)(a:Addr)(x:Tk):Addr->Option Tk:=fun b=>if b=a then some x else t b
theorem qJ:upT t a x a=some x:=aE rfl
theorem zC(h:b≠a):upT t a x b=t b:=ax h
theorem ZD(e:t b=some y)(n:t a=none):upT t a x b=some y:=by rw[zC,e];rintro rfl;rw[n]at e;cases e
noncomputable def Co.fz(c:Co)(a:Addr)(o:Obj):Co:={ c with t:=upT c.t a (.frz o) }
noncomputable def Co.nw(c:Co)(p:Addr×Addr):Co:=⟨upT (upT c.t p.2 (.own c.ad.length)) p.1 (.own c.ad.length),c.ad++[p],c.g⟩
theorem Co.le_fz(n:c.t a=none):Le c (c.fz a o):=⟨⟨fun _ _ e=>ZD e n,fun _ _ e=>e⟩,fun _ _ e=>e⟩
theorem Co.le_nw(n:c.t p.1=none)(n2:c.t p.2=none):Le c (c.nw p):=by
 refine⟨⟨fun a x e=>?_,fun n q e=>?_⟩,fun _ _ e=>e⟩
 ·have e1:=ZD (x:=.own c.ad.length) e n2
  show upT (upT c.t p.2 _) p.1 _ a=some x
  by_cases h:a=p.1
  ·subst h;rw[n]at e;cases e
  ·rw[zC h];exact e1
 ·exact(aU (ag.mp e).1).trans e
theorem Sto.fz(S:Sto W c b h)(n:c.t a=none)(y:a≠sysModules)(e:h.get? a=some o):Sto W (c.fz a o) b h:=by
 have l:=Co.le_fz (o:=o) n;refine⟨fun z q k=>?_,fun i p k=>⟨l.t _ _ (S.own i p k).1,l.t _ _ (S.own i p k).2⟩,fun i q k=>?_,S.hld,S.len,fun z x k=>?_,fun x k=>S.sys x ((zC (bN y)).symm.trans k),fun x hx=>(S.tab x hx).mono l.toL0 fun _ e=>e⟩
 ·by_cases hz:z=a
  ·subst hz;have k:upT c.t z _ z=_:=k;rw[qJ]at k;cases k;exact e
  ·have k:upT c.t a _ z=_:=k;rw[zC hz]at k;exact S.frz z q k
 ·obtain⟨p,h1,h2⟩:=S.obs i q k
  exact⟨p,h1,h2.mono l fun _ _ _ z=>z⟩
 ·by_cases hz:z=a
  ·subst hz;exact⟨o,e⟩
  ·have k:upT c.t a _ z=_:=k;rw[zC hz]at k;exact S.dom z x k
theorem Sto.nw(S:Sto W c b h)(n:c.t p.1=none)(n2:c.t p.2=none)(y:p.1≠sysModules)(y2:p.2≠sysModules)(e:ObA W c h p o)(h2:∃u,h.get? p.2=some u):Sto W (c.nw p) (b++[o]) h:=by
 have l:=Co.le_nw n n2;have look:∀z x,(c.nw p).t z=some x->(z=p.1\/z=p.2)/\x=.own c.ad.length\/c.t z=some x:=fun z x k=>by
  have k:upT (upT c.t p.2 _) p.1 _ z=some x:=k
  by_cases h1:z=p.1
  ·subst h1;rw[qJ]at k;cases k;exact .inl ⟨.inl rfl,rfl⟩
  ·rw[zC h1]at k
   by_cases h2:z=p.2
   ·subst h2;rw[qJ]at k;cases k;exact .inl ⟨.inr rfl,rfl⟩
   ·rw[zC h2]at k;exact .inr k
 have there:∃u,h.get? p.1=some u:=by
  cases o with
  |lst _ _=>obtain⟨o,_,q,_⟩:=e;exact⟨o,q⟩
  |dic _ _=>obtain⟨o,_,q,_⟩:=e;exact⟨o,q⟩
  |ins _ _=>exact⟨_,e.1⟩
 refine⟨fun z q k=>?_,fun i q k=>?_,fun i q k=>?_,fun i z k=>let⟨p',o,h1,h2,h3,h4⟩:=S.hld i z k;⟨p',o,l.ad _ _ h1,h2,(aU (ag.mp h3).1).trans h3,h4⟩,by simp[Co.nw,S.len],fun z x k=>?_,fun x k=>?_,fun x hx=>(S.tab x hx).mono l.toL0 fun _ e=>e⟩
 ·rcases look z _ k with⟨_,k⟩|k
  ·cases k
  ·exact S.frz z q k
 ·have k:(c.ad++[p])[i]?=some q:=k
  by_cases hi:i<c.ad.length
  ·rw[aU hi]at k
   exact⟨l.t _ _ (S.own i q k).1,l.t _ _ (S.own i q k).2⟩
  ·rw[aJ (by omega)]at k
   have hi0:i=c.ad.length:=by
    have:=(ag.mp k).1;simp at this;omega
   subst hi0;rw[di]at k;cases k;refine⟨qJ,?_⟩;show upT (upT c.t p.2 _) p.1 _ p.2=_
   by_cases hp:p.2=p.1
   ·rw[hp];exact qJ
   ·rw[zC hp];exact qJ
 ·by_cases hi:i<b.length
  ·rw[aU hi]at k
   obtain⟨p',h1,h2⟩:=S.obs i q k;exact⟨p',l.ad _ _ h1,h2.mono l fun _ _ _ z=>z⟩
  ·rw[aJ (by omega)]at k
   have hi0:i=b.length:=by
    have:=(ag.mp k).1;simp at this;omega
   subst hi0;rw[di]at k;cases k;refine⟨p,?_,e.mono l fun _ _ _ z=>z⟩;show(c.ad++[p])[b.length]?=some p;rw[<- S.len];simp
 ·rcases look z x k with⟨rfl|rfl,_⟩|k
  ·exact there
  ·exact h2
  ·exact S.dom z x k
 ·rcases look _ x k with⟨q|q,_⟩|k
  ·exact y q.symm
  ·exact y2 q.symm
  ·exact S.sys x k
theorem Sto.set(S:Sto W c b h)(hp:c.ad[n]?=some p)(k:∀a o,a≠p.1->a≠p.2->h.get? a=some o->h'.get? a=some o)(t1:∃u,h'.get? p.1=some u)(t2:∃u,h'.get? p.2=some u)(e:ObA W c h' p o)(g:c.g n=none):Sto W c (b.set n o) h':=by
 obtain⟨o1,o2⟩:=S.own n p hp;have ne:∀(i:Nat) p',c.ad[i]?=some p'->i≠n->∀a,a=p'.1\/a=p'.2->a≠p.1/\a≠p.2:=fun i p' h1 hi a ha=>by
  obtain⟨q1,q2⟩:=S.own i p' h1;have ea:c.t a=some (.own i):=by rcases ha with rfl|rfl <;> assumption
  constructor <;> (intro y;rw[y]at ea;first|rw[o1]at ea|rw[o2]at ea) <;> (cases ea;exact hi rfl)
 refine⟨fun a z q=>k a z (fun y=>?_) (fun y=>?_) (S.frz a z q),S.own,fun i z q=>?_,fun i z q=>?_,by simp[S.len],fun a x q=>?_,S.sys,fun x hx=>(S.tab x hx).mono .refl fun o e=>k _ o (fun y=>?_) (fun y=>?_) e⟩
 ·rw[y,o1]at q;cases q
 ·rw[y,o2]at q;cases q
 ·by_cases hi:i=n
  ·subst hi
   rw[aV (by rw[<- S.len];exact(ag.mp hp).1)]at q;cases q;exact⟨p,hp,e⟩
  ·rw[aO (bN hi)]at q
   obtain⟨p',h1,h2⟩:=S.obs i z q;have ne:=ne i p' h1 hi;exact⟨p',h1,h2.mono .refl fun a u ha hu=>k a u (ne a ha).1 (ne a ha).2 hu⟩
 ·have hi:i≠n:=fun e=>by rw[e,g]at q;cases q
  obtain⟨p',o',h1,h2,h3,h4⟩:=S.hld i z q;have ne:=ne i p' h1 hi _ (.inl rfl);exact⟨p',o',h1,k _ _ ne.1 ne.2 h2,(aO (bN hi)).trans h3,h4⟩
 ·by_cases h1:a=p.1
  ·rw[h1];exact t1
  ·by_cases h2:a=p.2
   ·rw[h2];exact t2
   ·obtain⟨z,hz⟩:=S.dom a x q;exact⟨z,k a z h1 h2 hz⟩
 ·have:=(S.tab x hx).1;rw[y,o1]at this;cases this
 ·have:=(S.tab x hx).1;rw[y,o2]at this;cases this
noncomputable def Fix(c:Co)(a:Addr)(o:Obj):Prop:=c.t a=some (.frz o)\/∃(n:Nat)(p:Addr×Addr),c.ad[n]?=some p/\p.1=a/\c.g n=some o
theorem Fix.mono(l:Le c c')(h:Fix c a o):Fix c' a o:=h.imp (l.t _ _) fun⟨n,p,h1,h2,h3⟩=>⟨n,p,l.ad _ _ h1,h2,l.g _ _ h3⟩
theorem Fix.get(h:Fix c a o)(S:Sto W c b h'):h'.get? a=some o:=by
 rcases h with h|⟨n,p,h1,rfl,h3⟩
 ·exact S.frz _ _ h
 ·obtain⟨p',_,g1,g2,_⟩:=S.hld n o h3
  rw[h1]at g1;cases g1;exact g2
noncomputable def Ob.set(h:Bool):Ob->Ob
 |.lst _ l=>.lst h l
 |.dic _ l=>.dic h l
 |o=>o
noncomputable def Co.hold(c:Co)(n:Nat)(z:Option Obj):Co:={ c with g:=fun m=>if m=n then z else c.g m }
theorem ObA.flag(h:ObA W c hp p o):ObA W c hp p (o.set x):=by cases o <;> exact h
theorem Le.any(e1:c'.t=c.t)(e2:c'.ad=c.ad)(e3:∀n o,c.g n=some o->c'.g n=some o):Le c c':=⟨⟨fun _ _ e=>by rw[e1];exact e,fun _ _ e=>by rw[e2];exact e⟩,e3⟩
theorem Sto.hold(S:Sto W c b h)(e:b[n]?=some o)(ho:(o.set true).hd=true)(hp:c.ad[n]?=some p)(hz:h.get? p.1=some z):Sto W (c.hold n (some z)) (b.set n (o.set true)) h/\Le c (c.hold n (some z)):=by
 have l:Le c (c.hold n (some z)):=.any rfl rfl fun m q k=>by
  show(if m=n then _ else c.g m)=_
  split
  ·rename_i y
   subst y;obtain⟨_,_,h1,h2,_⟩:=S.hld m q k;rw[hp]at h1;cases h1;rw[<- hz,h2]
  ·exact k
 have hl:=(ag.mp e).1;refine⟨⟨S.frz,S.own,fun i q k=>?_,fun i q k=>?_,by simp[Co.hold,S.len],S.dom,S.sys,fun x hx=>(S.tab x hx).mono l.toL0 fun _ e=>e⟩,l⟩
 ·by_cases hi:i=n
  ·subst hi
   rw[aV hl]at k;cases k;obtain⟨p',h1,h2⟩:=S.obs i o e;exact⟨p',h1,(h2.mono l fun _ _ _ z=>z).flag⟩
  ·rw[aO (bN hi)]at k
   obtain⟨p',h1,h2⟩:=S.obs i q k;exact⟨p',h1,h2.mono l fun _ _ _ z=>z⟩
 ·have k:(if i=n then some z else c.g i)=some q:=k
  by_cases hi:i=n
  ·subst hi
   rw[aE rfl]at k;cases k;exact⟨p,_,hp,hz,aV hl,ho⟩
  ·rw[ax hi]at k
   obtain⟨p',o',h1,h2,h3,h4⟩:=S.hld i q k;exact⟨p',o',h1,h2,(aO (bN hi)).trans h3,h4⟩
theorem Sto.free(S:Sto W c b h)(e:b[n]?=some o):Sto W (c.hold n none) (b.set n (o.set false)) h:=by
 have hl:=(ag.mp e).1;have mo:∀{p o},ObA W c h p o->ObA W (c.hold n none) h p o:=fun h=>h.mono (show L0 c (c.hold n none)from⟨fun _ _ e=>e,fun _ _ e=>e⟩) fun _ _ _ z=>z
 refine⟨S.frz,S.own,fun i q k=>?_,fun i q k=>?_,by simp[Co.hold,S.len],S.dom,S.sys,fun x hx=>(S.tab x hx).mono ⟨fun _ _ e=>e,fun _ _ e=>e⟩ fun _ e=>e⟩
 ·by_cases hi:i=n
  ·subst hi
   rw[aV hl]at k;cases k;obtain⟨p',h1,h2⟩:=S.obs i o e;exact⟨p',h1,(mo h2).flag⟩
  ·rw[aO (bN hi)]at k
   obtain⟨p',h1,h2⟩:=S.obs i q k;exact⟨p',h1,mo h2⟩
 ·have k:(if i=n then none else c.g i)=some q:=k
  by_cases hi:i=n
  ·rw[aE hi]at k;cases k
  ·rw[ax hi]at k
   obtain⟨p',o',h1,h2,h3,h4⟩:=S.hld i q k;exact⟨p',o',h1,h2,(aO (bN hi)).trans h3,h4⟩
noncomputable def Ob.l:Ob->Option (List D)
 |.lst _ l=>some l
 |_=>none
noncomputable def Ob.k:Ob->Option (List (KK×D))
 |.dic _ l=>some l
 |_=>none
noncomputable def qG(b:Hb):D->Option (List D)
 |.lst l=>some l
 |.obj n=>b[n]?.bind Ob.l
 |_=>none
noncomputable def qv(b:Hb):D->Option (List (KK×D))
 |.dic l=>some l
 |.obj n=>b[n]?.bind Ob.k
 |_=>none
theorem Sto.lst(S:Sto W c b h)(r:Rep W c d u)(z:qG b d=some l):∃a o us,u=.ref a/\h.get? a=some o/\LstO o us/\Reps W c l us:=by
 cases d with
 |lst _=>cases z;obtain⟨a,o,us,e,q,k,r⟩:=r;exact⟨a,o,us,e,S.frz a o q,k,r⟩
 |obj n=>
  obtain⟨p,e,q⟩:=r;obtain⟨y,h0,z⟩:=ai.mp (show b[n]?.bind _=_ from z);obtain⟨p',h1,h2⟩:=S.obs n y h0;rw[e]at h1;cases h1;cases y with
  |lst _ _=>cases z;obtain⟨o,us,h2,h3,h4⟩:=h2;exact⟨p.1,o,us,q,h2,h3,h4⟩
  |_=>cases z
 |_=>cases z
theorem Sto.dic(S:Sto W c b h)(r:Rep W c d u)(z:qv b d=some l):∃a o xs,u=.ref a/\h.get? a=some o/\DicO W o xs/\Repk W c l xs/\c.t a≠none:=by
 cases d with
 |dic _=>cases z;obtain⟨a,o,us,e,q,k,r⟩:=r;exact⟨a,o,us,e,S.frz a o q,k,r,by rw[q];simp⟩
 |obj n=>
  obtain⟨p,e,q⟩:=r;obtain⟨y,h0,z⟩:=ai.mp (show b[n]?.bind _=_ from z);obtain⟨p',h1,h2⟩:=S.obs n y h0;rw[e]at h1;cases h1;cases y with
  |dic _ _=>cases z;obtain⟨o,us,h2,h3,h4⟩:=h2;exact⟨p.1,o,us,q,h2,h3,h4,by rw[(S.own n p e).1];simp⟩
  |_=>cases z
 |_=>cases z
theorem Sto.tup(S:Sto W c b h)(r:Rep W c (.tup l) u):∃a o us,u=.ref a/\h.get? a=some o/\TupO o us/\Reps W c l us:=
 let⟨a,o,us,e,q,k,r⟩:=r;⟨a,o,us,e,S.frz a o q,k,r⟩
structure Mo(W:Wd):Prop where
 kin:W.K.In W.base
 gl:W.base.Ns mainGlobals W.mg
 bl:∃m,W.base.Ns builtinsNs m/\∀x:Str,x≠"__name__"->m x=bootBuiltins x
 lim:W.base.NoLimit
 sys:∃o,W.base.get? sysModules=some o
structure Cx where
 W:Wd
 A:Around
 N:iK
 s₀:Shared
 c₀:Co
 env:Env
 outer:List Env
 stack:List Env
 ex:iG
 fn:Str->Bool
 calm:Bool
 pn:iB
noncomputable abbrev Wd.M(W:Wd):Model:=model W.prog W.w
noncomputable abbrev Cx.M(X:Cx):Model:=X.W.M
noncomputable def frs(l:List Env):iG:=l.filterMap (·.frame)
noncomputable abbrev Cx.fs(X:Cx):iG:=frs X.outer
noncomputable abbrev Cx.L(X:Cx):Addr:=X.env.locals
noncomputable def Vs(sc:Scope)(x:Str):Prop:=sc.names.lookup x=some .local\/sc.names.lookup x=some .cell\/sc.names.lookup x=some .free
noncomputable def Lk(env:Env)(h:Heap)(m:iF)(x:Str)(u:Value):Prop:=
 env.kindOf x=some .local/\m x=some u\/(env.kindOf x=some .cell\/env.kindOf x=some .free)/\∃z,env.cells.lookup x=some z/\h.IsCell z (some u)
structure Cx.Ok(X:Cx):Prop where
 mo:Mo X.W
 kind:X.env.scope.kind=.function
 glob:X.env.globals=mainGlobals
 blt:X.env.builtins=builtinsNs
 above:X.s₀.heap.objs.size<=X.L
 inj:∀x y z,X.env.cells.lookup x=some z->X.env.cells.lookup y=some z->x=y
 has:∀x,X.env.kindOf x=some .cell\/X.env.kindOf x=some .free->∃z,X.env.cells.lookup x=some z
 cab:∀x z,X.fn x=true->X.env.cells.lookup x=some z->X.s₀.heap.objs.size<=z
 hd:X.calm=true->X.A.handled=none
 frames:X.A.frames=some X.stack
 stk:X.stack=X.outer\/X.stack=X.env::X.outer/\X.env.frame=some X.L
 exf:∀a∈X.ex,a≠X.L/\∀x z,X.env.cells.lookup x=some z->z≠a
 bs:∀a o,X.W.base.get? a=some o->X.s₀.heap.get? a=some o/\(X.c₀.t a=none\/X.c₀.t a=some (.frz o))
 bsz:X.W.base.objs.size<=X.s₀.heap.objs.size
 noex:∀a o,X.W.base.get? a=some o->a∉X.ex
 exfs:∀a∈X.ex,a∉X.fs
 funs:X.s₀.heap.FunFrames X.W.base X.outer
 frf:∀a∈X.fs,X.c₀.t a=none
structure Un(fs ex:iG)(c c':Co)(h h':Heap):Prop where
 le:Le c c'
 keep:∀a o,h.get? a=some o->c.t a=none->a∉fs->a∉ex->h'.get? a=some o
 slot:∀a o,h.get? a=some o->c.t a=none->a∉ex->∃sl,h'.get? a=some { o with slots:=sl }
 free:∀a o,h.get? a=some o->c.t a=none->a∉ex->c'.t a=none
noncomputable def Hx(A:Around)(c:Co):Prop:=∀v,A.handled=some v->∃e o vs,v=.ref e/\c.t e=some (.frz o)/\o.data=.fields vs/\vs[2]?=some .none
theorem Hx.le(l:L0 c c')(h:Hx A c):Hx A c':=fun v e=>let⟨a,o,vs,h1,h2,h3⟩:=h v e;⟨a,o,vs,h1,l.t _ _ h2,h3⟩
structure Inv(X:Cx)(p:iB)(sc:Sc)(b:Hb)(c:Co)(s:Shared):Prop where
 ok:X.Ok
 os:s.os=X.s₀.os
 bare:AllBare s.gens
 un:Un X.fs X.ex X.c₀ c X.s₀.heap s.heap
 loc:∃m,s.heap.Ns X.L m/\∀(i:Nat) x d,X.N[i]?=some x->sc[i]?=some (some d)->Vs X.env.scope x->∃u,Rep X.W c d u/\Lk X.env s.heap m x u
 cell:∀x z,X.env.cells.lookup x=some z->c.t z=none/\∃v,s.heap.IsCell z v
 free:c.t X.L=none
 pin:∀q∈X.pn++p,s.heap.get? q.1=some q.2/\c.t q.1=none/\q.1≠X.L/\q.1∉X.fs/\∀v,q.2.data≠.cell v
 st:Sto X.W c b s.heap
 len:sc.length=X.N.length
 hx:Hx X.A c
structure Fp(X:Cx)(p:iB)(c:Co)(a:Addr):Prop where
 t:c.t a=none
 l:a≠X.L
 f:a∉X.fs
 x:a∈X.ex\/X.s₀.heap.get? a=none
 z:∀x z,X.env.cells.lookup x=some z->z≠a
 p:∀q∈X.pn++p,q.1≠a
 y:a≠sysModules
theorem Un.kept(k:∀a o,h.get? a=some o->h'.get? a=some o):Un fs ex c c h h':=
 ⟨.refl,fun a o q _ _ _=>k a o q,fun a o q _ _=>⟨o.slots,k a o q⟩,fun _ _ _ n _=>n⟩
section
variable{X:Cx}{p:iB}{sc:Sc}{b b':Hb}{c c':Co}{s:Shared}{h':Heap}
theorem Inv.bk(I:Inv X p sc b c s)(a o)(e:X.W.base.get? a=some o):s.heap.get? a=some o:=by
 obtain⟨h1,h2|h2⟩:=I.ok.bs a o e
 ·refine I.un.keep a o h1 h2 (fun hb=>?_) (I.ok.noex a o e)
  have:=(I.ok.funs.mem hb).1;rw[e]at this;cases this
 ·exact I.st.frz a o (I.un.le.t _ _ h2)
theorem Inv.kIn(I:Inv X p sc b c s):X.W.K.In s.heap:=I.ok.mo.kin.keeps I.bk
theorem Inv.lt(I:Inv X p sc b c s):X.L<s.heap.objs.size:=let⟨_,hn,_⟩:=I.loc;hn.lt
theorem Inv.sz(I:Inv X p sc b c s):X.s₀.heap.objs.size<=s.heap.objs.size:=ba I.ok.above (cN I.lt)
theorem Inv.cne(I:Inv X p sc b c s)(e:X.env.cells.lookup x=some z):z≠X.L:=fun q=>by
 obtain⟨_,v,o,ho,hd⟩:=I.cell x z e;obtain⟨m,⟨o',es,ep,ho',hd',_⟩,_⟩:=I.loc;rw[q,ho']at ho;cases ho;rw[hd']at hd;cases hd
theorem Inv.fsN(I:Inv X p sc b c s)(h:a∈X.fs):c.t a=none:=by
 obtain⟨_,o,ho,_⟩:=I.ok.funs.mem h;exact I.un.free a o ho (I.ok.frf a h) fun z=>I.ok.exfs a z h
theorem Inv.fp(I:Inv X p sc b c s)(hb:s.heap.get? a=none):Fp X p c a:=by
 have n:∀{z o},s.heap.get? z=some o->z≠a:=fun h e=>by rw[e,hb]at h;cases h
 have old:X.s₀.heap.get? a=none\/a∈X.ex:=by
  by_cases hx:a∈X.ex
  ·exact .inr hx
  cases q:X.s₀.heap.get? a with
  |none=>exact .inl rfl
  |some o=>
   cases k:X.c₀.t a with
   |none=>obtain⟨_,e⟩:=I.un.slot a o q k hx;exact absurd rfl (n e)
   |some x=>obtain⟨_,e⟩:=I.st.dom a x (I.un.le.t _ _ k);exact absurd rfl (n e)
 refine⟨?_,fun e=>?_,fun h=>?_,old.symm,fun x z e=>?_,fun q hq=>n (I.pin q hq).1,let⟨o,e⟩:=I.ok.mo.sys;bN (n (I.bk _ o e))⟩
 ·cases q:c.t a with
  |none=>rfl
  |some x=>obtain⟨_,e⟩:=I.st.dom a x q;exact absurd rfl (n e)
 ·obtain⟨m,⟨o,_,_,ho,_⟩,_⟩:=I.loc
  exact n ho e.symm
 ·obtain⟨_,o,ho,_⟩:=I.ok.funs.mem h
  obtain⟨_,e⟩:=I.un.slot a o ho (I.ok.frf a h) fun z=>I.ok.exfs a z h
  exact n e rfl
 ·obtain⟨_,v,o,ho,_⟩:=I.cell x z e
  exact n ho
theorem Inv.fpn(I:Inv X p sc b c s)(hb:s.heap.objs.size<=a):Fp X p c a:=I.fp (bw hb)
theorem Inv.step{g' d' t' ch fs}(I:Inv X p sc b c s)(hch:∀a∈ch,Fp X p c a)(hfs:∀a∈fs,a=X.L\/a∈X.fs)(u:Un fs ch c c' s.heap h')(S:Sto X.W c' b' h')(hg:AllBare g'):Inv X p sc b' c' { s with heap:=h',gens:=g',drawn:=d',toks:=t' }:=by
 have nch:∀{a o},X.s₀.heap.get? a=some o->a∉X.ex->a∉ch:=fun e hx hb=>by
  rcases(hch _ hb).x with z|z
  ·exact hx z
  ·rw[z]at e;cases e
 have nfs:∀{a},a≠X.L->a∉X.fs->a∉fs:=fun h1 h2 z=>(hfs _ z).elim h1 h2
 have neL:∀{a o},X.s₀.heap.get? a=some o->a≠X.L:=fun e=>aH (bS (aA e) I.ok.above)
 have ns:∀{m},s.heap.Ns X.L m->h'.Ns X.L m:=fun⟨o,es,ep,ho,r⟩=>by
  obtain⟨sl,e⟩:=u.slot _ o ho I.free fun z=>(hch _ z).l rfl
  exact⟨_,es,ep,e,r⟩
 have cl:∀{x z v},X.env.cells.lookup x=some z->s.heap.IsCell z v->h'.IsCell z v:=fun e⟨o,ho,hd⟩=>by
  obtain⟨sl,q⟩:=u.slot _ o ho (I.cell _ _ e).1 fun y=>(hch _ y).z _ _ e rfl
  exact⟨_,q,hd⟩
 refine⟨I.ok,I.os,hg,⟨I.un.le.trans u.le,fun a o e n hb hx=>u.keep a o (I.un.keep a o e n hb hx) (I.un.free a o e n hx) (nfs (neL e) hb) (nch e hx),fun a o e n hx=>?_,fun a o e n hx=>?_⟩,?_,fun x z e=>?_,?_,fun q hq=>?_,S,I.len,I.hx.le u.le.toL0⟩
 ·obtain⟨sl,e1⟩:=I.un.slot a o e n hx
  exact(u.slot a _ e1 (I.un.free a o e n hx) (nch e hx)).imp fun sl' e2=>e2
 ·obtain⟨sl,e1⟩:=I.un.slot a o e n hx
  exact u.free a _ e1 (I.un.free a o e n hx) (nch e hx)
 ·obtain⟨m,hn,hl⟩:=I.loc
  refine⟨m,ns hn,fun i x d e1 e2 e3=>?_⟩;obtain⟨v,r,l⟩:=hl i x d e1 e2 e3;exact⟨v,r.mono u.le,l.imp id fun⟨k,z,e,y⟩=>⟨k,z,e,cl e y⟩⟩
 ·obtain⟨n,v,o,ho,hd⟩:=I.cell x z e
  exact⟨u.free z o ho n fun y=>(hch _ y).z _ _ e rfl,v,cl e ⟨o,ho,hd⟩⟩
 ·obtain⟨m,⟨o,_,_,ho,_⟩,_⟩:=I.loc
  exact u.free _ o ho I.free fun z=>(hch _ z).l rfl
 ·obtain⟨e,n,ne,nf,d⟩:=I.pin q hq
  have k:q.1∉ch:=fun z=>(hch _ z).p q hq rfl
  exact⟨u.keep _ _ e n (nfs ne nf) k,u.free _ _ e n k,ne,nf,d⟩
theorem Inv.go{t' ch}(I:Inv X p sc b c s)(hch:∀a∈ch,Fp X p c a)(u:Un [] ch c c' s.heap h')(S:Sto X.W c' b' h'):Inv X p sc b' c' { s with heap:=h',toks:=t' }:=I.step (fs:=[]) (g':=s.gens) (d':=s.drawn) hch (fun _ z=>nomatch z) u S I.bare
theorem Inv.kept{t'}(I:Inv X p sc b c s)(k:∀a o,s.heap.get? a=some o->h'.get? a=some o):Inv X p sc b c { s with heap:=h',toks:=t' }:=
 I.go (ch:=[]) (fun _ z=>nomatch z) (.kept k) (I.st.keep fun a o _ q=>k a o q)
theorem Inv.tok(I:Inv X p sc b c s)(t):Inv X p sc b c { s with toks:=t }:=I.kept (h':=s.heap) (t':=t) fun _ _ e=>e
theorem Inv.turn{t'}{ch:iG}(I:Inv X p sc b c s)(hf:∀a∈ch,Fp X p c a)(k:∀a o,a∉ch->s.heap.get? a=some o->h'.get? a=some o):Inv X p sc b c { s with heap:=h',toks:=t' }:=by
 have kk:∀a o,c.t a≠none->s.heap.get? a=some o->h'.get? a=some o:=fun a o n q=>k a o (fun z=>n (hf a z).t) q
 exact I.go hf ⟨.refl,fun a o q _ _ z=>k a o z q,fun a o q _ z=>⟨o.slots,k a o z q⟩,fun _ _ _ n _=>n⟩ (I.st.keep kk)
theorem Inv.more(I:Inv X p sc b c s)(l:Le c c')(n:∀a,c.t a=none->c'.t a≠none->Fp X p c a)(S:Sto X.W c' b' s.heap):Inv X p sc b' c' s:=by
 have fr:∀a,c.t a=none->¬ Fp X p c a->c'.t a=none:=fun a h1 h2=>eK fun z=>h2 (n a h1 z)
 refine⟨I.ok,I.os,I.bare,⟨I.un.le.trans l,I.un.keep,I.un.slot,fun a o e h hx=>?_⟩,?_,fun x z e=>⟨fr z (I.cell x z e).1 fun f=>f.z x z e rfl,(I.cell x z e).2⟩,fr _ I.free fun f=>f.l rfl,fun q hq=>?_,S,I.len,I.hx.le l.toL0⟩
 ·refine fr a (I.un.free a o e h hx) fun f=>?_
  rcases f.x with z|z
  ·exact hx z
  ·rw[z]at e;cases e
 ·obtain⟨m,hn,hl⟩:=I.loc
  exact⟨m,hn,fun i x d e1 e2 e3=>let⟨u,r,k⟩:=hl i x d e1 e2 e3;⟨u,r.mono l,k⟩⟩
 ·obtain⟨e,h,r⟩:=I.pin q hq
  exact⟨e,fr _ h fun f=>f.p q hq rfl,r⟩
theorem Inv.fz(I:Inv X p sc b c s)(f:Fp X p c a)(e:s.heap.get? a=some o):Inv X p sc b (c.fz a o) s/\Le c (c.fz a o):=by
 have l:=Co.le_fz (o:=o) f.t;refine⟨I.more l (fun z h1 h2=>?_) (I.st.fz f.t f.y e),l⟩
 by_cases hz:z=a
 ·subst hz;exact f
 ·exact absurd ((zC hz).trans h1) h2
theorem Inv.nw{q:Addr×Addr}{o:Ob}(I:Inv X p sc b c s)(f:Fp X p c q.1)(f2:Fp X p c q.2)(e:ObA X.W c s.heap q o)(h2:∃u,s.heap.get? q.2=some u):Inv X p sc (b++[o]) (c.nw q) s/\Le c (c.nw q):=by
 have l:=Co.le_nw f.t f2.t;refine⟨I.more l (fun z h1 h2=>?_) (I.st.nw f.t f2.t f.y f2.y e h2),l⟩
 by_cases hz:z=q.1
 ·subst hz;exact f
 ·by_cases hz2:z=q.2
  ·subst hz2;exact f2
  ·refine absurd ?_ h2
   show upT (upT c.t q.2 _) q.1 _ z=none;rw[zC hz,zC hz2];exact h1
theorem Inv.ng{o:Ob}{n:Nat}(I:Inv X p sc b c s)(e:b[n]?=some o)(h:o.hd=false):c.g n=none:=by
 cases q:c.g n with
 |none=>rfl
 |some z=>obtain⟨_,_,_,_,h3,h4⟩:=I.st.hld n z q;rw[e]at h3;cases h3;rw[h]at h4;cases h4
theorem Inv.set{q:Addr×Addr}{o:Ob}{t' n}(I:Inv X p sc b c s)(hq:c.ad[n]?=some q)(k:∀a o,a≠q.1->a≠q.2->s.heap.get? a=some o->h'.get? a=some o)(t1:∃u,h'.get? q.1=some u)(t2:∃u,h'.get? q.2=some u)(e:ObA X.W c h' q o)(g:c.g n=none):Inv X p sc (b.set n o) c { s with heap:=h',toks:=t' }:=by
 obtain⟨o1,o2⟩:=I.st.own n q hq;have kk:∀a o,c.t a=none\/c.t a=some .tbl->s.heap.get? a=some o->h'.get? a=some o:=fun a o n q=>k a o (fun z=>by rw[z,o1]at n;simp at n) (fun z=>by rw[z,o2]at n;simp at n) q
 exact I.go (ch:=[]) (fun _ z=>nomatch z) ⟨.refl,fun a o q n _ _=>kk a o (.inl n) q,fun a o q n _=>⟨o.slots,kk a o (.inl n) q⟩,fun _ _ _ n _=>n⟩ (I.st.set hq k t1 t2 e g)
theorem Inv.stk(I:Inv X p sc b c s):∀a∈frs X.stack,a=X.L\/a∈X.fs:=fun a ha=>by
 rcases I.ok.stk with e|⟨e,hf⟩
 ·rw[e]at ha;exact .inr ha
 ·rw[e]at ha
  unfold frs at ha;rw[cH,hf]at ha;exact aw.mp ha
theorem Inv.stack(I:Inv X p sc b c s):s.heap.FunFrames X.W.base X.stack:=by
 have all:∀l:List Env,(∀a∈frs l,a∈X.fs)->X.s₀.heap.FunFrames X.W.base l->s.heap.FunFrames X.W.base l:=by
  intro l
  induction l with
  |nil=>intro _ _;trivial
  |cons env r ih=>
   intro hs ⟨hk,⟨L,o,hf,hn,ho,hd⟩,hr⟩;have hL:L∈X.fs:=hs L (by unfold frs;rw[cH,hf];exact aC);obtain⟨sl,e⟩:=I.un.slot L o ho (I.ok.frf L hL) fun z=>I.ok.exfs L z hL
   exact⟨hk,⟨L,_,hf,hn,e,hd⟩,ih (fun b hb=>hs b (by unfold frs;rw[cH,hf];exact ay _ hb)) hr⟩
 have fu:=all X.outer (fun _ h=>h) I.ok.funs;rcases I.ok.stk with e|⟨e,hf⟩
 ·rw[e];exact fu
 ·rw[e]
  obtain⟨m,hn,_⟩:=I.loc;exact .cons (by rw[I.ok.kind];decide) hf hn (bw (ba I.ok.bsz I.ok.above)) fu
theorem Inv.pins{p'}(I:Inv X p sc b c s)(h:∀q∈p',s.heap.get? q.1=some q.2/\c.t q.1=none/\q.1≠X.L/\q.1∉X.fs/\∀v,q.2.data≠.cell v):Inv X p' sc b c s:=
 ⟨I.ok,I.os,I.bare,I.un,I.loc,I.cell,I.free,fun q hq=>(b9.mp hq).elim (fun z=>I.pin q (dk _ z)) (h q),I.st,I.len,I.hx⟩
end
section
variable{X:Cx}{p:iB}{sc sc':Sc}{b b':Hb}{c c':Co}{s:Shared}{h':Heap}
theorem Inv.put{a:Addr}{t'}(I:Inv X p sc b c s)(hs:Heap.SameBut a s.heap h')(n:c.t a=none)(old:X.s₀.heap.get? a=none)(pn:∀q∈X.pn++p,q.1≠a)
  (hl:∃m,h'.Ns X.L m/\∀(i:Nat) x d,X.N[i]?=some x->sc'[i]?=some (some d)->Vs X.env.scope x->∃u,Rep X.W c d u/\Lk X.env h' m x u)(hc:∀x z,X.env.cells.lookup x=some z->∃v,h'.IsCell z v)(len:sc'.length=X.N.length):Inv X p sc' b c { s with heap:=h',toks:=t' }:=by
 have ne:∀{z o},X.s₀.heap.get? z=some o->z≠a:=fun e q=>by rw[q,old]at e;cases e
 have nt:∀{z},c.t z≠none->h'.get? z=s.heap.get? z:=fun e=>hs.2 _ fun q=>e (by rw[q];exact n)
 refine⟨I.ok,I.os,I.bare,⟨I.un.le,fun z o e h1 h2 h3=>(hs.2 z (ne e)).trans (I.un.keep z o e h1 h2 h3),fun z o e h1 h3=>(I.un.slot z o e h1 h3).imp fun _ q=>(hs.2 z (ne e)).trans q,I.un.free⟩,hl,fun x z e=>⟨(I.cell x z e).1,hc x z e⟩,I.free,fun q hq=>?_,I.st.keep fun z o h1 q=>(nt h1).trans q,len,I.hx⟩;obtain⟨e,r⟩:=I.pin q hq;exact⟨(hs.2 _ (pn q hq)).trans e,r⟩
theorem YS{N:iK}(hN:N.Nodup){i j:Nat}{x:Str}(a:N[i]?=some x)(b:N[j]?=some x):i=j:=by
 obtain⟨h1,e1⟩:=ag.mp a;obtain⟨h2,e2⟩:=ag.mp b;exact(List.getElem_inj hN).mp (e1.trans e2.symm)
noncomputable def Own(X:Cx)(x:Str):Prop:=X.env.scope.names.lookup x=some .local\/X.env.scope.names.lookup x=some .cell/\X.fn x=true
theorem store{M A E Q}{i:Nat}{x:Str}{d:D}{u:Value}(I:Inv X p sc b c s)(hN:X.N.Nodup)(hi:X.N[i]?=some x)(hx:Own X x)(r:Rep X.W c d u)
  (h:∀s',Inv X p (sc.set i (some d)) b c s'->Q () s'):wpAny M A (storeName X.env x u) Q E s:=by
 obtain⟨m,hn,hl⟩:=id I.loc;have len:(sc.set i (some d)).length=X.N.length:=by rw[cW];exact I.len
 have hii:i<sc.length:=by rw[I.len];exact(ag.mp hi).1
 have get:∀{j y e},X.N[j]?=some y->(sc.set i (some d))[j]?=some (some e)->y=x/\e=d\/y≠x/\sc[j]?=some (some e):=fun{j y e} e1 e2=>by
  by_cases hj:j=i
  ·subst hj
   rw[hi]at e1;cases e1;rw[aV hii]at e2;cases e2;exact .inl ⟨rfl,rfl⟩
  ·rw[aO (bN hj)]at e2
   exact .inr ⟨fun z=>hj (YS hN e1 (z▸hi)),e2⟩
 rcases hx with hk|⟨hk,hf⟩
 ·refine wpAny_storeName_local hk hn (fun h' hn' hs=>h _ (I.put hs I.free (bw I.ok.above) (fun q hq=>(I.pin q hq).2.2.1) ⟨_,hn',fun j y e e1 e2 e3=>?_⟩ (fun y z e=>?_) len)) (by rw[I.ok.kind];rfl)
  ·rcases get e1 e2 with⟨rfl,rfl⟩|⟨ne,e2⟩
   ·exact⟨u,r,.inl ⟨hk,by simp⟩⟩
   ·obtain⟨v,r',q⟩:=hl j y e e1 e2 e3
    exact⟨v,r',q.imp (fun⟨k,e⟩=>⟨k,by simp[ne,e]⟩) fun⟨k,z,e,w⟩=>⟨k,z,e,w.sameBut hs (I.cne e)⟩⟩
  ·obtain⟨_,v,w⟩:=I.cell y z e
   exact⟨v,w.sameBut hs (I.cne e)⟩
 ·obtain⟨z,hz⟩:=I.ok.has x (.inl hk)
  obtain⟨n,v,w⟩:=I.cell x z hz;refine wpAny_storeName_cell I.ok.kind hk hz w (fun h' hc' hs=>h _ (I.put hs n (bw (I.ok.cab x z hf hz)) (fun q hq e=>?_) ⟨m,hn.sameBut hs (bN (I.cne hz)),fun j y e e1 e2 e3=>?_⟩ (fun y z' e=>?_) len))
  ·obtain⟨o,ho,hd⟩:=w
   have k:=(I.pin q hq).1;rw[e,ho]at k;cases k;exact(I.pin q hq).2.2.2.2 v hd
  ·rcases get e1 e2 with⟨rfl,rfl⟩|⟨ne,e2⟩
   ·exact⟨u,r,.inr ⟨.inl hk,z,hz,hc'⟩⟩
   ·obtain⟨v,r',q⟩:=hl j y e e1 e2 e3
    refine⟨v,r',q.imp id fun⟨k,z',e,w'⟩=>⟨k,z',e,w'.sameBut hs ?_⟩⟩;rintro rfl;exact ne (I.ok.inj _ _ _ e hz)
  ·by_cases hy:z'=z
   ·subst hy;exact⟨_,hc'⟩
   ·obtain⟨_,v',w'⟩:=I.cell y z' e
    exact⟨v',w'.sameBut hs hy⟩
end
inductive R(α:Type) where
 |ok (a:α) (b:Hb)|exc (x:Nat) (b:Hb)|bad
noncomputable def R.bind(r:R α)(k:α->Hb->R β):R β:=match r with
 |.ok a b=>k a b
 |.exc x b=>.exc x b
 |.bad=>.bad
noncomputable def opt(o:Option α)(b:Hb):R α:=match o with
 |some a=>.ok a b
 |none=>.bad
inductive Res where
 |v (d:D)|n (o:Ob)
noncomputable abbrev bmVE:iH:=[.type "ValueError",.type "Exception",.type "BaseException",.type "object"]
theorem Kg(o:Obj)(f:iJ->iJ):(o.mapFields f).dict=o.dict:=by
 unfold Obj.mapFields
 split <;> rfl
structure Lft(fs:iG)(e:Addr)(cls:Value)(skip:Addr->Prop)(h h':Heap):Prop where
 keep:∀b o,b≠e->¬ skip b->b∉fs->h.get? b=some o->h'.get? b=some o
 slot:∀b o,b≠e->¬ skip b->h.get? b=some o->∃sl,h'.get? b=some { o with slots:=sl }
 tr:∃oe vs T oT ts,h'.get? e=some oe/\oe.cls=cls/\oe.data=.fields vs/\vs[1]?=some (.ref T)/\h.get? T=none/\T≠e/\h'.get? T=some oT/\oT.data=.fields ts/\(∃v,ts[3]?=some v)/\∀o0 v0,h.get? e=some o0->o0.data=.fields v0->vs[2]?=v0[2]?/\oe.dict=o0.dict
section
variable{M:Model}{A:Around}{E:iE}{s:Shared}
theorem yb{base:Heap}{env:Env}{outer:List Env}{L e:Addr}{oe:Obj}{vs:iJ}{head:Value}{hadNext:Bool}{Q:Unit->Shared->Prop}
  (hfr:A.frames=some (env::outer))(hl:s.heap.FunFrames base (env::outer))(hf:env.frame=some L)
  (he:s.heap.get? e=some oe)(hd:oe.data=.fields vs)(hsz:1<vs.size)
  (h:∀h',Lft ((env::outer).filterMap (·.frame)) e oe.cls (fun _=>False) s.heap h'->Q () { s with heap:=h' }) :
  wpAny M A (do let a <- frameOf env;let pl <- entryPlaceOf L hadNext;let b <- EntryCells.newEntry head a .none (rawInt L) .none pl;setField (.ref e) 1 b) Q E s:=by
 have hene:e∉(env::outer).filterMap (·.frame):=fun hm=>by
  obtain⟨_,o,ho,hnf⟩:=hl.mem hm;rw[he]at ho;injection ho with ho;subst ho;exact hnf vs hd
 refine aa (wpAny_frameOf_fun hfr hl hf fun h₁ hs₁=>?_);refine aa (wpAny_entryPlaceOf fun pl hpl=>?_);unfold EntryCells.newEntry newFields;refine aa (aN ?_ (hpl.sizeOk5 _ _ _ _ _));have he₁:h₁.get? e=some oe:=(hs₁.2.1 e hene).trans he;have he₂:=af (h:=h₁) { cls:=.type "traceback",dict:=none,data:=.fields ([head,.ref L,.none,rawInt L,.none]++(if pl.isEmpty then List.replicate 6 Value.none else pl)).toArray } he₁;refine cJ he₂ hd hsz ?_;have hTe:h₁.objs.size≠e:=cU (aA he₁);have hd₃:=bT hd (·.setIfInBounds 1 (Value.ref h₁.objs.size));have he₃:=bc (Obj.mapFields (·.setIfInBounds 1 (Value.ref h₁.objs.size))) he₂ (cw hd₃);have hT₃:=(bg (h₁.push { cls:=.type "traceback",dict:=none,data:=.fields ([head,.ref L,.none,rawInt L,.none]++(if pl.isEmpty then List.replicate 6 Value.none else pl)).toArray })
  (Obj.mapFields (·.setIfInBounds 1 (Value.ref h₁.objs.size))) (bN hTe)).trans (ao h₁ rfl)
 refine h _ ?_;have keep:∀b o,b≠e->h₁.get? b=some o->
   ((h₁.push { cls:=.type "traceback",dict:=none,data:=.fields ([head,.ref L,.none,rawInt L,.none]++(if pl.isEmpty then List.replicate 6 Value.none else pl)).toArray }).update e (Obj.mapFields (·.setIfInBounds 1 (Value.ref h₁.objs.size)))).get? b=some o:=fun b o hbe hb=>by
  have hbT:h₁.objs.size≠b:=cU (aA hb);rw[bg _ _ (bN hbe)];exact af _ hb
 have hsz0:s.heap.get? h₁.objs.size=none:=bw (by rw[hs₁.1];exact aI _);refine⟨fun b o hbe _ hbf hb=>keep b o hbe ((hs₁.2.1 b hbf).trans hb),fun b o hbe _ hb=>?_,?_⟩
 ·obtain⟨sl,hs⟩:=hs₁.2.2 b o hb
  exact⟨sl,keep b _ hbe hs⟩
 ·refine⟨_,_,h₁.objs.size,_,_,?_,eF _ _,hd₃,by simp[hsz],hsz0,hTe,hT₃,rfl,⟨_,by simp;rfl⟩,fun o0 v0 h0 d0=>by
   cases he.symm.trans h0;cases hd.symm.trans d0;exact⟨by simp,Kg _ _⟩⟩
  exact he₃
noncomputable def Tb(N:Addr->Prop)(h:Heap)(e:Addr)(cls:Value):Prop:=N e/\∃oe vs T oT ts v,h.get? e=some oe/\oe.cls=cls/\oe.data=.fields vs/\(vs[2]?=some .none/\DkOk oe.dict)/\vs[1]?=some (.ref T)/\N T/\T≠e/\h.get? T=some oT/\oT.data=.fields ts/\ts[3]?=some v
noncomputable def Trc(N:Addr->Prop)(h:Heap)(e:Addr)(cls:Value):Prop:=Tb N h e cls\/(N e/\∃oe vs,h.get? e=some oe/\oe.cls=cls/\oe.data=.fields vs/\(vs[2]?=some .none/\DkOk oe.dict)/\vs[1]?=some .none)
theorem Tb.mono{N N':Addr->Prop}{h:Heap}{e:Addr}{cls:Value}(m:∀b,N b->N' b)(t:Tb N h e cls):Tb N' h e cls:=by
 obtain⟨hn,oe,vs,T,oT,ts,v,t1,t2,t3,t4,t5,t6,t7⟩:=t;exact⟨m _ hn,oe,vs,T,oT,ts,v,t1,t2,t3,t4,t5,m _ t6,t7⟩
theorem Trc.mono{N N':Addr->Prop}{h:Heap}{e:Addr}{cls:Value}(m:∀b,N b->N' b)(t:Trc N h e cls):Trc N' h e cls:=t.imp (Tb.mono m) fun⟨hn,r⟩=>⟨m _ hn,r⟩
theorem QD{base:Heap}{N:Addr->Prop}{env:Env}{outer:List Env}{L e:Addr}{cls:Value}{Q:Unit->Shared->Prop}
  (hfr:A.frames=some (env::outer))(hl:s.heap.FunFrames base (env::outer))(hf:env.frame=some L)(ht:Trc N s.heap e cls)(hN:∀b,s.heap.get? b=none->N b)
  (h:∀(h':Heap)(ch:iG),Tb N h' e cls->(∀b∈ch,N b/\∃o vs,s.heap.get? b=some o/\o.data=.fields vs)->(∀b o,b∉(env::outer).filterMap (·.frame)->b∉ch->s.heap.get? b=some o->h'.get? b=some o)->(∀b o,b∉ch->s.heap.get? b=some o->∃sl,h'.get? b=some { o with slots:=sl })->Q () { s with heap:=h' }) :
  wpAny M A (noteFrame (.ref e) env) Q E s:=by
 unfold noteFrame;simp only[hf];rcases ht with⟨hn,oe,vs,T,oT,ts,v3,he,hcls,hd,hcx,h1,hnT,hTe,hT,hdT,h3⟩|⟨hn,oe,vs,he,hcls,hd,hcx,h1⟩
 ·subst hcls
  refine aa (bB he hd h1 ?_);rw[aE (show(Value.ref T != Value.none)=true from by simp)];refine aa (bB hT hdT h3 ?_)
  by_cases hv:(v3 == rawInt L)=true
  ·rw[aE hv]
   exact ae (h s.heap [] ⟨hn,oe,vs,T,oT,ts,v3,he,rfl,hd,hcx,h1,hnT,hTe,hT,hdT,h3⟩ (fun b hb=>absurd hb (by simp)) (fun b o _ _ e'=>e') fun b o _ e'=>⟨o.slots,e'⟩)
  rw[ax hv];refine aa (cJ hT hdT (bC.mp h3).1 ?_);have other:∀b,b≠T->(s.heap.update T (Obj.mapFields (·.setIfInBounds 3 Value.none))).get? b=s.heap.get? b:=fun b hb=>bg _ _ (bN hb)
  have noRecord:∀b o,s.heap.get? b=some o->(∀vs,o.data≠.fields vs)->b≠T:=fun b o hb hnf q=>by
   rw[q,hT]at hb;injection hb with hb;subst hb;exact hnf ts hdT
  refine yb hfr (hl.of_keeps fun b o hb hnf=>⟨o,(other b (noRecord b o hb hnf)).trans hb,rfl⟩) hf ((other e (bN hTe)).trans he) hd (bC.mp h1).1 fun h' x=>?_
  obtain⟨oe',vs',T',oT',ts',t1,t2,t3,t4,t5,t6,t7,t8,⟨v,t9⟩,t0⟩:=x.tr;have hT':T'≠T:=fun q=>by
   have hTT:=bc (Obj.mapFields (·.setIfInBounds 3 Value.none)) hT (cw (bT hdT _));rw[q]at t5;have t5':(s.heap.update T (Obj.mapFields (·.setIfInBounds 3 Value.none))).get? T=none:=t5;rw[hTT]at t5';cases t5'
  refine h h' [e,T] ⟨hn,oe',vs',T',oT',ts',v,t1,t2,t3,⟨(t0 _ _ ((other e (bN hTe)).trans he) hd).1.trans hcx.1,.eq (t0 _ _ ((other e (bN hTe)).trans he) hd).2 hcx.2⟩,t4,hN T' ((other T' hT').symm.trans t5),t6,t7,t8,t9⟩ (fun b hb=>?_) (fun b o hb z e'=>x.keep b o (fun q=>z (by simp[q])) (fun q=>q) hb ((other b (fun q=>z (by simp[q]))).trans e')) (fun b o z e'=>x.slot b o (fun q=>z (by simp[q])) (fun q=>q) ((other b (fun q=>z (by simp[q]))).trans e'));simp only[aw,aL,bZ]at hb;rcases hb with rfl|rfl
  ·exact⟨hn,oe,vs,he,hd⟩
  ·exact⟨hnT,oT,ts,hT,hdT⟩
 ·subst hcls
  refine aa (bB he hd h1 ?_);rw[ax (by decide)];refine yb hfr hl hf he hd (bC.mp h1).1 fun h' x=>?_
  obtain⟨oe',vs',T,oT,ts,t1,t2,t3,t4,t5,t6,t7,t8,⟨v,t9⟩,t0⟩:=x.tr;refine h h' [e] ⟨hn,oe',vs',T,oT,ts,v,t1,t2,t3,⟨(t0 _ _ he hd).1.trans hcx.1,.eq (t0 _ _ he hd).2 hcx.2⟩,t4,hN T t5,t6,t7,t8,t9⟩ (fun b hb=>?_) (fun b o hb z e'=>x.keep b o (fun q=>z (by simp[q])) (fun q=>q) hb e') (fun b o z e'=>x.slot b o (fun q=>z (by simp[q])) (fun q=>q) e');rw[aD.mp hb];exact⟨hn,oe,vs,he,hd⟩
theorem wC{N:Addr->Prop}{e:Addr}{cls:Value}{fl:iI}{Q:Unit->Shared->Prop}(ht:Tb N s.heap e cls)
  (h:∀(h':Heap)(T:Addr),Tb N h' e cls->N T->(∃o vs,s.heap.get? T=some o/\o.data=.fields vs)->(∀b o,b≠T->s.heap.get? b=some o->h'.get? b=some o)->Q () { s with heap:=h' }):wpAny M A (setFlight (.ref e) fl) Q E s:=by
 obtain⟨hn,oe,vs,T,oT,ts,v,he,hcls,hd,hcx,h1,hnT,hTe,hT,hdT,h3⟩:=ht;unfold setFlight;refine aa (bB he hd h1 ?_);rw[aE (show(Value.ref T != Value.none)=true from by simp)];refine cJ hT hdT (bC.mp h3).1 ?_;have other:∀b,b≠T->(s.heap.update T (Obj.mapFields (·.setIfInBounds 3 (fl.elim Value.none fun f=>rawInt f)))).get? b=s.heap.get? b:=fun b hb=>bg _ _ (bN hb)
 exact h _ T ⟨hn,oe,vs,T,_,_,fl.elim Value.none fun f=>rawInt f,(other e (bN hTe)).trans he,hcls,hd,hcx,h1,hnT,hTe,bc _ hT (cw (bT hdT _)),bT hdT _,by simp only[Array.getElem?_setIfInBounds,dy,aE (bC.mp h3).1]⟩ hnT ⟨oT,ts,hT,hdT⟩ fun b o hb e'=>(other b hb).trans e'
theorem qb2{N:Addr->Prop}{env:Env}{e:Addr}{cls:Value}{what:String}{α:Type}{Q:α->Shared->Prop}(ht:Tb N s.heap e cls)
  (h:∀(h':Heap)(T:Addr),Tb N h' e cls->N T->(∃o vs,s.heap.get? T=some o/\o.data=.fields vs)->(∀b o,b≠T->s.heap.get? b=some o->h'.get? b=some o)->E (.ref e) { s with heap:=h' }):wpAny M A (PySem.passOn what (.ref e) env:Sem α) Q E s:=by
 have ht':=ht;obtain⟨hn,oe,vs,T,oT,ts,v,he,hcls,hd,hcx,h1,r⟩:=ht';unfold PySem.passOn;refine aa (bB he hd h1 ?_);rw[ax (show ¬ ((Value.ref T == Value.none)=true)from by simp)];have step:wpAny M A (do setFlight (.ref e) env.frame;throw (.ref e):Sem α) Q E s:=aa (wC ht fun h' T t n o k=>ic (h h' T t n o k))
 first
  |exact aa (ae step)
  |exact step
theorem Vo{base:Heap}{N:Addr->Prop}{env:Env}{outer:List Env}{L e:Addr}{cls:Value}{Q:Unit->Shared->Prop}
  (hfr:A.frames=some (env::outer))(hl:s.heap.FunFrames base (env::outer))(hf:env.frame=some L)(ht:Trc N s.heap e cls)(hN:∀b,s.heap.get? b=none->N b)
  (h:∀h',Trc N h' e cls->(∀b o,b∉(env::outer).filterMap (·.frame)->¬ N b->s.heap.get? b=some o->h'.get? b=some o)->(∀b o,¬ N b->s.heap.get? b=some o->∃sl,h'.get? b=some { o with slots:=sl })->Q () { s with heap:=h' }) :
  wpAny M A (leaving env (.ref e)) Q E s:=by
 unfold leaving;refine aa (QD hfr hl hf ht hN fun h' ch t' hch keep slot=>wC (s:={ s with heap:=h' }) t' fun h2 T t2 n2 _ k2=>h h2 (.inl t2) (fun b o hb z e'=>k2 b o (fun q=>z (q▸n2)) (keep b o hb (fun q=>z (hch b q).1) e')) fun b o z e'=>?_);obtain⟨sl,e2⟩:=slot b o (fun q=>z (hch b q).1) e';exact⟨sl,k2 b _ (fun q=>z (q▸n2)) e2⟩
end
end E
namespace HT
open PySem PyProof.Rows
section
open PySem.SeqAt
open PySem.AutoSeq1 (wpAny_loadPart')
open PySem.MeetsSeq PySem.MeetsSeq2 PySem.MeetsSeq3
end
section
variable{prog:Program}{w:World}{A:Around}{E:iE}{s:Shared}
theorem cat_tup{t b:Addr}{vs ws:iH}{Q:iE}(ht:IsTup s.heap t vs.toArray)(hb:IsTup s.heap b ws.toArray)(hv:vs≠[])
  (h1:ws=[]->Q (.ref t) s)(h2:ws≠[]->Q (.ref s.heap.objs.size) { s with heap:=s.heap.push { cls:=.type "tuple",data:=.seq (vs++ws).toArray } })
  (hsz:vs.length+ws.length<=sizeLine):wpAny (model prog w) A (binaryOp .Add (.ref t) (.ref b)) Q E s:=by
 obtain⟨⟨cls,dd,data,sl⟩,ho,hc,n,hd⟩:=id ht;obtain⟨⟨cls2,dd2,data2,sl2⟩,ho2,hc2,n2,hd2⟩:=id hb;simp only at hc hd hc2 hd2;subst hc hd hc2 hd2;have e:vs.toArray++ws.toArray=(vs++ws).toArray:=by simp
 by_cases hw:ws=[]
 ·exact concat_meets ⟨_,ho,rfl⟩ ⟨_,ho2,rfl⟩ noFill_tuple_add seq_tuple_add PySem.F.slot_tuple_add PySem.F.entry_tuple_add (gV _ _)
   (tuple_addW1 t b vs.toArray ws.toArray n n2 dd dd2 sl sl2 (by simpa using hv) (by simp[hw])) ⟨ho,ho2,h1 hw⟩
 ·refine concat_meets ⟨_,ho,rfl⟩ ⟨_,ho2,rfl⟩ noFill_tuple_add seq_tuple_add PySem.F.slot_tuple_add PySem.F.entry_tuple_add (gV _ _)
   (tuple_addW2 t b vs.toArray ws.toArray n n2 dd dd2 sl sl2 (by simpa using hv) (by simpa using hw) (by rw[au,au];exact hsz)) ⟨ho,ho2,?_⟩
  rw[e];exact h2 hw
noncomputable def sIx(n d:Nat):Option Int->Nat
 |none=>d
 |some v=>if v<0 then(v+(n:Int)).toNat else min v.toNat n
theorem YE(n d:Nat)(hd:d<=n)(o:Option Int):sIx n d o<=n:=by
 cases o with
 |none=>exact hd
 |some v=>
  show(if v<0 then(v+(n:Int)).toNat else min v.toNat n)<=n
  by_cases hv:v<0
  ·rw[aE hv];omega
  ·rw[ax hv];exact Nat.min_le_right _ _
theorem Kr(v:Int)(n d:Nat):(if v<0 then max (v+(n:Int)) 0 else min v (n:Int))=((sIx n d (some v):Nat):Int):=by
 show(if v<0 then max (v+(n:Int)) 0 else min v (n:Int))=(((if v<0 then(v+(n:Int)).toNat else min v.toNat n):Nat):Int)
 by_cases hv:v<0
 ·simp only[aE hv];omega
 ·simp only[ax hv];omega
theorem ZA(lo hi:Option Int)(n:Nat):Builtin.Slice.sliceAdjust lo hi 1 (n:Int)=(((sIx n 0 lo:Nat):Int),((sIx n n hi:Nat):Int)):=by
 have h1:¬ ((1:Int)<0):=by omega
 unfold Builtin.Slice.sliceAdjust;simp only[h1,bR];refine Prod.ext ?_ ?_
 ·cases lo with
  |none=>rfl
  |some v=>exact Kr v n 0
 ·cases hi with
  |none=>rfl
  |some v=>exact Kr v n n
theorem Zl(i j:Nat):Builtin.Slice.slicePlaces (i:Int) (j:Int) 1=j - i:=by
 unfold Builtin.Slice.slicePlaces;have h1:(1:Int) > 0:=by omega
 simp only[h1,dy,Int.ediv_one]
 split <;> omega
theorem xF{v:Value}{o:Option Int}{Q:Option Int->Shared->Prop}(p:IsPart v o)(h:Q o s):wpAny (model prog w) A (Builtin.Slice.slicePartIndex v) Q E s:=by
 cases p with
 |none=>exact slicePart_none h
 |int i t=>exact slicePart_int h
theorem sliceApplied_gen{sl:Addr}{vl vu:Value}{lo hi:Option Int}{n:Nat}{Q:Int×Int×Nat->Shared->Prop}(hs:s.heap.IsSliceOf sl vl vu .none)(pl:IsPart vl lo)(pu:IsPart vu hi)
  (h:Q (((sIx n 0 lo:Nat):Int),1,sIx n n hi - sIx n 0 lo) s):wpAny (model prog w) A (Builtin.Slice.sliceApplied (.ref sl) (pure (n:Int))) Q E s:=by
 obtain⟨os,hos,hcs,hds⟩:=id hs;unfold Builtin.Slice.sliceApplied Builtin.Slice.sliceFields;refine aa (aa (bB hos hds (x:=vl) rfl (aa (bB hos hds (x:=vu) rfl (aa (bB hos hds (x:=.none) rfl (ae ?_)))))));refine aa (slicePart_none ?_);show wpAny _ _ (if((1:Int) == 0)=true then _ else _) _ _ s;rw[ax (by decide)];refine aa (xF pl (aa (xF pu (aa (ae ?_)))));show wpAny _ _ (match Builtin.Slice.sliceAdjust lo hi 1 (n:Int)with|(lo,hi)=>pure (lo,(1:Int),Builtin.Slice.slicePlaces lo hi 1)) _ _ s;rw[ZA lo hi n];show wpAny _ _ (pure (((sIx n 0 lo:Nat):Int),(1:Int),Builtin.Slice.slicePlaces ((sIx n 0 lo:Nat):Int) ((sIx n n hi:Nat):Int) 1)) _ _ s;rw[Zl];exact ae h
theorem Va(xs:iJ)(i k:Nat):((List.range k).filterMap fun(m:Nat)=>xs[((i:Int)+(m:Int) * 1).toNat]?).toArray=((xs.toList.drop i).take k).toArray:=by
 have e:(fun(m:Nat)=>xs[((i:Int)+(m:Int) * 1).toNat]?)=fun m=>xs[i+m]?:=by
  funext m
  have:((i:Int)+(m:Int) * 1).toNat=i+m:=by omega
  rw[this]
 rw[e];have:=pick_run xs i k;rw[List.filterMap_map]at this;have e2:((fun x=>xs[x]?) ∘ fun x=>i+x)=fun m=>xs[i+m]?:=rfl
 rw[e2]at this;rw[this]
theorem getItem_tuple_cut{t sl:Addr}{items:iJ}{vl vu:Value}{lo hi:Option Int}{Q:iE}(ht:IsTup s.heap t items)(hs:s.heap.IsSliceOf sl vl vu .none)(pl:IsPart vl lo)(pu:IsPart vu hi)
  (hw:¬ (sIx items.size 0 lo=0/\sIx items.size items.size hi=items.size))
  (h:Q (.ref s.heap.objs.size) { s with heap:=s.heap.push { cls:=.type "tuple",data:=.seq ((items.toList.drop (sIx items.size 0 lo)).take (sIx items.size items.size hi - sIx items.size 0 lo)).toArray } })
  (hsz:items.size<=sizeLine):wpAny (model prog w) A (getItem (.ref t) (.ref sl)) Q E s:=by
 have htake:sizeOk (.seq ((items.toList.drop (sIx items.size 0 lo)).take (sIx items.size items.size hi - sIx items.size 0 lo)).toArray):=by
  show((items.toList.drop (sIx items.size 0 lo)).take (sIx items.size items.size hi - sIx items.size 0 lo)).toArray.size<=sizeLine;rw[au,gu,List.length_drop,bE];omega
 have hj:sIx items.size items.size hi<=items.size:=YE _ _ (aI _) hi;obtain⟨os,hos,hcs,hds⟩:=id hs;have hTs:s.TypeIs (.ref sl) "slice":=⟨os,hos,hcs⟩;unfold getItem
 try with_reducible refine aK ?_
 first|refine aa (ae ?_)|skip
 refine aa (fR ht.typeIs (by decide) ?_);refine aa (bp (name:=Str.ofString "__getitem__") ht.typeIs fS
  (bj fS ht.typeIs entry_tuple_getitem ?_ (args_tuple_getitem _ _)))
 show wpAny _ _ (Builtin.Tuple.tupleItemsOf (.ref t) >>= _) _ _ s;refine aa (tupleItemsOf_ ht ?_);refine aa (gf hTs ?_);rw[aE (by decide)];refine aa (sliceApplied_gen hs pl pu ?_);have hno:¬ ((((sIx items.size 0 lo:Nat):Int) == 0 && (1:Int) == 1 && (sIx items.size items.size hi - sIx items.size 0 lo) == items.size)=true):=by
  intro q;rw[aq,aq]at q;have q1:((sIx items.size 0 lo:Nat):Int)=0:=eq_of_beq q.1.1;have q2:sIx items.size items.size hi - sIx items.size 0 lo=items.size:=eq_of_beq q.2;exact hw ⟨by omega,by omega⟩
 show wpAny _ _ (if(((sIx items.size 0 lo:Nat):Int) == 0 && (1:Int) == 1 && (sIx items.size items.size hi - sIx items.size 0 lo) == items.size)=true then _ else _) _ _ s;rw[ax hno,Va]
 first
  |exact aa (m:=Builtin.Tuple.tupleExact _) (aN (ae ⟨_,rfl,ae h⟩) htake)
  |exact aa (m:=Builtin.Tuple.tupleExact _) (aN (aa (ae (ae ⟨_,rfl,ae h⟩))) htake)
  |exact aa (aa (m:=Builtin.Tuple.tupleExact _) (aN (ae (ae ⟨_,rfl,ae h⟩)) htake))
  |exact aa (aa (m:=Builtin.Tuple.tupleExact _) (aN (ae ⟨_,rfl,ae h⟩) htake))
end
end HT
namespace E
open PySem PySem.Spec PyProof PyProof.Rows L2
noncomputable def ixN(n:Nat)(i:Int):Option Nat:=if 0<=i then(if i<n then some i.toNat else none)else if -(n:Int)<=i then some (i+n).toNat else none
noncomputable def atI{α:Type}(xs:List α)(i:Int):Option α:=(ixN xs.length i).bind fun j=>xs[j]?
theorem Wp{n:Nat}{i:Int}{j:Nat}(h:ixN n i=some j):seqIndex? i n=some j/\j<n/\-(n:Int)<=i/\i<n:=by
 unfold ixN at h
 by_cases h0:0<=i
 ·rw[aE h0]at h
  by_cases h1:i<n
  ·rw[aE h1]at h
   have e:i.toNat=j:=bM h;exact⟨by rw[seqIndex_of h0 h1,e],by omega,by omega,h1⟩
  ·rw[ax h1]at h;cases h
 ·rw[ax h0]at h
  by_cases h1:-(n:Int)<=i
  ·rw[aE h1]at h
   have e:(i+n).toNat=j:=bM h;exact⟨by rw[seqIndex_neg (by omega) h1,e],by omega,h1,by omega⟩
  ·rw[ax h1]at h;cases h
theorem Ky{α:Type}{xs:List α}{i:Int}{v:α}(h:atI xs i=some v):∃j,seqIndex? i xs.length=some j/\xs[j]?=some v/\j<xs.length/\-(xs.length:Int)<=i/\i<xs.length:=by
 unfold atI at h;cases e:ixN xs.length i with
 |none=>rw[e]at h;cases h
 |some j=>
  rw[e]at h;obtain⟨h1,h2,h3,h4⟩:=Wp e;exact⟨j,h1,h,h2,h3,h4⟩
noncomputable def KJ(b:Expr):Prop:=∀o i,subscripted b false o i=operate [o,i] (getItem o i)
theorem wW(lo hi:Option Int)(n:Nat):(sliceBounds lo hi none n).1=((HT.sIx n 0 lo:Nat):Int)/\(sliceBounds lo hi none n).2.1=((HT.sIx n n hi:Nat):Int)/\(sliceBounds lo hi none n).2.2=1:=by
 refine⟨?_,?_,rfl⟩
 ·cases lo with
  |none=>simp[sliceBounds,HT.sIx]
  |some i=>
   simp only[sliceBounds,HT.sIx,Option.getD_none,show(1:Int) > 0 by decide,dy]
   by_cases h:i<0
   ·simp only[h,dy] <;> omega
   ·simp only[h,bR] <;> omega
 ·cases hi with
  |none=>simp[sliceBounds,HT.sIx]
  |some i=>
   simp only[sliceBounds,HT.sIx,Option.getD_none,show(1:Int) > 0 by decide,dy]
   by_cases h:i<0
   ·simp only[h,dy] <;> omega
   ·simp only[h,bR] <;> omega
theorem wc(its:iH)(lo hi:Option Int):slicePick its.toArray lo hi none=((its.drop (HT.sIx its.length 0 lo)).take (HT.sIx its.length its.length hi - HT.sIx its.length 0 lo)).toArray:=by
 obtain⟨h1,h2,h3⟩:=wW lo hi its.toArray.size;unfold slicePick;rw[h1,h2,h3];simp only[sliceRange_one,pick_run,au] <;> rfl
theorem QG:(sizeLine:Nat)<2 ^ 63:=by rw[cu];decide
structure ObjM(h:Heap)(x dx C:Addr)(mA:iF):Prop where
 obj:h.get? x=some (PySem.W.instObj C dx)
 ns:h.Ns1 dx mA
 ne:dx≠x
theorem Ji{h:Heap}{dx:Addr}{mA:iF}(n:h.Ns1 dx mA):∃od,h.get? dx=some od/\∀name,PySem.W.lookIn name od=some (mA name):=by
 obtain⟨o,es,ep,ho,hd,hk,_,hm⟩:=n;refine⟨o,ho,fun name=>?_⟩;have e:=hm name;unfold nsFind findBy at e;rw[<- Array.find?_toList]at e;unfold PySem.W.lookIn;rw[hd];dsimp only
 split
 ·rename_i y q
  rw[q]at e;exact bY some e
 ·rename_i q
  rw[q]at e;have a:es.toList.any (·.refKey)=false:=by
   rw[List.any_eq_false];intro y hy;obtain⟨z,t,hkey⟩:=hk y (gv.mp hy);simp[DictEntry.refKey,hkey]
  have a':¬ es.toList.any (·.refKey)=true:=by rw[a];exact aG
  rw[ax a'];exact bY some e
theorem ObjM.look{h:Heap}{x dx C:Addr}{mA:iF}(I:ObjM h x dx C mA):∃od,PySem.W.InstAt h x (PySem.W.instObj C dx) C (some od)/\∀name,PySem.W.lookIn name od=some (mA name):=
 let⟨od,ho,hl⟩:=Ji I.ns
 ⟨od,⟨I.obj,rfl,rfl,ho⟩,hl⟩
structure Cls(K:iA)(C:Addr):Prop where
 pg:PySem.W.plainGet K C Str.empty=true
 hd:PySem.W.hasDictIn K C=true
 po:PySem.W.plainOver K C=true
 sa:PySem.W.findIn K (.ref C) "__setattr__"=some (some (.builtin "object.__setattr__"))
theorem Cls.get{K:iA}{C:Addr}(c:Cls K C)(f:Str):PySem.W.plainGet K C f=true:=c.pg
noncomputable def NoAttr(K:iA)(C:Addr)(f:Str):Prop:=PySem.W.findIn K (.ref C) f=some none
theorem NoAttr.taker{K:iA}{C:Addr}{f:Str}(n:NoAttr K C f):PySem.W.takerIn K C f=some none:=by
 unfold PySem.W.takerIn;rw[show PySem.W.findIn K (.ref C) f=some none from n];rfl
structure Meth(K:iA)(C:Addr)(m:Str)(f:Addr):Prop where
 at_:PySem.W.findIn K (.ref C) m=some (some (.ref f))
 fn:PySem.W.isFn K (.ref f)=true
 kp:PySem.W.keepIn K (.ref f)=true
structure Mk(K:iA)(C f:Addr):Prop where
 makes:PySem.W.makesIn K C=true
 init:PySem.W.findIn K (.ref C) "__init__"=some (some (.ref f))
 fn:PySem.W.isFn K (.ref f)=true
 kp:PySem.W.keepIn K (.ref C)=true
section
variable{prog:Program}{w:World}{A:Around}{E:iE}{s:Shared}{K:iA}{x dx C f:Addr}{mA:iF}{name:Str}{v:Value}
theorem get_map{expr:Bool}{Q:iE}(X:K.In s.heap)(I:ObjM s.heap x dx C mA)(hg:PySem.W.plainGet K C name=true)(hh:PySem.W.hasDictIn K C=true)
  (ha:PySem.W.findIn K (.ref C) name=some none)(hv:mA name=some v)(hv':PySem.W.handedIn v=true)(h:Q v { s with toks:=s.toks+1 }) :
  wpAny (model prog w) A (getAttr (.ref x) name expr) Q E s:=by
 obtain⟨od,J,hl⟩:=I.look;exact PySem.W.get_value X J (g0 hg).1 (PySem.W.findObj_own hh ha rfl (by rw[hl,hv])) hv' h
theorem QW{pl:Sem Bool}{Q:Value×iH->Shared->Prop}(X:K.In s.heap)(I:ObjM s.heap x dx C mA)(hg:PySem.W.plainGet K C name=true)
  (hf:PySem.W.findIn K (.ref C) name=some (some (.ref f)))(ht:PySem.W.isFn K (.ref f)=true)(hv:mA name=none)(h:Q (.ref f,[.ref x]) s) :
  wpAny (model prog w) A (getMethod (.ref x) name pl) Q E s:=by
 obtain⟨od,J,hl⟩:=I.look;exact PySem.W.method_fn X J (g0 hg).1 (g0 hg).2 hf (cC.mp ht) (by show(PySem.W.lookIn name od).map (·.isSome)=some false;rw[hl,hv];rfl) h
theorem XO{ns:iK}{Q:Unit->Shared->Prop}(X:K.In s.heap)(I:ObjM s.heap x dx C mA)
  (hs:PySem.W.findIn K (.ref C) "__setattr__"=some (some (.builtin "object.__setattr__")))(hp:PySem.W.plainOver K C=true)(ht:PySem.W.takerIn K C name=some none)(hh:PySem.W.hasDictIn K C=true)
  (hw:PySem.Within mA ns)(hsz:ns.length<=sizeLine)
  (h:∀h',ObjM h' x dx C (fun y=>if y=name then some v else mA y)->Heap.SameBut dx s.heap h'->Q () { s with heap:=h',toks:=s.toks+2 }) :
  wpAny (model prog w) A (setAttr (.ref x) name v) Q E s:=by
 obtain⟨od,J,hl⟩:=I.look;refine PySem.W.set_plain X J hs (PySem.W.osa_open (s:={ s with toks:=s.toks+1 }) (r:=none) X J hp ht fun b=>?_);obtain⟨cd,hc,hd'⟩:=PySem.W.any_some hh;have hx:s.heap.get? x=some ⟨.ref C,some dx,.plain,#[]⟩:=I.obj;refine aa (ae (aa (aa (wpAny_loadPart hx (aa (PySem.W.Looks.here (s:={ s with toks:=s.toks+1 }) (PySem.W.looks_clsIn X hc) ?_))))));rw[hd'];refine ae (a:=some dx) (aa (ae (aa ?_)));refine wpAny_nsSet1 (s:={ s with toks:=s.toks+1 }) I.ns fun h' hn2 hs2=>?_
 obtain⟨oD,esD,epD,hoD,hdD,hcD⟩:=hn2.count (PySem.Within.cons name v hw);refine aa (ir hoD (by rw[hdD];exact iu (ba hcD (by rw[bO];omega))) ?_);exact ae (h _ ⟨(hs2.2 _ (bN I.ne)).trans I.obj,hn2,I.ne⟩ hs2)
theorem Vi{R:Result->Shared->Prop}{vs:iH}{kw:List (Str×Value)}(X:K.In s.heap)(hm:PySem.W.makesIn K C=true)
  (hi:PySem.W.findIn K (.ref C) "__init__"=some (some (.ref f)))(hf:PySem.W.typeIn K (.ref f)=some (.type "function"))
  (h:codeAny (model prog w) (A.under (.builtin "type.__call__" ⟨.ref C::vs,kw⟩)) (.call (.ref f) ⟨.ref (s.heap.objs.size+1)::vs,kw⟩) (PySem.W.InitBack (s.heap.objs.size+1) R)
   { s with heap:=(s.heap.push PySem.W.emptyDict).push (PySem.W.instObj C s.heap.objs.size) }) :
  codeAny (model prog w) A (.call (.ref C) ⟨vs,kw⟩) R s:=by
 obtain⟨hh,g,d,t,os⟩:=s;exact PySem.W.make_core (PySem.W.makes_of X hm) (cT X hi) (fun self=>PySem.W.bind_fn X self hf) (.inl rfl) h
end
section
variable{A:Around}{E:iE}
theorem W7{prog:Program}{w:World}{env:Env}{e:Expr}{f:Str}{pos:Pos}{s:Shared}{Q:iE}(hb:attributeBase e f env (eval e env)=eval e env)
  (h:wpAny (model prog w) A (eval e env) (fun o s₁=>wpAny (model prog w) A (getAttr o f true) Q E s₁) E s):wpAny (model prog w) A (eval (.Attribute e f pos) env) Q E s:=
 Attribute_any_ h (by rw[arm_eval_Attribute,hb])
end
theorem qcw{M:Model}{A:Around}{E:iE}{s:Shared}{tg:Expr}{it:Addr}{u:Value}{o:Obj}{n:String}{vs:iJ}{Q:Unit->Shared->Prop}(ho:s.heap.get? it=some o)(hc:o.cls=.type n)(hd:o.data=.fields vs)
  (hn:["enumerate","zip","dict_itemiterator","dict_reverseitemiterator","odict_iterator","itertools.zip_longest","itertools.pairwise"].contains n=false)(hQ:Q () s):wpAny M A (letOwnedTupleGo tg (.ref it) u) Q E s:=by
 unfold letOwnedTupleGo;cases tg <;> first
  |exact ae hQ
  | (cases u <;> first
    |exact ae hQ
    | (refine aa (wpAny_load ho ?_)
       rw[hc,hd];show wpAny M A (if(["enumerate","zip","dict_itemiterator","dict_reverseitemiterator","odict_iterator","itertools.zip_longest","itertools.pairwise"].contains n && vs[0]? == some (rawInt _))=true then _ else _) Q E s;rw[ax (by intro h;rw[hn,Bool.false_and]at h;cases h)];exact ae hQ))
structure Room(k:Nat)(A:Around):Prop where
 hd:A.handled=none
 dp:A.depth+3 * k+5<recursionLimit
 un:A.units+16 * k+200<cLine
theorem Room.mono{j k:Nat}{A:Around}(r:Room k A)(h:j<=k):Room j A:=⟨r.hd,by have:=r.dp;omega,by have:=r.un;omega⟩
theorem Room.deeper{k:Nat}{A:Around}(r:Room (k+1) A)(env:Env):Room k (A.deeper env):=
 ⟨r.hd,by have:=r.dp;show A.depth+1+3 * k+5<_;omega,by have:=r.un;show A.units+3+16 * k+200<_;omega⟩
theorem Zn{A:Around}{C:Addr}{us:iH}{kw:List (Str×Value)}:(A.under (.builtin "type.__call__" ⟨.ref C::us,kw⟩)).depth=A.depth+1:=by
 first|rfl|simp[Around.under,Code.weight,Code.isCreation,Code.isGuard,Code.isCaller,Code.frames,Code.isFrame,guardIds]
theorem Zm{A:Around}{C:Addr}{us:iH}{kw:List (Str×Value)}:(A.under (.builtin "type.__call__" ⟨.ref C::us,kw⟩)).units=A.units+1:=by
 first|rfl|simp[Around.under,Code.cUnits,Code.frames,Code.isFrame]
theorem Room.make{k:Nat}{A:Around}(r:Room (k+1) A)(C:Addr)(us:iH)(kw:List (Str×Value)):Room k (A.under (.builtin "type.__call__" ⟨.ref C::us,kw⟩)):=
 ⟨r.hd,by have:=r.dp;rw[Zn];omega,by have:=r.un;rw[Zm];omega⟩
theorem Room.depth{k:Nat}{A:Around}(r:Room k A):A.depth<recursionLimit:=by have:=r.dp;omega
theorem Room.units{k:Nat}{A:Around}(r:Room k A):A.units+64<cLine:=by have:=r.un;omega
structure FnScope(N P:iK)(sc:Scope):Prop where
 kind:sc.kind=.function
 co:sc.isCoroutine=false
 gen:sc.isGenerator=false
 nd:N.Nodup
 pre:N.take P.length=P
 par:∀x∈P,sc.names.lookup x=some .local\/sc.names.lookup x=some .cell
 nofree:∀y∈sc.names,y.2≠.free
theorem yp{kindOf:Str->Option NameKind}{x:Str}:∀{binds:List (Str×Value)}{m:iF},(∀v,(x,v)∉binds)->bindL kindOf binds m x=m x
 |[],_,_=>rfl
 |(n,v)::r,m,h=>by
  unfold bindL;rw[yp fun w hw=>h w (ay _ hw)]
  split
  ·have:x≠n:=by rintro rfl;exact h v aC
   simp[this]
  ·rfl
theorem yq{kindOf:Str->Option NameKind}{x:Str}:∀{binds:List (Str×Value)}{m:iF},(∀v,(x,v)∉binds)->bindC kindOf binds m x=m x
 |[],_,_=>rfl
 |(n,v)::r,m,h=>by
  unfold bindC;rw[yq fun w hw=>h w (ay _ hw)]
  split
  ·rfl
  ·have:x≠n:=by rintro rfl;exact h v aC
   simp[this]
theorem xm{kindOf:Str->Option NameKind}{x:Str}{v:Value}:∀{P:iK}{vs:iH}{i:Nat}{m:iF},P.Nodup->P[i]?=some x->vs[i]?=some v->kindOf x=some .local->
  bindL kindOf (P.zip vs) m x=some v
 |[],_,_,_,_,h,_,_=>by simp at h
 |_::_,[],_,_,_,_,h,_=>by simp at h
 |p::P,w::vs,0,m,nd,h1,h2,hk=>by
  simp at h1 h2;subst h1;subst h2;show bindL kindOf ((p,w)::P.zip vs) m p=_;unfold bindL;rw[yp fun v hv=>(bq.mp nd).1 (fy hv).1,aE hk];simp
 |p::P,w::vs,i+1,m,nd,h1,h2,hk=>by
  show bindL kindOf ((p,w)::P.zip vs) m x=_;unfold bindL;exact xm (i:=i) (bq.mp nd).2 (by simpa using h1) (by simpa using h2) hk
theorem yr{kindOf:Str->Option NameKind}{x:Str}{v:Value}:∀{P:iK}{vs:iH}{i:Nat}{m:iF},P.Nodup->P[i]?=some x->vs[i]?=some v->kindOf x≠some .local->
  bindC kindOf (P.zip vs) m x=some v
 |[],_,_,_,_,h,_,_=>by simp at h
 |_::_,[],_,_,_,_,h,_=>by simp at h
 |p::P,w::vs,0,m,nd,h1,h2,hk=>by
  simp at h1 h2;subst h1;subst h2;show bindC kindOf ((p,w)::P.zip vs) m p=_;unfold bindC;rw[yq fun v hv=>(bq.mp nd).1 (fy hv).1,ax hk];simp
 |p::P,w::vs,i+1,m,nd,h1,h2,hk=>by
  show bindC kindOf ((p,w)::P.zip vs) m x=_;unfold bindC;exact yr (i:=i) (bq.mp nd).2 (by simpa using h1) (by simpa using h2) hk
theorem vP{sc:Scope}{n:Nat}{x:Str}(h:sc.names.lookup x=some .cell):∃c,(cellsFrom n sc.names []).lookup x=some c:=by
 have q:=fN sc.names n [] (.inl h);exact bA.mp q
noncomputable abbrev Pin:=iB
noncomputable abbrev Rl(α β:Type):=Cx->Pin->Co->Shared->α->β->Prop
noncomputable def RV:Rl Value D:=fun X _ c _ u d=>Rep X.W c d u
noncomputable def RA:Rl (iH) (List D):=fun X _ c _ u d=>Reps X.W c d u
noncomputable def RB:Rl Bool Bool:=fun _ _ _ _ x y=>x=y
noncomputable def RI:Rl Value (Option Int):=fun _ _ _ _ u i=>IsPart u i
noncomputable def Ob.nw:Ob->Option D
 |.lst false l=>some (.lst l)
 |.dic false l=>some (.dic l)
 |_=>none
noncomputable def RR:Rl Value Res:=fun X p c s u r=>match r with
 |.v d=>Rep X.W c d u
 |.n o=>∃a,u=.ref a/\Fp X p c a/\ObA X.W c s.heap (a,a) o
noncomputable abbrev Fly(X:Cx)(p:Pin)(c:Co)(s:Shared)(a:Addr)(x:Nat):Prop:=Trc (Fp X p c) s.heap a (.ref (X.W.cl x))
noncomputable def Post(X:Cx)(p:Pin)(sc:Sc)(Z:iE)(c:Co)(rel:Rl α β)(r:R β)(Q:α->Shared->Prop):Prop:=match r with
 |.ok d b=>∀u s' c',Inv X p sc b c' s'->Le c c'->rel X p c' s' u d->Q u s'
 |.exc x b=>∀a s' c',Inv X p sc b c' s'->Le c c'->Fly X p c' s' a x->Z (.ref a) s'
 |.bad=>False
structure Ev(X:Cx)(t:Sem α)(rel:Rl α β)(f:Sc->Hb->R β):Prop where
 h:∀p sc b c s Q Z,Inv X p sc b c s->Post X p sc Z c rel (f sc b) Q->wpAny X.M X.A t Q Z s
section
variable{X:Cx}{p:Pin}{sc:Sc}{b:Hb}{c c':Co}{s:Shared}{Z:iE}{a e i:Expr}{es:iL}{pos:Pos}
theorem Post.le{rel:Rl α β}{r:R β}{Q:α->Shared->Prop}(l:Le c c')(h:Post X p sc Z c rel r Q):Post X p sc Z c' rel r Q:=by
 cases r with
 |ok d b=>exact fun u s z I k=>h u s z I (l.trans k)
 |exc x b=>exact fun a s z I k=>h a s z I (l.trans k)
 |bad=>exact h
theorem Post.fin{rel:Rl α β}{d:β}{u:α}{Q:α->Shared->Prop}(h:Post X p sc Z c rel (.ok d b) Q)(I:Inv X p sc b c s)(r:rel X p c s u d):Q u s:=h u s c I .refl r
theorem Ev.run{t:Sem α}{rel:Rl α β}{rel':Rl γ δ}{f:Sc->Hb->R β}{k:β->Hb->R δ}{Q':γ->Shared->Prop}{P:α->Shared->Prop}(he:Ev X t rel f)(I:Inv X p sc b c s)(h:Post X p sc Z c rel' ((f sc b).bind k) Q')
  (cont:∀d b u s c',Inv X p sc b c' s->Le c c'->rel X p c' s u d->Post X p sc Z c' rel' (k d b) Q'->P u s):wpAny X.M X.A t P Z s:=by
 refine he.h p sc b c s P Z I ?_;cases r:f sc b with
 |ok d b=>rw[r]at h;exact fun u s z I l k=>cont d b u s z I l k (Post.le l h)
 |exc x b=>rw[r]at h;exact h
 |bad=>rw[r]at h;exact h
theorem Post.opt{rel:Rl α β}{o:Option β}{Q:α->Shared->Prop}(h:Post X p sc Z c rel (E.opt o b) Q):∃d,o=some d/\∀u s' c',Inv X p sc b c' s'->Le c c'->rel X p c' s' u d->Q u s':=by
 cases o with
 |none=>exact h.elim
 |some d=>exact⟨d,rfl,h⟩
noncomputable def kp(m:Bool)(r:R Res):R D:=r.bind fun d b=>match d,m with
 |.v d,_=>.ok d b
 |.n o,true=>if o.nw.isSome then .ok (.obj b.length) (b++[o])else .bad
 |.n o,false=>opt o.nw b
theorem Inv.fzo{z:Addr}{o:Ob}(I:Inv X p sc b c s)(f:Fp X p c z)(h:ObA X.W c s.heap (z,z) o)(e:o.nw=some d):∃c',Inv X p sc b c' s/\Le c c'/\Rep X.W c' d (.ref z):=by
 cases o with
 |lst hd l=>
  cases hd <;> cases e
  obtain⟨o,us,h1,h2,h3⟩:=h;obtain⟨I',l'⟩:=I.fz f h1;exact⟨_,I',l',z,o,us,rfl,qJ,h2,h3.mono l'⟩
 |dic hd l=>
  cases hd <;> cases e
  obtain⟨o,us,h1,h2,h3⟩:=h;obtain⟨I',l'⟩:=I.fz f h1;exact⟨_,I',l',z,o,us,rfl,qJ,h2,h3.mono l'⟩
 |ins=>cases e
theorem Inv.nwo{z:Addr}{o:Ob}(I:Inv X p sc b c s)(f:Fp X p c z)(h:ObA X.W c s.heap (z,z) o)(e:o.nw.isSome=true):∃c',Inv X p sc (b++[o]) c' s/\Le c c'/\Rep X.W c' (.obj b.length) (.ref z):=by
 have q:∃u,s.heap.get? z=some u:=by
  cases o with
  |lst hd l=>obtain⟨u,_,h1,_⟩:=h;exact⟨u,h1⟩
  |dic hd l=>obtain⟨u,_,h1,_⟩:=h;exact⟨u,h1⟩
  |ins=>cases e
 obtain⟨I',l'⟩:=I.nw (q:=(z,z)) f f h q;refine⟨_,I',l',(z,z),?_,rfl⟩;show(c.ad++[(z,z)])[b.length]?=_;rw[<- I.st.len];simp
theorem Ev.kp{t:Sem Value}{f:Sc->Hb->R Res}(h:Ev X t RR f)(m:Bool):Ev X t RV fun s b=>E.kp m (f s b):=⟨fun p sc b c s Q Z I q=>h.run I q fun d b u s c' I l r q=>by
 cases d with
 |v d=>exact q.fin I r
 |n o=>
  obtain⟨z,rfl,f,r⟩:=r;cases m with
  |false=>obtain⟨d,e,k⟩:=Post.opt q;obtain⟨c2,I2,l2,r2⟩:=I.fzo f r e;exact k _ _ _ I2 l2 r2
  |true=>
   simp only at q
   split at q
   ·rename_i e;obtain⟨c2,I2,l2,r2⟩:=I.nwo f r e;exact q _ _ _ I2 l2 r2
   ·exact q.elim⟩
theorem Ev.val{t:Sem Value}{f:Sc->Hb->R D}(h:Ev X t RV f):Ev X t RR fun s b=>(f s b).bind fun d b=>.ok (.v d) b:=⟨fun p sc b c s Q Z I q=>h.run I q fun d b u s c' I l r q=>q.fin I r⟩
theorem qdb{i:Nat}{x:Str}(hN:X.N[i]?=some x)(hv:Vs X.env.scope x)(hd:(x == ("__debug__":Str))=false)(hcd:(x == ("__classdict__":Str))=false):Ev X (eval (.Name x pos) X.env) RV fun s b=>opt (s[i]?).join b:=⟨fun p sc b c s Q Z I q=>by
 obtain⟨d,e,k⟩:=Post.opt q;obtain⟨m,hn,hl⟩:=I.loc;obtain⟨u,r,l⟩:=hl i x d hN (by cases z:sc[i]? <;> rw[z]at e <;> cases e;rfl) hv;have fin:=k u s c I .refl r;rcases l with⟨hk,hm⟩|⟨hk|hk,z,hz,hc⟩
 ·exact wpAny_Name (wpAny_loadName_local I.ok.kind hk hn hm fin) hd
 ·exact wpAny_Name (wpAny_loadName_cell I.ok.kind hk hz hc fin) hd
 ·exact wpAny_Name (wpAny_loadName_free I.ok.kind hk hz hc fin hcd) hd⟩
noncomputable def Gl(X:Cx)(x:Str):Prop:=X.env.kindOf x=some .globalImplicit
theorem wp{E}{x:Str}{u:Value}{Q:iE}(I:Inv X p sc b c s)(hg:Gl X x)(hm:X.W.mg x=some u)(h:Q u s)(hd:(x == ("__debug__":Str))=false):wpAny X.M X.A (eval (.Name x pos) X.env) Q E s:=
 Calls.Name_function_global I.ok.kind hg (Calls.loadGlobal_global (by rw[I.ok.glob];exact I.ok.mo.gl.keeps I.bk) hm h) hd
theorem vI{E}{x:Str}{u:Value}{Q:iE}(I:Inv X p sc b c s)(hg:Gl X x)(hm:X.W.mg x=none)(hv:bootBuiltins x=some u)(h:Q u s)(hn:x≠"__name__")(hd:(x == ("__debug__":Str))=false):wpAny X.M X.A (eval (.Name x pos) X.env) Q E s:=by
 obtain⟨mb,h1,h2⟩:=I.ok.mo.bl;exact Calls.Name_function_global I.ok.kind hg (Calls.loadGlobal_builtin (by rw[I.ok.glob];exact I.ok.mo.gl.keeps I.bk) hm (by rw[I.ok.blt];exact h1.keeps I.bk) ((h2 x hn).trans hv) h) hd
theorem qdk{j}:Ev X (eval (.Constant (.int z) j pos) X.env) RV fun _ b=>.ok (.int z) b:=⟨fun _ _ _ _ _ _ _ I q=>wpAny_Constant_int (q.fin (I.tok _) ⟨_,rfl⟩)⟩
theorem e_bl{j}:Ev X (eval (.Constant (.bool z) j pos) X.env) RV fun _ b=>.ok (.bl z) b:=⟨fun _ _ _ _ _ _ _ I q=>Constant_bool (q.fin I rfl)⟩
theorem qdf{j}:Ev X (eval (.Constant .none j pos) X.env) RV fun _ b=>.ok .non b:=⟨fun _ _ _ _ _ _ _ I q=>Constant_none (q.fin I rfl)⟩
theorem qdd{j}:Ev X (eval (.Constant (.str z) j pos) X.env) RV fun _ b=>.ok (.str z) b:=⟨fun _ _ _ _ _ _ _ I q=>Calls.Constant_str (q.fin (I.tok _) ⟨_,rfl⟩)⟩
theorem e_gl{x:Str}{d:D}{u:Value}(hg:Gl X x)(hm:X.W.mg x=some u)(r:∀c,Le X.c₀ c->Rep X.W c d u)(hd:(x == ("__debug__":Str))=false):Ev X (eval (.Name x pos) X.env) RV fun _ b=>.ok d b:=⟨fun _ _ _ _ _ _ _ I q=>wp I hg hm (q.fin I (r _ I.un.le)) hd⟩
noncomputable abbrev G:=List D->Hb->Option (Res×Hb)
noncomputable def opR:Option (Res×Hb)->R Res
 |some (r,b)=>.ok r b
 |none=>.bad
structure Op(X:Cx)(t:iH->Sem Value)(g:G):Prop where
 h:∀p sc b c s us ds r b' Q Z,Inv X p sc b c s->Reps X.W c ds us->g ds b=some (r,b')->(∀u s' c',Inv X p sc b' c' s'->Le c c'->RR X p c' s' u r->Q u s')->wpAny X.M X.A (t us) Q Z s
noncomputable abbrev Op1(X:Cx)(t:Value->Sem Value)(g:G):Prop:=Op X (fun us=>t (us.getD 0 .none)) g
noncomputable abbrev Op2(X:Cx)(t:Value->Value->Sem Value)(g:G):Prop:=Op X (fun us=>t (us.getD 0 .none) (us.getD 1 .none)) g
theorem Op.go{t:iH->Sem Value}{g:G}{us:iH}{ds:List D}{Q:iE}(h:Op X t g)(I:Inv X p sc b c s)(r:Reps X.W c ds us)(q:Post X p sc Z c RR (opR (g ds b)) Q):wpAny X.M X.A (t us) Q Z s:=by
 cases e:g ds b with
 |none=>rw[e]at q;exact q.elim
 |some z=>rw[e]at q;exact h.h p sc b c s us ds z.1 z.2 Q Z I r e q
noncomputable def two(g:G)(f h:Sc->Hb->R D)(s:Sc)(b:Hb):R Res:=(f s b).bind fun x b=>(h s b).bind fun y b=>opR (g [x,y] b)
variable{fa fb:Sc->Hb->R D}
theorem qdp{op}{g:G}(ho:Op2 X (binaryOp op) g)(ha:Ev X (eval a X.env) RV fa)(hb:Ev X (eval e X.env) RV fb):Ev X (eval (.BinOp a op e pos) X.env) RR (two g fa fb):=⟨fun _ _ _ _ _ _ _ I q=>
 wpAny_BinOp (ha.run I q fun _ _ _ _ _ I _ r q=>hb.run I q fun _ _ _ _ _ I l k q=>ho.go I (.two (r.mono l) k) q)⟩
theorem e_un{op}{g:G}(ho:Op1 X (unaryOp op) g)(ha:Ev X (eval a X.env) RV fa):Ev X (eval (.UnaryOp op a pos) X.env) RR fun s b=>(fa s b).bind fun x b=>opR (g [x] b):=⟨fun _ _ _ _ _ _ _ I q=>
 UnaryOp_ (ha.run I q fun _ _ _ _ _ I _ r q=>ho.go I (.one r) q)⟩
theorem qdm{op}{g:G}(ho:Op2 X (compareOp op) g)(ha:Ev X (eval a X.env) RV fa)(hb:Ev X (eval e X.env) RV fb)(hm:behindInMarks op e=false):Ev X (eval (.Compare a [op] [e] pos) X.env) RR (two g fa fb):=⟨fun _ _ _ _ _ _ _ I q=>
 wpAny_Compare1 (ha.run I q fun _ _ _ _ _ I _ r q=>hb.run I q fun _ _ _ _ _ I l k q=>ho.go I (.two (r.mono l) k) q) hm⟩
end
theorem LstO.pl(h:LstO o us)(e:(s:Heap).get? a=some o):PlainL s a us.toArray:=by
 obtain⟨_,k,rfl⟩:=h;exact⟨_,k,e,rfl,rfl,rfl⟩
theorem TupO.scr(h:TupO o us):ScrO o us:=let⟨z,k,e⟩:=h;⟨z,by rw[e],k,by rw[e]⟩
theorem ScrO.tu(h:ScrO o us)(e:(s:Heap).get? a=some o):IsTup s a us.toArray:=let⟨_,h1,k,h2⟩:=h;⟨o,e,h1,k,h2⟩
theorem TupO.tu(h:TupO o us)(e:(s:Heap).get? a=some o):IsTup s a us.toArray:=h.scr.tu e
theorem KyR.is(fz:∀a o,(c:Co).t a=some (.frz o)->(h:Heap).get? a=some o):∀{k:KK}{u},KyR W c k u->(qH W.prog W.w).is h k u
 |.inl _,_,r=>r
 |.inr _,_,⟨a,o,us,e,h,h0,r⟩=>let⟨_,h1,k,h2⟩:=h0.scr;⟨a,e,o,us.toArray,k,fz _ _ h,h1,h2,by simpa using r⟩
theorem Repk.is(fz:∀a o,(c:Co).t a=some (.frz o)->(h:Heap).get? a=some o):∀{l xs},Repk W c l xs->∀x∈xs,(qH W.prog W.w).is h x.1 x.2.1
 |[],_,e,x,hx=>by cases e;cases hx
 |(k,d)::l,_,⟨v,u,r,e,q,_,t⟩,x,hx=>by
  cases e;rcases aw.mp hx with rfl|hx
  ·exact q.is fz
  ·exact t.is fz x hx
theorem DicO.at{h:Heap}(S:Sto W c b h)(q:DicO W o xs)(e:h.get? a=some o)(r:Repk W c l xs):DictA (qH W.prog W.w) h a xs:=let⟨_,nd,x,es,ep,h1,h2⟩:=q;⟨o,es,ep,e,x,h1,h2,r.is S.frz,nd⟩
theorem Sto.ny(S:Sto W c b h)(e:c.t a≠none):(a == sysModules)=false:=by
 rw[beq_eq_false_iff_ne];rintro rfl;cases q:c.t sysModules with
 |none=>exact e q
 |some x=>exact S.sys x q
section
variable{X:Cx}{p:Pin}{sc:Sc}{b:Hb}{c c':Co}{s:Shared}{Z:iE}{a e i:Expr}{es:iL}{pos:Pos}{fa fb:Sc->Hb->R D}{ft fu:Sc->Hb->R Bool}
noncomputable def truD(b:Hb):D->Option Bool
 |.non=>some false
 |.bl x=>some x
 |.int i=>some (i != 0)
 |.str y=>if y.length<=sizeLine then some ((y.length:Int) != 0)else none
 |.tup l=>some (!l.isEmpty)
 |d=>((qG b d).map fun l=>!l.isEmpty).or ((qv b d).map fun l=>!l.isEmpty)
theorem Xj(h:us.length=(l:List α).length):(!(us:List β).toArray.isEmpty)=!l.isEmpty:=by cases us <;> cases l <;> simp_all
theorem ZJ{d:D}{u:Value}{k:Bool}{Q:Bool->Shared->Prop}(I:Inv X p sc b c s)(r:Rep X.W c d u)(h:truD b d=some k)(q:∀s',Inv X p sc b c s'->Q k s'):wpAny X.M X.A (truthy u) Q Z s:=by
 have hl:=QG;have hz:sizeLine=16777216:=cu;have oth:((qG b d).map fun l=>!l.isEmpty).or ((qv b d).map fun l=>!l.isEmpty)=some k->wpAny X.M X.A (truthy u) Q Z s:=fun h=>by
  cases h1:qG b d with
  |some l=>
   rw[h1]at h;cases h;obtain⟨z,o,us,rfl,e,k,rs⟩:=I.st.lst r h1;exact wpAny_truthy_list (k.pl e).isList (by rw[au];have:=k.1;omega) (by rw[Xj rs.len];exact q _ (I.tok _))
  |none=>
   rw[h1]at h;obtain⟨l,h2,rfl⟩:=ah.mp (show(qv b d).map _=_ from h);obtain⟨z,o,xs,rfl,e,k,rs,n⟩:=I.st.dic r h2;refine Zh (I.st.ny n) (k.at I.st e rs) (by have:=k.1;omega) ?_;rw[show xs.isEmpty=l.isEmpty by have:=rs.len;cases xs <;> cases l <;> simp_all];exact q _ (I.tok _)
 cases d with
 |non=>cases h;cases r;exact truthy_none (q s I)
 |bl z=>cases h;cases r;exact bK (q s I)
 |int z=>cases h;obtain⟨t,rfl⟩:=r;exact PySem.P.truthy_int (q s I)
 |str z=>
  obtain⟨t,rfl⟩:=r;have h:(if z.length<=sizeLine then some ((z.length:Int) != 0)else none)=some k:=h
  split at h
  ·cases h;exact PySem.P.truthy_str (by omega) (q _ (I.tok _))
  ·cases h
 |tup l=>
  cases h;obtain⟨z,o,us,rfl,e,k,rs⟩:=I.st.tup r;exact truthy_tuple (k.tu e) (by rw[au];have:=k.1;omega) (by rw[Xj rs.len];exact q _ (I.tok _))
 |lst=>exact oth h
 |dic=>exact oth h
 |obj=>exact oth h
 |scr=>exact oth h
 |exn=>exact oth h
noncomputable abbrev ET(X:Cx)(e:Expr)(f:Sc->Hb->R Bool):Prop:=Ev X (isTrue e X.env (eval e X.env)) RB f
noncomputable abbrev EV(X:Cx)(e:Expr)(f:Sc->Hb->R D):Prop:=Ev X (eval e X.env) RV f
noncomputable abbrev ER(X:Cx)(e:Expr)(f:Sc->Hb->R Res):Prop:=Ev X (eval e X.env) RR f
noncomputable def tst(f:Sc->Hb->R D)(s:Sc)(b:Hb):R Bool:=(f s b).bind fun d b=>opt (truD b d) b
theorem qbq(h:EV X e fa)(he:∀wh,isTrue e X.env wh=(do let v <- wh;standAt e.pos;holding [v] (truthy v))):ET X e (tst fa):=⟨fun _ _ _ _ _ _ _ I q=>
 isTrue_plain (h.run I q fun _ _ _ _ _ I _ r q=>let⟨_,e,k⟩:=Post.opt q;ZJ I r e fun _ I=>k _ _ _ I .refl rfl) (he _)⟩
theorem qbr(h:ET X e ft):ET X (.UnaryOp .Not e pos) fun s b=>(ft s b).bind fun k b=>.ok (!k) b:=⟨fun _ _ _ _ _ _ _ I q=>isTrue_not (h.run I q fun _ _ _ _ _ I _ r q=>by cases r;exact q.fin I rfl)⟩
noncomputable def andT(f g:Sc->Hb->R Bool)(s:Sc)(b:Hb):R Bool:=(f s b).bind fun k b=>if k then g s b else .ok false b
noncomputable def orT(f g:Sc->Hb->R Bool)(s:Sc)(b:Hb):R Bool:=(f s b).bind fun k b=>if k then .ok true b else g s b
noncomputable abbrev EW(X:Cx)(e:Expr)(f:Sc->Hb->R Bool):Prop:=∀wh,Ev X (isTrue e X.env wh) RB f
theorem Yn(h:ET X a ft):EW X (.BoolOp .And [a] pos) ft:=fun _=>⟨fun p sc b c s Q Z I q=>isTrue_and (h.h p sc b c s _ _ I (by
 cases r:ft sc b with
 |ok d b=>rw[r]at q;intro u s z I l k;cases k;cases d <;> first|exact q _ _ _ I l rfl|exact isTrue_and_nil (q _ _ _ I l rfl)
 |exc x b=>rw[r]at q;exact q
 |bad=>rw[r]at q;exact q))⟩
theorem qbo(h:ET X a ft):EW X (.BoolOp .Or [a] pos) ft:=fun _=>⟨fun p sc b c s Q Z I q=>isTrue_or (h.h p sc b c s _ _ I (by
 cases r:ft sc b with
 |ok d b=>rw[r]at q;intro u s z I l k;cases k;cases d <;> first|exact q _ _ _ I l rfl|exact isTrue_or_nil (q _ _ _ I l rfl)
 |exc x b=>rw[r]at q;exact q
 |bad=>rw[r]at q;exact q))⟩
theorem w_and(h:ET X a ft)(k:EW X (.BoolOp .And (e::es) pos) fu):EW X (.BoolOp .And (a::e::es) pos) (andT ft fu):=fun wh=>⟨fun _ _ _ _ _ _ _ I q=>
 isTrue_and (h.run I q fun d _ _ _ _ I _ r q=>by cases r;cases d <;> first|exact(k wh).h _ _ _ _ _ _ _ I q|exact q.fin I rfl)⟩
theorem w_or(h:ET X a ft)(k:EW X (.BoolOp .Or (e::es) pos) fu):EW X (.BoolOp .Or (a::e::es) pos) (orT ft fu):=fun wh=>⟨fun _ _ _ _ _ _ _ I q=>
 isTrue_or (h.run I q fun d _ _ _ _ I _ r q=>by cases r;cases d <;> first|exact(k wh).h _ _ _ _ _ _ _ I q|exact q.fin I rfl)⟩
noncomputable def asB:D->Hb->R Bool
 |.bl k,b=>.ok k b
 |_,_=>.bad
theorem qa2{rel:Rl α β}{k:Bool->Hb->R β}{Q:α->Shared->Prop}{d:D}(h:Post X p sc Z c rel ((asB d b).bind k) Q):∃x,d=.bl x/\Post X p sc Z c rel (k x b) Q:=by
 cases d <;> first|exact⟨_,rfl,h⟩|exact h.elim
noncomputable def andV(f g:Sc->Hb->R D)(s:Sc)(b:Hb):R D:=(f s b).bind fun d b=>(asB d b).bind fun k b=>if k then g s b else .ok (.bl false) b
theorem qde{op}(h:EV X a fa):EV X (.BoolOp op [a] pos) fa:=⟨fun _ _ _ _ _ _ _ I q=>BoolOp_one (h.h _ _ _ _ _ _ _ I q)⟩
theorem qdq(h:EV X a fa)(k:EV X (.BoolOp .And (e::es) pos) fb):EV X (.BoolOp .And (a::e::es) pos) (andV fa fb):=⟨fun _ _ _ _ _ _ _ I q=>
 BoolOp_and (h.run I q fun d _ _ _ _ I _ r q=>by
  obtain⟨x,rfl,q⟩:=qa2 q;cases r;exact bK (by cases x <;> first|exact k.h _ _ _ _ _ _ _ I q|exact q.fin I rfl))⟩
noncomputable def cmpB(g:G)(x y:D)(b:Hb):R Bool:=match g [x,y] b with
 |some (.v (.bl k),b)=>.ok k b
 |_=>.bad
theorem xi{op}{g:G}{rel:Rl α β}{k:Bool->Hb->R β}{Q:α->Shared->Prop}{x y:D}{u v:Value}{P:iE}(ho:Op2 X (compareOp op) g)(I:Inv X p sc b c s)(r:Rep X.W c x u)(r':Rep X.W c y v)(h:Post X p sc Z c rel ((cmpB g x y b).bind k) Q)
  (cont:∀z b' s' c',Inv X p sc b' c' s'->Le c c'->Post X p sc Z c' rel (k z b') Q->P (.bool z) s'):wpAny X.M X.A (compareOp op u v) P Z s:=by
 unfold cmpB at h
 split at h
 ·rename_i z b' e
  refine ho.h p sc b c s [u,v] [x,y] _ b' P Z I (.two r r') e fun w s' c' I l q=>?_
  cases (show w=.bool z from q);exact cont z b' s' c' I l (Post.le l h)
 ·exact h.elim
theorem qbs{op}{g:G}(ho:Op2 X (compareOp op) g)(ha:EV X a fa)(hb:EV X e fb)(hm:behindInMarks op e=false):ET X (.Compare a [op] [e] pos) fun s b=>(fa s b).bind fun x b=>(fb s b).bind fun y b=>(cmpB g x y b).bind .ok:=⟨fun _ _ _ _ _ _ _ I q=>
 wpAny_isTrue_Compare1 (ha.run I q fun _ _ _ _ _ I _ r q=>hb.run I q fun _ _ _ _ _ I l k q=>xi ho I (r.mono l) k q fun _ _ _ _ I _ q=>bK (q.fin I rfl)) hm⟩
inductive Ch(X:Cx):List CmpOp->iL->List (G×(Sc->Hb->R D))->Prop where
 |one (ho:Op2 X (compareOp op) g) (he:EV X y f):Ch X [op] [y] [(g,f)]
 |cons (ho:Op2 X (compareOp op) g) (he:EV X y f) (t:Ch X (o::ops) (z::l) fs):Ch X (op::o::ops) (y::z::l) ((g,f)::fs)
noncomputable def chn(s:Sc):List (G×(Sc->Hb->R D))->D->Hb->R Bool
 |[],_,_=>.bad
 |[(g,f)],x,b=>(f s b).bind fun y b=>(cmpB g x y b).bind .ok
 |(g,f)::r,x,b=>(f s b).bind fun y b=>(cmpB g x y b).bind fun k b=>if k then chn s r y b else .ok false b
theorem Q6(h:Ch X o l fs):chn sc ((g,f)::fs) x b=(f sc b).bind fun y b=>(cmpB g x y b).bind fun k b=>if k then chn sc fs y b else .ok false b:=by
 cases h <;> rfl
theorem W1{ops es fs}(h:Ch X ops es fs){u x}{Q:Bool->Shared->Prop}(I:Inv X p sc b c s)(r:Rep X.W c x u)(q:Post X p sc Z c RB (chn sc fs x b) Q):wpAny X.M X.A (testChain pos u ops (evalEach es X.env)) Q Z s:=by
 induction h generalizing s c b x u with
 |one ho he=>exact test_last (he.run I q fun _ _ _ _ _ I l k q=>xi ho I (r.mono l) k q fun _ _ _ _ I _ q=>bK (q.fin I rfl))
 |cons ho he t ih=>
  rw[Q6 t]at q;exact test_link (he.run I q fun _ _ _ _ _ I l k q=>xi ho I (r.mono l) k q fun z _ _ _ I l q=>bK (by cases z <;> first|exact ite_ff (q.fin I rfl)|exact ite_tt (ih I (k.mono l) q)))
theorem qaf{ops es fs}(h:Ch X ops es fs){u x}{Q:iE}(I:Inv X p sc b c s)(r:Rep X.W c x u)(q:Post X p sc Z c RV ((chn sc fs x b).bind fun k b=>.ok (.bl k) b) Q):wpAny X.M X.A (compareChain pos u ops (evalEach es X.env)) Q Z s:=by
 have as:∀{α β γ:Type}(r:R α)(k:α->Hb->R β)(l:β->Hb->R γ),(r.bind k).bind l=r.bind fun a b=>(k a b).bind l:=fun r k l=>by cases r <;> rfl
 induction h generalizing s c b x u with
 |one ho he=>exact chain_last (he.run I (by unfold chn at q;rw[as]at q;exact q) fun _ _ _ _ _ I l k q=>xi ho I (r.mono l) k (by rw[as]at q;exact q) fun _ _ _ _ I _ q=>q.fin I rfl)
 |cons ho he t ih=>
  rw[Q6 t,as]at q;exact chain_link (he.run I q fun _ _ _ _ _ I l k q=>xi ho I (r.mono l) k (by rw[as]at q;exact q) fun z _ _ _ I l q=>bK (by cases z <;> first|exact ite_ff (q.fin I rfl)|exact ite_tt (ih I (k.mono l) q)))
theorem XG{o1 o2 ops e1 e2 es fs}(ha:EV X a fa)(h:Ch X (o1::o2::ops) (e1::e2::es) fs)(hm:lastMarks (o1::o2::ops) (e1::e2::es)=false):ET X (.Compare a (o1::o2::ops) (e1::e2::es) pos) fun s b=>(fa s b).bind fun x b=>chn s fs x b:=⟨fun _ _ _ _ _ _ _ I q=>
 isTrue_chain (ha.run I q fun _ _ _ _ _ I _ r q=>W1 h I r q) hm⟩
theorem WQ{o1 o2 ops e1 e2 es fs}(ha:EV X a fa)(h:Ch X (o1::o2::ops) (e1::e2::es) fs)(hm:lastMarks (o1::o2::ops) (e1::e2::es)=false):EV X (.Compare a (o1::o2::ops) (e1::e2::es) pos) fun s b=>(fa s b).bind fun x b=>(chn s fs x b).bind fun k b=>.ok (.bl k) b:=⟨fun _ _ _ _ _ _ _ I q=>
 Compare_chain (ha.run I q fun _ _ _ _ _ I _ r q=>qaf h I r q) hm⟩
end
section
variable{X:Cx}{p:Pin}{sc:Sc}{b:Hb}{c c':Co}{s:Shared}{Z:iE}{a e i:Expr}{es:iL}{pos:Pos}{fa fb:Sc->Hb->R D}{fs:Sc->Hb->R (List D)}
theorem Inv.push{t'}(I:Inv X p sc b c s)(o:Obj):Inv X p sc b c { s with heap:=s.heap.push o,toks:=t' }:=I.kept fun _ _ q=>af _ q
theorem Inv.nlst{t' l us}(I:Inv X p sc b c s)(r:Reps X.W c l us)(z:us.length<=sizeLine):RR X p c { s with heap:=s.heap.push { cls:=.type "list",data:=.seq us.toArray },toks:=t' } (.ref s.heap.objs.size) (.n (.lst false l)):=
 ⟨_,rfl,I.fpn (aI _),_,us,ao _ rfl,⟨z,0,rfl⟩,r⟩
theorem Inv.ntup{t' l us k}(I:Inv X p sc b c s)(r:Reps X.W c l us)(z:us.length<=sizeLine):∃c',Inv X p sc b c' { s with heap:=s.heap.push { cls:=.type "tuple",data:=.seq us.toArray k },toks:=t' }/\Le c c'/\Rep X.W c' (.tup l) (.ref s.heap.objs.size):=by
 obtain⟨I',l'⟩:=(I.push (t':=t') { cls:=.type "tuple",data:=.seq us.toArray k }).fz (I.fpn (aI _)) (ao _ rfl);exact⟨_,I',l',_,_,us,rfl,qJ,⟨z,k,rfl⟩,r.mono l'⟩
noncomputable def notStar:Expr->Bool
 |.Starred ..=>false
 |_=>true
theorem qQ(h:notStar e=true):starEach (e::es) X.env=(false,eval e X.env)::starEach es X.env:=by
 cases e <;> first|rfl|cases h
noncomputable abbrev EA(X:Cx)(es:iL)(f:Sc->Hb->R (List D)):Prop:=∀pos,Ev X (spliced (backTo pos (starEach es X.env))) RA f
theorem qd7:EA X [] fun _ b=>.ok [] b:=fun _=>⟨fun _ _ _ _ _ _ _ I q=>dz (q.fin I rfl)⟩
noncomputable def qac(f:Sc->Hb->R D)(fs:Sc->Hb->R (List D))(s:Sc)(b:Hb):R (List D):=(f s b).bind fun d b=>(fs s b).bind fun l b=>.ok (d::l) b
theorem qa5(h:EV X e fa)(k:EA X es fs)(hs:notStar e=true):EA X (e::es) (qac fa fs):=fun pos=>⟨fun _ _ _ _ s _ _ I q=>by
 rw[qQ hs];show wpAny _ _ (spliced ((false,eval e X.env)::backTo pos (starEach es X.env))) _ _ s;exact bU (h.run I q fun _ _ _ _ _ I _ r q=>(k pos).run I q fun _ _ _ _ _ I l rs q=>q.fin I ⟨_,_,rfl,r.mono l,rs⟩)⟩
noncomputable def tupF(fs:Sc->Hb->R (List D))(s:Sc)(b:Hb):R D:=(fs s b).bind fun l b=>if l.length<=sizeLine then .ok (.tup l) b else .bad
noncomputable def lstF(fs:Sc->Hb->R (List D))(s:Sc)(b:Hb):R Res:=(fs s b).bind fun l b=>if l.length<=sizeLine then .ok (.n (.lst false l)) b else .bad
theorem qdc{k}(h:EA X es fs):EV X (.Tuple es k pos) (tupF fs):=⟨fun _ _ _ _ _ _ _ I q=>wpAny_Tuple_spliced ((h pos).run I q fun _ _ _ _ _ I _ r q=>by
 split at q
 ·rename_i z
  rw[<- Reps.len r]at z;obtain⟨c',I',l',r'⟩:=I.ntup r z;exact⟨z,q _ _ _ I' l' r'⟩
 ·exact q.elim)⟩
theorem qdg(h:EA X es fs):ER X (.List es pos) (lstF fs):=⟨fun _ _ _ _ _ _ _ I q=>wpAny_List_spliced ((h pos).run I q fun _ _ _ _ _ I _ r q=>by
 split at q
 ·rename_i z
  rw[<- Reps.len r]at z;exact⟨z,q.fin (I.push _) (I.nlst r z)⟩
 ·exact q.elim)⟩
theorem dic0(W:Wd):DicO W { cls:=.type "dict",data:=.dict #[] } []:=⟨bz _,List.nodup_nil,⟨rfl,rfl,rfl⟩,#[],0,rfl,rfl⟩
theorem uX:ER X (.Dict [] [] pos) fun _ b=>.ok (.n (.dic false [])) b:=⟨fun _ _ _ _ _ _ _ I q=>wpAny_Dict_empty (q.fin (I.push _) ⟨_,rfl,I.fpn (aI _),_,[],ao _ rfl,dic0 _,rfl⟩)⟩
noncomputable def lk(l:List (KK×D))(k:KK):Option D:=(l.find? fun x=>decide (x.1=k)).map (·.2)
noncomputable def putD(l:List (KK×D))(k:KK)(d:D):List (KK×D):=if(lk l k).isSome then l.map (fun x=>if x.1=k then(x.1,d)else x)else l++[(k,d)]
noncomputable def xA(l:List (KK×D))(k:KK):List (KK×D):=l.filter fun x=>decide (x.1≠k)
theorem Repk.atA:∀{l xs},Repk W c l xs->∀k:KK,lk l k=none/\atA xs k=none\/∃d v u,lk l k=some d/\atA xs k=some (v,u)/\Rep W c d u
 |[],_,e,k=>by cases e;exact .inl ⟨rfl,rfl⟩
 |(k',d)::l,_,⟨v,u,r,e,_,h,t⟩,k=>by
  cases e;unfold lk L2.atA;rw[gA,gA]
  by_cases hk:k'=k
  ·exact .inr ⟨d,v,u,by simp[hk],by simp[hk],h⟩
  ·simpa[hk,lk,L2.atA] using t.atA k
noncomputable def ixI(l:List D):D->Option D
 |.int i=>atI l i
 |_=>none
noncomputable def ixS(z:Str):D->Option D
 |.int i=>if z.length<=sizeLine then(atI z.cps.toList i).map fun c=>.str ⟨#[c]⟩else none
 |_=>none
noncomputable def ixD(b:Hb):D->D->Option D
 |.str z,y=>ixS z y
 |.tup l,y=>ixI l y
 |x,y=>((qG b x).bind fun l=>ixI l y).or ((qv b x).bind fun l=>(dKK y).bind fun k=>lk l k)
theorem Xc{l:List D}{y d:D}{us:iH}{v:Value}(h:ixI l y=some d)(r:Reps W c l us)(q:Rep W c y v):∃i t u j,v=.int i t/\seqIndex? i us.length=some j/\us[j]?=some u/\Rep W c d u/\-(us.length:Int)<=i/\i<us.length:=by
 cases y with
 |int i=>
  obtain⟨t,rfl⟩:=q;obtain⟨j,h1,h2,h3,h4,h5⟩:=Ky (show atI l i=some d from h);obtain⟨u,h6,h7⟩:=r.at h2;rw[<- r.len]at h1 h4 h5;exact⟨i,t,u,j,rfl,h1,h6,h7,h4,h5⟩
 |_=>cases h
theorem e_ix(hu:X.A.units+64<cLine)(ha:EV X a fa)(hb:EV X i fb)(hs:KJ i):EV X (.Subscript a i pos) fun s b=>(fa s b).bind fun x b=>(fb s b).bind fun y b=>opt (ixD b x y) b:=⟨fun p sc b c s Q Z I q=>Subscript_ (ha.run I q fun x _ u _ _ I _ r q=>hb.run I q fun y b v s c I l k q=>by
 obtain⟨d,e,q⟩:=Post.opt q;have r:Rep X.W c x u:=Rep.mono l r;have hl:=QG;have go:=fun w h=>q w s c I .refl h
 have oth:((qG b x).bind fun l=>ixI l y).or ((qv b x).bind fun l=>(dKK y).bind fun k=>lk l k)=some d->wpAny X.M X.A (subscriptTail a i u v) Q Z s:=fun e=>by
  cases h1:(qG b x).bind fun l=>ixI l y with
  |some d'=>
   rw[h1]at e;cases e;obtain⟨l,h2,h3⟩:=ai.mp h1;obtain⟨z,o,us,rfl,ho,z1,rs⟩:=I.st.lst r h2;obtain⟨i',t,w,j,rfl,g1,g2,g3,g4,g5⟩:=Xc h3 rs k;have pl:=(z1.pl ho).isList;have hz:=z1.1
   by_cases h0:0<=i'
   ·exact item_listR pl h0 (by omega) (by rw[seqIndex_of h0 g5]at g1;rw[bM g1];simpa using g2) (go w g3) (hs _ _)
   ·exact subscriptTail_builtinR (x:=w) pl.typeIs slot_list_getitem.lookup (wpAny_getItem_list_neg (Q:=fun r s'=>r=w/\Q r s') pl (by omega) (by rw[au];exact g4) (by omega) (by rw[au];rw[seqIndex_neg (by omega) g4]at g1;rw[bM g1];simpa using g2) ⟨rfl,go w g3⟩) (hs _ _)
  |none=>
   rw[h1]at e;obtain⟨l,h2,h3⟩:=ai.mp (show(qv b x).bind _=some d from e);obtain⟨k',h4,h5⟩:=ai.mp h3;obtain⟨z,o,xs,rfl,ho,z1,rs,n⟩:=I.st.dic r h2;rcases rs.atA k' with⟨g,_⟩|⟨d',w,u',g1,g2,g3⟩
   ·rw[g]at h5;cases h5
   ·rw[g1]at h5;cases h5
    have dd:=z1.at I.st ho rs;exact tail_any (ops:=[.ref z,v]) dd.typeIs PySem.F.slot_dict_getitem.lookup (Vp (by show X.A.units+1<cLine;omega) ((kj k h4).is I.st.frz) dd g2 (q _ _ c (I.tok _) .refl g3)) (hs _ _)
 cases x with
 |str z=>
  obtain⟨t,rfl⟩:=r;cases y with
  |int j=>
   obtain⟨t',rfl⟩:=k;have e:(if z.length<=sizeLine then(atI z.cps.toList j).map fun c=>D.str ⟨#[c]⟩else none)=some d:=e
   split at e
   ·rename_i hz
    obtain⟨ch,h1,rfl⟩:=ah.mp e;obtain⟨j',g1,g2,g3,g4,g5⟩:=Ky h1;have hl':z.cps.toList.length=z.length:=by simp[Str.length]
    rw[hl']at g1 g4 g5;exact tail_any (typeIs_str s z t) slot_str_getitem.lookup (getItem_str (c:=ch) (by rw[aZ (by omega),aZ (by omega),Bool.or_false]) (by rw[g1];simpa using g2) (q _ _ c (I.tok _) .refl ⟨_,rfl⟩)) (hs _ _)
   ·cases e
  |_=>cases e
 |tup l=>
  obtain⟨z,o,us,rfl,ho,z1,rs⟩:=I.st.tup r;obtain⟨i',t,w,j,rfl,g1,g2,g3,g4,g5⟩:=Xc e rs k;have hz:=z1.1;exact subscriptTail_builtinR (x:=w) (z1.tu ho).typeIs ee.lookup (getItem_tuple (j:=j) (Q:=fun r s'=>r=w/\Q r s') (z1.tu ho) (by omega) (by omega) (by rw[au];exact g1) (by simpa using g2) ⟨rfl,go w g3⟩) (hs _ _)
 |lst=>exact oth e
 |dic=>exact oth e
 |obj=>exact oth e
 |_=>cases e)⟩
noncomputable abbrev EO(X:Cx)(o:Option Expr)(f:Sc->Hb->R (Option Int)):Prop:=Ev X (evalPart o X.env) RI f
theorem YO:EO X none fun _ b=>.ok none b:=⟨fun _ _ _ _ _ _ _ I q=>by rw[evalPart_none];exact ae (q.fin I .none)⟩
noncomputable def asI:D->Hb->R (Option Int)
 |.int i,b=>.ok (some i) b
 |_,_=>.bad
theorem YN(h:EV X e fa):EO X (some e) fun s b=>(fa s b).bind asI:=⟨fun _ _ _ _ _ _ _ I q=>by
 rw[evalPart_some];refine h.run I q fun d _ _ _ _ I _ r q=>?_
 cases d with
 |int i=>obtain⟨t,rfl⟩:=r;exact q.fin I (.int _ t)
 |_=>exact q.elim⟩
noncomputable def cutD(l:List α)(lo hi:Option Int):List α:=(l.drop (HT.sIx l.length 0 lo)).take (HT.sIx l.length l.length hi - HT.sIx l.length 0 lo)
theorem Xl(l:List α)(lo hi):(cutD l lo hi).length<=l.length:=by unfold cutD;rw[gu,List.length_drop];omega
theorem Kk(r:Reps W c l us)(lo hi):Reps W c (cutD l lo hi) (cutD us lo hi):=by
 unfold cutD;rw[r.len];exact(r.drop _).take _
noncomputable def slD(b:Hb)(lo hi:Option Int):D->Option Res
 |.tup l=>some (.v (.tup (cutD l lo hi)))
 |d=>(qG b d).map fun l=>.n (.lst false (cutD l lo hi))
theorem ZI{M:Model}{prog w A E}{s:Shared}{t sl:Addr}{items:iJ}{vl vu:Value}{lo hi:Option Int}{Q:iE}(ht:IsTup s.heap t items)(hs:s.heap.IsSliceOf sl vl vu .none)(pl:IsPart vl lo)(pu:IsPart vu hi)
  (hw:HT.sIx items.size 0 lo=0/\HT.sIx items.size items.size hi=items.size)(h:Q (.ref t) s):wpAny (model prog w) A (getItem (.ref t) (.ref sl)) Q E s:=by
 obtain⟨os,hos,hcs,hds⟩:=id hs;have hTs:s.TypeIs (.ref sl) "slice":=⟨os,hos,hcs⟩;unfold getItem
 try with_reducible refine aK ?_
 first|refine aa (ae ?_)|skip
 refine aa (fR ht.typeIs (by decide) ?_);refine aa (bp (name:=Str.ofString "__getitem__") ht.typeIs ee (bj ee ht.typeIs entry_tuple_getitem ?_ (args_tuple_getitem _ _)));show wpAny _ _ (Builtin.Tuple.tupleItemsOf (.ref t) >>= _) _ _ s;refine aa (tupleItemsOf_ ht (aa (gf hTs ?_)));rw[aE (by decide)];refine aa (HT.sliceApplied_gen hs pl pu ?_);show wpAny _ _ (if(((HT.sIx items.size 0 lo:Nat):Int) == 0 && (1:Int) == 1 && (HT.sIx items.size items.size hi - HT.sIx items.size 0 lo) == items.size)=true then _ else _) _ _ s;rw[hw.1,hw.2,aE (by simp)];refine aa (show wpAny _ _ (do return (<- typeOf (.ref t)) == .type "tuple") _ _ s from aa (gf ht.typeIs (ae ?_)));rw[aE (by decide)];exact aa (cv (ae ⟨_,rfl,ae h⟩))
theorem e_sl{lo hi:Option Expr}{fl fh:Sc->Hb->R (Option Int)}{p2:Pos}(he:EV X e fa)(hl:EO X lo fl)(hh:EO X hi fh):ER X (.Subscript e (.Slice lo hi none p2) pos) fun s b=>(fa s b).bind fun x b=>(fl s b).bind fun l b=>(fh s b).bind fun h b=>opt (slD b l h x) b:=⟨fun p sc b c s Q Z I q=>by
 refine Subscript_ (he.run I q fun x _ v _ c1 I _ r q=>wpAny_Slice (hl.run I q fun l _ vl _ c2 I l2 pl q=>hh.run I q fun h b vu s c I l3 pu q=>?_));rw[evalPart_none];refine ae ?_;obtain⟨d,e1,k⟩:=Post.opt q;have r:Rep X.W c x v:=Rep.mono (l2.trans l3) r;have fin:∀{T id}{s':Shared},s'.TypeIs v T->typeLookup (.type T) "__getitem__"=pure (some (.builtin id))->wpAny X.M X.A (getItem v (.ref s.heap.objs.size)) Q Z s'->wpAny X.M X.A (subscriptTail e (.Slice lo hi none p2) v (.ref s.heap.objs.size)) Q Z s':=fun ht hT hg=>tail_any (ops:=[.ref s.heap.objs.size,v]) ht hT hg (by with_unfolding_all rfl)
 have I4:=I.push (t':=s.toks) { cls:=.type "slice",data:=.fields #[vl,vu,.none] };have hs:(s.heap.push { cls:=.type "slice",data:=.fields #[vl,vu,.none] }).IsSliceOf s.heap.objs.size vl vu .none:=Heap.IsSliceOf.new ..;have lst:(qG b x).map (fun z=>Res.n (.lst false (cutD z l h)))=some d->wpAny X.M X.A (subscriptTail e (.Slice lo hi none p2) v (.ref s.heap.objs.size)) Q Z { s with heap:=s.heap.push { cls:=.type "slice",data:=.fields #[vl,vu,.none] } }:=fun e2=>by
  obtain⟨z,h1,rfl⟩:=ah.mp e2;obtain⟨y,o,us,rfl,ho,z1,rs⟩:=I4.st.lst r h1;have pl':=(z1.pl ho).isList;refine fin pl'.typeIs slot_list_getitem.lookup (wpAny_getItem_list_slice pl' hs pl pu .none (by simp) ?_ (by rw[au];exact z1.1));rw[wc];exact k _ _ _ (I4.push _) .refl (I4.nlst (Kk rs l h) (ba (Xl us l h) z1.1))
 cases x with
 |tup z=>
  cases e1;obtain⟨y,o,us,rfl,ho,z1,rs⟩:=I4.st.tup r;have tu:=z1.tu ho
  by_cases hw:HT.sIx us.toArray.size 0 l=0/\HT.sIx us.toArray.size us.toArray.size h=us.toArray.size
  ·refine fin tu.typeIs ee.lookup (ZI (M:=X.M) tu hs pl pu hw (k _ _ _ I4 .refl ?_))
   have e:cutD z l h=z:=by
    rw[au,rs.len]at hw;unfold cutD;rw[hw.1,hw.2,i0,List.drop_zero,List.take_length]
   show Rep X.W c (.tup (cutD z l h)) _;rw[e];exact r
  ·refine fin tu.typeIs ee.lookup (HT.getItem_tuple_cut tu hs pl pu hw ?_ (by rw[au];exact z1.1))
   obtain⟨c',I',l',r'⟩:=I4.ntup (t':=s.toks) (k:=0) (Kk rs l h) (ba (Xl us l h) z1.1);simp only[cutD,au]at I' ⊢;exact k _ _ _ I' l' r'
 |lst=>exact lst e1
 |obj=>exact lst e1
 |_=>cases e1⟩
end
inductive Out where
 |nx (s:Sc) (b:Hb)|rt (r:Res) (b:Hb)|bk (s:Sc) (b:Hb)|ct (s:Sc) (b:Hb)|ex (x:Nat) (s:Sc) (b:Hb)|bad
noncomputable def eO(r:R α)(s:Sc)(k:α->Hb->Out):Out:=match r with
 |.ok a b=>k a b
 |.exc x b=>.ex x s b
 |.bad=>.bad
noncomputable def sq(o:Out)(k:Sc->Hb->Out):Out:=match o with
 |.nx s b=>k s b
 |o=>o
noncomputable def FR(X:Cx)(p:Pin)(c:Co)(s:Shared):Flow->Out->Prop
 |.next,.nx sc b=>Inv X p sc b c s
 |.brk,.bk sc b=>Inv X p sc b c s
 |.cont,.ct sc b=>Inv X p sc b c s
 |.ret u,.rt r b=>(∃sc,Inv X p sc b c s)/\RR X p c s u r
 |_,_=>False
noncomputable def PoS(X:Cx)(p:Pin)(Z:iE)(c:Co)(o:Out)(Q:Flow->Shared->Prop):Prop:=match o with
 |.ex x sc b=>∀a s' c',Inv X p sc b c' s'->Le c c'->Fly X p c' s' a x->Z (.ref a) s'
 |.bad=>False
 |o=>∀f s' c',Le c c'->FR X p c' s' f o->Q f s'
structure Sv(X:Cx)(t:Sem Flow)(f:Sc->Hb->Out):Prop where
 h:∀p sc b c s Q Z,Inv X p sc b c s->PoS X p Z c (f sc b) Q->wpAny X.M X.A t Q Z s
noncomputable abbrev ES(X:Cx)(st:Stmt)(f:Sc->Hb->Out):Prop:=Sv X (exec st X.env) f
noncomputable abbrev ESs(X:Cx)(l:List Stmt)(f:Sc->Hb->Out):Prop:=Sv X (execs l X.env) f
section
variable{X:Cx}{p:Pin}{sc:Sc}{b:Hb}{c c':Co}{s:Shared}{Z:iE}{a e i o:Expr}{es:iL}{pos pos':Pos}{fa fb fo:Sc->Hb->R D}{fr:Sc->Hb->R Res}{ft:Sc->Hb->R Bool}{fs gs:Sc->Hb->Out}{st:Stmt}{xs ys:List Stmt}{Q:Flow->Shared->Prop}
theorem PoS.le{o:Out}(l:Le c c')(h:PoS X p Z c o Q):PoS X p Z c' o Q:=by
 cases o with
 |bad=>exact h
 |ex x s b=>exact fun a s z I k=>h a s z I (l.trans k)
 |_=>exact fun f s z k=>h f s z (l.trans k)
theorem PoS.nx(h:PoS X p Z c (.nx sc b) Q)(I:Inv X p sc b c s):Q .next s:=h .next s c .refl I
theorem Ev.runS{t:Sem α}{rel:Rl α β}{f:Sc->Hb->R β}{k:β->Hb->Out}{P:α->Shared->Prop}(he:Ev X t rel f)(I:Inv X p sc b c s)(h:PoS X p Z c (eO (f sc b) sc k) Q)
  (cont:∀d b u s c',Inv X p sc b c' s->Le c c'->rel X p c' s u d->PoS X p Z c' (k d b) Q->P u s):wpAny X.M X.A t P Z s:=by
 refine he.h p sc b c s P Z I ?_;cases r:f sc b with
 |ok d b=>rw[r]at h;exact fun u s z I l k=>cont d b u s z I l k (PoS.le l h)
 |exc x b=>rw[r]at h;exact h
 |bad=>rw[r]at h;exact h
theorem qby:ESs X [] fun s b=>.nx s b:=⟨fun _ _ _ _ _ _ _ I q=>gB (q.nx I)⟩
theorem Sv.seq{t:Sem Flow}{P:Flow->Shared->Prop}(h:Sv X t fs)(I:Inv X p sc b c s)(q:PoS X p Z c (sq (fs sc b) gs) Q)(k:∀sc b s c,Inv X p sc b c s->PoS X p Z c (gs sc b) Q->P .next s)(k':∀f s,f≠.next->Q f s->P f s):wpAny X.M X.A t P Z s:=by
 refine h.h p sc b c s P Z I ?_;cases r:fs sc b with
 |nx sc' b'=>
  rw[r]at q;intro f s c' l fr;cases f with
  |next=>exact k sc' b' s c' fr (PoS.le l q)
  |_=>exact fr.elim
 |ex=>rw[r]at q;exact q
 |bad=>rw[r]at q;exact q
 |rt=>rw[r]at q;intro f s c' l fr;cases f <;> first|exact fr.elim|exact k' _ _ (by simp) (q _ _ _ l fr)
 |bk=>rw[r]at q;intro f s c' l fr;cases f <;> first|exact fr.elim|exact k' _ _ (by simp) (q _ _ _ l fr)
 |ct=>rw[r]at q;intro f s c' l fr;cases f <;> first|exact fr.elim|exact k' _ _ (by simp) (q _ _ _ l fr)
theorem YD(h:ES X st fs)(k:ESs X xs gs):ESs X (st::xs) fun s b=>sq (fs s b) gs:=⟨fun _ _ _ _ _ _ _ I q=>iw (h.seq I q (fun _ _ _ _ I q=>k.h _ _ _ _ _ _ _ I q) fun f s n q=>by cases f <;> first|exact absurd rfl n|exact q)⟩
theorem Inv.quiet(I:Inv X p sc b c s):interactive X.env=false:=by simp[interactive,I.ok.kind]
theorem YC(h:ER X e fr)(hs:swapsWith e none pos.line X.env=pure false):ES X (.Expr e pos) fun s b=>eO (fr s b) s fun _ b=>.nx s b:=⟨fun _ _ _ _ _ _ _ I q=>wpAny_Expr_any (h.runS I q fun _ _ _ _ _ I _ _ q=>q.nx I) I.quiet hs⟩
theorem qbw(h:ER X e fr):ES X (.Return (some e) pos) fun s b=>eO (fr s b) s .rt:=⟨fun _ _ _ _ _ _ _ I q=>wpAny_Return_some (h.runS I q fun _ _ _ s c I _ r q=>q (.ret _) s c .refl ⟨⟨_,I⟩,r⟩)⟩
theorem s_if(h:ET X e ft)(ha:ESs X xs fs)(hb:ESs X ys gs):ES X (.If e xs ys pos) fun s b=>eO (ft s b) s fun k b=>if k then fs s b else gs s b:=⟨fun _ _ _ _ _ _ _ I q=>
 wpAny_If (h.runS I q fun d _ _ _ _ I _ r q=>by cases r;cases d <;> first|exact ha.h _ _ _ _ _ _ _ I q|exact hb.h _ _ _ _ _ _ _ I q)⟩
mutual
inductive Tg where
 |nm (i:Nat)|tp (ts:Tgs)
inductive Tgs where
 |nil|cons (t:Tg) (ts:Tgs)
end
mutual
noncomputable def asg:Tg->D->Sc->Option Sc
 |.nm i,d,s=>some (s.set i (some d))
 |.tp ts,.tup l,s=>asgs ts l s
 |.tp ts,.scr l,s=>asgs ts l s
 |.tp _,_,_=>none
noncomputable def asgs:Tgs->List D->Sc->Option Sc
 |.nil,[],s=>some s
 |.cons t ts,d::l,s=>(asg t d s).bind (asgs ts l)
 |_,_,_=>none
end
structure Nm(X:Cx)(x:Str)(i:Nat):Prop where
 nd:X.N.Nodup
 at_:X.N[i]?=some x
 own:Own X x
structure EG(X:Cx)(tg:Expr)(t:Tg):Prop where
 h:∀p sc b c s sc' u d Q Z,Inv X p sc b c s->Rep X.W c d u->asg t d sc=some sc'->(∀s',Inv X p sc' b c s'->Q () s')->wpAny X.M X.A (assign tg X.env u) Q Z s
structure EGs(X:Cx)(tgs:iL)(ts:Tgs):Prop where
 h:∀p sc b c s sc' us l Q Z,Inv X p sc b c s->Reps X.W c l us->asgs ts l sc=some sc'->(∀s',Inv X p sc' b c s'->Q () s')->wpAny X.M X.A (assignInOrder ((assignEach tgs X.env).map (·.2)) us) Q Z s
theorem uG{x:Str}{i:Nat}(h:Nm X x i):EG X (.Name x pos) (.nm i):=⟨fun p sc b c s sc' u d Q Z I r e q=>by cases (show some _=some sc' from e);exact wpAny_assign_Name (store I h.nd h.at_ h.own r q)⟩
theorem uE:EGs X [] .nil:=⟨fun p sc b c s sc' us l Q Z I r e q=>by
 cases l with
 |nil=>cases (show some sc=some sc' from e);cases r;exact assignInOrder_nil (q s I)
 |cons=>cases e⟩
noncomputable def okTg:Expr->Bool
 |.Name ..=>true
 |.Tuple ..=>true
 |_=>false
theorem WE{tg tgs t ts}(h1:EG X tg t)(h2:EGs X tgs ts)(hs:okTg tg=true):EGs X (tg::tgs) (.cons t ts):=⟨fun p sc b c s sc' us l Q Z I r e q=>by
 cases l with
 |nil=>cases e
 |cons d l=>
  obtain⟨u,us,rfl,r,rs⟩:=r;obtain⟨sc1,e1,e2⟩:=ai.mp (show(asg t d sc).bind (asgs ts l)=some sc' from e);have hs':(assignEach (tg::tgs) X.env).map (·.2)=assign tg X.env::(assignEach tgs X.env).map (·.2):=by cases tg <;> first|rfl|cases hs
  rw[hs'];exact assignInOrder_cons (h1.h _ _ _ _ _ _ _ _ _ _ I r e1 fun s' I'=>h2.h _ _ _ _ _ _ _ _ _ _ I' rs e2 q)⟩
theorem qcx{es:iL}{k ts}(hc:X.calm=true)(h:EGs X es ts)(hst:(assignEach es X.env).findIdx? (·.1)=none)(hn:(assignEach es X.env).length=es.length)(hl:∀sc sc' l,asgs ts l sc=some sc'->l.length=es.length):EG X (.Tuple es k pos) (.tp ts):=⟨fun p sc b c s sc' u d Q Z I r e q=>by
 have go:∀l,(∃a o us,u=.ref a/\c.t a=some (.frz o)/\ScrO o us/\Reps X.W c l us)->asgs ts l sc=some sc'->wpAny X.M X.A (assign (.Tuple es k pos) X.env u) Q Z s:=fun l⟨z,o,us,eu,f,z1,rs⟩ e=>by
  subst eu;refine assign_Tuple_tuple (I.ok.hd hc) (z1.tu (I.st.frz _ _ f)) (by rw[hn,au,rs.len];exact(hl _ _ _ e).symm) hst fun h' hx=>?_
  exact h.h _ _ _ _ _ _ _ _ _ _ (I.kept (t':=s.toks) fun b o e=>hx b o (aH (aA e)) e) (by simpa using rs) e q
 cases d with
 |tup l=>obtain⟨z,o,us,e1,f,z1,rs⟩:=r;exact go l ⟨z,o,us,e1,f,z1.scr,rs⟩ e
 |scr l=>exact go l r e
 |_=>cases e⟩
end
section
variable{X:Cx}{p:Pin}{sc:Sc}{b:Hb}{c c':Co}{s:Shared}{Z:iE}{a e i o:Expr}{es:iL}{pos pos':Pos}{fa fb fo fi:Sc->Hb->R D}{fr:Sc->Hb->R Res}{ft:Sc->Hb->R Bool}{fs gs:Sc->Hb->Out}{st:Stmt}{xs ys:List Stmt}{Q:Flow->Shared->Prop}
theorem YB{x n}(h:Nm X x n)(he:EV X e fa)(hs:swapsWith e (some (.Name x pos')) pos.line X.env=pure false):ES X (.Assign [.Name x pos'] e pos) fun s b=>eO (fa s b) s fun d b=>.nx (s.set n (some d)) b:=⟨fun _ _ _ _ _ _ _ I q=>
 wpAny_Assign_Name (he.runS I q fun _ _ _ _ _ I _ r q=>store I h.nd h.at_ h.own r fun _ I=>q.nx I) hs⟩
noncomputable def nxO(o:Option Sc)(b:Hb):Out:=match o with
 |some s=>.nx s b
 |none=>.bad
theorem qbv{tg t}(he:EV X e fa)(hg:EG X tg t)(hs:swapsWithSole [tg] e pos.line X.env=pure false)(hw:swappedStores [tg] e X.env=pure none)(h1:(assignEach [tg] X.env).map (·.2)=[assign tg X.env]):ES X (.Assign [tg] e pos) fun s b=>eO (fa s b) s fun d b=>nxO (asg t d s) b:=⟨fun p sc b c s Q Z I q=>
 wpAny_Assign_stores (he.runS I q fun d b u s c I l r q=>by
  rw[h1];cases ea:asg t d sc with
  |none=>rw[ea]at q;exact q.elim
  |some sc'=>rw[ea]at q;exact hg.h _ _ _ _ _ _ _ _ _ _ I r ea fun _ I=>q.nx I) hs hw⟩
noncomputable def FlOk(W:Wd):Prop:=∀C k,(C,k)∈W.fl->Cls W.K (W.cl C)/\NoAttr W.K (W.cl C) (W.nm k)
noncomputable def fldD(fl:List (Nat×Nat))(k:Nat)(b:Hb):D->Option D
 |.obj n=>match b[n]? with
  |some (.ins C l)=>if(C,k)∈fl then l.lookup k else none
  |_=>none
 |_=>none
theorem Inv.ins{n C l u}(I:Inv X p sc b c s)(r:Rep X.W c (.obj n) u)(e:b[n]?=some (.ins C l)):∃q m,u=.ref q.1/\c.ad[n]?=some q/\ObjM s.heap q.1 q.2 (X.W.cl C) m/\l.length<=1000/\(∀k,RepO X.W c (l.lookup k) (m (X.W.nm k)))/\PySem.Within m (l.map fun x=>X.W.nm x.1):=by
 obtain⟨q,e1,rfl⟩:=r;obtain⟨q',e2,h1,h2,h3,m,h4,h5,h6⟩:=I.st.obs n _ e;rw[e1]at e2;cases e2;exact⟨q,m,rfl,e1,⟨h1,h4,h2⟩,h3,h5,h6⟩
theorem handed:∀{d u},Rep W c d u->PySem.W.handedIn u=true:=by
 intro d u r;cases d with
 |non=>cases r;rfl
 |bl _=>cases r;rfl
 |int _=>obtain⟨t,rfl⟩:=r;rfl
 |str _=>obtain⟨t,rfl⟩:=r;rfl
 |obj _=>obtain⟨q,_,rfl⟩:=r;rfl
 |tup _=>obtain⟨_,_,_,rfl,_⟩:=r;rfl
 |scr _=>obtain⟨_,_,_,rfl,_⟩:=r;rfl
 |exn _=>obtain⟨_,_,_,rfl,_⟩:=r;rfl
 |lst _=>obtain⟨_,_,_,rfl,_⟩:=r;rfl
 |dic _=>obtain⟨_,_,_,rfl,_⟩:=r;rfl
theorem uL{fl k d z}(h:fldD fl k b d=some z):∃n C l,d=.obj n/\b[n]?=some (.ins C l)/\(C,k)∈fl/\l.lookup k=some z:=by
 unfold fldD at h
 split at h
 ·split at h
  ·split at h
   ·exact⟨_,_,_,rfl,by assumption,by assumption,h⟩
   ·cases h
  ·cases h
 ·cases h
theorem qdl{k}(G:FlOk X.W)(he:EV X e fa)(hb:attributeBase e (X.W.nm k) X.env (eval e X.env)=eval e X.env):EV X (.Attribute e (X.W.nm k) pos) fun s b=>(fa s b).bind fun d b=>opt (fldD X.W.fl k b d) b:=⟨fun _ _ _ _ _ _ _ I q=>
 W7 hb (he.run I q fun d b u s c I l r q=>by
  obtain⟨z,e,k'⟩:=Post.opt q;obtain⟨n,C,l,rfl,h1,h2,h3⟩:=uL e;obtain⟨q,m,rfl,_,O,_,h5,_⟩:=I.ins r h1;obtain⟨g1,g2⟩:=G C k h2;have h6:=h5 k;rw[h3]at h6;cases hm:m (X.W.nm k)with
  |none=>rw[hm]at h6;exact h6.elim
  |some v=>rw[hm]at h6;exact get_map I.kIn O (g1.get _) g1.hd g2 hm (handed h6) (k' v _ c (I.tok _) .refl h6))⟩
noncomputable def jX(k:Nat)(d:D):List (Nat×D)->List (Nat×D)
 |[]=>[(k,d)]
 |x::r=>if x.1=k then(k,d)::r else x::jX k d r
theorem xJ(k j:Nat)(d:D):∀l,(jX k d l).lookup j=if j=k then some d else l.lookup j
 |[]=>by
  unfold jX
  by_cases h:j=k
  ·simp[List.lookup,h]
  ·simp[List.lookup,h,show(j == k)=false by simpa using h]
 |(i,x)::r=>by
  unfold jX;have ih:=xJ k j d r
  by_cases hi:i=k
  ·subst hi
   by_cases h:j=i
   ·simp[List.lookup,h]
   ·simp[List.lookup,h,show(j == i)=false by simpa using h]
  ·simp only[hi,bR,cF]
   by_cases h:j=i
   ·subst h;simp[hi]
   ·simp only[show(j == i)=false by simpa using h]
    exact ih
theorem w8(k:Nat)(d:D):∀l,(jX k d l).length<=l.length+1
 |[]=>by simp[jX]
 |x::r=>by unfold jX;split <;> simp;have:=w8 k d r;omega
theorem w7(k:Nat)(d:D):∀l:List (Nat×D),k∈(jX k d l).map (·.1)/\∀j∈l.map (·.1),j∈(jX k d l).map (·.1)
 |[]=>by simp[jX]
 |x::r=>by
  obtain⟨h1,h2⟩:=w7 k d r;unfold jX
  split
  ·rename_i h;subst h;simp
  ·refine⟨by simp only[av,aw];exact .inr h1,fun j hj=>?_⟩
   simp only[av,aw]at hj ⊢;exact hj.imp id (h2 j)
noncomputable def setF(fl:List (Nat×Nat))(k:Nat)(d:D)(b:Hb):D->Option Hb
 |.obj n=>match b[n]? with
  |some (.ins C l)=>if(C,k)∈fl/\l.length<1000 then some (b.set n (.ins C (jX k d l)))else none
  |_=>none
 |_=>none
noncomputable def nxB(s:Sc)(o:Option Hb):Out:=match o with
 |some b=>.nx s b
 |none=>.bad
theorem qb0{k}(G:FlOk X.W)(he:EV X e fa)(ho:EV X o fo)(hs:swapsWith e (some (.Attribute o (X.W.nm k) pos')) pos.line X.env=pure false):ES X (.Assign [.Attribute o (X.W.nm k) pos'] e pos) fun s b=>eO (fa s b) s fun d b=>eO (fo s b) s fun z b=>nxB s (setF X.W.fl k d b z):=⟨fun _ _ _ _ _ _ _ I q=>
 d7 (he.runS I q fun d _ v _ _ I _ r q=>ho.runS I q fun z b u s c I l k' q=>by
  have r:Rep X.W c d v:=Rep.mono l r;cases ez:setF X.W.fl k d b z with
  |none=>rw[ez]at q;exact q.elim
  |some b'=>
   rw[ez]at q;unfold setF at ez
   split at ez
   ·rename_i n
    split at ez
    ·rename_i C fl hb
     split at ez
     ·rename_i hc
      cases ez;obtain⟨y,m,rfl,e1,O,h4,h5,h6⟩:=I.ins k' hb;obtain⟨g1,g2⟩:=G C k hc.1;refine XO I.kIn O g1.sa g1.po g2.taker g1.hd h6 (by rw[aM,cu];omega) fun h' O' sb=>q.nx (I.set e1 (fun a o _ n2 e=>(sb.2 a n2).trans e) ⟨_,O'.obj⟩ (let⟨o,_,_,e,_⟩:=O'.ns;⟨o,e⟩) ⟨O'.obj,O'.ne,?_,_,O'.ns,fun j=>?_,fun y hy=>?_⟩ (I.ng hb rfl))
      ·have:=w8 k d fl;omega
      ·rw[xJ]
       by_cases hj:j=k
       ·subst hj;simp only[dy];exact r
       ·rw[ax hj,ax fun e=>hj (X.W.nmi _ _ e)];exact h5 j
      ·obtain⟨g1,g2⟩:=w7 k d fl
       have sub:∀j,j∈(jX k d fl).map (·.1)->X.W.nm j∈(jX k d fl).map fun x=>X.W.nm x.1:=fun j hj=>by
        obtain⟨x,hx,rfl⟩:=aQ.mp hj;exact aQ.mpr ⟨x,hx,rfl⟩
       by_cases hk:y=X.W.nm k
       ·subst hk;exact sub k g1
       ·simp only[hk,bR]at hy
        obtain⟨x,hx,rfl⟩:=aQ.mp (h6 y hy);exact sub _ (g2 _ (aQ.mpr ⟨x,hx,rfl⟩))
     ·cases ez
    ·cases ez
   ·cases ez) hs⟩
end
section
variable{X:Cx}{p:Pin}{sc:Sc}{b:Hb}{c c':Co}{s:Shared}{Z:iE}{a e i o tg:Expr}{es:iL}{pos pos':Pos}{fa fb fo fi:Sc->Hb->R D}{fs gs:Sc->Hb->Out}{body:List Stmt}{Q:Flow->Shared->Prop}
theorem Repk.mp{k:KK}(h:Rep W c d u):∀{l xs},Repk W c l xs->Repk W c (l.map fun x=>if x.1=k then(x.1,d)else x) (xs.map (putA k u))
 |[],_,e=>by cases e;rfl
 |(k',d')::l,_,⟨v,w,r,e,q,h',t⟩=>by
  cases e;rw[av,av];unfold putA
  by_cases hk:k'=k
  ·simp only[hk,dy];exact⟨v,u,_,rfl,hk▸q,h,t.mp h⟩
  ·simp only[hk,bR];exact⟨v,w,_,rfl,q,h',t.mp h⟩
theorem Repk.app(kr:KyR W c k kv)(h:Rep W c d u):∀{l xs},Repk W c l xs->Repk W c (l++[(k,d)]) (xs++[(k,kv,u)])
 |[],_,e=>by cases e;exact⟨kv,u,[],rfl,kr,h,rfl⟩
 |(k',d')::l,_,⟨v,w,r,e,q,h',t⟩=>by cases e;exact⟨v,w,_,rfl,q,h',t.app kr h⟩
theorem Repk.put{k:KK}{l xs}(kr:KyR W c k kv)(h:Rep W c d u)(r:Repk W c l xs):Repk W c (putD l k d) (stoA xs k kv u):=by
 unfold putD stoA;rcases r.atA k with⟨h1,h2⟩|⟨d',v,w,h1,h2,_⟩
 ·rw[h1,h2];exact r.app kr h
 ·rw[h1,h2];exact r.mp h
theorem Repk.drop{k:KK}:∀{l xs},Repk W c l xs->Repk W c (xA l k) (outA xs k)
 |[],_,e=>by cases e;rfl
 |(k',d')::l,_,⟨v,w,r,e,q,h',t⟩=>by
  cases e;have t:=t.drop (k:=k);unfold xA outA at t ⊢;rw[List.filter_cons,List.filter_cons]
  by_cases hk:k'=k
  ·simpa[hk] using t
  ·simp only[ne_eq,hk,not_false_iff,decide_true,dy];exact⟨v,w,_,rfl,q,h',t⟩
theorem zN(l:List (KK×D))(k d):(putD l k d).length<=l.length+1:=by unfold putD;split <;> simp
theorem Kh(h:DictA (qH W.prog W.w) hp z ls)(e:ls.length<=sizeLine):∃o,hp.get? z=some o/\DicO W o ls:=by
 obtain⟨o,es,ep,h1,h2,h3,h4⟩:=h;exact⟨o,h1,e,h4.nd,h2,es,ep,h3,h4.he⟩
noncomputable def obj(b:Hb):D->Option (Nat×Ob)
 |.obj n=>b[n]?.map fun o=>(n,o)
 |_=>none
theorem YM{d n x}(h:obj b d=some (n,x)):d=.obj n/\b[n]?=some x:=by
 cases d with
 |obj m=>obtain⟨o,h1,h2⟩:=ah.mp (show b[m]?.map _=_ from h);cases h2;exact⟨rfl,h1⟩
 |_=>cases h
theorem Inv.wr{d n x u}(I:Inv X p sc b c s)(r:Rep X.W c d u)(h:obj b d=some (n,x))(hn:x.hd=false):∃q,u=.ref q.1/\ObA X.W c s.heap q x/\c.t q.1≠none/\∀{h' t' y},(∀a o,a≠q.1->s.heap.get? a=some o->h'.get? a=some o)->(∃o,h'.get? q.1=some o)->ObA X.W c h' q y->Inv X p sc (b.set n y) c { s with heap:=h',toks:=t' }:=by
 obtain⟨rfl,hb⟩:=YM h;obtain⟨q,e,rfl⟩:=r;obtain⟨q',e1,h1⟩:=I.st.obs n x hb;rw[e]at e1;cases e1;obtain⟨o1,o2⟩:=I.st.own n q e;refine⟨q,rfl,h1,by rw[o1];simp,fun{h' t' y} k t1 oa=>I.set e (fun a o h1 _ z=>k a o h1 z) t1 ?_ oa (I.ng hb hn)⟩
 by_cases hq:q.2=q.1
 ·rw[hq];exact t1
 ·obtain⟨o,z⟩:=I.st.dom _ _ o2
  exact⟨o,k _ _ hq z⟩
noncomputable def setI(b:Hb)(d y z:D):Option Hb:=match obj b z with
 |some (n,.dic false l)=>(dKK y).bind fun k=>if l.length<sizeLine then some (b.set n (.dic false (putD l k d)))else none
 |_=>none
theorem qbx(hu:X.A.units+64<cLine)(he:EV X e fa)(ho:EV X o fo)(hi:EV X i fi)(hs:swapsWith e (some (.Subscript o i pos')) pos.line X.env=pure false):ES X (.Assign [.Subscript o i pos'] e pos) fun s b=>eO (fa s b) s fun d b=>eO (fo s b) s fun z b=>eO (fi s b) s fun y b=>nxB s (setI b d y z):=⟨fun _ _ _ _ _ _ _ I q=>
 wpAny_Assign_Subscript (he.runS I q fun d _ v _ c1 I _ r q=>ho.runS I q fun z _ u _ c2 I l1 r2 q=>hi.runS I q fun y b w s c I l2 r3 q=>by
  have r:Rep X.W c d v:=Rep.mono (l1.trans l2) r;have r2:Rep X.W c z u:=Rep.mono l2 r2;cases ez:setI b d y z with
  |none=>rw[ez]at q;exact q.elim
  |some b'=>
   rw[ez]at q;unfold setI at ez
   split at ez
   ·rename_i n l hob
    obtain⟨k,h1,h2⟩:=ai.mp ez
    split at h2
    ·rename_i hz
     cases h2;obtain⟨a,rfl,⟨o,ls,g1,g2,g3⟩,nt,wr⟩:=I.wr r2 hob rfl;have kr:=kj r3 h1;refine ZP (by show X.A.units+1<cLine;omega) (kr.is I.st.frz) (g2.at I.st g1 g3) (fun h' dd sb=>?_) g2.1;have r':=g3.put kr r;obtain⟨o',e1,e2⟩:=Kh dd (by rw[r'.len];have:=zN l k d;omega);exact q.nx (wr (fun a o n e=>(sb.2 a n).trans e) ⟨o',e1⟩ ⟨o',_,e1,e2,r'⟩)
    ·cases h2
   ·cases ez) hs⟩
noncomputable def whl(ft:Sc->Hb->R Bool)(fs:Sc->Hb->Out):Nat->Sc->Hb->Out
 |0,_,_=>.bad
 |n+1,s,b=>eO (ft s b) s fun k b=>if k then(match fs s b with
  |.nx s b=>whl ft fs n s b
  |.ct s b=>whl ft fs n s b
  |.bk s b=>.nx s b
  |o=>o)else .nx s b
structure Exk(X:Cx):Prop where
 st:∃e0 o0 L,X.stack=e0::o0/\e0.frame=some L/\X.env.frame=some L
noncomputable def clo(X:Cx)(p:Pin)(Z:iE)(v:Value)(s:Shared):Prop:=∃a x sc b c,v=.ref a/\Inv X p sc b c s/\Fly X p c s a x/\∀s',Inv X p sc b c s'->Fly X p c s' a x->Z (.ref a) s'
theorem Kq(h:clo X p Z v s):Z v s:=by
 obtain⟨a,x,sc,b,c,rfl,I,f,q⟩:=h;exact q s I f
theorem Inv.ch{h':Heap}{ch:iG}(I:Inv X p sc b c s)(hch:∀a∈ch,Fp X p c a)(keep:∀a o,a∉frs X.stack->a∉ch->s.heap.get? a=some o->h'.get? a=some o)(slot:∀a o,a∉ch->s.heap.get? a=some o->∃sl,h'.get? a=some { o with slots:=sl }):Inv X p sc b c { s with heap:=h' }:=by
 have nf:∀a,c.t a≠none->a∉frs X.stack/\a∉ch:=fun a n=>⟨fun z=>n ((I.stk a z).elim (fun e=>e▸I.free) I.fsN),fun z=>n (hch a z).t⟩
 exact I.step (g':=s.gens) (d':=s.drawn) (t':=s.toks) hch I.stk ⟨.refl,fun a o e _ h1 h2=>keep a o h1 h2 e,fun a o e _ h2=>slot a o h2 e,fun _ _ _ n _=>n⟩ (I.st.keep fun a o n q=>keep a o (nf a n).1 (nf a n).2 q) I.bare
theorem yM{env env':Env}{v:Value}(h:env.frame=env'.frame):noteFrame v env=noteFrame v env':=by unfold noteFrame PySem.frameOf;rw[h]
theorem passes(hx:Exk X):PassesOwn X.M X.A X.env (clo X p Z):=fun v s⟨a,x,sc,b,c,ev,I,f,q⟩=>by
 subst ev;obtain⟨e0,o0,L,st1,st2,st3⟩:=hx.st;show wpAny _ _ (noteFrame (.ref a) X.env) _ _ s;rw[yM (env':=e0) (st3.trans st2.symm)];have hS:s.heap.FunFrames X.W.base (e0::o0):=by rw[<- st1];exact I.stack
 have hF:X.A.frames=some (e0::o0):=by rw[<- st1];exact I.ok.frames
 have mem:(e0::o0).filterMap (·.frame)=frs X.stack:=by rw[st1];rfl
 refine QD (base:=X.W.base) hF hS st2 f (fun b e=>I.fp e) fun h' ch t' hch keep slot=>?_
 rw[mem]at keep;have J:=I.ch (fun a h=>(hch a h).1) keep slot;show wpAny _ _ _ _ _ _;obtain⟨hn,oe,vs,T,oT,ts,v,a1,a2,a3,a4,a5,r⟩:=id t';refine aa (bB (s:={ s with heap:=h' }) a1 a3 a5 ?_);rw[ax (by simp)];refine wC (s:={ s with heap:=h' }) t' fun h2 T2 t2 n2 o2 k2=>⟨a,x,sc,b,c,rfl,J.ch (ch:=[T2]) (fun a h=>by cases aD.mp h;exact n2) (fun b o _ hb e=>k2 b o (fun z=>hb (by simp[z])) e) (fun b o hb e=>⟨o.slots,k2 b o (fun z=>hb (by simp[z])) e⟩),.inl t2,q⟩
theorem PoS.clo{o:Out}(h:PoS X p Z c o Q):PoS X p (E.clo X p Z) c o Q:=by
 cases o with
 |ex x s b=>exact fun a s' c' I l fl=>⟨a,x,s,b,c',rfl,I,fl,fun s'' I' fl'=>h a s'' c' I' l fl'⟩
 |_=>exact h
theorem XT{ft:Sc->Hb->R Bool}(N:Nat)(hx:Exk X)(ht:ET X e ft)(hb:ESs X body fs):ES X (.While e body [] pos) fun s b=>whl ft fs N s b:=⟨fun p sc b c s Q Z I q=>by
 refine aY (Q:=Q) (E:=clo X p Z) (wpAny_While (codeAny_whileLoop (fun n s=>∃sc b c,Inv X p sc b c s/\PoS X p (clo X p Z) c (whl ft fs n sc b) Q) ?_ N ⟨sc,b,c,I,q.clo⟩)) (fun _ _ q=>q) fun _ _ z=>Kq z
 rintro n s ⟨sc,b,c,I,q⟩;cases n with
 |zero=>exact q.elim
 |succ n=>
  refine d8 (passes hx) (ht.runS I q fun k b _ s c I _ r q=>?_);cases r;cases k with
  |false=>exact gB (q.nx I)
  |true=>
   refine d8 (passes hx) (hb.h _ _ _ _ _ _ _ I ?_);have q:PoS X p (clo X p Z) c (match fs sc b with
    |.nx s b=>whl ft fs n s b
    |.ct s b=>whl ft fs n s b
    |.bk s b=>.nx s b
    |o=>o) Q:=q
   cases eo:fs sc b with
   |nx s' b'=>rw[eo]at q;intro f s c l fr;cases f <;> first|exact fr.elim|exact⟨n,bu _,s',b',c,fr,PoS.le l q⟩
   |ct s' b'=>rw[eo]at q;intro f s c l fr;cases f <;> first|exact fr.elim|exact⟨n,bu _,s',b',c,fr,PoS.le l q⟩
   |bk s' b'=>rw[eo]at q;intro f s c l fr;cases f <;> first|exact fr.elim|exact q .next s c l fr
   |rt r b'=>rw[eo]at q;intro f s c l fr;cases f <;> first|exact fr.elim|exact q _ s c l fr
   |ex x s' b'=>rw[eo]at q;exact q
   |bad=>rw[eo]at q;exact q⟩
end
end E
namespace L2
open PySem PySem.Spec PyProof PyProof.Rows
noncomputable def RawD(h:Heap)(d:Addr)(es:Array DictEntry)(ep:Nat):Prop:=∃o,h.get? d=some o/\o.ExactDict/\o.data=.dict es ep
section
variable{P:Program}{w:World}{A:Around}{E:iE}{s:Shared}{d it:Addr}{es:Array DictEntry}{ep i:Nat}
theorem RawD.ty(r:RawD s.heap d es ep):s.TypeIs (.ref d) "dict":=let⟨o,ho,hc,_⟩:=r;⟨o,ho,hc.1⟩
theorem Qy{Q:iE}(hd:(d == sysModules)=false)(r:RawD s.heap d es ep)
  (hQ:Q (.ref s.heap.objs.size) { s with heap:=s.heap.push { cls:=.type "dict_keyiterator",data:=.fields #[.ref d,.int 0 0,.int es.size 0,.int ep 0] } }):wpAny (model P w) A (pyIter (.ref d)) Q E s:=by
 obtain⟨o,g1,g2,g3⟩:=id r;refine gW r.ty F.slot_dict_iter (bj F.slot_dict_iter r.ty F.entry_dict_iter ?_ (F.args_dict_iter_1 _));unfold Builtin.«dict.__iter__»;refine aa ?_;unfold Builtin.Dict.dictSlotNone;refine aa (bW r.ty ?_);show wpAny _ _ (pure (Value.ref d)) _ _ s;refine ae ?_;show wpAny _ _ (Builtin.Dict.showsAll d >>= _) _ _ s;unfold Builtin.Dict.showsAll;rw[ax (by rw[hd];exact aG)];refine aa (ae (aa (bh g1 g3 (aa (bJ g1 g3 (aa (aN (ae ⟨_,rfl,"dict_keyiterator",_,⟨_,ao _ rfl,rfl⟩,ef.lookup,?_⟩))))))));simpa[rawInt] using hQ
theorem Qx{Q:Option Value->Shared->Prop}(hh:A.handled=none)(t:s.heap.IsKeyIter it d i es.size ep)(r:RawD s.heap d es ep)
  (h1:∀e h',es[i]?=some e->h'.IsKeyIter it d (i+1) es.size ep->Heap.SameBut it s.heap h'->Q (some e.key) { s with heap:=h' })(h2:es[i]?=none->∀h',Heap.ExtBut it s.heap h'->Q none { s with heap:=h' }):wpAny (model P w) A (pyNext (.ref it)) Q E s:=by
 obtain⟨o,g1,g2,g3⟩:=id r;obtain⟨oi,t1,t2,t3⟩:=id t;unfold pyNext;refine aa (dM (bp (name:=Str.ofString "__next__") t.typeIs ef (bj ef t.typeIs F.entry_dict_keyiterator_next ?_ (F.args_dict_keyiterator_next_1 _))));refine aa (ae (aa (aa ?_)))
 first|refine aa (dP t.typeIs (ae ?_))|refine aa (eY t.typeIs (ae ?_))
 refine aa (wpAny_fieldsOf t1 t3 ?_);simp only[show Builtin.Dict_items.ownsTuple "dict_keyiterator"=false by decide,aR,bR];show wpAny _ _ (if(Value.ref d == Value.none)=true then _ else _) _ _ s;rw[ax (show ¬ ((Value.ref d == Value.none)=true)from aG)];refine aa (ae (aa (bh g1 g3 ?_)));rw[ax (by simp)];refine aa (ae (aa (bJ g1 g3 ?_)));rw[ax (by simp)];refine ae ?_;simp only[show ¬ ((i:Int)<0)from by omega,bR,dA];cases hx:es[i]? with
 |some e=>
  refine aa ?_
  first|refine aa (dP t.typeIs (ae ?_))|refine aa (eY t.typeIs (ae ?_))
  refine aa (wpAny_isOneOf_keyiter t.typeIs ?_);show wpAny _ _ (setField (.ref it) 1 (rawInt ((i:Int)+1)) >>= _) _ _ s;refine aa (cJ t1 t3 (by simp) ?_);have t':(s.heap.update it (Obj.mapFields (·.setIfInBounds 1 (rawInt ((i:Int)+1))))).IsKeyIter it d (i+1) es.size ep:=
   ⟨_,bc _ t1 (cw (bT t3 _)),(eF ..).trans t2,by rw[bT t3];simp[rawInt]⟩
  refine aa (aK (aa (wpAny_isOneOf_keyiter (s:={ s with heap:=s.heap.update it (Obj.mapFields (·.setIfInBounds 1 (rawInt ((i:Int)+1)))) }) t'.typeIs ?_)));show wpAny _ _ (pure e.key) _ _ _;exact ae (ae ⟨_,rfl,ae (h1 e _ hx t' (aS ..))⟩)
 |none=>
  refine aa ?_
  first|refine aa (dP t.typeIs (ae ?_))|refine aa (eY t.typeIs (ae ?_))
  show wpAny _ _ (setField (.ref it) 0 .none >>= _) _ _ s;refine aa (cJ t1 t3 (by simp) ?_);show wpAny _ _ (newExc (.type "StopIteration") [] >>= _) _ _ _;refine aa ?_;simp only[newExc,newTuple];refine aa (aN (aa (m:=firstArgMember _ _) (fU (a:=Value.none) (by first|rfl|(simp only[firstArgMember];rfl)) ?_)) (by size_fits));refine aN ?_ (by size_fits);simp only[raiseNew];refine aa (ie ?_);rw[show A.in1.handled=none from hh];refine aa (ae (ic ?_));refine aa (dQ (T:="StopIteration") (b:=true) ⟨_,ao _ rfl,rfl⟩ fZ ?_);exact ae (h2 hx _ (((aS ..).extBut.push _).push _))
theorem Z4{v:Addr}{Q:iE}(hv:s.heap.IsItemsView v d)(r:RawD s.heap d es ep)
  (hQ:Q (.ref s.heap.objs.size) { s with heap:=s.heap.push { cls:=.type "dict_itemiterator",data:=.fields #[.none,.bool false,.ref d,.int 0 0,.int es.size 0,.int ep 0,.none,.none] } }):wpAny (model P w) A (pyIter (.ref v)) Q E s:=by
 obtain⟨o,g1,g2,g3⟩:=id r;obtain⟨oi,t1,t2,t3⟩:=id hv;refine gW hv.typeIs F.slot_dict_items_iter (bj F.slot_dict_items_iter hv.typeIs F.entry_dict_items_iter ?_ (F.args_dict_items_iter_1 _));unfold Builtin.«dict_items.__iter__»;refine aa (ae (aa ?_));unfold Builtin.Dict_items.dictOf;refine aa (bB t1 t3 (x:=.ref d) rfl (ae (aa ?_)));unfold Builtin.Dict_items.newIterator;refine aa (bh g1 g3 (aa (bJ g1 g3 ?_)));simp only[show Builtin.Dict_items.ownsTuple "dict_itemiterator"=true by decide,dy];refine aN (ae ⟨_,rfl,"dict_itemiterator",_,⟨_,ao _ rfl,rfl⟩,dT.lookup,?_⟩) (by simp only[sizeOk,Builtin.Dict_items.ownedTupleFields,au,az,bO,gC,cu];omega);simpa[rawInt,Builtin.Dict_items.ownedTupleFields] using hQ
theorem w5{ok ov:Value}{Q:Option Value->Shared->Prop}(hh:A.handled=none)(t:IsItemIter s.heap it d i es.size ep ok ov)(r:RawD s.heap d es ep)
  (h1:∀e h',es[i]?=some e->IsItemIterOut h' it d (i+1) es.size ep e.key e.val s.heap.objs.size->h'.get? s.heap.objs.size=some { cls:=.type "tuple",data:=.seq #[e.key,e.val] }->(∀b o,b≠it->s.heap.get? b=some o->h'.get? b=some o)->Q (some (.ref s.heap.objs.size)) { s with heap:=h' })
  (h2:es[i]?=none->∀h',Heap.ExtBut it s.heap h'->Q none { s with heap:=h' }):wpAny (model P w) A (pyNext (.ref it)) Q E s:=by
 obtain⟨hp,g,dr,tk,os⟩:=s;obtain⟨o,g1,g2,g3⟩:=id r;have T0:Shared.TypeIs ⟨hp,g,dr,tk,os⟩ (.ref it) "dict_itemiterator":=⟨_,t,rfl⟩;unfold pyNext;refine aa (dM (bp (name:=Str.ofString "__next__") T0 dT (bj dT T0 F.entry_dict_itemiterator_next ?_ (F.args_dict_itemiterator_next_1 _))));refine aa (ae (aa (aa ?_)))
 first|refine aa (dF T0 (ae ?_))|refine aa (eM T0 (ae ?_))
 refine aa (wpAny_fieldsOf t rfl ?_);simp only[show Builtin.Dict_items.ownsTuple "dict_itemiterator"=true by decide,dy];show wpAny _ _ (if(Value.ref d == Value.none)=true then _ else _) _ _ _;rw[ax (show ¬ ((Value.ref d == Value.none)=true)from aG)];refine aa (ae (aa (bh g1 g3 ?_)));rw[ax (by simp)];refine aa (ae (aa (bJ g1 g3 ?_)));rw[ax (by simp)];refine ae ?_;simp only[show ¬ ((i:Int)<0)from by omega,bR,dA];cases hx:es[i]? with
 |some e=>
  refine aa ?_
  first|refine aa (dF T0 (ae ?_))|refine aa (eM T0 (ae ?_))
  refine aa (fO T0 ?_);show wpAny _ _ (setField (.ref it) 3 (rawInt ((i:Int)+1)) >>= _) _ _ ⟨hp,g,dr,tk,os⟩;refine aa (cA t (by simp) fun k1 a1 b1=>?_)
  replace b1:Heap.SameBut it hp k1:=b1
  replace a1:IsItemIter k1 it d (i+1) es.size ep ok ov:=by
   have e:((i+1:Nat):Int)=(i:Int)+1:=by omega
   unfold IsItemIter;rw[e];simpa[rawInt] using a1
  have T1:Shared.TypeIs ⟨k1,g,dr,tk,os⟩ (.ref it) "dict_itemiterator":=⟨_,a1,rfl⟩;refine aa (aK (aa (fO T1 (aa (fO T1 ?_)))));show wpAny _ _ (Builtin.Dict_items.pairFromOwner (.ref it) 6 e.key e.val) _ _ ⟨k1,g,dr,tk,os⟩;unfold Builtin.Dict_items.pairFromOwner;refine aa (wpAny_newTuple ?_);have a2:IsItemIter (k1.push { cls:=.type "tuple",data:=.seq #[e.key,e.val] }) it d (i+1) es.size ep ok ov:=af _ a1;generalize hk2:k1.push { cls:=.type "tuple",data:=.seq #[e.key,e.val] }=k2 at a2
  have z1:k1.objs.size=hp.objs.size:=b1.1;have il:it<hp.objs.size:=aA t;have tt:k2.get? hp.objs.size=some { cls:=.type "tuple",data:=.seq #[e.key,e.val] }:=by rw[<- hk2,<- z1];exact ao _ rfl
  have kk:∀b o,b≠it->hp.get? b=some o->k2.get? b=some o:=fun b o hb q=>by rw[<- hk2];exact af _ (b1.extBut b o hb q)
  show wpAny _ _ (Builtin.Dict_items.ownedTupleIsFree (.ref it) >>= _) _ _ ⟨k2,g,dr,tk,os⟩;rw[z1];clear hk2 a1 b1 T1 z1 k1;refine aa ?_;unfold Builtin.Dict_items.ownedTupleIsFree;refine aa (bB a2 rfl (x:=.none) rfl (ae ?_));simp only[dy];refine aa (bB a2 rfl (x:=ok) rfl (aa (bB a2 rfl (x:=ov) rfl ?_)));refine aa (cA a2 (by simp) fun k3 a3 b3=>?_);refine aa (cA (show IsItemIter k3 it d (i+1) es.size ep e.key ov from a3) (by simp) fun k4 a4 b4=>?_);refine aa (cA (show IsItemIter k4 it d (i+1) es.size ep e.key e.val from a4) (by simp) fun k5 a5 b5=>?_);refine aa (cA (show IsItemIterOut k5 it d (i+1) es.size ep e.key e.val hp.objs.size from a5) (by simp) fun k6 a6 b6=>?_);have all:∀b o,b≠it->k2.get? b=some o->k6.get? b=some o:=fun b o hb q=>b6.extBut b o hb (b5.extBut b o hb (b4.extBut b o hb (b3.extBut b o hb q)))
  exact aa (et (ae (ae ⟨_,rfl,ae (h1 e k6 hx a6 (all _ _ (cU il) tt) fun b o hb q=>all b o hb (kk b o hb q))⟩)))
 |none=>
  refine aa ?_
  first|refine aa (dF T0 (ae ?_))|refine aa (eM T0 (ae ?_))
  show wpAny _ _ (setField (.ref it) 2 .none >>= _) _ _ _;refine aa (cJ t rfl (by simp) ?_);show wpAny _ _ (newExc (.type "StopIteration") [] >>= _) _ _ _;refine aa ?_;simp only[newExc,newTuple];refine aa (aN (aa (m:=firstArgMember _ _) (fU (a:=Value.none) (by first|rfl|(simp only[firstArgMember];rfl)) ?_)) (by size_fits));refine aN ?_ (by size_fits);simp only[raiseNew];refine aa (ie ?_);rw[show A.in1.handled=none from hh];refine aa (ae (ic ?_));refine aa (dQ (T:="StopIteration") (b:=true) ⟨_,ao _ rfl,rfl⟩ fZ ?_);exact ae (h2 hx _ (((aS ..).extBut.push _).push _))
theorem K9(hd:(d == sysModules)=false):MeetsIn P w (Builtin.«dict.items» ⟨[.ref d],[]⟩) (fun _ R s=>(∃es ep,RawD s.heap d es ep)/\R (.ok (.ret (.ref s.heap.objs.size))) { s with heap:=s.heap.push { cls:=.type "dict_items",data:=.fields #[.ref d] } }):=
 .of_wp fun A R s⟨⟨es,ep,r⟩,h⟩=>by
  unfold Builtin.«dict.items»;refine aa ?_;unfold Builtin.Dict.noArgs;refine aa (bW r.ty ?_);show wpAny _ _ (pure d) _ _ s;refine ae ?_;show wpAny _ _ (Builtin.Dict.showsAll d >>= _) _ _ s;unfold Builtin.Dict.showsAll;rw[ax (by rw[hd];exact aG)];exact aa (ae (aa (aN (ae ⟨_,rfl,h⟩))))
theorem Qw{Q:Option Value->Shared->Prop}(hh:A.handled=none)(t:s.heap.IsValIter it d i es.size ep)(r:RawD s.heap d es ep)
  (h1:∀e h',es[i]?=some e->h'.IsValIter it d (i+1) es.size ep->Heap.SameBut it s.heap h'->Q (some e.val) { s with heap:=h' })(h2:es[i]?=none->∀h',Heap.ExtBut it s.heap h'->Q none { s with heap:=h' }):wpAny (model P w) A (pyNext (.ref it)) Q E s:=by
 obtain⟨o,g1,g2,g3⟩:=id r;obtain⟨oi,t1,t2,t3⟩:=id t;unfold pyNext;refine aa (dM (bp (name:=Str.ofString "__next__") t.typeIs dG (bj dG t.typeIs F.entry_dict_valueiterator_next ?_ (F.args_dict_valueiterator_next_1 _))));refine aa (ae (aa (aa ?_)))
 first|refine aa (dU t.typeIs (ae ?_))|refine aa (eZ t.typeIs (ae ?_))
 refine aa (wpAny_fieldsOf t1 t3 ?_);simp only[show Builtin.Dict_items.ownsTuple "dict_valueiterator"=false by decide,aR,bR];show wpAny _ _ (if(Value.ref d == Value.none)=true then _ else _) _ _ s;rw[ax (show ¬ ((Value.ref d == Value.none)=true)from aG)];refine aa (ae (aa (bh g1 g3 ?_)));rw[ax (by simp)];refine aa (ae (aa (bJ g1 g3 ?_)));rw[ax (by simp)];refine ae ?_;simp only[show ¬ ((i:Int)<0)from by omega,bR,dA];cases hx:es[i]? with
 |some e=>
  refine aa ?_
  first|refine aa (dU t.typeIs (ae ?_))|refine aa (eZ t.typeIs (ae ?_))
  refine aa (gh t.typeIs ?_);show wpAny _ _ (setField (.ref it) 1 (rawInt ((i:Int)+1)) >>= _) _ _ s;refine aa (cJ t1 t3 (by simp) ?_);have t':(s.heap.update it (Obj.mapFields (·.setIfInBounds 1 (rawInt ((i:Int)+1))))).IsValIter it d (i+1) es.size ep:=
   ⟨_,bc _ t1 (cw (bT t3 _)),(eF ..).trans t2,by rw[bT t3];simp[rawInt]⟩
  refine aa (aK (aa (gh (s:={ s with heap:=s.heap.update it (Obj.mapFields (·.setIfInBounds 1 (rawInt ((i:Int)+1)))) }) t'.typeIs (aa (gh (s:={ s with heap:=s.heap.update it (Obj.mapFields (·.setIfInBounds 1 (rawInt ((i:Int)+1)))) }) t'.typeIs ?_)))));show wpAny _ _ (pure e.val) _ _ _;exact ae (ae ⟨_,rfl,ae (h1 e _ hx t' (aS ..))⟩)
 |none=>
  refine aa ?_
  first|refine aa (dU t.typeIs (ae ?_))|refine aa (eZ t.typeIs (ae ?_))
  show wpAny _ _ (setField (.ref it) 0 .none >>= _) _ _ s;refine aa (cJ t1 t3 (by simp) ?_);show wpAny _ _ (newExc (.type "StopIteration") [] >>= _) _ _ _;refine aa ?_;simp only[newExc,newTuple];refine aa (aN (aa (m:=firstArgMember _ _) (fU (a:=Value.none) (by first|rfl|(simp only[firstArgMember];rfl)) ?_)) (by size_fits));refine aN ?_ (by size_fits);simp only[raiseNew];refine aa (ie ?_);rw[show A.in1.handled=none from hh];refine aa (ae (ic ?_));refine aa (dQ (T:="StopIteration") (b:=true) ⟨_,ao _ rfl,rfl⟩ fZ ?_);exact ae (h2 hx _ (((aS ..).extBut.push _).push _))
theorem Z3{v:Addr}{Q:iE}(hv:s.heap.IsValuesView v d)(r:RawD s.heap d es ep)
  (hQ:Q (.ref s.heap.objs.size) { s with heap:=s.heap.push { cls:=.type "dict_valueiterator",data:=.fields #[.ref d,.int 0 0,.int es.size 0,.int ep 0] } }):wpAny (model P w) A (pyIter (.ref v)) Q E s:=by
 obtain⟨o,g1,g2,g3⟩:=id r;obtain⟨oi,t1,t2,t3⟩:=id hv;refine gW hv.typeIs F.slot_dict_values_iter (bj F.slot_dict_values_iter hv.typeIs F.entry_dict_values_iter ?_ (F.args_dict_values_iter_1 _));unfold Builtin.«dict_values.__iter__»;refine aa (ae (aa ?_));unfold Builtin.Dict_items.dictOf;refine aa (bB t1 t3 (x:=.ref d) rfl (ae (aa ?_)));unfold Builtin.Dict_items.newIterator;refine aa (bh g1 g3 (aa (bJ g1 g3 ?_)));simp only[show Builtin.Dict_items.ownsTuple "dict_valueiterator"=false by decide,aR,bR];refine aN (ae ⟨_,rfl,"dict_valueiterator",_,⟨_,ao _ rfl,rfl⟩,dG.lookup,?_⟩) (by size_fits);simpa[rawInt] using hQ
theorem Z2(hd:(d == sysModules)=false):MeetsIn P w (Builtin.«dict.values» ⟨[.ref d],[]⟩) (fun _ R s=>(∃es ep,RawD s.heap d es ep)/\R (.ok (.ret (.ref s.heap.objs.size))) { s with heap:=s.heap.push { cls:=.type "dict_values",data:=.fields #[.ref d] } }):=
 .of_wp fun A R s⟨⟨es,ep,r⟩,h⟩=>by
  unfold Builtin.«dict.values»;refine aa ?_;unfold Builtin.Dict.noArgs;refine aa (bW r.ty ?_);show wpAny _ _ (pure d) _ _ s;refine ae ?_;show wpAny _ _ (Builtin.Dict.showsAll d >>= _) _ _ s;unfold Builtin.Dict.showsAll;rw[ax (by rw[hd];exact aG)];exact aa (ae (aa (aN (ae ⟨_,rfl,h⟩))))
end
end L2
namespace E
open PySem PySem.Spec PyProof PyProof.Rows L2
structure Tn(W:Wd)(A:Around)(tg:Expr)(l:List D)(c₁:Co)(it:Addr)(fp wr:iG)(St:Nat->Heap->Prop):Prop where
 frame:∀i h h',St i h->(∀a∈fp,∀o,h.get? a=some o->h'.get? a=some o)->St i h'
 obj:∀i h,St i h->∀a∈wr,∃o,h.get? a=some o/\∀v,o.data≠.cell v
 fix:∀a∈fp,a∈wr\/∃o,Fix c₁ a o
 item:∀X,X.W=W->X.A=A->∀(i:Nat) d p sc b c s(Q:iE) Z,l[i]?=some d->Inv X p sc b c s->Le c₁ c->(∀a∈wr,Fp X p c a)->St i s.heap->(∀u s' c',Inv X p sc b c' s'->Le c c'->Rep X.W c' d u->St (i+1) s'.heap->(∀a∈wr,c'.t a=none)->Q u s')->
  wpAny X.M X.A (pyNext (.ref it)) (fun r s1=>∃u,r=some u/\wpAny X.M X.A (letOwnedTupleGo tg (.ref it) u) (fun _ s2=>Q u s2) Z s1) Z s
 self:∀i(s:Shared)(Q:iE) Z,St i s.heap->Q (.ref it) s->wpAny (model W.prog W.w) A (pyIter (.ref it)) Q Z s
 done:∀X,X.W=W->X.A=A->∀p sc b c s(Q:Shared->Prop) Z,Inv X p sc b c s->(∀a∈wr,Fp X p c a)->St l.length s.heap->(∀s',Inv X p sc b c s'->Q s')->wpAny X.M X.A (pyNext (.ref it)) (fun r s1=>r=none/\Q s1) Z s
section
variable{W:Wd}{A:Around}{X:Cx}{p:Pin}{sc:Sc}{b:Hb}{c c' c₁:Co}{s:Shared}{Z:iE}{a e i o tg:Expr}{es:iL}{pos pos':Pos}{fa fb fo fi:Sc->Hb->R D}{fs gs:Sc->Hb->Out}{body:List Stmt}{Q:Flow->Shared->Prop}{l:List D}{it:Addr}{fp wr wr':iG}{St:Nat->Heap->Prop}
theorem Tn.walk{P n}(K:Walks W.prog W.w A it fp wr' n P St)(hn:n=l.length)(hw:∀a∈wr',a∈wr)(ho:∀i h,St i h->∀a∈wr,∃o,h.get? a=some o/\∀v,o.data≠.cell v)(hf:∀a∈fp,a∈wr\/∃o,Fix c₁ a o)(hP:∀(i:Nat) v d,l[i]?=some d->P i v->Rep W c₁ d v)
  (hg:∀i h,St i h->∃o n vs,h.get? it=some o/\o.cls=.type n/\o.data=.fields vs/\["enumerate","zip","dict_itemiterator","dict_reverseitemiterator","odict_iterator","itertools.zip_longest","itertools.pairwise"].contains n=false):Tn W A tg l c₁ it fp wr St:=by
 subst hn;refine⟨K.frame,ho,hf,fun X eW eA i d p sc b c s Q Z e I lc F st q=>?_,K.self,fun X eW eA p sc b c s Q Z I F st q=>?_⟩ <;> subst eW eA
 ·refine K.item i s _ _ (ag.mp e).1 st fun v h' tk hp st' k=>?_
  obtain⟨o,n,vs,g1,g2,g3,g4⟩:=hg _ _ st';have I':Inv X p sc b c { s with heap:=h',toks:=tk }:=I.turn F fun a o n q=>k a o (fun z=>n (hw a z)) q
  exact⟨v,rfl,qcw (s:={ s with heap:=h',toks:=tk }) g1 g2 g3 g4 (q v _ c I' .refl ((hP i v d e hp).mono lc) st' fun a h=>(F a h).t)⟩
 ·exact K.done s _ _ st fun h' tk k=>⟨rfl,q _ (I.turn F fun a o n q=>k a o (fun z=>n (hw a z)) q)⟩
theorem Tn.walkT{ts k0 tp Pt Mid}{n}(K:WalksT W.prog W.w A it fp wr' n Pt St Mid)(hn:n=l.length)(hw:∀a∈wr',a∈wr)(ho:∀i h,St i h->∀a∈wr,∃o,h.get? a=some o/\∀v,o.data≠.cell v)(hf:∀a∈fp,a∈wr\/∃o,Fix c₁ a o)(hP:∀(i:Nat) vs d,l[i]?=some d->Pt i vs->∃ds,d=.scr ds/\Reps W c₁ ds vs.toList/\ds.length<=sizeLine):Tn W A (.Tuple ts k0 tp) l c₁ it fp wr St:=by
 subst hn;refine⟨K.frame,ho,hf,fun X eW eA i d p sc b c s Q Z e I lc F st q=>?_,K.self,fun X eW eA p sc b c s Q Z I F st q=>?_⟩ <;> subst eW eA
 ·refine K.item i s _ _ (ag.mp e).1 st fun T vs h' tk hp hs ht hm k=>⟨_,rfl,?_⟩
  refine K.go ts k0 tp i T { s with heap:=h',toks:=tk } _ _ hm fun h2 st2 k2=>?_
  have nT:T∉wr:=fun hT=>let⟨_,e,_⟩:=ho i _ st T hT;eP hs (aA e)
  have I':Inv X p sc b c { s with heap:=h2,toks:=tk }:=I.turn F fun a o n q=>k2 a o (fun z=>n (hw a z)) (k a o (fun z=>n (hw a z)) q)
  obtain⟨o,g1,g2,n,g3⟩:=ht;have g1:=k2 T o (fun z=>nT (hw T z)) g1;obtain⟨ds,rfl,rs,hz⟩:=hP i vs d e hp;obtain⟨I2,l2⟩:=I'.fz (I.fpn hs) g1;refine q _ _ _ I2 l2 ⟨T,o,vs.toList,rfl,qJ,⟨by rw[rs.len];exact hz,g2,n,by simpa using g3⟩,rs.mono (lc.trans l2).toL0⟩ st2 fun a h=>?_
  show upT c.t T _ a=none;rw[zC fun z:a=T=>nT (z▸h)];exact(F a h).t
 ·exact K.done s _ _ st fun h' tk k=>⟨rfl,q _ (I.turn F fun a o n q=>k a o (fun z=>n (hw a z)) q)⟩
noncomputable def forD(body:D->Sc->Hb->Out):List D->Sc->Hb->Out
 |[],s,b=>.nx s b
 |d::l,s,b=>match body d s b with
  |.nx s b=>forD body l s b
  |.ct s b=>forD body l s b
  |.bk s b=>.nx s b
  |o=>o
noncomputable def qY(h:Option Nat)(x:Bool)(b:Hb):Hb:=match h with
 |some n=>match b[n]? with
  |some o=>b.set n (o.set x)
  |none=>b
 |none=>b
noncomputable def finO(h:Option Nat):Out->Out
 |.nx s b=>.nx s (qY h false b)
 |o=>o
noncomputable def za(t:Tg)(fs:Sc->Hb->Out)(d:D)(s:Sc)(b:Hb):Out:=match asg t d s with
 |some s=>fs s b
 |none=>.bad
structure Sr1(X:Cx)(p:Pin)(tg:Expr)(l:List D)(h:Option Nat)(c c₁:Co)(it:Addr)(s:Shared):Prop where
 le:Le c c₁
 tn:∃fp wr St,Tn X.W X.A tg l c₁ it fp wr St/\St 0 s.heap/\∀a∈wr,Fp X p c₁ a
 fin:∀n,h=some n->c.g n=none/\X.c₀.g n=none
noncomputable def PoI(X:Cx)(p:Pin)(sc:Sc)(Z:iE)(tg:Expr)(c:Co)(r:R (List D×Option Nat))(Q:iE):Prop:=match r with
 |.ok (l,h) b'=>∀it s' c₁,Inv X p sc (qY h true b') c₁ s'->Sr1 X p tg l h c c₁ it s'->Q (.ref it) s'
 |.exc x b'=>∀a s' c',Inv X p sc b' c' s'->Le c c'->Fly X p c' s' a x->Z (.ref a) s'
 |.bad=>False
structure EI(X:Cx)(tg iter:Expr)(f:Sc->Hb->R (List D×Option Nat)):Prop where
 h:∀p sc b c s Q Z,Inv X p sc b c s->PoI X p sc Z tg c (f sc b) Q->wpAny X.M X.A (eval iter X.env) (fun v s1=>wpAny X.M X.A (pyIter v) Q Z s1) Z s
theorem Sr1.mono{h:Option Nat}(lc:Le c c')(S:Sr1 X p tg l h c' c₁ it s):Sr1 X p tg l h c c₁ it s:=⟨lc.trans S.le,S.tn,fun n e=>by
 refine⟨?_,(S.fin n e).2⟩;cases y:c.g n with
 |none=>rfl
 |some v=>have:=lc.g _ _ y;rw[(S.fin n e).1]at this;cases this⟩
theorem PoI.le{r:R (List D×Option Nat)}{Q:iE}(lc:Le c c')(h:PoI X p sc Z tg c r Q):PoI X p sc Z tg c' r Q:=by
 cases r with
 |ok d b=>exact fun it s z I S=>h it s z I (S.mono lc)
 |exc x b=>exact fun a s z I k=>h a s z I (lc.trans k)
 |bad=>exact h
theorem Ev.runI{t:Sem α}{rel:Rl α β}{f:Sc->Hb->R β}{k:β->Hb->R (List D×Option Nat)}{Q:iE}{P:α->Shared->Prop}(he:Ev X t rel f)(I:Inv X p sc b c s)(h:PoI X p sc Z tg c ((f sc b).bind k) Q)
  (cont:∀d b u s c',Inv X p sc b c' s->Le c c'->rel X p c' s u d->PoI X p sc Z tg c' (k d b) Q->P u s):wpAny X.M X.A t P Z s:=by
 refine he.h p sc b c s P Z I ?_;cases r:f sc b with
 |ok d b=>rw[r]at h;exact fun u s z I l k=>cont d b u s z I l k (PoI.le l h)
 |exc x b=>rw[r]at h;exact h
 |bad=>rw[r]at h;exact h
theorem PoI.opt{o:Option (List D×Option Nat)}{Q:iE}(h:PoI X p sc Z tg c (E.opt o b) Q):∃l h,o=some (l,h)/\∀it s' c₁,Inv X p sc (qY h true b) c₁ s'->Sr1 X p tg l h c c₁ it s'->Q (.ref it) s':=by
 cases o with
 |none=>exact h.elim
 |some d=>exact⟨d.1,d.2,rfl,h⟩
theorem Inv.rel{h:Option Nat}(I:Inv X p sc b c' s)(l:Le c c')(f:∀n,h=some n->c.g n=none/\X.c₀.g n=none):∃c2,Inv X p sc (qY h false b) c2 s/\Le c c2/\c2.t=c'.t/\L0 c' c2:=by
 cases h with
 |none=>exact⟨c',I,l,rfl,.refl⟩
 |some n=>
  obtain⟨f1,f2⟩:=f n rfl;cases e:b[n]? with
  |none=>exact⟨c',by simpa only[qY,e] using I,l,rfl,.refl⟩
  |some o=>
   have hb:qY (some n) false b=b.set n (o.set false):=by simp only[qY,e]
   rw[hb];have g:∀{c:Co},c.g n=none->∀m z,c.g m=some z->(∀m z,c.g m=some z->c'.g m=some z)->(c'.hold n none).g m=some z:=fun{c} hn m z hm k=>by
    show(if m=n then none else c'.g m)=_;rw[ax fun y=>by rw[y,hn]at hm;cases hm];exact k m z hm
   have l0:L0 c' (c'.hold n none):=⟨fun _ _ e=>e,fun _ _ e=>e⟩;refine⟨c'.hold n none,⟨I.ok,I.os,I.bare,⟨⟨⟨I.un.le.t,I.un.le.ad⟩,fun m z hm=>g f2 m z hm I.un.le.g⟩,I.un.keep,I.un.slot,I.un.free⟩,?_,I.cell,I.free,I.pin,I.st.free e,I.len,I.hx⟩,⟨⟨l.t,l.ad⟩,fun m z hm=>g f1 m z hm l.g⟩,rfl,l0⟩;obtain⟨m,hn,hl⟩:=I.loc;exact⟨m,hn,fun i x d e1 e2 e3=>let⟨u,r,k⟩:=hl i x d e1 e2 e3;⟨u,r.mono l0,k⟩⟩
theorem Fp.less{q:Pin}{a:Addr}(f:Fp X (p++q) c a):Fp X p c a:=⟨f.t,f.l,f.f,f.x,f.z,fun y h=>f.p y ((b9.mp h).elim (dk _) fun z=>aT _ (dk _ z)),f.y⟩
theorem Inv.less{q:Pin}(I:Inv X (p++q) sc b c s):Inv X p sc b c s:=I.pins fun y h=>I.pin y (aT _ (dk _ h))
theorem Trc.less{q:Pin}{h:Heap}{a:Addr}{k:Value}(t:Trc (Fp X (p++q) c) h a k):Trc (Fp X p c) h a k:=t.mono fun _ f=>f.less
theorem RR.less{q:Pin}{u:Value}{r:Res}(h:RR X (p++q) c s u r):RR X p c s u r:=by
 cases r with
 |v d=>exact h
 |n o=>obtain⟨a,e,f,r⟩:=h;exact⟨a,e,f.less,r⟩
noncomputable def kq(fp:iG)(h:Heap):Pin:=fp.filterMap fun a=>(h.get? a).map fun o=>(a,o)
theorem xN{h:Heap}{a:Addr}{o:Obj}(ha:a∈fp)(e:h.get? a=some o):(a,o)∈kq fp h:=cj.mpr ⟨a,ha,by rw[e];rfl⟩
theorem vV{h:Heap}{q:Addr×Obj}(hq:q∈kq fp h):q.1∈fp/\h.get? q.1=some q.2:=by
 obtain⟨a,ha,e⟩:=cj.mp hq;obtain⟨o,h1,rfl⟩:=ah.mp e;exact⟨ha,h1⟩
theorem JQ{bd:D->Sc->Hb->Out}{d:D}:forD bd (d::l) sc b=match bd d sc b with
  |.nx s b=>forD bd l s b
  |.ct s b=>forD bd l s b
  |.bk s b=>.nx s b
  |o=>o:=rfl
theorem qbz{t fi}(hx:Exk X)(hi:EI X tg i fi)(hg:EG X tg t)(hb:ESs X body fs)(hs:∀x,foldedSetIterable i X.env x=pure x):ES X (.For tg i body [] pos) fun s b=>eO (fi s b) s fun r b=>finO r.2 (forD (za t fs) r.1 s (qY r.2 true b)):=⟨fun p sc b c s Q Z I q=>by
 refine aY (Q:=Q) (E:=clo X p Z) (wpAny_For (hi.h p sc b c s _ _ I ?_) hs) (fun _ _ q=>q) fun _ _ z=>Kq z
 have q:PoS X p Z c (eO (fi sc b) sc _) Q:=q;cases r:fi sc b with
 |bad=>rw[r]at q;exact q
 |exc x b'=>rw[r]at q;exact fun a s' c' I l fl=>⟨a,x,sc,b',c',rfl,I,fl,fun s'' I' fl'=>q a s'' c' I' l fl'⟩
 |ok lh b'=>
  obtain⟨l,h⟩:=lh;rw[r]at q;intro it s' c₁ I₁ S;obtain⟨fp,wr,St,T,st0,f0⟩:=S.tn;have q:PoS X p (clo X p Z) c (finO h (forD (za t fs) l sc (qY h true b'))) Q:=PoS.clo q;refine codeAny_forLoop_any (fun n s=>∃i sc b c₂,Inv X p sc b c₂ s/\Le c₁ c₂/\St i s.heap/\(∀a∈wr,c₂.t a=none)/\n+i=l.length/\PoS X p (clo X p Z) c (finO h (forD (za t fs) (l.drop i) sc b)) Q) ?_ l.length ⟨0,sc,_,c₁,I₁,.refl,st0,fun a h=>(f0 a h).t,rfl,q⟩;rintro n s ⟨i,sc,b,c₂,I,l₂,st,fr,hn,q⟩;have F:∀{c₃:Co},(∀a∈wr,c₃.t a=none)->∀a∈wr,Fp X p c₃ a:=fun h a ha=>{ f0 a ha with t:=h a ha }
  cases n with
  |zero=>
   have hi:i=l.length:=by omega
   subst hi;rw[List.drop_length]at q;refine d8 (passes hx) (aY (T.done X rfl rfl p sc b c₂ s (fun s'=>Inv X p sc b c₂ s') _ I (F fr) st fun _ I=>I) (fun r s'⟨e,I'⟩=>?_) fun _ _ z=>z);subst e;obtain⟨c₃,I₃,l₃,_⟩:=I'.rel (S.le.trans l₂) S.fin;exact gB (q .next _ c₃ l₃ I₃)
  |succ n=>
   have hi:i<l.length:=by omega
   rw[ck hi,JQ]at q;refine d8 (passes hx) (aY (T.item X rfl rfl i l[i] p sc b c₂ s (fun u s'=>∃c₃,Inv X p sc b c₃ s'/\Le c₂ c₃/\Rep X.W c₃ l[i] u/\St (i+1) s'.heap/\∀a∈wr,c₃.t a=none) _ (ak hi) I l₂ (F fr) st fun u s' c' I l r st fr=>⟨c',I,l,r,st,fr⟩) (fun r s1⟨u,e,k⟩=>?_) fun _ _ z=>z);subst e;refine d8 (passes hx) (aY k (fun _ s3⟨c₃,I,l₃,r,st,fr⟩=>?_) fun _ _ z=>z);cases ea:asg t l[i] sc with
   |none=>simp only[za,ea]at q;exact q.elim
   |some sc3=>
    have e1:za t fs l[i] sc b=fs sc3 b:=by simp only[za,ea]
    rw[e1]at q;have Ip:Inv X (p++kq wr s3.heap) sc b c₃ s3:=I.pins fun y hy=>(b9.mp hy).elim (fun z=>I.pin y (aT _ z)) fun z=>by
     obtain⟨h1,h2⟩:=vV z;have f:=F fr _ h1;obtain⟨o,g1,g2⟩:=T.obj _ _ st _ h1;rw[h2]at g1;cases g1;exact⟨h2,f.t,f.l,f.f,g2⟩
    refine d8 (passes hx) (hg.h _ _ _ _ _ _ _ _ _ _ Ip r ea fun s4 I4=>d8 (passes hx) (hb.h _ _ _ _ _ _ _ I4 ?_));have again:∀{sc' b' s' c'},PoS X p (clo X p Z) c (finO h (forD (za t fs) (l.drop (i+1)) sc' b')) Q->Inv X (p++kq wr s3.heap) sc' b' c' s'->Le c₃ c'->∃m,m<n+1/\∃i sc b c₂,Inv X p sc b c₂ s'/\Le c₁ c₂/\St i s'.heap/\(∀a∈wr,c₂.t a=none)/\m+i=l.length/\PoS X p (clo X p Z) c (finO h (forD (za t fs) (l.drop i) sc b)) Q:=fun{sc' b' s' c'} q I l'=>by
     have pn:∀a∈wr,∀o,s3.heap.get? a=some o->s'.heap.get? a=some o/\c'.t a=none:=fun a ha o e=>let z:=I.pin (a,o) (aT _ (aT _ (xN ha e)));⟨z.1,z.2.1⟩
     refine⟨n,bu _,i+1,sc',b',c',I.less,l₂.trans (l₃.trans l'),T.frame _ _ _ st fun a ha o e=>?_,fun a ha=>?_,by omega,q⟩
     ·rcases T.fix a ha with z|⟨o',z⟩
      ·exact(pn a z o e).1
      ·have e2:=(z.mono (l₂.trans l₃)).get Ip.st
       rw[e]at e2;cases e2;exact(z.mono (l₂.trans (l₃.trans l'))).get I.st
     ·obtain⟨o,g1,_⟩:=T.obj _ _ st a ha
      exact(pn a ha o g1).2
    cases eo:fs sc3 b with
    |nx s' b'=>rw[eo]at q;intro f s c' l fr;cases f <;> first|exact fr.elim|exact again q fr l
    |ct s' b'=>rw[eo]at q;intro f s c' l fr;cases f <;> first|exact fr.elim|exact again q fr l
    |bk s' b'=>
     rw[eo]at q;intro f s c' l' fr;cases f <;> first|exact fr.elim|skip
     obtain⟨c₄,I₄,l₄,_⟩:=(Inv.less fr).rel (S.le.trans (l₂.trans (l₃.trans l'))) S.fin;exact q .next s c₄ l₄ I₄
    |rt r' b'=>
     rw[eo]at q;intro f s c' l' fr;cases f <;> first|exact fr.elim|skip
     obtain⟨⟨sc',I'⟩,r'⟩:=fr;exact q (.ret _) s c' (S.le.trans (l₂.trans (l₃.trans l'))) ⟨⟨sc',I'.less⟩,r'.less⟩
    |ex x s' b'=>rw[eo]at q;exact fun a s'' c' I' l' fl=>q a s'' c' I'.less (S.le.trans (l₂.trans (l₃.trans l'))) (Trc.less fl)
    |bad=>rw[eo]at q;exact q⟩
end
section
variable{prog:Program}{w:World}{A:Around}{d:Addr}{es:Array DictEntry}{ep:Nat}
theorem xD(hh:A.handled=none)(I:Addr)(hne:d≠I):Walks prog w A I [I,d] [I] es.size (fun i v=>∃e,es[i]?=some e/\v=e.key) (fun i h=>h.IsKeyIter I d i es.size ep/\RawD h d es ep) where
 sub:=fun b hb=>by simp at hb;simp[hb]
 frame:=fun _ _ _ st hk=>⟨st.1.at fun o e=>hk I (by simp) o e,let⟨o,h1,h2⟩:=st.2;⟨o,hk d (by simp) o h1,h2⟩⟩
 item:=fun i s Q E hi st hQ=>Qx hh st.1 st.2 (fun e h' he st' sb=>hQ e.key h' s.toks ⟨e,he,rfl⟩ ⟨st',let⟨o,h1,h2⟩:=st.2;⟨o,(sb.2 d hne).trans h1,h2⟩⟩ fun b o hb q=>(sb.2 b fun z=>hb (by simp[z])).trans q) fun hn=>by
  rw[cY]at hn;omega
 done:=fun s Q E st hQ=>Qx hh st.1 st.2 (fun e h' he=>by have:=(bC.mp he).1;omega) fun _ h' eb=>hQ h' s.toks fun b o hb q=>eb b o (fun z=>hb (by simp[z])) q
 self:=fun _ _ _ _ st hQ=>wpAny_pyIter_keyiter st.1 hQ
end
section
variable{X:Cx}{p:Pin}{sc:Sc}{b:Hb}{c c' c₁:Co}{s:Shared}{Z:iE}{a e i o tg:Expr}{es:iL}{pos pos':Pos}{fa fb fo fi:Sc->Hb->R D}{l:List D}{it:Addr}
theorem Inv.hold{o:Ob}{n q z}(I:Inv X p sc b c s)(e:b[n]?=some o)(ho:(o.set true).hd=true)(hq:c.ad[n]?=some q)(hz:s.heap.get? q.1=some z):Inv X p sc (b.set n (o.set true)) (c.hold n (some z)) s/\Le c (c.hold n (some z)):=by
 obtain⟨S,l⟩:=I.st.hold e ho hq hz;exact⟨I.more l (fun a h1 h2=>absurd h1 h2) S,l⟩
noncomputable def lsrc(b:Hb):D->Option (List D×Option Nat)
 |.lst l=>some (l,none)
 |.obj n=>match b[n]? with
  |some (.lst h l)=>some (l,if h then none else some n)
  |_=>none
 |_=>none
noncomputable def dsrc(b:Hb):D->Option (List (KK×D)×Option Nat)
 |.dic l=>some (l,none)
 |.obj n=>match b[n]? with
  |some (.dic h l)=>some (l,if h then none else some n)
  |_=>none
 |_=>none
structure Hd(X:Cx)(p:Pin)(sc:Sc)(b:Hb)(s:Shared)(c:Co)(h:Option Nat)(c₁:Co):Prop where
 I:Inv X p sc (qY h true b) c₁ s
 le:Le c c₁
 fin:∀n,h=some n->c.g n=none/\X.c₀.g n=none
theorem set_same{b:List α}{n:Nat}{o:α}(e:b[n]?=some o):b.set n o=b:=by
 obtain⟨h,rfl⟩:=ag.mp e;exact List.set_getElem_self h
theorem Inv.hd0{o:Ob}{n h q z}(I:Inv X p sc b c s)(e:b[n]?=some o)(ho:(o.set true).hd=true)(hh:h=if o.hd then none else some n)(hs:o.hd=true->o.set true=o)(hq:c.ad[n]?=some q)(hz:s.heap.get? q.1=some z):∃c₁,Hd X p sc b s c h c₁/\Fix c₁ q.1 z:=by
 obtain⟨I',l⟩:=I.hold e ho hq hz;refine⟨_,⟨?_,l,fun m hm=>?_⟩,.inr ⟨n,q,hq,rfl,aE rfl⟩⟩
 ·subst hh
  cases hd:o.hd with
  |true=>
   have e2:b.set n (o.set true)=b:=by rw[hs hd];exact set_same e
   rw[e2]at I';exact I'
  |false=>show Inv X p sc (qY (some n) true b) _ s;simp only[qY,e];exact I'
 ·subst hh
  cases hd:o.hd with
  |true=>rw[hd]at hm;cases hm
  |false=>
   rw[hd]at hm;cases hm;have g:=I.ng e hd;refine⟨g,?_⟩;cases k:X.c₀.g n with
   |none=>rfl
   |some y=>rw[I.un.le.g _ _ k]at g;cases g
theorem Inv.lsr{d u h}(I:Inv X p sc b c s)(r:Rep X.W c d u)(e:lsrc b d=some (l,h)):∃c₁ z o us,Hd X p sc b s c h c₁/\u=.ref z/\Fix c₁ z o/\LstO o us/\Reps X.W c₁ l us:=by
 cases d with
 |lst _=>cases e;obtain⟨z,o,us,rfl,q,k,rs⟩:=r;exact⟨c,z,o,us,⟨I,.refl,fun _ h=>nomatch h⟩,rfl,.inl q,k,rs⟩
 |obj n=>
  unfold lsrc at e;simp only at e
  split at e
  ·rename_i hd l' hb
   cases e;obtain⟨q,hq,rfl⟩:=r;obtain⟨q',e1,o,us,h1,h2,h3⟩:=I.st.obs n _ hb;rw[hq]at e1;cases e1;obtain⟨c₁,H,f⟩:=I.hd0 hb rfl rfl (fun z=>by cases (show hd=true from z);rfl) hq h1;exact⟨c₁,q.1,o,us,H,rfl,f,h2,h3.mono H.le.toL0⟩
  ·cases e
 |_=>cases e
theorem Inv.dsr{d u h l}(I:Inv X p sc b c s)(r:Rep X.W c d u)(e:dsrc b d=some (l,h)):∃c₁ z o xs,Hd X p sc b s c h c₁/\u=.ref z/\Fix c₁ z o/\DicO X.W o xs/\Repk X.W c₁ l xs/\c.t z≠none:=by
 cases d with
 |dic _=>cases e;obtain⟨z,o,us,rfl,q,k,rs⟩:=r;exact⟨c,z,o,us,⟨I,.refl,fun _ h=>nomatch h⟩,rfl,.inl q,k,rs,by rw[q];simp⟩
 |obj n=>
  unfold dsrc at e;simp only at e
  split at e
  ·rename_i hd l' hb
   cases e;obtain⟨q,hq,rfl⟩:=r;obtain⟨q',e1,o,us,h1,h2,h3⟩:=I.st.obs n _ hb;rw[hq]at e1;cases e1;obtain⟨c₁,H,f⟩:=I.hd0 hb rfl rfl (fun z=>by cases (show hd=true from z);rfl) hq h1;exact⟨c₁,q.1,o,us,H,rfl,f,h2,h3.mono H.le.toL0,by rw[(I.st.own n q hq).1];simp⟩
  ·cases e
 |_=>cases e
theorem DicO.raw{o xs l z}(q:DicO X.W o xs)(r:Repk X.W c l xs):∃es ep,es.size=l.length/\(∀h:Heap,h.get? z=some o->RawD h z es ep)/\∀(i:Nat) k d,l[i]?=some (k,d)->∃e,es[i]?=some e/\Rep X.W c (kkD k) e.key/\Rep X.W c d e.val:=by
 obtain⟨_,_,x,es,ep,h1,h2⟩:=q;refine⟨es,ep,by rw[qU h2,r.len],fun h e=>⟨o,e,x,h1⟩,fun i k d e=>?_⟩;obtain⟨v,u,g1,g2,g3⟩:=r.at e;exact⟨⟨_,v,u⟩,by rw[zB h2 i,g1];rfl,g2.rep,g3⟩
theorem Sr1.new{P St fp o h n}(hd:Hd X p sc b s c h c₁)(hc:X.calm=true)(W:Walks X.W.prog X.W.w X.A s.heap.objs.size fp [s.heap.objs.size] n P St)(hn:n=l.length)(st:St 0 (s.heap.push o))(hf:∀a∈fp,a=s.heap.objs.size\/∃o,Fix c₁ a o)(hP:∀(i:Nat) v d,l[i]?=some d->P i v->Rep X.W c₁ d v)
  (hg:∀i h,St i h->∃o n vs,h.get? s.heap.objs.size=some o/\o.cls=.type n/\o.data=.fields vs/\["enumerate","zip","dict_itemiterator","dict_reverseitemiterator","odict_iterator","itertools.zip_longest","itertools.pairwise"].contains n=false):Sr1 X p tg l h c c₁ s.heap.objs.size { s with heap:=s.heap.push o }:=
 ⟨hd.le,⟨fp,[s.heap.objs.size],St,.walk W hn (fun _ h=>h) (fun i h st a ha=>by
  cases aD.mp ha;obtain⟨o,n,vs,g1,g2,g3,_⟩:=hg i h st;exact⟨o,g1,fun v z=>by rw[g3]at z;cases z⟩) (fun a ha=>(hf a ha).imp (fun e=>by simp[e]) id) hP hg,st,fun a ha=>by cases aD.mp ha;exact hd.I.fpn (aI _)⟩,hd.fin⟩
noncomputable def srcA(b:Hb)(d:D):Option (List D×Option Nat):=match d with
 |.tup l=>some (l,none)
 |.str x=>some (x.cps.toList.map fun k=>.str ⟨#[k]⟩,none)
 |d=>(lsrc b d).or ((dsrc b d).map fun x=>(x.1.map fun y=>kkD y.1,x.2))
theorem qcp(hc:X.calm=true)(h:EV X e fa):EI X tg e fun s b=>(fa s b).bind fun d b=>opt (srcA b d) b:=⟨fun p sc b c s Q Z I q=>h.runI I q fun d b u s c I lc r q=>by
 obtain⟨l,h,e,k⟩:=PoI.opt q;have hh:=I.ok.hd hc;have oth:(lsrc b d).or ((dsrc b d).map fun x=>(x.1.map fun y=>kkD y.1,x.2))=some (l,h)->wpAny X.M X.A (pyIter u) Q Z s:=fun e=>by
  cases e1:lsrc b d with
  |some x=>
   rw[e1]at e;cases e;obtain⟨c₁,z,o,us,hd,rfl,f,g,rs⟩:=I.lsr r e1;have il:=(g.pl (f.get hd.I.st)).isList;have ne:z≠s.heap.objs.size:=aH (aA (f.get hd.I.st));refine fV il (k _ _ _ (hd.I.push _) (.new hd hc (Walks.list hh _ z ne us.toArray) (by simpa using rs.len) ⟨⟨_,ao _ rfl,rfl,rfl⟩,il.at fun o e=>af _ e⟩ (fun a ha=>?_) (fun i v d e hv=>?_) fun i h⟨⟨o,g1,g2,g3⟩,_⟩=>⟨o,_,_,g1,g2,g3,by decide⟩))
   ·simp only[aw,aL,bZ]at ha
    rcases ha with rfl|rfl
    ·exact .inl rfl
    ·exact .inr ⟨o,f⟩
   ·obtain⟨u,h1,h2⟩:=rs.at e
    rw[show us[i]?=some v by simpa using hv]at h1;cases h1;exact h2
  |none=>
   rw[e1]at e;obtain⟨x,h1,h2⟩:=ah.mp (show(dsrc b d).map _=_ from e);cases h2;obtain⟨c₁,z,o,xs,hd,rfl,f,g,rs,nt⟩:=I.dsr r h1;obtain⟨es,ep,g1,g2,g3⟩:=g.raw (z:=z) rs;have ho:=f.get hd.I.st;have ne:z≠s.heap.objs.size:=aH (aA ho);refine Qy (I.st.ny nt) (g2 _ ho) (k _ _ _ (hd.I.push _) (.new hd hc (xD (es:=es) (ep:=ep) hh _ ne) (by simpa using g1) ⟨⟨_,ao _ rfl,rfl,rfl⟩,g2 _ (af _ ho)⟩ (fun a ha=>?_) (fun i v d e hv=>?_) fun i h⟨⟨o,g1,g2,g3⟩,_⟩=>⟨o,_,_,g1,g2,g3,by decide⟩))
   ·simp only[aw,aL,bZ]at ha
    rcases ha with rfl|rfl
    ·exact .inl rfl
    ·exact .inr ⟨o,f⟩
   ·rw[aW]at e
    obtain⟨y,h1,rfl⟩:=ah.mp e;obtain⟨en,h2,h3,_⟩:=g3 i y.1 y.2 h1;obtain⟨en',h4,rfl⟩:=hv;rw[h2]at h4;cases h4;exact h3
 cases d with
 |tup l'=>
  cases e;obtain⟨z,o,us,rfl,f,g,rs⟩:=r;have ho:=I.st.frz _ _ f;have tu:s.heap.IsTuple z us.toArray:=g.tu ho;have ne:z≠s.heap.objs.size:=aH (aA ho);refine f7 tu (k _ _ _ (I.push _) (.new ⟨I,.refl,fun _ h=>nomatch h⟩ hc (Walks.tuple hh _ z ne us.toArray) (by simpa using rs.len) ⟨⟨_,ao _ rfl,rfl,rfl⟩,tu.at fun o e=>af _ e⟩ (fun a ha=>?_) (fun i v d e hv=>?_) fun i h⟨⟨o,g1,g2,g3⟩,_⟩=>⟨o,_,_,g1,g2,g3,by decide⟩))
  ·simp only[aw,aL,bZ]at ha
   rcases ha with rfl|rfl
   ·exact .inl rfl
   ·exact .inr ⟨o,.inl f⟩
  ·obtain⟨u,h1,h2⟩:=rs.at e
   rw[show us[i]?=some v by simpa using hv]at h1;cases h1;exact h2
 |str x=>
  cases e;obtain⟨t,rfl⟩:=r;have hd:Hd X p sc b s c none c:=⟨I,.refl,fun _ h=>nomatch h⟩;have sg:∀(i:Nat) v d,(x.cps.toList.map fun k=>D.str ⟨#[k]⟩)[i]?=some d->SignAt x i v->Rep X.W c d v:=fun i v d e hv=>by
   rw[aW]at e;obtain⟨y,h1,rfl⟩:=ah.mp e;obtain⟨y',t',h2,rfl⟩:=hv;rw[show x.cps.toList[i]?=some y' by simpa using h2]at h1;cases h1;exact⟨t',rfl⟩
  cases ha:x.cps.all (·<128)with
  |true=>exact wpAny_pyIter_ascii ha (k _ _ _ (I.push _) (.new hd hc (Walks.strAscii hh _ x t) (by simp) ⟨_,ao _ rfl,rfl,rfl⟩ (fun a ha=>.inl (by simpa using ha)) sg fun i h⟨o,g1,g2,g3⟩=>⟨o,_,_,g1,g2,g3,by decide⟩))
  |false=>exact wpAny_pyIter_wide ha (k _ _ _ (I.push _) (.new hd hc (Walks.strWide hh _ x t) (by simp) ⟨_,ao _ rfl,rfl,rfl⟩ (fun a ha=>.inl (by simpa using ha)) sg fun i h⟨o,g1,g2,g3⟩=>⟨o,_,_,g1,g2,g3,by decide⟩))
 |lst=>exact oth e
 |dic=>exact oth e
 |obj=>exact oth e
 |_=>cases e⟩
end
section
variable{X:Cx}{p:Pin}{sc:Sc}{b:Hb}{c c' c₁:Co}{s:Shared}{Z:iE}{a e i o tg:Expr}{es ts:iL}{pos pos' ps tp apos cpos:Pos}{fa fb fo fi:Sc->Hb->R D}{fs:Sc->Hb->R (List D)}{l:List D}{it:Addr}{k:Nat}
noncomputable def rng(lo hi:Int):List D:=(List.range (hi - lo).toNat).map fun(i:Nat)=>.int (lo+i)
noncomputable def inR(i:Int):Bool:=decide (-(2 ^ 62)<=i) && decide (i<2 ^ 62)
theorem V4{t u v tk Q lo hi}(hc:X.calm=true)(I:Inv X p sc b c s)(h1:inR lo=true)(h2:inR hi=true)(k:∀it s' c₁,Inv X p sc b c₁ s'->Sr1 X p tg (rng lo hi) none c c₁ it s'->Q (.ref it) s'):wpAny X.M X.A (pyIter (.ref s.heap.objs.size)) Q Z { s with heap:=s.heap.push { cls:=.type "range",data:=.fields #[.int lo t,.int hi u,.int 1 v] },toks:=tk }:=by
 simp only[inR,aq,aF]at h1 h2;have I1:=I.push (t':=tk) { cls:=.type "range",data:=.fields #[.int lo t,.int hi u,.int 1 v] };refine wpAny_pyIter_range (IsRange.new ..) (small_one h1.1 h1.2 h2.1 h2.2) (k _ _ c (I1.push (t':=tk) _) (.new (s:={ s with heap:=s.heap.push { cls:=.type "range",data:=.fields #[.int lo t,.int hi u,.int 1 v] },toks:=tk }) ⟨I1,.refl,fun _ h=>nomatch h⟩ hc (Walks.range (I.ok.hd hc) _ lo 1 (hi - lo).toNat) (by simp[rng]) ?_ (fun a ha=>.inl (by simpa using ha)) (fun i v d e hv=>?_) fun i h st=>⟨_,_,_,st,rfl,rfl,by decide⟩))
 ·have e1:lo+((0:Nat):Int) * 1=lo:=by simp
  have e2:(((hi - lo).toNat:Nat):Int) - ((0:Nat):Int)=Builtin.Range.rangeSize lo hi 1:=by rw[rangeSize_one];split <;> omega
  rw[e1,e2];exact ao _ rfl
 ·obtain⟨t,rfl⟩:=hv
  unfold rng at e;rw[aW]at e;obtain⟨j,g1,rfl⟩:=ah.mp e;obtain⟨_,g2⟩:=ag.mp g1;have g2:i=j:=by simpa using g2
  subst g2;exact⟨t,by rw[Int.mul_one]⟩
noncomputable def srcR:List D->Option (List D×Option Nat)
 |[.int j]=>if inR j then some (rng 0 j,none)else none
 |[.int i,.int j]=>if inR i && inR j then some (rng i j,none)else none
 |_=>none
theorem Wz(hc:X.calm=true)(hg:Gl X "range")(hm:X.W.mg "range"=none)(ha:EA X (e::es) fs)(h1:notStar e=true)(h2:(backTo pos (starEach es X.env)).any (·.1)=false):EI X tg (.Call (.Name "range" ps) (e::es) [] pos) fun s b=>(fs s b).bind fun l b=>opt (srcR l) b:=⟨fun p sc b c s Q Z I q=>by
 refine Call_ (vI I hg hm boot_range (callWith_type1 ((ha pos).runI I q fun ds b us s c I lc rs q=>?_) (qQ h1) h2) (by decide) (by decide));obtain⟨l,h,e,k⟩:=PoI.opt q;unfold srcR at e
 split at e
 ·split at e
  ·cases e
   obtain⟨_,_,rfl,⟨t,rfl⟩,rfl⟩:=rs;exact call_range_1 (V4 hc I (by decide) (by assumption) k)
  ·cases e
 ·split at e
  ·rename_i h
   rw[aq]at h;cases e;obtain⟨_,_,rfl,⟨t,rfl⟩,_,_,rfl,⟨t',rfl⟩,rfl⟩:=rs;exact call_range_2 (V4 hc I h.1 h.2 k)
  ·cases e
 ·cases e⟩
noncomputable def zipE(l:List D):List D:=(List.range l.length).map fun(i:Nat)=>.scr [.int i,l.getD i .non]
noncomputable def srcE(b:Hb):List D->Option (List D×Option Nat)
 |[d]=>(lsrc b d).map fun x=>(zipE x.1,x.2)
 |_=>none
theorem wU:2<=sizeLine:=by rw[cu];decide
theorem uu(hc:X.calm=true)(hg:Gl X "enumerate")(hm:X.W.mg "enumerate"=none)(ha:EA X [e] fs)(h1:notStar e=true):EI X (.Tuple ts k tp) (.Call (.Name "enumerate" ps) [e] [] pos) fun s b=>(fs s b).bind fun l b=>opt (srcE b l) b:=⟨fun p sc b c s Q Z I q=>by
 refine Call_ (vI I hg hm boot_enumerate (callWith_type1 ((ha pos).runI I q fun ds b us s c I lc rs q=>?_) (qQ h1) rfl) (by decide) (by decide));obtain⟨l,h,e,k⟩:=PoI.opt q;unfold srcE at e
 split at e
 ·obtain⟨x,e1,e2⟩:=ah.mp e
  cases e2;obtain⟨_,_,rfl,r,rfl⟩:=rs;obtain⟨c₁,z,o,us,hd,rfl,f,g,rs⟩:=I.lsr r e1;have ho:=f.get hd.I.st;have il:=(g.pl ho).isList;have zl:=aA ho;refine call_enumerate_list il fun h' he hit hsz kk=>wpAny_pyIter_enum he (k _ _ _ (hd.I.kept (t':=s.toks) kk) ⟨hd.le,⟨_,[s.heap.objs.size+1,s.heap.objs.size],_,.walkT (WalksT.enumerate (I.ok.hd hc) _ s.heap.objs.size z (Nat.succ_ne_self _) (aH (fW zl)) (aH zl) us.toArray) (by simp[zipE,rs.len]) (fun _ h=>h) (fun i h st a ha=>?_) (fun a ha=>?_) (fun i vs d e hv=>?_),⟨⟨_,he⟩,hit,il.at fun o e=>kk z o e⟩,fun a ha=>?_⟩,hd.fin⟩)
  ·obtain⟨⟨old,st⟩,⟨o,g1,g2,g3⟩,_⟩:=st
   simp only[aw,aL,bZ]at ha;rcases ha with rfl|rfl
   ·exact⟨_,st,fun v z=>by cases z⟩
   ·exact⟨o,g1,fun v z=>by rw[g3]at z;cases z⟩
  ·simp only[aw,aL,bZ]at ha ⊢
   rcases ha with rfl|rfl|rfl
   ·exact .inl (.inl rfl)
   ·exact .inl (.inr rfl)
   ·exact .inr ⟨o,f⟩
  ·obtain⟨t,y,g1,rfl⟩:=hv
   unfold zipE at e;rw[aW]at e;obtain⟨j,g2,rfl⟩:=ah.mp e;obtain⟨g3,g4⟩:=ag.mp g2;have g4:i=j:=by simpa using g4
   subst g4;have g3:i<x.1.length:=by simpa using g3
   obtain⟨u,g5,g6⟩:=rs.at (ak g3);rw[show us[i]?=some y by simpa using g1]at g5;cases g5;exact⟨_,rfl,.two ⟨t,rfl⟩ (by rw[cG,ak g3];exact g6),wU⟩
  ·simp only[aw,aL,bZ]at ha
   rcases ha with rfl|rfl
   ·exact hd.I.fpn (fX _)
   ·exact hd.I.fpn (aI _)
 ·cases e⟩
noncomputable def srcZ:List D->Option (List D×Option Nat)
 |[.lst x,.lst y]=>some ((x.zip y).map fun z=>.scr [z.1,z.2],none)
 |_=>none
theorem Xp:bootBuiltins "zip"=some (.type "zip"):=by decide +kernel
theorem qco(hc:X.calm=true)(hg:Gl X "zip")(hm:X.W.mg "zip"=none)(ha:EA X [e,i] fs)(h1:notStar e=true)(h2:notStar i=true):EI X (.Tuple ts k tp) (.Call (.Name "zip" ps) [e,i] [] pos) fun s b=>(fs s b).bind fun l b=>opt (srcZ l) b:=⟨fun p sc b c s Q Z I q=>by
 refine Call_ (vI I hg hm Xp (callWith_type1 ((ha pos).runI I q fun ds b us s c I lc rs q=>?_) (qQ h1) (by rw[qQ h2];rfl)) (by decide) (by decide));obtain⟨l,h,e,k⟩:=PoI.opt q;unfold srcZ at e
 split at e
 ·rename_i x y
  cases e;obtain⟨_,_,rfl,⟨z,o,us,rfl,f,g,rs⟩,_,_,rfl,⟨z',o',us',rfl,f',g',rs'⟩,rfl⟩:=rs;have ho:=I.st.frz _ _ f;have ho':=I.st.frz _ _ f';have il:=(g.pl ho).isList;have il':=(g'.pl ho').isList;refine call_zip_2 il il' fun h' a1 a2 a3 a4 a5 a6 kk=>iy a1 (k _ _ _ (I.kept (t':=s.toks) kk) ⟨.refl,⟨_,[s.heap.objs.size+4,s.heap.objs.size+2,s.heap.objs.size+3,s.heap.objs.size,s.heap.objs.size+1],_,.walkT (WalksT.zip2 (I.ok.hd hc) _ _ _ _ _ z z' (PySem.W.ktu_apart _ z z' (aA ho) (aA ho')) us.toArray us'.toArray) (by simp[rs.len,rs'.len]) (fun a ha=>?_) (fun i h st a ha=>?_) (fun a ha=>?_) (fun i vs d e hv=>?_),⟨a1,a2,⟨_,_,a3⟩,a4,a5,il.at fun o e=>kk z o e,il'.at fun o e=>kk z' o e⟩,fun a ha=>?_⟩,fun _ h=>nomatch h⟩)
  ·simp only[aw,aL,bZ]at ha ⊢
   rcases ha with rfl|rfl|rfl|rfl <;> simp
  ·obtain⟨b1,b2,⟨_,_,b3⟩,⟨o1,b4,_,b5⟩,⟨o2,b6,_,b7⟩,_⟩:=st
   simp only[aw,aL,bZ]at ha;rcases ha with rfl|rfl|rfl|rfl|rfl
   ·exact⟨_,b1,fun v z=>by cases z⟩
   ·exact⟨_,b2,fun v z=>by cases z⟩
   ·exact⟨_,b3,fun v z=>by cases z⟩
   ·exact⟨o1,b4,fun v z=>by rw[b5]at z;cases z⟩
   ·exact⟨o2,b6,fun v z=>by rw[b7]at z;cases z⟩
  ·simp only[aw,aL,bZ]at ha ⊢
   rcases ha with h|h|h|h|h|rfl|rfl
   ·exact .inl (.inl h)
   ·exact .inl (.inr (.inl h))
   ·exact .inl (.inr (.inr (.inl h)))
   ·exact .inl (.inr (.inr (.inr (.inl h))))
   ·exact .inl (.inr (.inr (.inr (.inr h))))
   ·exact .inr ⟨o,.inl f⟩
   ·exact .inr ⟨o',.inl f'⟩
  ·obtain⟨v,w,g1,g2,rfl⟩:=hv
   rw[aW]at e;obtain⟨y,g3,rfl⟩:=ah.mp e;obtain⟨g4,g5⟩:=gQ.mp g3;obtain⟨u,b1,b2⟩:=rs.at g4;obtain⟨u',b3,b4⟩:=rs'.at g5;rw[show us[i]?=some v by simpa using g1]at b1;cases b1;rw[show us'[i]?=some w by simpa using g2]at b3;cases b3;exact⟨_,rfl,.two b2 b4,wU⟩
  ·simp only[aw,aL,bZ]at ha
   rcases ha with rfl|rfl|rfl|rfl|rfl <;> first|exact I.fpn (bD _ _)|exact I.fpn (aI _)
 ·cases e⟩
theorem wJ{z o xs}(g:DicO X.W o xs)(ho:s.heap.get? z=some o):s.TypeIs (.ref z) "dict"/\∀y,Value.ref z=.ref y->∃ob,s.heap.get? y=some ob/\ob.dict=none:=by
 obtain⟨_,_,h2,_⟩:=g;exact⟨⟨o,ho,h2.1⟩,fun y e=>by cases e;exact⟨o,ho,h2.2.1⟩⟩
section
variable{prog:Program}{w:World}{A:Around}{d:Addr}{en:Array DictEntry}{ep:Nat}
theorem Zf(hh:A.handled=none)(I:Addr)(hne:d≠I):Walks prog w A I [I,d] [I] en.size (fun i v=>∃e,en[i]?=some e/\v=e.val) (fun i h=>h.IsValIter I d i en.size ep/\RawD h d en ep) where
 sub:=fun b hb=>by simp at hb;simp[hb]
 frame:=fun _ _ _ st hk=>⟨st.1.at fun o e=>hk I (by simp) o e,let⟨o,h1,h2⟩:=st.2;⟨o,hk d (by simp) o h1,h2⟩⟩
 item:=fun i s Q E hi st hQ=>Qw hh st.1 st.2 (fun e h' he st' sb=>hQ e.val h' s.toks ⟨e,he,rfl⟩ ⟨st',let⟨o,h1,h2⟩:=st.2;⟨o,(sb.2 d hne).trans h1,h2⟩⟩ fun b o hb q=>(sb.2 b fun z=>hb (by simp[z])).trans q) fun hn=>by
  rw[cY]at hn;omega
 done:=fun s Q E st hQ=>Qw hh st.1 st.2 (fun e h' he=>by have:=(bC.mp he).1;omega) fun _ h' eb=>hQ h' s.toks fun b o hb q=>eb b o (fun z=>hb (by simp[z])) q
 self:=fun _ _ _ _ st hQ=>wpAny_pyIter_valiter st.1 hQ
theorem yx(hh:A.handled=none)(I:Addr)(hne:d≠I):WalksT prog w A I [I,d] [I] en.size (fun i vs=>∃e,en[i]?=some e/\vs=#[e.key,e.val]) (fun i h=>(∃ok ov,IsItemIter h I d i en.size ep ok ov)/\RawD h d en ep)
  (fun i T h=>(∃ok ov,IsItemIterOut h I d (i+1) en.size ep ok ov T)/\RawD h d en ep/\T≠I) where
 sub:=fun b hb=>by simp at hb;simp[hb]
 frame:=fun _ _ _⟨⟨ok,ov,st⟩,o,h1,h2⟩ hk=>⟨⟨ok,ov,hk I (by simp) _ st⟩,o,hk d (by simp) o h1,h2⟩
 item:=fun i s Q E hi st hQ=>by
  obtain⟨⟨ok,ov,st⟩,r⟩:=st;refine w5 hh st r (fun e h' he a1 a2 k=>hQ s.heap.objs.size _ h' s.toks ⟨e,he,rfl⟩ (aI _) ⟨_,a2,rfl,_,rfl⟩ ⟨⟨_,_,a1⟩,let⟨o,h1,h2⟩:=r;⟨o,k d o hne h1,h2⟩,cU (aA st)⟩ fun b o hb q=>k b o (fun z=>hb (by simp[z])) q) fun hn=>by
   rw[cY]at hn;omega
 go:=fun elts k pos i T s Q E hm hQ=>by
  obtain⟨⟨ok,ov,st⟩,r,n⟩:=hm;exact wpAny_letOwnedTupleGo_items st fun h' st' sb=>hQ h' ⟨⟨ok,ov,st'⟩,let⟨o,h1,h2⟩:=r;⟨o,(sb.2 d hne).trans h1,h2⟩⟩ fun b o hb q=>(sb.2 b fun z=>hb (by simp[z])).trans q
 apart:=fun i T h hm hT=>hm.2.2 (by simpa using hT)
 done:=fun s Q E st hQ=>by
  obtain⟨⟨ok,ov,st⟩,r⟩:=st;exact w5 hh st r (fun e h' he=>by have:=(bC.mp he).1;omega) fun _ h' eb=>hQ h' s.toks fun b o hb q=>eb b o (fun z=>hb (by simp[z])) q
 self:=fun i s Q E⟨⟨ok,ov,st⟩,_⟩ hQ=>PySem.W.kcp_self st hQ
end
noncomputable def srcV(b:Hb)(d:D):Option (List D×Option Nat):=(dsrc b d).map fun x=>(x.1.map (·.2),x.2)
noncomputable def srcI(b:Hb)(d:D):Option (List D×Option Nat):=(dsrc b d).map fun x=>(x.1.map fun y=>.scr [kkD y.1,y.2],x.2)
theorem ut(hc:X.calm=true)(h:EV X o fo)(hb:attributeBase o "values" X.env (eval o X.env)=eval o X.env)(hl:(apos.endLine == cpos.line)=true):EI X tg (.Call (.Attribute o "values" apos) [] [] cpos) fun s b=>(fo s b).bind fun d b=>opt (srcV b d) b:=⟨fun p sc b c s Q Z I q=>by
 refine fA hb hl (h.runI I q fun d b u s c I lc r q=>?_);obtain⟨l,h,e,k⟩:=PoI.opt q;obtain⟨x,h1,h2⟩:=ah.mp e;cases h2;obtain⟨c₁,z,o,xs,hd,rfl,f,g,rs,nt⟩:=I.dsr r h1;obtain⟨es,ep,g1,g2,g3⟩:=g.raw (z:=z) rs;have ho:=f.get hd.I.st;obtain⟨t1,t2⟩:=wJ (s:=s) g ho;refine⟨"dict","dict.values",cB,gX,PySem.F.type_dict_values,t1,t2,bP rfl (gD (el gX t1 PySem.F.entry_dict_values (PySem.F.args_dict_values_1 _) (Z2 (I.st.ny nt)) ⟨⟨es,ep,g2 _ ho⟩,?_⟩))⟩;have hd':Hd X p sc b { s with heap:=s.heap.push { cls:=.type "dict_values",data:=.fields #[.ref z] } } c x.2 c₁:=⟨hd.I.push (t':=s.toks) _,hd.le,hd.fin⟩;have ho':=f.get hd'.I.st;have ne:=aH (aA ho');refine Z3 ⟨_,ao _ rfl,rfl,rfl⟩ (g2 _ ho') (k _ _ _ (hd'.I.push (t':=s.toks) _) (.new hd' hc (Zf (en:=es) (ep:=ep) (I.ok.hd hc) _ ne) (by simpa using g1) ⟨⟨_,ao _ rfl,rfl,rfl⟩,g2 _ (af _ ho')⟩ (fun a ha=>?_) (fun i v d e hv=>?_) fun i h⟨⟨o,g1,g2,g3⟩,_⟩=>⟨o,_,_,g1,g2,g3,by decide⟩))
 ·simp only[aw,aL,bZ]at ha
  rcases ha with rfl|rfl
  ·exact .inl rfl
  ·exact .inr ⟨o,f⟩
 ·rw[aW]at e
  obtain⟨y,h1,rfl⟩:=ah.mp e;obtain⟨en,h2,_,h3⟩:=g3 i y.1 y.2 h1;obtain⟨en',h4,rfl⟩:=hv;rw[h2]at h4;cases h4;exact h3⟩
theorem WA(hc:X.calm=true)(h:EV X o fo)(hb:attributeBase o "items" X.env (eval o X.env)=eval o X.env)(hl:(apos.endLine == cpos.line)=true):EI X (.Tuple ts k tp) (.Call (.Attribute o "items" apos) [] [] cpos) fun s b=>(fo s b).bind fun d b=>opt (srcI b d) b:=⟨fun p sc b c s Q Z I q=>by
 refine fA hb hl (h.runI I q fun d b u s c I lc r q=>?_);obtain⟨l,h,e,k⟩:=PoI.opt q;obtain⟨x,h1,h2⟩:=ah.mp e;cases h2;obtain⟨c₁,z,o,xs,hd,rfl,f,g,rs,nt⟩:=I.dsr r h1;obtain⟨es,ep,g1,g2,g3⟩:=g.raw (z:=z) rs;have ho:=f.get hd.I.st;obtain⟨t1,t2⟩:=wJ (s:=s) g ho;refine⟨"dict","dict.items",cB,PySem.F.slot_dict_items,PySem.F.type_dict_items,t1,t2,bP rfl (gD (el PySem.F.slot_dict_items t1 PySem.F.entry_dict_items (PySem.F.args_dict_items_1 _) (K9 (I.st.ny nt)) ⟨⟨es,ep,g2 _ ho⟩,?_⟩))⟩;have I1:=hd.I.push (t':=s.toks) { cls:=.type "dict_items",data:=.fields #[.ref z] };have ho':=f.get I1.st;have ne:=aH (aA ho');refine Z4 ⟨_,ao _ rfl,rfl,rfl⟩ (g2 _ ho') (k _ _ _ (I1.push (t':=s.toks) _) ⟨hd.le,⟨_,[_],_,.walkT (yx (en:=es) (ep:=ep) (I.ok.hd hc) _ ne) (by simpa using g1) (fun _ h=>h) (fun i h st a ha=>?_) (fun a ha=>?_) (fun i vs d e hv=>?_),⟨⟨_,_,ao _ rfl⟩,g2 _ (af _ ho')⟩,fun a ha=>?_⟩,hd.fin⟩)
 ·cases aD.mp ha
  obtain⟨⟨_,_,st⟩,_⟩:=st;exact⟨_,st,fun v z=>by cases z⟩
 ·simp only[aw,aL,bZ]at ha ⊢
  rcases ha with rfl|rfl
  ·exact .inl rfl
  ·exact .inr ⟨o,f⟩
 ·rw[aW]at e
  obtain⟨y,h1,rfl⟩:=ah.mp e;obtain⟨en,h2,h3,h5⟩:=g3 i y.1 y.2 h1;obtain⟨en',h4,rfl⟩:=hv;rw[h2]at h4;cases h4;exact⟨_,rfl,.two h3 h5,wU⟩
 ·cases aD.mp ha;exact I1.fpn (aI _)⟩
end
structure E0(W:Wd)(A:Around)(outer:List Env)(s:Shared)(c:Co)(b:Hb):Prop where
 frames:A.frames=some outer
 mo:Mo W
 bs:∀a o,W.base.get? a=some o->s.heap.get? a=some o/\(c.t a=none\/c.t a=some (.frz o))
 bsz:W.base.objs.size<=s.heap.objs.size
 funs:s.heap.FunFrames W.base outer
 frf:∀a∈frs outer,c.t a=none
 st:Sto W c b s.heap
 bare:AllBare s.gens
 hx:Hx A c
noncomputable abbrev New(s:Shared)(c:Co)(a:Addr):Prop:=s.heap.get? a=none/\c.t a=none
noncomputable def RC(W:Wd)(s:Shared)(c:Co)(s':Shared)(u:Value):Res->Prop
 |.v d=>Rep W c d u
 |.n o=>∃a,u=.ref a/\New s c a/\a≠sysModules/\ObA W c s'.heap (a,a) o
structure Beh(W:Wd)(outer:List Env)(s:Shared)(c:Co)(b':Hb)(s':Shared)(c':Co):Prop where
 os:s'.os=s.os
 bare:AllBare s'.gens
 un:Un (frs outer) [] c c' s.heap s'.heap
 st:Sto W c' b' s'.heap
noncomputable def PoF(W:Wd)(outer:List Env)(s:Shared)(c:Co)(r:R Res)(Q:Result->Shared->Prop):Prop:=match r with
 |.ok r b'=>∀u s' c',Beh W outer s c b' s' c'->RC W s c' s' u r->Q (.ok (.ret u)) s'
 |.exc x b'=>∀a s' c',Beh W outer s c b' s' c'->Trc (New s c') s'.heap a (.ref (W.cl x))->Q (.error (.ref a)) s'
 |.bad=>False
structure FnOk(W:Wd)(k:Nat)(f:Addr)(fd:FuncData)(ps:iK)(F:List D->Hb->R Res):Prop where
 run:∀A outer s c b args us ds Q,Room k A->E0 W A outer s c b->BindsTo s fd args (ps.zip us)->Reps W c ds us->ds.length=ps.length->PoF W outer s c (F ds b) Q->codeAny W.M A (.call (.ref f) args) Q s
noncomputable def cxQ(q:Bool)(W:Wd)(N:iK)(qual:Str)(scope:Scope)(f:Addr)(cd:Value)(A:Around)(outer:List Env)(s:Shared)(c:Co):Cx where
 W:=W
 A:=A.deeper (envOfC qual scope s.heap.objs.size f cd)
 N:=N
 s₀:=s
 c₀:=c
 env:=envOfC qual scope s.heap.objs.size f cd
 outer:=outer
 stack:=envOfC qual scope s.heap.objs.size f cd::outer
 ex:=[]
 fn:=fun _=>true
 calm:=q
 pn:=[]
noncomputable abbrev cxOf:=cxQ true
noncomputable def zL(n:Nat)(l:List D):Sc:=l.map some++List.replicate (n - l.length) none
section
variable{W:Wd}{N ps:iK}{qual:Str}{scope:Scope}{f:Addr}{cd:Value}{A:Around}{outer:List Env}{s s1:Shared}{c c':Co}{b b':Hb}{us:iH}{ds:List D}{p:Pin}{sc:Sc}
theorem Inv.start{q:Bool}(S:FnScope N ps scope)(hd:q=true->A.handled=none)(e0:E0 W A outer s c b)(hl:ds.length=ps.length)(r:Reps W c ds us)
  (x:InCallC s s.heap.objs.size (bindL (envOfC qual scope s.heap.objs.size f cd).kindOf (ps.zip us) fun _=>none) (cellsFrom (s.heap.objs.size+1) scope.names []) (bindC (envOfC qual scope s.heap.objs.size f cd).kindOf (ps.zip us) fun _=>none) s1) :
  Inv (cxQ q W N qual scope f cd A outer s c) [] (zL N.length ds) b c s1:=by
 have hpl:ps.length<=N.length:=by have:=bY List.length S.pre;rw[gu]at this;omega
 obtain⟨h1,tk,rfl,hk⟩:=x.done;have noA:∀a:Addr,a∉(cxQ q W N qual scope f cd A outer s c).ex:=fun a z=>nomatch (show a∈([]:iG)from z)
 refine⟨⟨e0.mo,S.kind,rfl,rfl,aI _,fun y z c h1 h2=>?_,fun y hy=>?_,fun y c _ h=>?_,hd,Around.frames_deeper e0.frames,.inr ⟨rfl,rfl⟩,fun a z=>absurd z (noA a),e0.bs,e0.bsz,fun a _ _=>noA a,fun a z=>absurd z (noA a),e0.funs,e0.frf⟩,
  rfl,e0.bare,.kept hk,⟨_,x.toInCall.ns,fun i y d h1 h2 h3=>?_⟩,fun y z h=>⟨e0.st.fresh (cN (x.above y z (dN h))),_,x.cell y z h⟩,e0.st.fresh (aI _),fun q hq=>absurd (show q∈([]:Pin)from hq) (by simp),e0.st.keep fun a o _ q=>hk a o q,?_,e0.hx⟩
 ·exact name_of_addr x.apart (dN h1) (dN h2)
 ·have hy:scope.names.lookup y=some .cell\/scope.names.lookup y=some .free:=hy
  rcases hy with hy|hy
  ·exact vP hy
  ·exact absurd rfl (S.nofree _ (dN hy))
 ·exact cN (x.above y c (dN h))
 ·have hi:i<ds.length:=by
   unfold zL at h2;refine eK fun hi=>?_
   rw[aJ (by simpa using hi),List.getElem?_replicate]at h2
   split at h2 <;> cases h2
  have ha:ds[i]?=some d:=by
   unfold zL at h2;rw[aU (by simpa using hi),aW]at h2;cases e:ds[i]? with
   |none=>rw[e]at h2;cases h2
   |some a=>rw[e]at h2;cases h2;rfl
  obtain⟨u,hu,rv⟩:=r.at ha;have hp:ps[i]?=some y:=by rw[<- S.pre,List.getElem?_take_of_lt (by omega)];exact h1
  have ndP:ps.Nodup:=by rw[<- S.pre];exact S.nd.sublist (List.take_sublist _ _)
  refine⟨u,rv,?_⟩;rcases S.par y (aB hp)with k|k
  ·exact .inl ⟨k,xm ndP hp hu k⟩
  ·obtain⟨z,e⟩:=vP (n:=s.heap.objs.size+1) k
   refine .inr ⟨.inl k,z,e,?_⟩;have q:=x.cell y z e;rw[yr ndP hp hu (by show scope.names.lookup y≠_;rw[k];decide)]at q;exact q
 ·unfold zL
  show _=N.length;rw[az,aM,gj];omega
theorem WI{x a}{Q:Result->Shared->Prop}(I:Inv (cxOf W N qual scope f cd A outer s c) p sc b' c' s1)(t:Fly (cxOf W N qual scope f cd A outer s c) p c' s1 a x)(q:∀s' c',Beh W outer s c b' s' c'->Trc (New s c') s'.heap a (.ref (W.cl x))->Q (.error (.ref a)) s') :
  wpAny W.M (A.deeper (envOfC qual scope s.heap.objs.size f cd)) (leaving (envOfC qual scope s.heap.objs.size f cd) (.ref a)) (fun _ s''=>Q (.error (.ref a)) s'') (fun e s''=>Q (.error e) s'') s1:=by
 have U:Un (frs outer) [] c c' s.heap s1.heap:=I.un;have hL:s.heap.get? s.heap.objs.size=none:=bw (aI _);have fr:∀b,s1.heap.get? b=none->New s c' b:=fun b e=>by
  have F:=I.fp e;exact⟨F.x.elim (fun z=>nomatch (show b∈([]:iG)from z)) id,F.t⟩
 refine Vo (base:=W.base) (L:=s.heap.objs.size) (show _=some (envOfC qual scope s.heap.objs.size f cd::outer)from I.ok.frames) I.stack rfl (t.mono fun b F=>⟨F.x.elim (fun z=>nomatch (show b∈([]:iG)from z)) id,F.t⟩) fr fun h' t' keep slot=>?_
 have nL:∀b o,s.heap.get? b=some o->b≠s.heap.objs.size:=fun b o e z=>by rw[z,hL]at e;cases e
 have mem:∀b,b∈(envOfC qual scope s.heap.objs.size f cd::outer).filterMap (·.frame)->b=s.heap.objs.size\/b∈frs outer:=fun b hb=>aw.mp (show b∈s.heap.objs.size::outer.filterMap (·.frame)from hb)
 have np:∀b o,s.heap.get? b=some o->¬ New s c' b:=fun b o e z=>by rw[z.1]at e;cases e
 have kk:∀b o,c'.t b≠none->s1.heap.get? b=some o->h'.get? b=some o:=fun b o n e=>keep b o (fun hb=>n (by rcases mem b hb with rfl|hb;exact I.free;exact I.fsN hb)) (fun z=>n z.2) e
 refine q _ c' ⟨I.os,I.bare,⟨U.le,fun b o e n hb hx=>keep b o (fun z=>(mem b z).elim (nL b o e) hb) (np b o e) (U.keep b o e n hb hx),fun b o e n hx=>?_,U.free⟩,I.st.keep kk⟩ t'
 ·obtain⟨sl,e1⟩:=U.slot b o e n hx
  obtain⟨sl2,e2⟩:=slot b _ (np b o e) e1;exact⟨sl2,e2⟩
noncomputable def outR:Out->R Res
 |.rt r b=>.ok r b
 |.nx _ b=>.ok (.v .non) b
 |.ex x _ b=>.exc x b
 |_=>.bad
noncomputable def qs(n:Nat)(f:Sc->Hb->Out)(l:List D)(b:Hb):R Res:=outR (f (zL n l) b)
theorem qcy{k name params body dV kV doc pm cdv ct oc}{an od:iI}{osl}{fs:Sc->Hb->Out}(lk:W.K.lookup f=some ⟨oc,od,.func (PySem.W.fnOf name qual params body scope dV kV doc pm an cdv ct),osl⟩)(hcd:PySem.W.codeIn W.K cdv qual=true)(S:FnScope N ps scope)
  (hb:∀A outer s c,Room k (A.deeper (envOfC qual scope s.heap.objs.size f cdv))->ESs (cxOf W N qual scope f cdv A outer s c) body fs):FnOk W (k+1) f (PySem.W.fnOf name qual params body scope dV kV doc pm an cdv ct) ps (qs N.length fs):=by
 refine⟨fun A outer s c b args us ds Q hr e0 hbd r hl q=>?_⟩;have KX:W.K.In s.heap:=e0.mo.kin.keeps fun b o e=>(e0.bs b o e).1
 have lim:s.heap.NoLimit:=e0.mo.lim.keeps fun b o e=>(e0.bs b o e).1
 have hkind:∀y∈ps.zip us,scope.names.lookup y.1=some .local\/(scope.names.lookup y.1=some .cell/\((cellsFrom (s.heap.objs.size+1) scope.names []).lookup y.1).isSome=true):=fun⟨n,v⟩ hy=>by
  rcases S.par n (fy hy).1 with q|q
  ·exact .inl q
  ·exact .inr ⟨q,fN _ _ _ (.inl q)⟩
 refine gm hr.depth (KX _ _ lk) rfl S.co S.gen rfl (PySem.W.codeRec_of KX hcd) (hbd _ _ _ _ ?_);refine eH S.kind hkind fun env he s1 x=>?_
 subst he;refine⟨lim.keeps x.toInCall.keep,codeAny_func ?_⟩;have I:Inv (cxOf W N qual scope f cdv A outer s c) [] (zL N.length ds) b c s1:=.start S (fun _=>hr.hd) e0 hl r x;refine(hb A outer s c (hr.deeper _)).h [] (zL N.length ds) b c s1 _ _ I ?_;unfold qs at q;cases eo:fs (zL N.length ds) b with
 |rt r b'=>
  rw[eo]at q;intro fl s' c' l fr;cases fl <;> first|exact fr.elim|skip
  obtain⟨⟨sc',J⟩,rr⟩:=fr;refine q _ s' c' ⟨J.os,J.bare,J.un,J.st⟩ ?_;cases r with
  |v d=>exact rr
  |n o=>obtain⟨a,e,F,oa⟩:=rr;exact⟨a,e,⟨F.x.elim (fun z=>nomatch (show a∈([]:iG)from z)) id,F.t⟩,F.y,oa⟩
 |nx sc' b'=>
  rw[eo]at q;intro fl s' c' l fr;cases fl <;> first|exact fr.elim|skip
  exact q .none s' c' ⟨fr.os,fr.bare,fr.un,fr.st⟩ rfl
 |ex x sc' b'=>rw[eo]at q;exact fun a s' c' J l fl=>WI J fl fun s'' c'' B T=>q a s'' c'' B T
 |bk=>rw[eo]at q;exact q.elim
 |ct=>rw[eo]at q;exact q.elim
 |bad=>rw[eo]at q;exact q.elim
end
noncomputable def Bnd(fd:FuncData)(ps:iK):Prop:=∀us:iH,us.length=ps.length->bindArgs fd ⟨us,[]⟩=pure (ps.zip us)
section
variable{X:Cx}{p:Pin}{sc:Sc}{b b':Hb}{c c' c₁:Co}{s s':Shared}{Z:iE}{a e i o tg:Expr}{es:iL}{pos ps apos cpos np spos:Pos}{fa fb fo fi:Sc->Hb->R D}{fs:Sc->Hb->R (List D)}{k n:Nat}{f:Addr}{fd:FuncData}{pr:iK}{F:List D->Hb->R Res}{ds:List D}{us:iH}{Q:iE}{x:Str}
theorem Inv.e0(I:Inv X p sc b c s):E0 X.W X.A X.stack s c b:=by
 refine⟨I.ok.frames,I.ok.mo,fun a o e=>⟨I.bk a o e,?_⟩,ba I.ok.bsz I.sz,I.stack,fun a ha=>(I.stk a ha).elim (fun e=>e▸I.free) I.fsN,I.st,I.bare,I.hx⟩;obtain⟨h1,h2|h2⟩:=I.ok.bs a o e
 ·exact .inl (I.un.free a o h1 h2 (I.ok.noex a o e))
 ·exact .inr (I.un.le.t _ _ h2)
theorem Inv.after(I:Inv X p sc b c s)(h:Beh X.W X.stack s c b' s' c'):Inv X p sc b' c' s':=by
 obtain⟨hh,g,d,t,os'⟩:=s';obtain rfl:os'=s.os:=h.os;exact I.step (g':=g) (d':=d) (t':=t) (ch:=[]) (fun _ z=>nomatch z) I.stk h.un h.st h.bare
theorem New.fp{a:Addr}(I:Inv X p sc b c s)(h:New s c' a):Fp X p c' a:={ I.fp h.1 with t:=h.2 }
theorem YF(G:FnOk X.W k f fd pr F)(hr:Room k X.A)(hb:Bnd fd pr)(I:Inv X p sc b c s)(r:Reps X.W c ds us)(hl:ds.length=pr.length)(q:Post X p sc Z c RR (F ds b) Q):wpAny X.M X.A (call (.ref f) us) Q Z s:=by
 refine gy (G.run X.A X.stack s c b ⟨us,[]⟩ us ds _ hr I.e0 (.of_eq (hb us (by rw[r.len];exact hl))) r hl ?_);cases e:F ds b with
 |bad=>rw[e]at q;exact q
 |ok r b'=>
  rw[e]at q;refine fun u s' c' B rc=>q u s' c' (I.after B) B.un.le ?_
  cases r with
  |v d=>exact rc
  |n o=>obtain⟨a,e,n,y,oa⟩:=rc;exact⟨a,e,n.fp I,oa⟩
 |exc x b'=>rw[e]at q;exact fun a s' c' B t=>q a s' c' (I.after B) B.un.le (t.mono fun _ n=>n.fp I)
noncomputable def cl(n:Nat)(F:List D->Hb->R Res)(l:List D)(b:Hb):R Res:=if l.length=n then F l b else .bad
theorem Qt(G:FnOk X.W k f fd pr F)(hr:Room k X.A)(hb:Bnd fd pr)(I:Inv X p sc b c s)(r:Reps X.W c ds us)(q:Post X p sc Z c RR (cl pr.length F ds b) Q):wpAny X.M X.A (call (.ref f) us) Q Z s:=by
 unfold cl at q
 split at q
 ·exact YF G hr hb I r (by assumption) q
 ·exact q.elim
theorem WS(G:FnOk X.W k f fd pr F)(hr:Room k X.A)(hg:Gl X x)(hm:X.W.mg x=some (.ref f))(hk:PySem.W.keepIn X.W.K (.ref f)=true)(hb:Bnd fd pr)(hd:(x == ("__debug__":Str))=false):ER X (.Call (.Name x ps) [] [] pos) fun _ b=>cl pr.length F [] b:=⟨fun _ _ _ _ _ _ _ I q=>fB (wp I hg hm (gE I.kIn hk (Qt (ds:=[]) (us:=[]) G hr hb I rfl q)) hd)⟩
theorem uY(G:FnOk X.W k f fd pr F)(hr:Room k X.A)(hg:Gl X x)(hm:X.W.mg x=some (.ref f))(hk:PySem.W.keepIn X.W.K (.ref f)=true)(hb:Bnd fd pr)(ha:EA X (e::es) fs)(hd:(x == ("__debug__":Str))=false)(hs:notStar e=true)(hpl:(backTo pos (starEach es X.env)).any (·.1)=false):ER X (.Call (.Name x ps) (e::es) [] pos) fun s b=>(fs s b).bind (cl pr.length F):=⟨fun _ _ _ _ _ _ _ I q=>
 fB (wp I hg hm (gP (h₀:=X.W.base) I.ok.mo.kin hk ((ha pos).run I q fun _ _ _ _ _ I _ r q=>⟨I.kIn,Qt G hr hb I r q⟩) (qQ hs) hpl) hd)⟩
noncomputable def recv(C k:Nat)(b:Hb):D->Bool
 |.obj i=>match b[i]? with
  |some (.ins C' l)=>decide (C'=C) && (l.lookup k).isNone
  |_=>false
 |_=>false
theorem Inv.recv{C j d u}(I:Inv X p sc b c s)(r:Rep X.W c d u)(h:recv C j b d=true):∃(q:Addr×Addr)(m:iF),u=.ref q.1/\ObjM s.heap q.1 q.2 (X.W.cl C) m/\m (X.W.nm j)=none:=by
 cases d with
 |obj i=>
  unfold E.recv at h;simp only at h
  split at h
  ·rename_i hb
   rw[aq,aF]at h;obtain⟨rfl,h2⟩:=h;obtain⟨q,m,e,_,O,_,h5,_⟩:=I.ins r hb;refine⟨q,m,e,O,?_⟩;have:=h5 j;rw[Option.isNone_iff_eq_none.mp h2]at this;cases z:m (X.W.nm j)with
   |none=>rfl
   |some v=>rw[z]at this;exact this.elim
  ·cases h
 |_=>cases h
noncomputable def X6(C j n:Nat)(F:List D->Hb->R Res)(fo:Sc->Hb->R D)(fs:Sc->Hb->R (List D))(s:Sc)(b:Hb):R Res:=(fo s b).bind fun d b=>if recv C j b d=true then(fs s b).bind fun l b=>cl n F (d::l) b else .bad
theorem uV{C j:Nat}{pl:Sem Bool}(ho:EV X o fo)(cc:Cls X.W.K (X.W.cl C))(hm:Meth X.W.K (X.W.cl C) (X.W.nm j) f)(G:FnOk X.W k f fd pr F)(hr:Room k X.A)(hb:Bnd fd pr)(ha:EA X (e::es) fs)(hs:notStar e=true)(hpl:(backTo pos (starEach es X.env)).any (·.1)=false)
  (ht:eval (.Call (.Attribute o (X.W.nm j) apos) (e::es) [] pos) X.env=(do
   let ov <- eval o X.env
   standAt apos.atName
   let(f,first) <- holding [ov] (getMethod ov (X.W.nm j) pl)
   callWith pos f first (backTo pos (starEach (e::es) X.env)) (backToKw pos (keywordEach [] X.env)))):ER X (.Call (.Attribute o (X.W.nm j) apos) (e::es) [] pos) (X6 C j pr.length F fo fs):=⟨fun _ _ _ _ _ _ _ I q=>by
 refine PySem.W.methodCall_KW (pl:=pl) (ho.run I q fun d _ u _ _ I _ r q=>?_) ht
 split at q
 ·rename_i h
  obtain⟨z,m,rfl,O,hn⟩:=I.recv r h;exact QW I.kIn O (cc.get _) hm.at_ hm.fn hn (gP (first:=[.ref z.1]) (h₀:=X.W.base) I.ok.mo.kin hm.kp ((ha pos).run I q fun ds _ _ _ _ I l rs q=>⟨I.kIn,Qt (ds:=d::ds) (us:=.ref z.1::_) G hr hb I ⟨_,_,rfl,Rep.mono l.toL0 r,rs⟩ q⟩) (qQ hs) hpl)
 ·exact q.elim⟩
theorem WO{C j:Nat}{pl:Sem Bool}(ho:EV X o fo)(cc:Cls X.W.K (X.W.cl C))(hm:Meth X.W.K (X.W.cl C) (X.W.nm j) f)(G:FnOk X.W k f fd pr F)(hr:Room k X.A)(hb:Bnd fd pr)
  (ht:eval (.Call (.Attribute o (X.W.nm j) apos) [] [] pos) X.env=(do
   let ov <- eval o X.env
   standAt apos.atName
   let(f,first) <- holding [ov] (getMethod ov (X.W.nm j) pl)
   callWith pos f first (backTo pos (starEach [] X.env)) (backToKw pos (keywordEach [] X.env)))):ER X (.Call (.Attribute o (X.W.nm j) apos) [] [] pos) fun s b=>(fo s b).bind fun d b=>if recv C j b d=true then cl pr.length F [d] b else .bad:=⟨fun _ _ _ _ _ _ _ I q=>by
 refine PySem.W.methodCall_KW (pl:=pl) (ho.run I q fun d _ u _ _ I _ r q=>?_) ht
 split at q
 ·rename_i h
  obtain⟨z,m,rfl,O,hn⟩:=I.recv r h;exact QW I.kIn O (cc.get _) hm.at_ hm.fn hn (gE (first:=[.ref z.1]) I.kIn hm.kp (Qt (us:=[.ref z.1]) G hr hb I (.one r) q))
 ·exact q.elim⟩
noncomputable def Zo(C n:Nat)(F:List D->Hb->R Res)(b:Hb):R Res:=match cl n F [.obj b.length] (b++[.ins C []])with
 |.ok (.v .non) b'=>.ok (.v (.obj b.length)) b'
 |_=>.bad
theorem Inv.made{C}(I:Inv X p sc b c s):Inv X p sc (b++[.ins C []]) (c.nw (s.heap.objs.size+1,s.heap.objs.size)) { s with heap:=(s.heap.push PySem.W.emptyDict).push (PySem.W.instObj (X.W.cl C) s.heap.objs.size) }/\Le c (c.nw (s.heap.objs.size+1,s.heap.objs.size)):=by
 have e1:(s.heap.push PySem.W.emptyDict).get? s.heap.objs.size=some PySem.W.emptyDict:=ao s.heap rfl;have e2:((s.heap.push PySem.W.emptyDict).push (PySem.W.instObj (X.W.cl C) s.heap.objs.size)).get? (s.heap.objs.size+1)=some (PySem.W.instObj (X.W.cl C) s.heap.objs.size):=by
  have:=ao (s.heap.push PySem.W.emptyDict) (o:=PySem.W.instObj (X.W.cl C) s.heap.objs.size) rfl
  rwa [dj]at this
 have e3:(s.heap.push PySem.W.emptyDict).Ns s.heap.objs.size (fun _=>none):=⟨PySem.W.emptyDict,#[],_,e1,rfl,(fun e he=>absurd he (by simp)),fun _=>rfl⟩;have I2:=(I.push (t':=s.toks) PySem.W.emptyDict).push (t':=s.toks) (PySem.W.instObj (X.W.cl C) s.heap.objs.size);exact I2.nw (q:=(s.heap.objs.size+1,s.heap.objs.size)) (I.fpn (fX _)) (I.fpn (aI _)) ⟨e2,aH (bu _),bz _,fun _=>none,(Heap.Ns1.of_empty e3).at fun o q=>af _ q,fun _=>trivial,fun y hy=>absurd rfl hy⟩ ⟨_,af _ e1⟩
theorem uW{C}(MK:Mk X.W.K (X.W.cl C) f)(G:FnOk X.W k f fd pr F)(hr:Room (k+1) X.A)(hg:Gl X x)(hm:X.W.mg x=some (.ref (X.W.cl C)))(hb:Bnd fd pr)(hd:(x == ("__debug__":Str))=false):ER X (.Call (.Name x ps) [] [] pos) fun _ b=>Zo C pr.length F b:=⟨fun p sc b c s Q Z I q=>by
 refine fB (wp I hg hm (gE I.kIn MK.kp ?_) hd);have q:Post X p sc Z c RR (Zo C pr.length F b) Q:=q;unfold Zo at q;obtain⟨I2,l2⟩:=I.made (C:=C);have rp:Rep X.W (c.nw (s.heap.objs.size+1,s.heap.objs.size)) (.obj b.length) (.ref (s.heap.objs.size+1)):=⟨(s.heap.objs.size+1,s.heap.objs.size),by show(c.ad++[(s.heap.objs.size+1,s.heap.objs.size)])[b.length]?=_;rw[<- I.st.len];simp,rfl⟩;cases z:cl pr.length F [.obj b.length] (b++[.ins C []])with
 |bad=>rw[z]at q;exact q.elim
 |exc x b'=>rw[z]at q;exact q.elim
 |ok r b'=>
  rw[z]at q;unfold cl at z
  split at z
  ·rename_i hl
   refine gy (Vi (f:=f) I.kIn MK.makes MK.init (cC.mp MK.fn) (G.run _ X.stack _ _ _ ⟨[.ref (s.heap.objs.size+1)],[]⟩ _ [.obj b.length] _ (hr.make _ [] []) (let e:=I2.e0;⟨by first|exact e.frames|(simpa[Around.under,Code.envs,Code.isFrame,pushEnvs] using e.frames),e.mo,e.bs,e.bsz,e.funs,e.frf,e.st,e.bare,e.hx⟩) (.of_eq (hb _ (by exact hl))) (.one rp) hl ?_));rw[z];intro u s' c' B rc;cases r with
   |n o=>exact q.elim
   |v d=>
    cases d with
    |non=>cases (show u=Value.none from rc);exact⟨rfl,q _ _ _ (I2.after B) (l2.trans B.un.le) (Rep.mono B.un.le.toL0 rp)⟩
    |_=>exact q.elim
  ·cases z⟩
theorem XU{msg:Str}{C j:Nat}(O:OwnCls x (X.W.cl C) bmVE "ValueError.__new__" X.W.mg X.W.base)(hg:Gl X x)(hc:X.calm=true)(hd:(x == ("__debug__":Str))=false)(hpl:(backTo cpos (starEach [.Constant (.str msg) j spos] X.env)).any (·.1)=false) :
  ES X (.Raise (some (.Call (.Name x np) [.Constant (.str msg) j spos] [] cpos)) none pos) fun s b=>.ex C s b:=⟨fun p sc b c s Q Z I q=>by
 obtain⟨tl,N,nm,qn,bs,hdct,sn,sub,ab,col,dd,k0,k1,k2,k3,k5,mN,hC,hN,hni,T⟩:=O.obj;refine wpAny_Raise_call_subT (C:=X.W.cl C) (nm:=nm) (q:=qn) (N:=N) (bs:=bs) (bm:=tl) (hdct:=hdct) (sn:=sn) (sub:=sub) (ab:=ab) (col:=col) (dd:=dd) (k0:=k0) (k1:=k1) (k2:=k2) (k3:=k3) (k5:=k5) cf (mN:=mN) (T.hasType cf.hasBase) (I.ok.hd hc) hpl hni (wp I hg O.bound ⟨rfl,?_⟩ hd);rw[show starEach [.Constant (.str msg) j spos] X.env=[(false,eval (.Constant (.str msg) j spos) X.env)] from rfl];refine cD (bU ?_);show wpAny _ _ (eval (.Constant (.str msg) j spos) X.env) _ _ _;refine Calls.Constant_str (dz ⟨rfl,(by show 1<=sizeLine;decide),I.bk _ _ hC,hN.keeps I.bk,T.keeps I.bk,fun h' e hm=>?_⟩);obtain⟨t,ht,_,_⟩:=hm.there;exact q e _ c (I.kept hm.keeps) .refl (.inr ⟨I.fp hm.new,_,_,ht,rfl,rfl,⟨rfl,WW⟩,rfl⟩)⟩
theorem e_bf{id g}(ho:Op X (fun us=>call (.builtin id) us) g)(hg:Gl X x)(hm:X.W.mg x=none)(hv:bootBuiltins x=some (.builtin id))(ha:EA X (e::es) fs)(hs:notStar e=true)(hpl:(backTo pos (starEach es X.env)).any (·.1)=false)(hn:x≠"__name__")(hd:(x == ("__debug__":Str))=false):ER X (.Call (.Name x ps) (e::es) [] pos) fun s b=>(fs s b).bind fun l b=>opR (g l b):=⟨fun p sc b c s Q Z I q=>by
 have h:=(ha pos).run (P:=fun us s=>wpAny X.M X.A (call (.builtin id) us) Q Z s) I q fun _ _ _ _ _ I _ r q=>ho.go I r q
 rw[qQ hs]at h;exact Call_ (vI I hg hm hv (by rw[qQ hs];exact bP (by show(false || (backTo pos (starEach es X.env)).any (·.1))=false;rw[hpl];rfl) (cD h)) hn hd)⟩
theorem e_bt{T g}(ho:Op X (fun us=>call (.type T) us) g)(hg:Gl X x)(hm:X.W.mg x=none)(hv:bootBuiltins x=some (.type T))(ha:EA X (e::es) fs)(hs:notStar e=true)(hpl:(backTo pos (starEach es X.env)).any (·.1)=false)(hn:x≠"__name__")(hd:(x == ("__debug__":Str))=false):ER X (.Call (.Name x ps) (e::es) [] pos) fun s b=>(fs s b).bind fun l b=>opR (g l b):=⟨fun _ _ _ _ _ _ _ I q=>
 Call_ (vI I hg hm hv (callWith_type1 ((ha pos).run I q fun _ _ _ _ _ I _ r q=>ho.go I r q) (qQ hs) hpl) hn hd)⟩
inductive Ty where
 |list|dict|str|tuple
noncomputable def Ty.nm:Ty->String
 |.list=>"list"|.dict=>"dict"|.str=>"str"|.tuple=>"tuple"
noncomputable def isTy(b:Hb):Ty->D->Bool
 |.list,d=>(qG b d).isSome
 |.dict,d=>(qv b d).isSome
 |.str,.str _=>true
 |.tuple,.tup _=>true
 |_,_=>false
theorem Inv.ty{T d u}(I:Inv X p sc b c s)(r:Rep X.W c d u)(h:isTy b T d=true):s.TypeIs u T.nm/\(∀a,u=.ref a->∃ob,s.heap.get? a=some ob/\ob.dict=none):=by
 cases T with
 |list=>
  obtain⟨l,e⟩:=bA.mp (show(qG b d).isSome=true from h);obtain⟨z,o,us,rfl,ho,g,rs⟩:=I.st.lst r e;refine⟨(g.pl ho).isList.typeIs,fun a e=>?_⟩;cases e;obtain⟨_,k,rfl⟩:=g;exact⟨_,ho,rfl⟩
 |dict=>
  obtain⟨l,e⟩:=bA.mp (show(qv b d).isSome=true from h);obtain⟨z,o,xs,rfl,ho,g,rs,_⟩:=I.st.dic r e;exact⟨(wJ g ho).1,(wJ g ho).2⟩
 |str=>
  cases d with
  |str z=>obtain⟨t,rfl⟩:=r;exact⟨typeIs_str s z t,fun _ e=>nomatch e⟩
  |_=>cases h
 |tuple=>
  cases d with
  |tup l=>obtain⟨z,o,us,rfl,ho,g,rs⟩:=I.st.tup r;exact⟨(g.tu ho).typeIs,fun a e=>let⟨_,k,eo⟩:=g;⟨o,by cases e;exact ho,by rw[eo]⟩⟩
  |_=>cases h
noncomputable def bmN(T:Ty)(g:G)(fo:Sc->Hb->R D)(fs:Sc->Hb->R (List D))(s:Sc)(b:Hb):R Res:=(fo s b).bind fun d b=>if isTy b T d=true then(fs s b).bind fun l b=>opR (g (d::l) b)else .bad
theorem qdo{T name id g}(pa:PlainAttrs T.nm)(slot:Slot T.nm name id)(hty:typeOf (.builtin id)=pure (.type "method_descriptor"))(hop:Op X (fun us=>call (.builtin id) us) g)(ho:EV X o fo)(hb:attributeBase o name X.env (eval o X.env)=eval o X.env)(hl:(apos.endLine == cpos.line)=true) :
  ER X (.Call (.Attribute o name apos) [] [] cpos) fun s b=>(fo s b).bind fun d b=>if isTy b T d=true then opR (g [d] b)else .bad:=⟨fun _ _ _ _ _ _ _ I q=>fA hb hl (ho.run I q fun d b u s c I _ r q=>by
 split at q
 ·rename_i h
  obtain⟨t1,t2⟩:=I.ty r h;exact⟨T.nm,id,pa,slot,hty,t1,t2,bP rfl (gD (hop.go I (.one r) q))⟩
 ·exact q.elim)⟩
theorem e_bm{T name id g}(pa:PlainAttrs T.nm)(slot:Slot T.nm name id)(hty:typeOf (.builtin id)=pure (.type "method_descriptor"))(hop:Op X (fun us=>call (.builtin id) us) g)(ho:EV X o fo)(ha:EA X (e::es) fs)(hb:attributeBase o name X.env (eval o X.env)=eval o X.env)
  (hfew:((backTo cpos (starEach (e::es) X.env)).all (fun x=>!x.1) && (backToKw cpos (keywordEach [] X.env)).all (fun x=>x.1.isSome) && decide ((e::es).length+([]:List Keyword).length+(if([]:List Keyword).isEmpty then 0 else 1)<30))=true)(hl:(apos.endLine == cpos.line)=true)(hs:notStar e=true)(hpl:(backTo cpos (starEach es X.env)).any (·.1)=false) :
  ER X (.Call (.Attribute o name apos) (e::es) [] cpos) (bmN T g fo fs):=⟨fun p sc b c s Q Z I q=>by
 refine wpAny_Call_method_late hb hfew hl rfl (ho.run I q fun d b u s c I _ r q=>?_)
 split at q
 ·rename_i h
  obtain⟨t1,t2⟩:=I.ty r h;refine⟨T.nm,id,pa,slot,hty,t1,t2,?_⟩;have hA:=(ha cpos).run (P:=fun us s2=>wpAny X.M X.A (call (.builtin id) (u::us)) Q Z s2) I q fun ds _ us _ _ I l rs q=>hop.go (us:=u::us) (ds:=d::ds) I ⟨_,_,rfl,Rep.mono l.toL0 r,rs⟩ q
  rw[qQ hs]at hA ⊢;exact bP (by show(false || (backTo cpos (starEach es X.env)).any (·.1))=false;rw[hpl] <;> rfl) (cD hA)
 ·exact q.elim⟩
end
end E
namespace L2
open PySem PySem.Spec PyProof PyProof.Rows
section
variable{P:Program}{w:World}{A:Around}{E:iE}{s:Shared}{a b:Addr}{xs ys:List (KK×Value×Value)}
theorem DictA.any{P':Program}{w':World}(h:DictA (qH P w) s.heap a xs):DictA (Zq P' w' (qH P w).hash) s.heap a xs:=by
 obtain⟨o,es,ep,h1,h2,h3,h4⟩:=h;exact⟨o,es,ep,h1,h2,h3,h4.he,fun x hx=>Y2 (h4.is x hx),h4.nd⟩
theorem K7{nm:String}{hs:KK->Int}{Q:Bool->Shared->Prop}(hu:A.units<cLine)(ha:(a == sysModules)=false)(hb:(b == sysModules)=false)(da:DictA (Zq P w hs) s.heap a xs)(db:DictA (Zq P w hs) s.heap b ys)
  (hl:xs.length=ys.length)(hv:∀(i:Nat) x,xs[i]?=some x->∃p,atA ys x.1=some p/\SeqAt.EqAt A s x.2.2 p.2 true)(h:Q true s):wpAny (model P w) A (Builtin.Dict.samePairs nm a b) Q E s:=by
 obtain⟨oa,es,ep,hoa,_,hda,ea⟩:=da;obtain⟨ob,es',ep',hob,_,hdb,eb⟩:=db;unfold Builtin.Dict.samePairs Builtin.Dict.showsAll;rw[ax (show ¬ (a == sysModules)=true by rw[ha];exact aG),ax (show ¬ (b == sysModules)=true by rw[hb];exact aG)];refine aa (ae (aa (ae ?_)));refine aa (bh hoa hda ?_);dsimp only;refine aa (bh hob hdb ?_);have s1:=qU ea.he;have s2:=qU eb.he;rw[ax (by rw[s1,s2,hl];simp)];refine aa (bJ hoa hda ?_);refine aa ?_;rw[Std.Legacy.Range.forIn_eq_forIn_range'];simp only[Std.Legacy.Range.size,i0,Nat.add_sub_cancel,Nat.div_one];refine cZ _ (fun rest q s'=>s'=s/\q=(none,())/\∃i,rest=List.range' i (es.size - i)/\i<=es.size) _ ?_ ?_ _ _ ⟨rfl,rfl,0,by simp,bz _⟩
 ·rintro x rest q s' ⟨rfl,rfl,i,hr,hi⟩
  have hlt:i<es.size:=by
   rcases eX i es.size with h|h
   ·exact h
   ·rw[Nat.sub_eq_zero_of_le h]at hr;simp at hr
  obtain⟨rfl,hrest⟩:x=i/\rest=List.range' (i+1) (es.size - (i+1)):=by
   have e:es.size - i=(es.size - (i+1))+1:=by omega
   rw[e,List.range'_succ]at hr
   injection hr with h1 h2
   exact⟨h1,h2⟩
  refine aa (bh hoa hda ?_);have lx:x<xs.length:=by omega
  have ex:=ak lx;obtain⟨p0,hp0,eq0⟩:=hv x _ ex;rw[zB ea.he x,ex];show wpAny _ _ (holding [xs[x].2.1,xs[x].2.2] _ >>= _) _ _ _;refine aa (aK (aa ?_));show wpAny _ _ (dictFind b xs[x].2.1 ((Zq P w hs).hash xs[x].1)) _ _ _;refine kF (knd:=Zq P w hs) (k:=xs[x].1) hu (ea.is _ (dg lx)) hob hdb eb (fun hj=>?_) (fun j p hj=>?_)
  ·rw[(kN hj).1]at hp0;cases hp0
  ·rw[xn eb.nd hj]at hp0
   cases hp0;have e3:es'[j]?=some (entA (Zq P w hs) (xs[x].1,p0)):=by rw[zB eb.he j,hj];rfl
   refine aa (bh hob hdb ?_);rw[e3];refine aK (eq0 P w _ _ ?_);show wpAny _ _ (if(!true)=true then _ else _) _ _ _;rw[ax (by decide)];refine aa (bJ hoa hda ?_);rw[ax (by simp)];exact ae ⟨rfl,rfl,x+1,hrest,hlt⟩
 ·rintro q s' ⟨rfl,rfl,_⟩
  exact ae h
theorem WX(hu:A.units<cLine)(hu1:A.in1.units<cLine)(ha:(a == sysModules)=false)(hb:(b == sysModules)=false)(da:DictA (qH P w) s.heap a xs)(db:DictA (qH P w) s.heap b ys)
  (hl:xs.length=ys.length)(hv:∀(i:Nat) x,xs[i]?=some x->∃p,atA ys x.1=some p/\SeqAt.EqAt A.in1 s x.2.2 p.2 true):SeqAt.RcAt A s (.ref a) (.ref b) true:=fun prog w' E Q h=>by
 refine wpAny_richCompare_same_room (op:=.Eq) da.typeIs db.typeIs PySem.F.slot_dict_eq (bj PySem.F.slot_dict_eq da.typeIs PySem.F.entry_dict_eq ?_ (PySem.F.args_dict_eq_2 _ _)) hu;show wpAny _ _ (Builtin.Dict.dictSlotArgs "__eq__" ⟨[.ref a,.ref b],[]⟩ >>= _) _ _ s;refine aa ?_;unfold Builtin.Dict.dictSlotArgs;refine aa (bW da.typeIs ?_);show wpAny _ _ (pure (Value.ref a,Value.ref b)) _ _ s;refine ae ?_;refine aa (dQ (T:="dict") db.typeIs PySem.F.sub_dict_dict ?_);simp only[ib,aR,bR];refine aa (ae (aa (ae ?_)));refine aa (K7 hu1 ha hb da.any db.any hl hv ?_);refine ae ⟨_,rfl,?_,?_⟩
 ·exact fun x=>nomatch x
 ·exact h
end
end L2
namespace E
open PySem PySem.Spec PyProof PyProof.Rows L2
inductive Vw where
 |non|bl (b:Bool)|int (i:Int)|str (x:Str)|sq (t:Bool) (l:List D)|dc (l:List (KK×D))
noncomputable def Ob.vw:Ob->Option Vw
 |.lst _ l=>some (.sq false l)
 |.dic _ l=>some (.dc l)
 |_=>none
noncomputable def vw(b:Hb):D->Option Vw
 |.non=>some .non
 |.bl x=>some (.bl x)
 |.int i=>some (.int i)
 |.str x=>some (.str x)
 |.tup l=>some (.sq true l)
 |.lst l=>some (.sq false l)
 |.dic l=>some (.dc l)
 |.obj n=>b[n]?.bind Ob.vw
 |.scr _=>none
 |.exn _=>none
noncomputable def allE(f:D->D->Option Bool):List D->List D->Option Bool
 |[],[]=>some true
 |x::xs,y::ys=>match f x y,allE f xs ys with
  |some b,some r=>some (b && r)
  |_,_=>none
 |_,_=>none
noncomputable def eqV(f:D->D->Option Bool):Vw->Vw->Option Bool
 |.non,.non=>some true
 |.bl x,.bl y=>some (x == y)
 |.int x,.int y=>some (x == y)
 |.str x,.str y=>some (x == y)
 |.non,.sq true _=>some false
 |.sq true _,.non=>some false
 |.sq t xs,.sq t' ys=>if t=t' then(if xs.length=ys.length then allE f xs ys else if t then none else some false)else none
 |.dc k1,.dc k2=>if(k1.length == k2.length && k1.all fun x=>match lk k2 x.1 with|some y=>f x.2 y == some true|none=>false)=true then some true else none
 |_,_=>none
noncomputable def eqN(b:Hb):Nat->D->D->Option Bool
 |0,_,_=>none
 |n+1,d,e=>(vw b d).bind fun p=>(vw b e).bind fun q=>eqV (eqN b n) p q
theorem KA{f:D->D->Option Bool}:∀{xs ys:List D}{b:Bool},allE f xs ys=some b->∃e:Nat->Bool,(∀(j:Nat) x y,xs[j]?=some x->ys[j]?=some y->f x y=some (e j))/\b=(List.range xs.length).all e
 |[],[],b,h=>by cases h;exact⟨fun _=>true,fun j x y h=>by simp at h,rfl⟩
 |[],_::_,_,h=>by cases h
 |_::_,[],_,h=>by cases h
 |x::xs,y::ys,b,h=>by
  unfold allE at h
  split at h
  ·rename_i b1 r e1 e2
   cases h;obtain⟨e,k,hr⟩:=KA e2;refine⟨fun j=>match j with|0=>b1|j+1=>e j,fun j u v hu hv=>?_,?_⟩
   ·cases j with
    |zero=>cases hu;cases hv;exact e1
    |succ j=>exact k j u v (by simpa using hu) (by simpa using hv)
   ·rw[hr,bO,List.range_succ_eq_map,i7,List.all_map]
    rfl
  ·cases h
noncomputable def SqO:Bool->Obj->iH->Prop
 |true=>TupO
 |false=>LstO
theorem SqO.inj:∀{t:Bool}{o:Obj}{us vs:iH},SqO t o us->SqO t o vs->us=vs
 |true,_,_,_,⟨_,k,h⟩,⟨_,k',h'⟩=>by rw[h]at h';injection h' with _ _ e _;injection e with e _;simpa using bY Array.toList e
 |false,_,_,_,⟨_,k,h⟩,⟨_,k',h'⟩=>by rw[h]at h';injection h' with _ _ e _;injection e with e _;simpa using bY Array.toList e
noncomputable def VwR(W:Wd)(c:Co)(h:Heap)(u:Value):Vw->Prop
 |.non=>u=.none
 |.bl b=>u=.bool b
 |.int i=>∃t,u=.int i t
 |.str y=>∃t,u=.str y t
 |.sq t l=>∃a o us,u=.ref a/\h.get? a=some o/\SqO t o us/\Reps W c l us
 |.dc l=>∃a o xs,u=.ref a/\h.get? a=some o/\DicO W o xs/\Repk W c l xs/\c.t a≠none
theorem Sto.vw(S:Sto W c b h)(r:Rep W c d u)(e:vw b d=some p):VwR W c h u p:=by
 cases d with
 |non=>cases e;exact r
 |bl=>cases e;exact r
 |int=>cases e;exact r
 |str=>cases e;exact r
 |tup=>cases e;obtain⟨a,o,us,e,q,k,rs⟩:=r;exact⟨a,o,us,e,S.frz _ _ q,k,rs⟩
 |lst=>cases e;obtain⟨a,o,us,e,q,k,rs⟩:=r;exact⟨a,o,us,e,S.frz _ _ q,k,rs⟩
 |dic=>cases e;obtain⟨a,o,us,e,q,k,rs⟩:=r;exact⟨a,o,us,e,S.frz _ _ q,k,rs,by rw[q];simp⟩
 |obj n=>
  obtain⟨y,h0,e⟩:=ai.mp (show b[n]?.bind Ob.vw=some p from e);obtain⟨q,hq,rfl⟩:=r;obtain⟨q',h1,h2⟩:=S.obs n y h0;rw[hq]at h1;cases h1;cases y with
  |lst _ _=>cases e;obtain⟨o,us,g1,g2,g3⟩:=h2;exact⟨q.1,o,us,rfl,g1,g2,g3⟩
  |dic _ _=>cases e;obtain⟨o,us,g1,g2,g3⟩:=h2;exact⟨q.1,o,us,rfl,g1,g2,g3,by rw[(S.own n q hq).1];simp⟩
  |ins=>cases e
 |scr=>cases e
 |exn=>cases e
theorem Xi{n:Nat}(h:eqN b (n+1) d e=some r):∃p q,vw b d=some p/\vw b e=some q/\eqV (eqN b n) p q=some r:=by
 obtain⟨p,h1,h⟩:=ai.mp h;obtain⟨q,h2,h⟩:=ai.mp h;exact⟨p,q,h1,h2,h⟩
inductive EqC(f:D->D->Option Bool):Vw->Vw->Bool->Prop where
 |non:EqC f .non .non true
 |bl:EqC f (.bl x) (.bl y) (x == y)
 |int:EqC f (.int x) (.int y) (x == y)
 |str:EqC f (.str x) (.str y) (x == y)
 |nt:EqC f .non (.sq true l) false
 |tn:EqC f (.sq true l) .non false
 |sq:l.length=l'.length->(∀(j:Nat) x y,l[j]?=some x->l'[j]?=some y->f x y=some (e j))->EqC f (.sq t l) (.sq t l') ((List.range l.length).all e)
 |ln:l.length≠l'.length->EqC f (.sq false l) (.sq false l') false
 |dc:k1.length=k2.length->(∀x∈k1,∃y,lk k2 x.1=some y/\f x.2 y=some true)->EqC f (.dc k1) (.dc k2) true
theorem eqC{f p q r}(h:eqV f p q=some r):EqC f p q r:=by
 unfold eqV at h
 split at h
 ·cases h;exact .non
 ·cases h;exact .bl
 ·cases h;exact .int
 ·cases h;exact .str
 ·cases h;exact .nt
 ·cases h;exact .tn
 ·split at h
  ·rename_i t _ _ _ ht
   subst ht
   split at h
   ·obtain⟨e,k,rfl⟩:=KA h
    exact .sq (by assumption) k
   ·split at h
    ·cases h
    ·rename_i ht;cases h
     cases t with
     |true=>exact absurd rfl ht
     |false=>exact .ln (by assumption)
  ·cases h
 ·split at h
  ·rename_i hk
   cases h;rw[aq,cC,aP]at hk;refine .dc hk.1 fun x hx=>?_
   have:=hk.2 x hx;cases z:lk _ x.1 with
   |none=>rw[z]at this;cases this
   |some y=>rw[z]at this;exact⟨y,rfl,by simpa using this⟩
  ·cases h
 ·cases h
theorem eq_self(S:Sto W c b h):∀(n:Nat){u d e r},Rep W c d u->Rep W c e u->eqN b n d e=some r->r=true
 |0,_,_,_,_,_,_,h=>by cases h
 |n+1,u,d,e,r,r1,r2,h=>by
  obtain⟨p,q,h1,h2,h⟩:=Xi h;have v1:=S.vw r1 h1;have v2:=S.vw r2 h2;cases eqC h with
  |non=>rfl
  |bl=>cases v1;cases v2;simp
  |int=>obtain⟨t,rfl⟩:=v1;obtain⟨t',e⟩:=v2;cases e;simp
  |str=>obtain⟨t,rfl⟩:=v1;obtain⟨t',e⟩:=v2;cases e;simp
  |nt=>cases v1;obtain⟨_,_,_,e,_⟩:=v2;cases e
  |tn=>cases v2;obtain⟨_,_,_,e,_⟩:=v1;cases e
  |sq hl k=>
   obtain⟨a,o,us,rfl,g1,g2,g3⟩:=v1;obtain⟨a',o',us',e,g4,g5,g6⟩:=v2;cases e;rw[g1]at g4;cases g4;cases g2.inj g5;rw[aP];intro j hj;have hj:j<_:=dX.mp hj;obtain⟨w,k1,k2⟩:=g3.at (ak hj);obtain⟨w',k3,k4⟩:=g6.at (ak (hl▸hj));rw[k1]at k3;cases k3;exact eq_self S n k2 k4 (k j _ _ (ak hj) (ak (hl▸hj)))
  |ln hl=>
   obtain⟨a,o,us,rfl,g1,g2,g3⟩:=v1;obtain⟨a',o',us',e,g4,g5,g6⟩:=v2;cases e;rw[g1]at g4;cases g4;cases g2.inj g5;exact absurd (g3.len.symm.trans g6.len) hl
  |dc=>rfl
open SeqAt in
theorem kZ{s:Shared}(S:Sto W c b s.heap):∀(n:Nat){A:Around}{u v d e r},A.units+1+n<cLine->Rep W c d u->Rep W c e v->eqN b n d e=some r->RcAt A s u v r/\EqAt A s u v r
 |0,_,_,_,_,_,_,_,_,_,h=>by cases h
 |n+1,A,u,v,d,e,r,hu,r1,r2,h0=>by
  have hu0:A.units<cLine:=by omega
  obtain⟨p,q,h1,h2,h⟩:=Xi h0;have v1:=S.vw r1 h1;have v2:=S.vw r2 h2;have ref:∀{a a':Addr},u=.ref a->v=.ref a'->RcAt A s (.ref a) (.ref a') r->RcAt A s (.ref a) (.ref a') r/\EqAt A s (.ref a) (.ref a') r:=fun{a a'} e1 e2 k=>⟨k,by
   by_cases haa:a=a'
   ·subst haa e1 e2
    cases eq_self S (n+1) r1 r2 h0;exact .same _
   ·exact .of_refs haa k⟩
  have item:∀{l l' us us'}{j:Nat}{z}(h1:j<us.length)(h2:j<us'.length),Reps W c l us->Reps W c l' us'->(∀x y,l[j]?=some x->l'[j]?=some y->eqN b n x y=some z)->EqAt A.in1 s us[j] us'[j] z:=fun{l l' us us' j z} h1 h2 rs1 rs2 k=>by
   have g1:=ak (rs1.len▸h1);have g2:=ak (rs2.len▸h2);obtain⟨x1,b1,q1⟩:=rs1.at g1;obtain⟨x2,b2,q2⟩:=rs2.at g2;rw[ak h1]at b1;cases b1;rw[ak h2]at b2;cases b2;exact(kZ S n (by show A.units+1+1+n<_;omega) q1 q2 (k _ _ g1 g2)).2
  cases eqC h with
  |non=>cases v1;cases v2;exact⟨.none_none,.same _⟩
  |bl=>cases v1;cases v2;exact⟨.bool_bool _ _,.bool_bool _ _⟩
  |int=>obtain⟨t,rfl⟩:=v1;obtain⟨t',rfl⟩:=v2;exact⟨.int_int _ t _ t',.int_int _ t _ t'⟩
  |str=>obtain⟨t,rfl⟩:=v1;obtain⟨t',rfl⟩:=v2;exact⟨.str_str _ t _ t',.str_str _ t _ t'⟩
  |nt=>cases v1;obtain⟨a,o,us,rfl,g1,g2,_⟩:=v2;have g2:TupO o us:=g2;exact⟨.none_tuple (g2.tu g1) hu0,.none_tuple (g2.tu g1) hu0⟩
  |tn=>cases v2;obtain⟨a,o,us,rfl,g1,g2,_⟩:=v1;have g2:TupO o us:=g2;exact⟨.tuple_none (g2.tu g1) hu0,.tuple_none (g2.tu g1) hu0⟩
  |@sq l l' f t hl k=>
   obtain⟨a,o,us,rfl,g1,g2,g3⟩:=v1;obtain⟨a',o',us',rfl,g4,g5,g6⟩:=v2;have it:∀(j:Nat)(h1:j<us.toArray.size)(h2:j<us'.toArray.size),EqAt A.in1 s us.toArray[j] us'.toArray[j] (f j):=fun j h1 h2=>by
    have:=item (z:=f j) (by simpa using h1) (by simpa using h2) g3 g6 (k j);simpa using this
   have s1:us.toArray.size=l.length:=by rw[au,g3.len]
   have s2:us'.toArray.size=l.length:=by rw[au,g6.len,hl]
   cases t with
   |true=>
    have g2:TupO o us:=g2;have g5:TupO o' us':=g5;have q:=RcAt.tuples (e:=f) (g2.tu g1) (g5.tu g4) hu0 it;rw[s1,s2,Nat.min_self,iz,Bool.and_true]at q;exact ref rfl rfl q
   |false=>
    have g2:LstO o us:=g2;have g5:LstO o' us':=g5;have q:=RcAt.lists (e:=f) (g2.pl g1).isList (g5.pl g4).isList (by rw[s1,s2]) hu0 it;rw[s1]at q;exact ref rfl rfl q
  |ln hl=>
   obtain⟨a,o,us,rfl,g1,g2,g3⟩:=v1;obtain⟨a',o',us',rfl,g4,g5,g6⟩:=v2;have g2:LstO o us:=g2;have g5:LstO o' us':=g5;exact ref rfl rfl (RcAt.lists_lengths (g2.pl g1).isList (g5.pl g4).isList (by rw[au,au,g3.len,g6.len];simpa using hl) hu0)
  |dc hk k=>
   obtain⟨a,o,xs,rfl,g1,g2,g3,n1⟩:=v1;obtain⟨a',o',xs',rfl,g4,g5,g6,n2⟩:=v2;refine ref rfl rfl (WX hu0 (by show A.units+1<_;omega) (S.ny n1) (S.ny n2) (g2.at S g1 g3) (g5.at S g4 g6) (by rw[g3.len,g6.len,hk]) fun i x h1=>?_);have l1:=(ag.mp h1).1;have m1:=ak (g3.len▸l1);obtain⟨_,_,b1,_,q1⟩:=g3.at (k:=_) (d:=_) m1;rw[h1]at b1;cases b1;obtain⟨y,e1,e2⟩:=k _ (dg (g3.len▸l1));rcases g6.atA _ with⟨z,_⟩|⟨y',v',u',z1,z2,z3⟩
   ·rw[e1]at z;cases z
   ·rw[e1]at z1;cases z1
    exact⟨_,z2,(kZ S n (by show A.units+1+1+n<_;omega) q1 z3 e2).2⟩
noncomputable def bv(o:Option Bool)(b:Hb):Option (Res×Hb):=o.map fun r=>(.v (.bl r),b)
noncomputable def g2(h:Hb->D->D->Option Bool):G
 |[x,y],b=>bv (h b x y) b
 |_,_=>none
section
variable{X:Cx}
theorem Op2.cmp{op:Value->Value->Sem Value}{h:Hb->D->D->Option Bool}(k:∀{p sc b c s x y u v r Q Z},Inv X p sc b c s->Rep X.W c x u->Rep X.W c y v->h b x y=some r->(∀s',Inv X p sc b c s'->Q (.bool r) s')->wpAny X.M X.A (op u v) Q Z s):Op2 X op (g2 h):=⟨fun p sc b c s us ds r b' Q Z I rs e q=>by
 unfold g2 at e
 split at e
 ·obtain⟨z,h1,h2⟩:=ah.mp e
  cases h2;obtain⟨_,_,rfl,r1,_,_,rfl,r2,rfl⟩:=rs;exact k I r1 r2 h1 fun s' I'=>q _ s' c I' .refl rfl
 ·cases e⟩
theorem o_eq(hu:X.A.units+64<cLine):Op2 X (compareOp .Eq) (g2 fun b=>eqN b 8):=.cmp fun{p sc b c s x y u v r Q Z} I r1 r2 e q=>(kZ I.st 8 (A:=X.A) (by omega) r1 r2 e).1 _ _ _ _ (q s I)
end
section
variable{X:Cx}{p:Pin}{sc:Sc}{b:Hb}{c:Co}{s:Shared}
noncomputable def scD(f:Bool->Bool)(_:Hb):D->D->Option Bool
 |.int i,.int j=>some (f (i == j))
 |.str i,.str j=>some (f (i == j))
 |.bl i,.bl j=>some (f (i == j))
 |_,_=>none
theorem o_ne:Op2 X (compareOp .NotEq) (g2 (scD not)):=.cmp fun{p sc b c s x y u v r Q Z} I r1 r2 e q=>by
 unfold scD at e
 split at e
 ·cases e;obtain⟨t,rfl⟩:=r1;obtain⟨t',rfl⟩:=r2;exact ne_int (q s I)
 ·cases e;obtain⟨t,rfl⟩:=r1;obtain⟨t',rfl⟩:=r2;exact ne_str (q s I)
 ·cases e;cases r1;cases r2;exact ne_bool (q s I)
 ·cases e
noncomputable def ltD(_:Hb):D->D->Option Bool
 |.int i,.int j=>some (decide (i<j))
 |.str i,.str j=>some (decide (i.cps.toList<j.cps.toList))
 |_,_=>none
theorem o_lt:Op2 X (compareOp .Lt) (g2 ltD):=.cmp fun{p sc b c s x y u v r Q Z} I r1 r2 e q=>by
 unfold ltD at e
 split at e
 ·cases e;obtain⟨t,rfl⟩:=r1;obtain⟨t',rfl⟩:=r2;exact lt_int (q s I)
 ·cases e;obtain⟨t,rfl⟩:=r1;obtain⟨t',rfl⟩:=r2;exact lt_str (q s I)
 ·cases e
noncomputable def cmpI(f:Int->Int->Bool)(_:Hb):D->D->Option Bool
 |.int i,.int j=>some (f i j)
 |_,_=>none
theorem Z_{op:Value->Value->Sem Value}{f:Int->Int->Bool}(k:∀{i j t u s}{Q:iE}{Z},Q (.bool (f i j)) s->wpAny X.M X.A (op (.int i t) (.int j u)) Q Z s):Op2 X op (g2 (cmpI f)):=.cmp fun{p sc b c s x y u v r Q Z} I r1 r2 e q=>by
 unfold cmpI at e
 split at e
 ·cases e;obtain⟨t,rfl⟩:=r1;obtain⟨t',rfl⟩:=r2;exact k (q s I)
 ·cases e
theorem o_le:Op2 X (compareOp .LtE) (g2 (cmpI fun i j=>decide (i<=j))):=Z_ le_int
theorem o_gt:Op2 X (compareOp .Gt) (g2 (cmpI fun i j=>decide (j<i))):=Z_ gt_int
theorem o_ge:Op2 X (compareOp .GtE) (g2 (cmpI fun i j=>decide (j<=i))):=Z_ ge_int
noncomputable def D.isN:D->Bool
 |.non=>true
 |_=>false
noncomputable def isN(f:Bool->Bool)(_:Hb)(x:D):D->Option Bool
 |.non=>some (f x.isN)
 |_=>none
theorem Xd{f x y u r}(r1:Rep X.W c x u)(e:isN f b x y=some r):y=.non/\f (u == .none)=r:=by
 cases y with
 |non=>
  cases e;refine⟨rfl,bY f ?_⟩;cases x with
  |non=>cases r1;rfl
  |bl=>cases r1;rfl
  |int=>obtain⟨t,rfl⟩:=r1;rfl
  |str=>obtain⟨t,rfl⟩:=r1;rfl
  |tup=>obtain⟨_,_,_,rfl,_⟩:=r1;rfl
  |scr=>obtain⟨_,_,_,rfl,_⟩:=r1;rfl
  |exn=>obtain⟨_,_,_,rfl,_⟩:=r1;rfl
  |lst=>obtain⟨_,_,_,rfl,_⟩:=r1;rfl
  |dic=>obtain⟨_,_,_,rfl,_⟩:=r1;rfl
  |obj=>obtain⟨_,_,rfl⟩:=r1;rfl
 |_=>cases e
theorem o_is:Op2 X (compareOp .Is) (g2 (isN id)):=.cmp fun{p sc b c s x y u v r Q Z} I r1 r2 e q=>by
 obtain⟨rfl,rfl⟩:=Xd r1 e;cases r2;exact is_none_gen (q s I)
theorem XZ:Op2 X (compareOp .IsNot) (g2 (isN not)):=.cmp fun{p sc b c s x y u v r Q Z} I r1 r2 e q=>by
 obtain⟨rfl,rfl⟩:=Xd r1 e;cases r2;exact isnot_none_gen (q s I)
noncomputable def anyE(f:D->Option Bool):List D->Option Bool
 |[]=>some false
 |y::ys=>match f y,anyE f ys with
  |some b,some r=>some (b || r)
  |_,_=>none
noncomputable def kQ(b:Hb):D->Option (List D)
 |.tup l=>some l
 |d=>qG b d
theorem Sto.seq{W:Wd}{h:Heap}{d u l}(S:Sto W c b h)(r:Rep W c d u)(e:kQ b d=some l):∃a us,u=.ref a/\Reps W c l us/\us.length<=sizeLine/\(PlainL h a us.toArray\/IsTup h a us.toArray):=by
 have oth:qG b d=some l->∃a us,u=.ref a/\Reps W c l us/\us.length<=sizeLine/\(PlainL h a us.toArray\/IsTup h a us.toArray):=fun e=>by
  obtain⟨a,o,us,e,h1,h2,h3⟩:=S.lst r e;exact⟨a,us,e,h3,h2.1,.inl (h2.pl h1)⟩
 cases d with
 |tup=>cases e;obtain⟨a,o,us,e,h1,h2,h3⟩:=S.tup r;exact⟨a,us,e,h3,h2.1,.inr (h2.tu h1)⟩
 |lst=>exact oth e
 |obj=>exact oth e
 |_=>cases e
noncomputable def inT:D->D->Option Bool
 |.str i,.str j=>some (!(Builtin.Str.occurrences j i 0 j.length 1).isEmpty)
 |_,_=>none
noncomputable def inD(f:Bool->Bool)(b:Hb)(x y:D):Option Bool:=((inT x y).or (((kQ b y).bind fun l=>anyE (fun z=>eqN b 5 z x) l).or ((qv b y).bind fun l=>(dKK x).map fun k=>(lk l k).isSome))).map f
open Classical in
theorem um(hu:X.A.units+64<cLine)(I:Inv X p sc b c s)(r1:Rep X.W c x u){l us}(rs:Reps X.W c l us)(e:anyE (fun z=>eqN b 5 z x) l=some r):∃f:Value->Bool,(∀z,z∈us.toArray->SeqAt.EqAt X.A.in1 s z u (f z))/\us.toArray.any f=r:=by
 have key:∀{l us r},Reps X.W c l us->anyE (fun z=>eqN b 5 z x) l=some r->∃bs:List Bool,bs.length=us.length/\(∀(j:Nat) z q,us[j]?=some z->bs[j]?=some q->SeqAt.EqAt X.A.in1 s z u q)/\r=bs.any id:=by
  intro l
  induction l with
  |nil=>intro us r rs e;cases rs;cases e;exact⟨[],rfl,fun j z q h=>by simp at h,rfl⟩
  |cons d l ih=>
   intro us r ⟨w,us',e0,h,t⟩ e;subst e0;unfold anyE at e
   split at e
   ·rename_i b1 r2 e1 e2
    cases e;obtain⟨bs,hl,k,rfl⟩:=ih t e2;refine⟨b1::bs,by simp[hl],fun j z q hz hq=>?_,by simp⟩;cases j with
    |zero=>cases hz;cases hq;exact(kZ I.st 5 (A:=X.A.in1) (by show X.A.units+1+1+5<_;omega) h r1 e1).2
    |succ j=>exact k j z q (by simpa using hz) (by simpa using hq)
   ·cases e
 obtain⟨bs,hl,at_,rfl⟩:=key rs e;refine⟨fun z=>decide (∃j:Nat,us[j]?=some z/\bs[j]?=some true),fun z hz=>?_,?_⟩
 ·by_cases h:∃j:Nat,us[j]?=some z/\bs[j]?=some true
  ·obtain⟨j,g1,g2⟩:=id h
   show SeqAt.EqAt _ _ _ _ (decide _);rw[br h];exact at_ j z true g1 g2
  ·show SeqAt.EqAt _ _ _ _ (decide _)
   rw[aZ h];obtain⟨j,hj,e1⟩:=List.getElem_of_mem (show z∈us by simpa using hz);have g1:us[j]?=some z:=by rw[ak hj,e1]
   have g2:=ak (show j<bs.length by omega);cases hb:bs[j]'(by omega)with
   |true=>exact absurd ⟨j,g1,by rw[g2,hb]⟩ h
   |false=>exact at_ j z false g1 (by rw[g2,hb])
 ·rw[fE]
  simp only[List.any_toArray,cE,aF,id_eq];constructor
  ·rintro⟨z,_,j,_,g2⟩
   exact⟨true,aB g2,rfl⟩
  ·rintro⟨q,hq,rfl⟩
   obtain⟨j,hj,e1⟩:=List.getElem_of_mem hq;have hj':j<us.length:=by omega
   exact⟨us[j],dg hj',j,ak hj',by rw[ak hj,e1]⟩
theorem JC{f x y u v r}{op:Value->Value->Sem Value}{Q Z:iE}(hu:X.A.units+64<cLine)(I:Inv X p sc b c s)(r1:Rep X.W c x u)(r2:Rep X.W c y v)(e:inD f b x y=some r)(q:∀s',Inv X p sc b c s'->Q (.bool r) s')
  (k1:∀{i j t t'},Q (.bool (f (!(Builtin.Str.occurrences j i 0 j.length 1).isEmpty))) s->wpAny X.M X.A (op (.str i t) (.str j t')) Q Z s)
  (k2:∀{a us}{g:Value->Bool},s.heap.IsList a us->(∀z,z∈us->SeqAt.EqAt X.A.in1 s z u (g z))->Q (.bool (f (us.any g))) s->wpAny X.M X.A (op u (.ref a)) Q Z s)(k3:∀{a us}{g:Value->Bool},s.heap.IsTuple a us->(∀z,z∈us->SeqAt.EqAt X.A.in1 s z u (g z))->Q (.bool (f (us.any g))) s->wpAny X.M X.A (op u (.ref a)) Q Z s)
  (k4:∀{a k xs},(qH X.W.prog X.W.w).is s.heap k u->(a == sysModules)=false->DictA (qH X.W.prog X.W.w) s.heap a xs->Q (.bool (f (atA xs k).isSome)) { s with toks:=s.toks+(qH X.W.prog X.W.w).draws k }->wpAny X.M X.A (op u (.ref a)) Q Z s):wpAny X.M X.A (op u v) Q Z s:=by
 obtain⟨z,e1,rfl⟩:=ah.mp e;cases h0:inT x y with
 |some w=>
  rw[h0]at e1;cases e1;unfold inT at h0
  split at h0
  ·cases h0;obtain⟨t,rfl⟩:=r1;obtain⟨t',rfl⟩:=r2;exact k1 (q s I)
  ·cases h0
 |none=>
  rw[h0]at e1;have e:((kQ b y).bind fun l=>anyE (fun z=>eqN b 5 z x) l).or ((qv b y).bind fun l=>(dKK x).map fun k=>(lk l k).isSome)=some z:=e1;cases h1:(kQ b y).bind fun l=>anyE (fun z=>eqN b 5 z x) l with
  |some w=>
   rw[h1]at e;cases e;obtain⟨l,h2,h3⟩:=ai.mp h1;obtain⟨a,us,rfl,rs,_,g⟩:=I.st.seq r2 h2;obtain⟨g',h4,rfl⟩:=um hu I r1 rs h3;rcases g with g|g
   ·exact k2 g.isList h4 (q s I)
   ·exact k3 g h4 (q s I)
  |none=>
   rw[h1]at e;obtain⟨l,h2,h3⟩:=ai.mp (show(qv b y).bind _=_ from e);obtain⟨k,h4,rfl⟩:=ah.mp h3;obtain⟨a,o,xs,rfl,ho,g,rs,nt⟩:=I.st.dic r2 h2;refine k4 ((kj r1 h4).is I.st.frz) (I.st.ny nt) (g.at I.st ho rs) ?_;have e:(atA xs k).isSome=(lk l k).isSome:=by rcases rs.atA k with⟨h1,h2⟩|⟨_,_,_,h1,h2,_⟩ <;> rw[h1,h2] <;> rfl
   rw[e];exact q _ (I.tok _)
theorem o_in(hu:X.A.units+64<cLine):Op2 X (compareOp .In) (g2 (inD id)):=.cmp fun{p sc b c s x y u v r Q Z} I r1 r2 e q=>JC (op:=compareOp .In) hu I r1 r2 e q (fun q=>in_str q) (fun h k q=>SeqAt.in_listAt _ h k q) (fun h k q=>SeqAt.in_tupleAt _ h k q) fun h1 h2 h3 q=>uo (by show X.A.units+1<cLine;omega) h1 h2 h3 q
theorem XY(hu:X.A.units+64<cLine):Op2 X (compareOp .NotIn) (g2 (inD not)):=.cmp fun{p sc b c s x y u v r Q Z} I r1 r2 e q=>JC (op:=compareOp .NotIn) hu I r1 r2 e q (fun q=>notIn_str q) (fun h k q=>SeqAt.notIn_listAt _ h k q) (fun h k q=>SeqAt.notIn_tupleAt _ h k q) fun h1 h2 h3 q=>Jc (by show X.A.units+1<cLine;omega) h1 h2 h3 q
end
section
variable{X:Cx}{p:Pin}{sc:Sc}{b:Hb}{c:Co}{s:Shared}{op:Value->Value->Sem Value}
noncomputable def gR(h:Hb->D->D->Option Res):G
 |[x,y],b=>(h b x y).map fun r=>(r,b)
 |_,_=>none
theorem Op2.res{h:Hb->D->D->Option Res}(k:∀{p sc b c s x y u v r Q Z},Inv X p sc b c s->Rep X.W c x u->Rep X.W c y v->h b x y=some r->(∀u s' c',Inv X p sc b c' s'->Le c c'->RR X p c' s' u r->Q u s')->wpAny X.M X.A (op u v) Q Z s):Op2 X op (gR h):=⟨fun p sc b c s us ds r b' Q Z I rs e q=>by
 unfold gR at e
 split at e
 ·obtain⟨z,h1,h2⟩:=ah.mp e
  cases h2;obtain⟨_,_,rfl,r1,_,_,rfl,r2,rfl⟩:=rs;exact k I r1 r2 h1 q
 ·cases e⟩
noncomputable def ar(C:Int->Int->Bool)(f:Int->Int->Int)(_:Hb):D->D->Option Res
 |.int i,.int j=>if C i j then some (.v (.int (f i j)))else none
 |_,_=>none
theorem o_ar{C:Int->Int->Bool}{f:Int->Int->Int}(k:∀{i j t u s}{Q:iE}{Z},C i j=true->(∀t,Q (.int (f i j) t) { s with toks:=s.toks+1 })->wpAny X.M X.A (op (.int i t) (.int j u)) Q Z s):Op2 X op (gR (ar C f)):=.res fun{p sc b c s x y u v r Q Z} I r1 r2 e q=>by
 unfold ar at e
 split at e
 ·split at e
  ·cases e;obtain⟨t,rfl⟩:=r1;obtain⟨t',rfl⟩:=r2;exact k (by assumption) fun t=>q _ _ c (I.tok _) .refl ⟨t,rfl⟩
  ·cases e
 ·cases e
noncomputable def in64(i:Int):Bool:=decide (-(2 ^ 64)<i) && decide (i<2 ^ 64)
noncomputable def mulC(i j:Int):Bool:=in64 i || in64 j
noncomputable def divC(_ j:Int):Bool:=decide (0<j) && decide (j<1073741824)
noncomputable def powC(i j:Int):Bool:=decide (0<=j) && decide (j<=1000000) && decide (i.natAbs<2 ^ 64)
noncomputable abbrev subD:=ar (fun _ _=>true) fun i j=>i - j
noncomputable abbrev mulD:=ar mulC fun i j=>i * j
noncomputable abbrev modD:=ar (fun _ j=>decide (0<j)) fun i j=>i % j
noncomputable abbrev divD:=ar divC fun i j=>i / j
noncomputable abbrev powD:=ar powC fun i j=>i ^ j.toNat
theorem qb6:Op2 X (binaryOp .Sub) (gR subD):=o_ar fun _ q=>sub_int (q _)
theorem qb9:Op2 X (binaryOp .Mult) (gR mulD):=o_ar fun{i j _ _ _ _ _} h q=>mul_int (q _) (by
 unfold mulC in64 at h;simp only[bX,aq,aF]at h;rcases h with⟨h1,h2⟩|⟨h1,h2⟩
 ·exact .of_left (intBits_le_64 h1 h2)
 ·exact .of_right (intBits_le_64 h1 h2))
theorem qca:Op2 X (binaryOp .Mod) (gR modD):=o_ar fun{i j _ _ _ _ _} h q=>by
 have h1:=cI h;exact mod_int' (by omega) (by rw[Int.fmod_eq_emod_of_nonneg i (by omega)];exact q _)
theorem qcb:Op2 X (binaryOp .FloorDiv) (gR divD):=o_ar fun{i j _ _ _ _ _} h q=>by
 simp only[divC,aq,aF]at h;exact floordiv_int (by omega) (by rw[Int.fdiv_eq_ediv_of_nonneg i (by omega)];exact q _) (.inl (PyProof.noPylong_small (by omega)))
theorem qb7:Op2 X (binaryOp .Pow) (gR powD):=o_ar fun{i j _ _ _ _ _} h q=>by
 simp only[powC,aq,aF]at h;exact pow_int_small h.1.1 h.1.2 h.2 (q _)
theorem qb8:Op1 X (unaryOp .USub) fun l b=>match l with
 |[.int i]=>some (.v (.int (-i)),b)
 |_=>none:=⟨fun p sc b c s us ds r b' Q Z I rs e q=>by
 split at e
 ·cases e;obtain⟨_,_,rfl,⟨t,rfl⟩,rfl⟩:=rs;exact neg_int (q _ _ c (I.tok _) .refl ⟨_,rfl⟩)
 ·cases e⟩
noncomputable def addL(b:Hb)(x y:D):Option Res:=(qG b x).bind fun l=>(qG b y).bind fun l'=>if l.length+l'.length<=sizeLine then some (.n (.lst false (l++l')))else none
noncomputable def addD(b:Hb):D->D->Option Res
 |.int i,.int j=>some (.v (.int (i+j)))
 |.str i,.str j=>if i.length+j.length<=sizeLine then some (.v (.str (i++j)))else none
 |.tup x,.tup y=>if x.length+y.length<=sizeLine/\x.isEmpty=false then some (.v (.tup (x++y)))else none
 |x,y=>addL b x y
theorem nil_of{us:List β}{l:List α}(h:us.length=l.length):us=[]↔l=[]:=by cases us <;> cases l <;> simp_all
theorem qcc:Op2 X (binaryOp .Add) (gR addD):=.res fun{p sc b c s x y u v r Q Z} I r1 r2 e q=>by
 unfold addD at e
 split at e
 ·cases e;obtain⟨t,rfl⟩:=r1;obtain⟨t',rfl⟩:=r2;exact add_int (q _ _ c (I.tok _) .refl ⟨_,rfl⟩)
 ·split at e
  ·cases e;obtain⟨t,rfl⟩:=r1;obtain⟨t',rfl⟩:=r2;exact add_str (fun t tk=>q _ _ c (I.tok _) .refl ⟨_,rfl⟩) (by assumption)
  ·cases e
 ·split at e
  ·rename_i x y h
   cases e;obtain⟨a,o,us,rfl,ho,z1,rs⟩:=I.st.tup r1;obtain⟨a',o',us',rfl,ho',z2,rs'⟩:=I.st.tup r2;refine HT.cat_tup (z1.tu ho) (z2.tu ho') (fun z=>by rw[(nil_of rs.len).mp z]at h;exact absurd h.2 (by simp)) (fun z=>q _ _ c I .refl ?_) (fun z=>?_) (by rw[rs.len,rs'.len];exact h.1)
   ·rw[(nil_of rs'.len).mp z,i3];exact r1
   ·obtain⟨c',I',l',r'⟩:=I.ntup (t':=s.toks) (k:=0) (rs.app rs') (by rw[az,rs.len,rs'.len];exact h.1)
    exact q _ _ c' I' l' r'
  ·cases e
 ·obtain⟨l,h1,e⟩:=ai.mp e
  obtain⟨l',h2,e⟩:=ai.mp e
  split at e
  ·rename_i hz
   cases e;obtain⟨a,o,us,rfl,ho,⟨z1,n,rfl⟩,rs⟩:=I.st.lst r1 h1;obtain⟨a',o',us',rfl,ho',⟨z2,n',rfl⟩,rs'⟩:=I.st.lst r2 h2;have hz:(us++us').length<=sizeLine:=by rw[az,rs.len,rs'.len];exact hz
   refine PySem.P.add_list ho ho' ?_ (by rw[au,au,<- az];exact hz);have ea:us.toArray++us'.toArray=(us++us').toArray:=by simp
   rw[ea];exact q _ _ c (I.push (t':=s.toks) _) .refl (I.nlst (rs.app rs') hz)
  ·cases e
end
section
variable{X:Cx}{p:Pin}{sc:Sc}{b:Hb}{c c':Co}{s:Shared}{t:iH->Sem Value}{us:iH}{ds:List D}
noncomputable def Gn:=Hb->List D->Option Res
noncomputable def gN(h:Gn):G:=fun l b=>(h b l).map fun r=>(r,b)
theorem Op.get{h:Gn}(k:∀{p sc b c s us ds r Q Z},Inv X p sc b c s->Reps X.W c ds us->h b ds=some r->(∀u s' c',Inv X p sc b c' s'->Le c c'->RR X p c' s' u r->Q u s')->wpAny X.M X.A (t us) Q Z s):Op X t (gN h):=⟨fun p sc b c s us ds r b' Q Z I rs e q=>by
 obtain⟨z,h1,h2⟩:=ah.mp e;cases h2;exact k I rs h1 q⟩
theorem Op.or{g h:G}(k1:Op X t g)(k2:Op X t h):Op X t fun l b=>(g l b).or (h l b):=⟨fun p sc b c s us ds r b' Q Z I rs e q=>by
 cases z:g ds b with
 |some w=>rw[z]at e;cases e;exact k1.h p sc b c s us ds _ _ Q Z I rs z q
 |none=>rw[z]at e;exact k2.h p sc b c s us ds _ _ Q Z I rs e q⟩
noncomputable def g1(h:Hb->D->Option Res):Gn:=fun b l=>match l with
 |[d]=>h b d
 |_=>none
theorem Op.one{t:Value->Sem Value}{tt:iH->Sem Value}{h:Hb->D->Option Res}(ht:∀u,tt [u]=t u)(k:∀{p sc b c s u d r Q Z},Inv X p sc b c s->Rep X.W c d u->h b d=some r->(∀u s' c',Inv X p sc b c' s'->Le c c'->RR X p c' s' u r->Q u s')->wpAny X.M X.A (t u) Q Z s):Op X tt (gN (g1 h)):=.get fun{p sc b c s us ds r Q Z} I rs e q=>by
 unfold g1 at e
 split at e
 ·obtain⟨_,_,rfl,r1,rfl⟩:=rs
  rw[ht];exact k I r1 e q
 ·cases e
noncomputable def iLen(b:Hb):D->Option Res
 |.str x=>if x.length<=sizeLine then some (.v (.int x.length))else none
 |d=>((kQ b d).map fun l=>.v (.int l.length)).or ((qv b d).map fun l=>.v (.int l.length))
theorem yR{n:Nat}(h:n<=sizeLine):(n:Int)<2 ^ 63:=by have:=QG;omega
theorem qaw:Op X (fun us=>call (.builtin "len") us) (gN (g1 iLen)):=.one (fun _=>rfl) fun{p sc b c s u d r Q Z} I r1 e q=>by
 unfold iLen at e
 split at e
 ·split at e
  ·cases e;obtain⟨t,rfl⟩:=r1;have:=QG;exact len_str (by omega) (q _ _ c (I.tok _) .refl ⟨_,rfl⟩)
  ·cases e
 ·cases z:kQ b d with
  |some l=>
   rw[z]at e;cases e;obtain⟨a,us,rfl,rs,hz,g⟩:=I.st.seq r1 z;have fin:∀t,Q (.int us.toArray.size t) { s with toks:=s.toks+1+1 }:=fun t=>by rw[au,rs.len];exact q _ _ c (I.tok _) .refl ⟨t,rfl⟩
   rcases g with g|g
   ·exact Calls.call_len_list g.isList (by rw[au];exact yR hz) (fin _)
   ·exact len_tuple g (by rw[au];exact yR hz) (fin _)
  |none=>
   rw[z]at e;obtain⟨l,h1,rfl⟩:=ah.mp (show(qv b d).map _=_ from e);obtain⟨a,o,xs,rfl,ho,g,rs,nt⟩:=I.st.dic r1 h1;exact Wa (I.st.ny nt) (g.at I.st ho rs) (yR g.1) (by rw[rs.len];exact q _ _ c (I.tok _) .refl ⟨_,rfl⟩)
noncomputable def iInt(_:Hb):D->Option Res
 |.int i=>some (.v (.int i))
 |.bl k=>some (.v (.int (if k then 1 else 0)))
 |_=>none
theorem qax:Op X (fun us=>call (.type "int") us) (gN (g1 iInt)):=.one (fun _=>rfl) fun{p sc b c s u d r Q Z} I r1 e q=>by
 unfold iInt at e
 split at e
 ·cases e;obtain⟨t,rfl⟩:=r1;exact call_int_int (q _ _ c I .refl ⟨_,rfl⟩)
 ·cases e;cases r1;exact call_int_bool (q _ _ c (I.tok _) .refl ⟨_,rfl⟩)
 ·cases e
noncomputable def iStr(_:Hb):D->Option Res
 |.int i=>if i.natAbs.log2<1920 then some (.v (.str (toString i)))else none
 |_=>none
theorem qar:Op X (fun us=>call (.type "str") us) (gN (g1 iStr)):=.one (fun _=>rfl) fun{p sc b c s u d r Q Z} I r1 e q=>by
 unfold iStr at e
 split at e
 ·split at e
  ·cases e;obtain⟨t,rfl⟩:=r1;exact PySem.P.str_of_int (by assumption) (q _ _ c (I.tok _) .refl ⟨_,rfl⟩)
  ·cases e
 ·cases e
noncomputable def uv(b:Hb)(d:D):Option Res:=(kQ b d).map fun l=>.n (.lst false l)
theorem W6:Op X (fun us=>call (.type "list") us) (gN (g1 uv)):=.one (fun _=>rfl) fun{p sc b c s u d r Q Z} I r1 e q=>by
 obtain⟨l,h1,rfl⟩:=ah.mp e;obtain⟨a,us,rfl,rs,hz,g⟩:=I.st.seq r1 h1;have:∃T o n,(T="list"\/T="tuple")/\s.heap.get? a=some o/\o.cls=.type T/\o.data=.seq us.toArray n:=by
  rcases g with g|g
  ·obtain⟨o,ho,hc,n,hd⟩:=g.isList;exact⟨_,o,n,.inl rfl,ho,hc,hd⟩
  ·obtain⟨o,ho,hc,n,hd⟩:=g;exact⟨_,o,n,.inr rfl,ho,hc,hd⟩
 obtain⟨T,o,n,hT,ho,hc,hd⟩:=this;refine call_list_seq a hT ho hc hd (fun h' c' kp e=>?_) (by rw[au];exact hz);exact q _ _ c (I.kept (t':=s.toks) kp) .refl ⟨_,rfl,(I.fpn (aI _)),_,us,e,⟨hz,c',rfl⟩,rs⟩
noncomputable def iTup(b:Hb):D->Option Res
 |.tup l=>some (.v (.tup l))
 |d=>(qG b d).map fun l=>.v (.tup l)
theorem qaq:Op X (fun us=>call (.type "tuple") us) (gN (g1 iTup)):=.one (fun _=>rfl) fun{p sc b c s u d r Q Z} I r1 e q=>by
 unfold iTup at e
 split at e
 ·cases e
  obtain⟨a,o,us,rfl,ho,g,rs⟩:=I.st.tup r1;exact call_tuple_same (g.tu ho) (q _ _ c I .refl r1)
 ·obtain⟨l,h1,rfl⟩:=ah.mp e
  obtain⟨a,o,us,rfl,ho,g,rs⟩:=I.st.lst r1 h1;refine call_tuple_list (g.pl ho).isList (fun h' kp=>?_) (by rw[au];exact g.1);obtain⟨c',I',l',r'⟩:=(I.kept (t':=s.toks) kp).ntup (t':=s.toks) (k:=0) rs g.1;exact q _ _ c' I' l' r'
noncomputable def VQ:List D->Option (List Bool)
 |[]=>some []
 |.bl k::r=>(VQ r).map (k::·)
 |_=>none
noncomputable def strsOf:List D->Option (iK)
 |[]=>some []
 |.str k::r=>(strsOf r).map (k::·)
 |_=>none
theorem Xr:∀{ds:List D}{us bs},Reps W c ds us->VQ ds=some bs->PyProof.Rows.LSm.BoolsAre us bs
 |[],us,bs,r,e=>by cases e;cases r;exact .nil
 |d::ds,us,bs,⟨u,us',e1,h,t⟩,e=>by
  subst e1;cases d <;> try cases e
  obtain⟨bs',h1,rfl⟩:=ah.mp (show(VQ ds).map _=_ from e);cases h;exact .cons _ (Xr t h1)
theorem ZO:∀{ds:List D}{us xs},Reps W c ds us->strsOf ds=some xs->∃l:List (Str×Tok),us=strValues l/\l.map (·.1)=xs
 |[],us,xs,r,e=>by cases e;cases r;exact⟨[],rfl,rfl⟩
 |d::ds,us,xs,⟨u,us',e1,h,t⟩,e=>by
  subst e1;cases d <;> try cases e
  obtain⟨xs',h1,rfl⟩:=ah.mp (show(strsOf ds).map _=_ from e);obtain⟨t',rfl⟩:=h;obtain⟨l,rfl,rfl⟩:=ZO t h1;exact⟨(_,t')::l,rfl,rfl⟩
noncomputable def iAll(b:Hb)(d:D):Option Res:=(qG b d).bind fun l=>(VQ l).map fun bs=>.v (.bl (bs.all id))
theorem qaz(hc:X.calm=true):Op X (fun us=>call (.builtin "all") us) (gN (g1 iAll)):=.one (fun _=>rfl) fun{p sc b c s u d r Q Z} I r1 e q=>by
 obtain⟨l,h1,e⟩:=ai.mp e;obtain⟨bs,h2,rfl⟩:=ah.mp e;obtain⟨a,o,us,rfl,ho,g,rs⟩:=I.st.lst r1 h1;have hb:=Xr rs h2;have hL:=(g.pl ho).isList;have hlt:=aA ho;refine call_all_walk (fV hL ⟨s.heap.objs.size,[s.heap.objs.size,a],[s.heap.objs.size],us.toArray.size,_,_,fun i=>(bs[i]?).getD true,rfl,Walks.list (A:=X.A.in1) (I.ok.hd hc) _ a (aH hlt) us.toArray,
  ⟨⟨_,ao _ rfl,rfl,rfl⟩,hL.push _⟩,fun i v s' Q' E' hP hQ=>?_,fun h' tk hk=>?_⟩)
 ·obtain⟨b,e,rfl⟩:=hb.get i v (by simpa using hP)
  simp only[e,Option.getD_some]at hQ;exact bK hQ
 ·have e:((List.range us.toArray.size).all fun i=>(bs[i]?).getD true)=bs.all id:=by rw[au,hb.length];exact PyProof.Rows.LSm.range_all bs
  rw[e];exact q _ _ c (I.kept (PyProof.Rows.LSm.kept_iter hk)) .refl rfl
noncomputable def WC:Gn
 |b,[.str sep,d]=>(qG b d).bind fun l=>(strsOf l).bind fun xs=>if JoinOk sep xs=true then some (.v (.str (Txt.join sep xs)))else none
 |_,_=>none
theorem W4:Op X (fun us=>call (.builtin "str.join") us) (gN WC):=.get fun{p sc b c s us ds r Q Z} I rs e q=>by
 unfold WC at e
 split at e
 ·obtain⟨l,h1,e⟩:=ai.mp e
  obtain⟨xs,h2,e⟩:=ai.mp e
  split at e
  ·cases e
   obtain⟨_,_,rfl,⟨t,rfl⟩,_,_,rfl,r2,rfl⟩:=rs;obtain⟨a,o,us,rfl,ho,g,rs⟩:=I.st.lst r2 h1;obtain⟨l,rfl,h2⟩:=ZO rs h2;exact SC.join (g.pl ho).isList h2 (by assumption) fun t' k=>q _ _ c (I.tok _) .refl ⟨t',rfl⟩
  ·cases e
 ·cases e
end
end E
namespace PySem.SeqAt
open AutoSeq1 (wpAny_loadPart')
open MeetsSeq MeetsSeq2 MeetsSeq3 SeqRoads2
structure Hit(A:Around)(s:Shared)(items:iJ)(x:Value)(j:Nat):Prop where
 lt:j<items.size
 at_:∀y,items[j]?=some y->EqAt A s y x true
 no:∀(m:Nat) y,m<j->items[m]?=some y->EqAt A s y x false
theorem wZ(l:Addr)(items:iJ)(n:Nat)(x:Value)(j:Nat)(hs1:items.size<=sizeLine)(k:Nat) :
  ∀i:Nat,j - i=k->i<=j->Meets (Builtin.«list.remove.loop» ⟨[.ref l,x,rawInt i],[]⟩)
   (fun A R s=>s.heap.get? l=some { cls:=.type "list",dict:=none,data:=.seq items n,slots:=#[] }/\Hit A.in1 s items x j/\R (.ok (.ret .none)) { s with heap:=s.heap.update l (Obj.mapSeq fun xs=>xs.eraseIdxIfInBounds j) }):=by
 induction k with
 |zero=>
  intro i hk hij prog w A R s h;obtain⟨hp,g,d,tk,os⟩:=s;obtain⟨hl,he,h⟩:=h;obtain rfl:i=j:=by omega
  have hj:=he.lt
  wp_walk using aX hl
  have hi:items[((i:Nat):Int).toNat]?=some items[i]:=by simp[hj]
  rw[hi];refine aa (he.at_ _ (by simp) prog w _ _ ?_);have hz':(items.eraseIdxIfInBounds i).size<=sizeLine+1:=ba (size_erased items _) (Nat.le_succ_of_le hs1)
  wp_walk using(gF hl rfl (hz:=hs1) (_hz':=hz')),aX hl
  simpa using h
 |succ k ih=>
  intro i hk hij prog w A R s h;obtain⟨hp,g,d,tk,os⟩:=s;obtain⟨hl,he,h⟩:=h;have hlt:i<items.size:=by have:=he.lt;omega
  wp_walk using aX hl
  have hi:items[((i:Nat):Int).toNat]?=some items[i]:=by simp[hlt]
  have hc:((i:Int)+1)=((i+1:Nat):Int):=by push_cast;rfl
  rw[hi];refine aa (he.no i _ (by omega) (by simp[hlt]) prog w _ _ ?_)
  wp_walk
  rw[hc];exact⟨cK plain_remove_loop _,c9 entry_remove_loop (by
   rw[bH plain_remove_loop _];exact ih (i+1) (by omega) (by omega) prog w A R _ ⟨hl,he,h⟩)⟩
theorem list_removeN(l:Addr)(items:iJ)(n:Nat)(x:Value)(j:Nat)(hs1:items.size<=sizeLine) :
  Meets (Builtin.«list.remove» ⟨[.ref l,x],[]⟩)
   (fun A R s=>s.heap.get? l=some { cls:=.type "list",dict:=none,data:=.seq items n,slots:=#[] }/\Hit A.in1 s items x j/\R (.ok (.ret .none)) { s with heap:=s.heap.update l (Obj.mapSeq fun xs=>xs.eraseIdxIfInBounds j) }):=by
 intro prog w A R s h;obtain⟨hp,g,d,tk,os⟩:=s;obtain⟨hl,he,h⟩:=h
 wp_walk using aX hl
 exact⟨cK plain_remove_loop _,c9 entry_remove_loop (by
  rw[bH plain_remove_loop _];exact wZ l items n x j hs1 _ 0 rfl (bz _) prog w A R _ ⟨hl,he,h⟩)⟩
theorem tuple_indexN(t:Addr)(o:Obj)(items:iJ)(n:Nat)(x:Value)(j:Nat)(hc:o.cls=.type "tuple")(hd:o.data=.seq items n) :
  Meets (Builtin.«tuple.index» ⟨[.ref t,x],[]⟩)
   (fun A R s=>s.heap.get? t=some o/\Hit A.in1 s items x j/\R (.ok (.ret (.int j s.toks))) { s with toks:=s.toks+1 }):=
 .of_wp fun prog w A R s h=>by
  obtain⟨ho,he,h⟩:=h;have hj:=he.lt;unfold Builtin.«tuple.index»;refine aa (ae ?_);refine aa (wpAny_tupleItemsOf ho hd ?_);refine aa (ae (aa (ae ?_)));dsimp only;rw[Nat.min_self,PySem.W.KPc.range_list];refine aa (cZ _ (fun rest b s'=>s'=s/\b=(none,())/\∃i,i<=j/\rest=List.range' i (items.size - i)) (fun b s'=>b=(some (.done (.ret (.int j s.toks))),())/\s'={ s with toks:=s.toks+1 }) ?_ ?_ _ _ ⟨rfl,rfl,0,bz _,rfl⟩ |> fun k=>aY k (fun b s'⟨e1,e2⟩=>?_) fun _ _ e=>e)
  ·rintro i rest b s' ⟨rfl,rfl,i',hi,e⟩
   have hlt:i'<items.size:=fF hi hj;rw[show items.size - i'=(items.size - (i'+1))+1 by omega,List.range'_succ,ew]at e;obtain⟨rfl,e⟩:=e;rw[bG hlt]
   by_cases hij:i=j
   ·subst hij
    refine aa (he.at_ _ (bG hlt) prog w _ _ ?_);rw[aE rfl];unfold retInt;exact aa (aa (wpAny_mkInt (ae (ae ⟨rfl,rfl⟩))))
   ·refine aa (he.no i _ (by omega) (bG hlt) prog w _ _ ?_)
    rw[ax aG];exact ae ⟨rfl,rfl,i+1,by omega,e⟩
  ·rintro b s' ⟨rfl,rfl,i,hi,e⟩
   have:=bY List.length e;simp at this;omega
  ·subst e1 e2
   exact ae ⟨_,rfl,h⟩
end PySem.SeqAt
namespace E
open PySem PySem.Spec PyProof PyProof.Rows L2
section
variable{X:Cx}{p:Pin}{sc:Sc}{b:Hb}{c c':Co}{s:Shared}{us:iH}{ds:List D}
noncomputable def obL(b:Hb)(d:D):Option (Nat×List D):=match obj b d with
 |some (n,.lst false l)=>some (n,l)
 |_=>none
noncomputable def obK(b:Hb)(d:D):Option (Nat×List (KK×D)):=match obj b d with
 |some (n,.dic false l)=>some (n,l)
 |_=>none
theorem Inv.lwr{d n l u}(I:Inv X p sc b c s)(r:Rep X.W c d u)(h:obL b d=some (n,l)):∃a us k,u=.ref a/\s.heap.get? a=some { cls:=.type "list",data:=.seq us.toArray k }/\us.length<=sizeLine/\Reps X.W c l us/\
  ∀{f us' l' t'},f us.toArray=us'.toArray->us'.length<=sizeLine->Reps X.W c l' us'->Inv X p sc (b.set n (.lst false l')) c { s with heap:=s.heap.update a (Obj.mapSeq f),toks:=t' }:=by
 unfold obL at h
 split at h
 ·rename_i n' l' e
  cases h;obtain⟨q,rfl,⟨o,us,h1,⟨h2,k,rfl⟩,h3⟩,_,wr⟩:=I.wr r e rfl;refine⟨q.1,us,k,rfl,h1,h2,h3,fun{f us' l' t'} e z rs=>?_⟩;have g:=PySem.IsL.update h1 f;rw[e]at g;exact wr (fun a o n e=>(bg s.heap (Obj.mapSeq f) (bN n)).trans e) ⟨_,g⟩ ⟨_,us',g,⟨z,_,rfl⟩,rs⟩
 ·cases h
theorem Inv.dwr{d n l u}(I:Inv X p sc b c s)(r:Rep X.W c d u)(h:obK b d=some (n,l)):∃a xs,u=.ref a/\DictA (qH X.W.prog X.W.w) s.heap a xs/\(a == sysModules)=false/\xs.length<=sizeLine/\Repk X.W c l xs/\
  ∀{h' t' l' ls},DictA (qH X.W.prog X.W.w) h' a ls->Heap.SameBut a s.heap h'->Repk X.W c l' ls->l'.length<=sizeLine->Inv X p sc (b.set n (.dic false l')) c { s with heap:=h',toks:=t' }:=by
 unfold obK at h
 split at h
 ·rename_i n' l' e
  cases h;obtain⟨q,rfl,⟨o,xs,h1,h2,h3⟩,nt,wr⟩:=I.wr r e rfl;refine⟨q.1,xs,rfl,h2.at I.st h1 h3,I.st.ny nt,h2.1,h3,fun{h' t' l' ls} dd sb rs z=>?_⟩;obtain⟨o',e1,e2⟩:=Kh dd (by rw[rs.len];exact z);exact wr (fun a o n e=>(sb.2 a n).trans e) ⟨o',e1⟩ ⟨o',_,e1,e2,rs⟩
 ·cases h
noncomputable def gL(h:Hb->List D->List D->Option (D×List D)):G
 |d::as,b=>(obL b d).bind fun q=>(h b q.2 as).map fun r=>(.v r.1,b.set q.1 (.lst false r.2))
 |_,_=>none
theorem Op.lst{id:String}{h:Hb->List D->List D->Option (D×List D)}(k:∀{p sc b c s a us k l vs as r Q Z},Inv X p sc b c s->s.heap.get? a=some { cls:=.type "list",data:=.seq us.toArray k }->us.length<=sizeLine->Reps X.W c l us->Reps X.W c as vs->h b l as=some r->
  (∀v f us' t',f us.toArray=us'.toArray->us'.length<=sizeLine->Reps X.W c r.2 us'->Rep X.W c r.1 v->Q v { s with heap:=s.heap.update a (Obj.mapSeq f),toks:=t' })->wpAny X.M X.A (call (.builtin id) (.ref a::vs)) Q Z s):Op X (fun us=>call (.builtin id) us) (gL h):=⟨fun p sc b c s us ds r b' Q Z I rs e q=>by
 cases ds with
 |nil=>cases e
 |cons d as=>
  obtain⟨q0,h1,e⟩:=ai.mp (show(obL b d).bind _=_ from e);obtain⟨r',h2,e⟩:=ah.mp e;cases e;obtain⟨u,vs,rfl,r1,rs⟩:=rs;obtain⟨a,us,k',rfl,g1,g2,g3,wr⟩:=I.lwr r1 h1;exact k I g1 g2 g3 rs h2 fun v f us' t' e z r2 r3=>q _ _ c (wr e z r2) .refl r3⟩
noncomputable def iApp(_:Hb)(l:List D):List D->Option (D×List D)
 |[y]=>if l.length<sizeLine then some (.non,l++[y])else none
 |_=>none
theorem qap:Op X (fun us=>call (.builtin "list.append") us) (gL iApp):=.lst fun{p sc b c s a us k l vs as r Q Z} I g z rl ra e q=>by
 unfold iApp at e
 split at e
 ·split at e
  ·rename_i hz
   cases e;obtain⟨u,_,rfl,r1,rfl⟩:=ra;exact gY fc ⟨_,g,rfl⟩ gS (gK _ _) (PySem.list_append a us.toArray k u (by rw[au];exact z)) ⟨g,q _ _ (us++[u]) _ (by simp) (by rw[az,rl.len];exact hz) (rl.app (.one r1)) rfl⟩
  ·cases e
 ·cases e
noncomputable def idxE(f:D->Option Bool):List D->Option Nat
 |[]=>none
 |y::ys=>(f y).bind fun k=>if k then some 0 else(idxE f ys).map (·+1)
theorem JG(hu:X.A.units+64<cLine)(I:Inv X p sc b c s)(r1:Rep X.W c x u):∀{l us j},Reps X.W c l us->idxE (fun z=>eqN b 5 z x) l=some j->SeqAt.Hit X.A.in1 s us.toArray u j
 |[],_,_,_,e=>by cases e
 |d::l,_,j,⟨w,us,e0,h,t⟩,e=>by
  subst e0;obtain⟨k,h1,h2⟩:=ai.mp (show(eqN b 5 d x).bind _=_ from e);have q:=(kZ I.st 5 (A:=X.A.in1) (by show X.A.units+1+1+5<_;omega) h r1 h1).2;cases k with
  |true=>cases h2;exact⟨by simp,fun y hy=>by simp at hy;subst hy;exact q,fun m y hm=>absurd hm (dq _)⟩
  |false=>
   obtain⟨j',h3,rfl⟩:=ah.mp (show(idxE _ l).map _=_ from h2);obtain⟨a1,a2,a3⟩:=JG hu I r1 t h3;refine⟨by simp at a1 ⊢;omega,fun y hy=>a2 y (by simpa using hy),fun m y hm hy=>?_⟩;cases m with
   |zero=>simp at hy;subst hy;exact q
   |succ m=>exact a3 m y (by omega) (by simpa using hy)
noncomputable def iRem(b:Hb)(l:List D):List D->Option (D×List D)
 |[y]=>(idxE (fun z=>eqN b 5 z y) l).map fun j=>(.non,l.eraseIdx j)
 |_=>none
theorem Reps.er:∀{l us}(j:Nat),Reps W c l us->Reps W c (l.eraseIdx j) (us.eraseIdx j)
 |[],_,_,e=>by cases e;rfl
 |_::_,_,0,⟨_,_,e,_,t⟩=>by cases e;exact t
 |_::_,_,j+1,⟨u,_,e,h,t⟩=>by cases e;exact⟨u,_,rfl,h,t.er j⟩
theorem qak(hu:X.A.units+64<cLine):Op X (fun us=>call (.builtin "list.remove") us) (gL iRem):=.lst fun{p sc b c s a us k l vs as r Q Z} I g z rl ra e q=>by
 unfold iRem at e
 split at e
 ·obtain⟨j,h1,rfl⟩:=ah.mp e
  obtain⟨u,_,rfl,r1,rfl⟩:=ra;exact gY gZ ⟨_,g,rfl⟩ PySem.F.entry_list_remove (PySem.F.args_list_remove_2 _ _) (SeqAt.list_removeN a us.toArray k u j (by rw[au];exact z)) ⟨g,JG hu I r1 rl h1,q _ _ (us.eraseIdx j) _ (by simp) (ba (List.length_eraseIdx_le ..) z) (rl.er j) rfl⟩
 ·cases e
noncomputable def iTix:Gn:=fun b l=>match l with
 |[.tup l,y]=>(idxE (fun z=>eqN b 5 z y) l).map fun(j:Nat)=>.v (.int j)
 |_=>none
theorem qai(hu:X.A.units+64<cLine):Op X (fun us=>call (.builtin "tuple.index") us) (gN iTix):=.get fun{p sc b c s us ds r Q Z} I rs e q=>by
 unfold iTix at e
 split at e
 ·obtain⟨j,h2,rfl⟩:=ah.mp e
  obtain⟨_,_,rfl,r1,u,_,rfl,r2,rfl⟩:=rs;obtain⟨a,o,us,rfl,g,⟨z,k,rfl⟩,rl⟩:=I.st.tup r1;exact gY hI ⟨_,g,rfl⟩ PySem.F.entry_tuple_index (PySem.F.args_tuple_index_2 _ _) (SeqAt.tuple_indexN a _ us.toArray k u j rfl rfl) ⟨g,JG hu I r2 rl h2,q _ _ c (I.tok _) .refl ⟨_,rfl⟩⟩
 ·cases e
noncomputable def iCpy(b:Hb)(d:D):Option Res:=(qG b d).map fun l=>.n (.lst false l)
theorem qan:Op X (fun us=>call (.builtin "list.copy") us) (gN (g1 iCpy)):=.one (t:=fun u=>call (.builtin "list.copy") [u]) (fun _=>rfl) fun{p sc b c s u d r Q Z} I r1 e q=>by
 obtain⟨l,h1,rfl⟩:=ah.mp e;obtain⟨a,o,us,rfl,g,⟨z,k,rfl⟩,rl⟩:=I.st.lst r1 h1;exact gY PySem.F.slot_list_copy ⟨_,g,rfl⟩ PySem.F.entry_list_copy (PySem.F.args_list_copy_1 _) (AutoSeq1.list_copy_list_0 a us.toArray k (by rw[au];exact z)) ⟨g,q _ _ c (I.push (t':=s.toks) _) .refl (I.nlst rl z)⟩
noncomputable def iGet:Gn
 |b,[d,k]=>(qv b d).bind fun l=>(dKK k).map fun k=>.v ((lk l k).getD .non)
 |b,[d,k,z]=>(qv b d).bind fun l=>(dKK k).map fun k=>.v ((lk l k).getD z)
 |_,_=>none
theorem Repk.getD{l xs z u}(r:Repk W c l xs)(k:KK)(h:Rep W c z u):Rep W c ((lk l k).getD z) (((L2.atA xs k).map (·.2)).getD u):=by
 rcases r.atA k with⟨h1,h2⟩|⟨d,v,w,h1,h2,h3⟩
 ·rw[h1,h2];exact h
 ·rw[h1,h2];exact h3
theorem qal(hu:X.A.units+64<cLine):Op X (fun us=>call (.builtin "dict.get") us) (gN iGet):=.get fun{p sc b c s us ds r Q Z} I rs e q=>by
 unfold iGet at e
 split at e
 ·obtain⟨l,h1,e⟩:=ai.mp e
  obtain⟨k,h2,rfl⟩:=ah.mp e;obtain⟨_,_,rfl,r1,u,_,rfl,r2,rfl⟩:=rs;obtain⟨a,o,xs,rfl,g,dd,rl,nt⟩:=I.st.dic r1 h1;have dd:=dd.at I.st g rl;exact el gp dd.typeIs PySem.F.entry_dict_get (PySem.F.args_dict_get_2 _ _) (YX (knd:=qH X.W.prog X.W.w) (I.st.ny nt)) ⟨by show X.A.units+1<cLine;omega,k,xs,(kj r2 h2).is I.st.frz,dd,q _ _ c (I.tok _) .refl (rl.getD k (z:=.non) rfl)⟩
 ·obtain⟨l,h1,e⟩:=ai.mp e
  obtain⟨k,h2,rfl⟩:=ah.mp e;obtain⟨_,_,rfl,r1,u,_,rfl,r2,v,_,rfl,r3,rfl⟩:=rs;obtain⟨a,o,xs,rfl,g,dd,rl,nt⟩:=I.st.dic r1 h1;have dd:=dd.at I.st g rl;exact el gp dd.typeIs PySem.F.entry_dict_get (PySem.F.args_dict_get_3 _ _ _) (YW (knd:=qH X.W.prog X.W.w) (I.st.ny nt) v) ⟨by show X.A.units+1<cLine;omega,k,xs,(kj r2 h2).is I.st.frz,dd,q _ _ c (I.tok _) .refl (rl.getD k r3)⟩
 ·cases e
noncomputable def iSdf:G
 |[d,k,z],b=>(obK b d).bind fun q=>(dKK k).bind fun k=>if q.2.length<sizeLine then(match lk q.2 k with
  |some v=>some (.v v,b)
  |none=>some (.v z,b.set q.1 (.dic false (putD q.2 k z))))else none
 |_,_=>none
theorem qaj(hu:X.A.units+64<cLine):Op X (fun us=>call (.builtin "dict.setdefault") us) iSdf:=⟨fun p sc b c s us ds r b' Q Z I rs e q=>by
 unfold iSdf at e
 split at e
 ·obtain⟨q0,h1,e⟩:=ai.mp e
  obtain⟨k,h2,e⟩:=ai.mp e
  split at e
  ·rename_i hz
   obtain⟨_,_,rfl,r1,u,_,rfl,r2,v,_,rfl,r3,rfl⟩:=rs;obtain⟨a,xs,rfl,dd,ny,z,rl,wr⟩:=I.dwr r1 h1;have kr:=kj r2 h2;refine el gx dd.typeIs PySem.F.entry_dict_setdefault (PySem.F.args_dict_setdefault_3 _ _ _) (Vk (knd:=qH X.W.prog X.W.w) ny) ⟨by show X.A.units+1<cLine;omega,k,xs,kr.is I.st.frz,dd,z,fun y hy=>?_,fun hn h' dd' sb=>?_⟩
   ·rcases rl.atA k with⟨g1,g2⟩|⟨d,v',w,g1,g2,g3⟩
    ·rw[g2]at hy;cases hy
    ·rw[g1]at e;cases e;rw[g2]at hy;cases hy;exact q _ _ c (I.tok _) .refl g3
   ·rcases rl.atA k with⟨g1,g2⟩|⟨d,v',w,g1,g2,g3⟩
    ·rw[g1]at e;cases e
     have e2:∀y,putD q0.2 k y=q0.2++[(k,y)]:=fun y=>by unfold putD;rw[g1];rfl
     exact q _ _ c (wr dd' sb (by rw[e2];exact rl.app kr r3) (by rw[e2,az];exact hz)) .refl r3
    ·rw[g2]at hn;cases hn
  ·cases e
 ·cases e⟩
noncomputable def iDpp:G
 |[d,k,z],b=>(obK b d).bind fun q=>(dKK k).map fun k=>match lk q.2 k with
  |some v=>(.v v,b.set q.1 (.dic false (xA q.2 k)))
  |none=>(.v z,b)
 |_,_=>none
theorem Ke(l:List (KK×D))(k:KK):(xA l k).length<=l.length:=gq ..
theorem qam(hu:X.A.units+64<cLine):Op X (fun us=>call (.builtin "dict.pop") us) iDpp:=⟨fun p sc b c s us ds r b' Q Z I rs e q=>by
 unfold iDpp at e
 split at e
 ·obtain⟨q0,h1,e⟩:=ai.mp e
  obtain⟨k,h2,e⟩:=ah.mp e;obtain⟨_,_,rfl,r1,u,_,rfl,r2,v,_,rfl,r3,rfl⟩:=rs;obtain⟨a,xs,rfl,dd,ny,z,rl,wr⟩:=I.dwr r1 h1;refine el PySem.F.slot_dict_pop dd.typeIs PySem.F.entry_dict_pop (PySem.F.args_dict_pop_3 _ _ _) (YV (knd:=qH X.W.prog X.W.w) ny v) ⟨by show X.A.units+1<cLine;omega,k,xs,(kj r2 h2).is I.st.frz,dd,z,fun hn n=>?_,fun y hy h' dd' sb=>?_⟩
  ·rcases rl.atA k with⟨g1,g2⟩|⟨d,v',w,g1,g2,g3⟩
   ·rw[g1]at e;cases e;exact q _ _ c (I.tok _) .refl r3
   ·rw[g2]at hn;cases hn
  ·rcases rl.atA k with⟨g1,g2⟩|⟨d,v',w,g1,g2,g3⟩
   ·rw[g2]at hy;cases hy
   ·rw[g1]at e;cases e;rw[g2]at hy;cases hy
    exact q _ _ c (wr dd' sb rl.drop (ba (Ke ..) (by rw[<- rl.len];exact z))) .refl g3
 ·cases e⟩
end
section
variable{prog:Program}{w:World}{A:Around}{E:iE}{R:Result->Shared->Prop}{s:Shared}
theorem Kl{e tg:Expr}{ifs:iL}{p:Pos}{it acc:Value}{env:Env}{tl:Sem PUnit}(hU:A.under (.compLoop e 0 it acc env)=A)(hl:(model prog w).den (.compLoop e 0 it acc env)=(compTurn e 0 it acc env).onRaise (fun x=>do noteFrame x env;theTreesLotGoes x))(hT:compTurn e 0 it acc env=(do
   standAt p
   match <- pyNext it with
   |none=>pure (.done .next)
   |some v=>
    letOwnedTupleGo tg it v
    assign tg env v
    let mut ok:=true
    for c in ifs do
     if ok then ok <- isTrue c env (eval c env)
    if ok then tl
    again (.compLoop e 0 it acc env)))(W:Nat->Shared->Prop)(hE:∀x s,E x s->notedBy (model prog w) A env (fun x s'=>R (.error x) s') x s)
  (turn:∀n s,W n s->wpAny (model prog w) A (pyNext it) (fun r s1=>match r with
   |none=>R (.ok .next) s1
   |some v=>wpAny (model prog w) A (letOwnedTupleGo tg it v) (fun _ s2=>wpAny (model prog w) A (assign tg env v) (fun _ s3=>
     wpAny (model prog w) A (forIn ifs true fun c r=>if r=true then do let ok <- isTrue c env (eval c env);pure (ForInStep.yield ok)else pure (ForInStep.yield r)) (fun ok s4=>
      if ok=true then wpAny (model prog w) A tl (fun _ s6=>∃m,m<n/\W m s6) E s4
      else ∃m,m<n/\W m s4) E s3) E s2) E s1) E s)
  (n:Nat)(h:W n s):codeAny (model prog w) A (.compLoop e 0 it acc env) R s:=by
 refine codeAny_loop rfl W (fun n s hW=>?_) n h;rw[hl,hU];refine wpAny_noted ?_;rw[hT];refine aa (cm (aa (aY (turn n s hW) (fun r s1 h1=>?_) hE)));cases r with
 |none=>exact ae h1
 |some v=>
  refine aa (aY h1 (fun _ s2 h2=>?_) hE);refine aa (aY h2 (fun _ s3 h3=>?_) hE);refine aa (aY h3 (fun ok s4 h4=>?_) hE);cases ok with
  |true=>
   rw[aE rfl]at h4;rw[aE rfl];exact aa (aY h4 (fun _ s6 h6=>ae ⟨rfl,h6⟩) hE)
  |false=>
   rw[ax (by decide)]at h4;rw[ax (by decide)];exact ae ⟨rfl,h4⟩
end
noncomputable def kL(X:Cx)(scope:Scope)(cl:List (Str×Addr))(N:iK)(C:Addr)(s:Shared)(c:Co)(wr:iG):Cx:=
 { X with N:=N,s₀:=s,c₀:=c,env:=compEnvC scope cl C X.env,outer:=X.stack,ex:=wr,fn:=fun _=>false,pn:=[] }
structure CompOk(X:Cx)(scope:Scope)(cl:List (Str×Addr))(T caps:iK)(ix:List Nat):Prop where
 kind:scope.kind=.function
 clos:closureFor scope X.env=pure cl
 nocell:∀y∈scope.names,y.2≠.cell
 names:∀y∈scope.names,y.2=.local->scope.names.lookup y.1=some .local
 ixs:ix.map (fun i=>X.N[i]?)=caps.map some
 capk:∀x∈caps,(relabel scope X.env).names.lookup x=some .cell/\X.env.scope.names.lookup x=some .cell/\cl.lookup x=X.env.cells.lookup x
 has:∀x,((relabel scope X.env).names.lookup x=some .cell\/(relabel scope X.env).names.lookup x=some .free)->∃c,cl.lookup x=some c
 sub:∀x c,cl.lookup x=some c->X.env.cells.lookup x=some c
noncomputable def blk(n:Nat)(ix:List Nat)(s:Sc):Sc:=List.replicate n none++ix.map fun i=>(s[i]?).join
noncomputable def Blk(X:Cx)(scope:Scope)(cl:List (Str×Addr))(N:iK)(X':Cx):Prop:=∃C s c wr,X'=kL X scope cl N C s c wr
section
variable{X:Cx}{scope:Scope}{cl:List (Str×Addr)}{T caps:iK}{ix:List Nat}{N:iK}{p p':Pin}{sc sc':Sc}{b b' b2:Hb}{c c' c2:Co}{s s' s2:Shared}{C D:Addr}{wr:iG}{Z:iE}{o:Ob}{oD:Obj}{e tg iter kx vx:Expr}{ifs:iL}{fe fk fv:Sc->Hb->R E.D}{t:Tg}{ft:Sc->Hb->R Bool}{fi:Sc->Hb->R (List E.D×Option Nat)}{fx:Ob->Sc->Hb->R Ob}{tl:Addr->Env->Sem PUnit}{pos pos2 spos py:Pos}{l:List E.D}
theorem Zw(O:CompOk X scope cl T caps ix)(I:Inv X p sc b2 c2 s2)(F:∀a∈wr,Fp X p c2 a/\a<s2.heap.objs.size){h':Heap}{t':Nat}{m0:iF}(k:∀a o,s2.heap.get? a=some o->h'.get? a=some o)(hC:h'.Ns C m0)(hCs:s2.heap.objs.size<=C) :
  Inv (kL X scope cl (T++caps) C s2 c2 wr) [] (blk T.length ix sc) b2 c2 { s2 with heap:=h',toks:=t' }:=by
 have li:ix.length=caps.length:=by have:=bY List.length O.ixs;simpa using this
 have e0:=I.e0;refine⟨⟨e0.mo,O.kind,I.ok.glob,I.ok.blt,hCs,fun x y c h1 h2=>I.ok.inj x y c (O.sub _ _ h1) (O.sub _ _ h2),O.has,fun x c h _=>(nomatch h),I.ok.hd,I.ok.frames,.inl rfl,fun a ha=>⟨aH (bS (F a ha).2 hCs),fun x c e=>(F a ha).1.z x c (O.sub _ _ e)⟩,
  e0.bs,e0.bsz,fun a o e ha=>?_,fun a ha z=>?_,e0.funs,e0.frf⟩,rfl,I.bare,.kept k,⟨m0,hC,fun i x d h1 h2 h3=>?_⟩,fun x z e=>?_,I.st.fresh hCs,fun q hq=>absurd (show q∈([]:Pin)from hq) (by simp),I.st.keep fun a o _ q=>k a o q,?_,I.hx⟩
 ·rcases(F a ha).1.x with z|z
  ·exact I.ok.noex a o e z
  ·rw[(I.ok.bs a o e).1]at z;cases z
 ·exact(I.stk a z).elim (F a ha).1.l (F a ha).1.f
 ·have h1:(T++caps)[i]?=some x:=h1
  unfold blk at h2
  by_cases hi:i<T.length
  ·rw[aU (by simpa using hi),List.getElem?_replicate,aE hi]at h2
   cases h2
  ·rw[aJ (by simpa using hi),gj,aW]at h2
   rw[aJ (by omega)]at h1;obtain⟨k1,k2,k3⟩:=O.capk x (aB h1);have q:=bY (fun l=>l[i - T.length]?) O.ixs;simp only[aW,h1,gG]at q;cases e:ix[i - T.length]? with
   |none=>rw[e]at q;cases q
   |some j=>
    rw[e]at q h2;have q':X.N[j]?=some x:=by simpa using q
    have h2':(sc[j]?).join=some d:=by simpa using h2
    obtain⟨m,hn,hl⟩:=I.loc;obtain⟨u,r,l⟩:=hl j x d q' (by cases z:sc[j]? <;> rw[z]at h2' <;> cases h2';rfl) (.inr (.inl k2));refine⟨u,r,?_⟩;rcases l with⟨hk,_⟩|⟨_,z,hz,o,ho,hd⟩
    ·have hk':X.env.scope.names.lookup x=some .local:=hk
     rw[k2]at hk';cases hk'
    ·exact .inr ⟨.inl k1,z,k3.trans hz,o,k _ _ ho,hd⟩
 ·obtain⟨n,v,o,ho,hd⟩:=I.cell x z (O.sub _ _ e)
  exact⟨n,v,o,k _ _ ho,hd⟩
 ·unfold blk
  show _=(T++caps).length;rw[az,az,gj,aM,li]
theorem Q_(I2:Inv X p sc b2 c2 s2)(F:∀a∈wr,Fp X p c2 a)(I:Inv (kL X scope cl N C s2 c2 wr) p' sc' b c s'):Inv X p sc b c s':=by
 obtain⟨hh,g,d,t,os'⟩:=s';obtain rfl:os'=s2.os:=I.os;exact I2.step (g':=g) (d':=d) (t':=t) F I2.stk I.un I.st I.bare
theorem Xs{a:Addr}(I2:Inv X p sc b2 c2 s2)(F:∀a∈wr,Fp X p c2 a)(f:Fp (kL X scope cl N C s2 c2 wr) p' c a):Fp X p c a:=f.x.elim (fun h=>{ F a h with t:=f.t }) fun h=>{ I2.fp h with t:=f.t }
theorem W5{use:Option (Value->Sem Unit)}{QQ:iE}{a:Addr}{x:Nat}(hx:Exk X)(I2:Inv X p sc b2 c2 s2)(F:∀a∈wr,Fp X p c2 a)(I:Inv (kL X scope cl N C s2 c2 wr) p' sc' b c s')(fl:Fly (kL X scope cl N C s2 c2 wr) p' c s' a x)
  (q:∀s3,Inv X p sc b c s3->Fly X p c s3 a x->Z (.ref a) s3):notedBy X.M X.A (compEnvC scope cl C X.env) (fun x s''=>compPost X.M X.A Z use QQ (.ref D) C (.error x) s'') (.ref a) s':=by
 obtain⟨e0,o0,L,st1,st2,st3⟩:=hx.st;show wpAny _ _ (noteFrame (.ref a) (compEnvC scope cl C X.env)) _ _ s';rw[yM (env':=e0) (show(compEnvC scope cl C X.env).frame=e0.frame from st3.trans st2.symm)];have hS:s'.heap.FunFrames X.W.base (e0::o0):=by rw[<- st1];exact I.stack
 have hF:X.A.frames=some (e0::o0):=by rw[<- st1];exact I.ok.frames
 refine QD (base:=X.W.base) hF hS st2 fl (fun b e=>I.fp e) fun h' ch t' hch keep slot=>?_
 have mem:(e0::o0).filterMap (·.frame)=frs X.stack:=by rw[st1];rfl
 rw[mem]at keep;have J:=I.ch (fun a h=>(hch a h).1) keep slot;obtain⟨m,hm,_⟩:=J.loc;have hm:h'.Ns C m:=hm;refine⟨m,hm,fun h2 hs2 cenv hcl=>?_⟩;obtain⟨oC,es,ep,hoC,rC,_⟩:=id hm;have nf:∀b o vs,h'.get? b=some o->o.data=.fields vs->b≠C:=fun b o vs e1 e2 z=>by rw[z,hoC]at e1;cases e1;rw[rC]at e2;cases e2
 have t2:Tb (Fp (kL X scope cl N C s2 c2 wr) p' c) h2 a (.ref (X.W.cl x)):=by
  obtain⟨hn,oe,vs,T,oT,ts,v,a1,a2,a3,a4,a5,a6,a7,a8,a9,a0⟩:=t';exact⟨hn,oe,vs,T,oT,ts,v,hs2.extBut a _ (nf a _ _ a1 a3) a1,a2,a3,a4,a5,a6,a7,hs2.extBut T _ (nf T _ _ a8 a9) a8,a9,a0⟩
 refine qb2 (s:={ s' with heap:=h2 }) t2 fun h3 T t3 nT oT k3=>?_
 have J2:=Q_ I2 F J;have fC:Fp X p c C:={ I2.fp (bw I.ok.above)with t:=I.free };have J3:Inv X p sc b c { s' with heap:=h3 }:=Inv.turn (s:={ s' with heap:=h' }) (h':=h3) (t':=s'.toks) (ch:=[C,T]) J2 (fun a ha=>by
  simp only[aw,aL,bZ]at ha;rcases ha with rfl|rfl
  ·exact fC
  ·exact Xs I2 F nT) fun a o ha e=>k3 a o (fun z=>ha (by simp[z])) (hs2.extBut a o (fun z=>ha (by simp[z])) e)
 exact q _ J3 (.inl (t3.mono fun b f=>Xs I2 F f))
theorem ObA.there{h:Heap}(r:ObA W c h (D,D) o)(n:o.nw.isSome=true):∃oD,h.get? D=some oD/\∀v,oD.data≠.cell v:=by
 cases o with
 |lst hd l=>obtain⟨u,us,h1,⟨_,k,rfl⟩,_⟩:=r;exact⟨_,h1,fun v=>by simp⟩
 |dic hd l=>obtain⟨u,us,h1,⟨_,_,_,es,ep,h2,_⟩,_⟩:=r;exact⟨_,h1,fun v z=>by rw[h2]at z;cases z⟩
 |ins=>cases n
theorem Inv.pin1(I:Inv X p sc b c s)(F:Fp X p c D)(g:s.heap.get? D=some oD)(d:∀v,oD.data≠.cell v):Inv X ([(D,oD)]++p) sc b c s:=I.pins fun q hq=>by
 rcases b9.mp hq with h|h
 ·cases aD.mp h;exact⟨g,F.t,F.l,F.f,d⟩
 ·exact I.pin q (aT _ h)
noncomputable def PoX(X:Cx)(p:Pin)(sc:Sc)(Z:iE)(c:Co)(D:Addr)(r:R Ob)(P:Shared->Prop):Prop:=match r with
 |.ok o b=>∀s' c',Inv X p sc b c' s'->Le c c'->Fp X p c' D->ObA X.W c' s'.heap (D,D) o->P s'
 |.exc x b=>∀a s' c',Inv X p sc b c' s'->Le c c'->Fly X p c' s' a x->Z (.ref a) s'
 |.bad=>False
theorem PoX.le{r:R Ob}{P:Shared->Prop}(l:Le c c')(h:PoX X p sc Z c D r P):PoX X p sc Z c' D r P:=by
 cases r with
 |ok d b=>exact fun s z I k=>h s z I (l.trans k)
 |exc x b=>exact fun a s z I k=>h a s z I (l.trans k)
 |bad=>exact h
structure EX(X:Cx)(tl:Addr->Env->Sem PUnit)(fx:Ob->Sc->Hb->R Ob):Prop where
 h:∀p sc b c s D o P Z,Inv X p sc b c s->Fp X p c D->ObA X.W c s.heap (D,D) o->PoX X p sc Z c D (fx o sc b) P->wpAny X.M X.A (tl D X.env) (fun _ s=>P s) Z s
theorem Ev.runX{f:Sc->Hb->R E.D}{k:E.D->Hb->R Ob}{P:Shared->Prop}{Q:iE}(he:EV X e f)(I:Inv X p sc b c s)(F:Fp X p c D)(g:s.heap.get? D=some oD)(d:∀v,oD.data≠.cell v)(h:PoX X p sc Z c D ((f sc b).bind k) P)
  (cont:∀d b u s c',Inv X p sc b c' s->Le c c'->Fp X p c' D->s.heap.get? D=some oD->Rep X.W c' d u->PoX X p sc Z c' D (k d b) P->Q u s):wpAny X.M X.A (eval e X.env) Q Z s:=by
 refine he.h _ sc b c s Q Z (I.pin1 F g d) ?_;have back:∀{b' c' s'},Inv X ([(D,oD)]++p) sc b' c' s'->Inv X p sc b' c' s':=fun I=>I.pins fun y h=>I.pin y (aT _ (aT _ h))
 have fl:∀{c' a},Fp X ([(D,oD)]++p) c' a->Fp X p c' a:=fun f=>⟨f.t,f.l,f.f,f.x,f.z,fun y h=>f.p y ((b9.mp h).elim (dk _) fun z=>aT _ (aT _ z)),f.y⟩
 cases r:f sc b with
 |ok y b'=>
  rw[r]at h;intro u s' c' I' l' r';obtain⟨g1,g2,_⟩:=I'.pin (D,oD) (by simp);exact cont y b' u s' c' (back I') l' { F with t:=g2 } g1 r' (PoX.le l' h)
 |exc x b'=>rw[r]at h;exact fun a s' c' I' l' f=>h a s' c' (back I') l' (Trc.mono (fun _=>fl) f)
 |bad=>rw[r]at h;exact h
noncomputable def fxL(fe:Sc->Hb->R E.D)(o:Ob)(s:Sc)(b:Hb):R Ob:=match o with
 |.lst h ys=>(fe s b).bind fun y b=>if ys.length<sizeLine then .ok (.lst h (ys++[y])) b else .bad
 |_=>.bad
noncomputable def fxD(fk fv:Sc->Hb->R E.D)(o:Ob)(s:Sc)(b:Hb):R Ob:=match o with
 |.dic h l=>(fk s b).bind fun k b=>(fv s b).bind fun y b=>match dKK k with
  |some k=>if l.length<sizeLine then .ok (.dic h (putD l k y)) b else .bad
  |none=>.bad
 |_=>.bad
theorem VU(he:EV X e fe):EX X (fun D env=>do let _ <- call (.builtin "list.append") [.ref D,<- eval e env]) (fxL fe):=⟨fun p sc b c s D o P Z I F oa q=>by
 cases o with
 |lst hd ys=>
  obtain⟨oD,us,g,⟨z,n,rfl⟩,rs⟩:=oa;refine aa (he.runX I F g (by simp) q fun y b u s c' I l F g r q=>?_)
  split at q
  ·rename_i hz
   refine aa (gY fc ⟨_,g,rfl⟩ gS (gK _ _) (PySem.list_append D us.toArray n u (by rw[au];exact z)) ⟨g,ae ?_⟩);have e:=PySem.IsL.update g fun x=>x.push u
   refine q _ c' (I.turn (t':=s.toks) (ch:=[D]) (fun a h=>by cases aD.mp h;exact F) fun a o h e=>(bg s.heap _ (fun y=>h (by simp[y]))).trans e) .refl F ⟨_,us++[u],e,⟨by rw[az,rs.len];exact hz,n+1,by simp⟩,(rs.mono l.toL0).app (.one r)⟩
  ·exact q.elim
 |dic=>exact q.elim
 |ins=>exact q.elim⟩
theorem Yk(hu:X.A.units+64<cLine)(hk:EV X kx fk)(hv:EV X vx fv):EX X (fun D env=>do
  let kv <- eval kx env;let vv <- holding [kv] (eval vx env)
  standAt { kx.pos with endLine:=vx.pos.endLine,endCol:=vx.pos.endCol }
  holding [kv,vv] (dictSet D kv vv)) (fxD fk fv):=⟨fun p sc b c s D o P Z I F oa q=>by
 cases o with
 |dic hd l=>
  obtain⟨oD,xs,g,dd,rs⟩:=oa;have nc:∀v,oD.data≠.cell v:=let⟨_,_,_,es,ep,h2,_⟩:=dd;fun v z=>by rw[h2]at z;cases z
  refine aa (hk.runX I F g nc q fun k b u s c1 I l1 F g r q=>aa (aK (hv.runX I F g nc q fun y b v s c' I l2 F g r2 q=>aa (cm (aK ?_)))))
  split at q
  ·rename_i kk ek
   split at q
   ·rename_i hz
    have kr:=kj (Rep.mono l2.toL0 r) ek;have rs:=rs.mono (l1.trans l2).toL0;refine ZS (show X.A.units<cLine by omega) (kr.is I.st.frz) (dd.at I.st g rs) (fun h' dd' hs=>?_) dd.1;have r':=rs.put kr r2;obtain⟨o',e1,e2⟩:=Kh dd' (by rw[r'.len];have:=zN l kk y;omega);exact q _ c' (I.turn (ch:=[D]) (fun a h=>by cases aD.mp h;exact F) fun a o h e=>(hs.2 a fun y=>h (by simp[y])).trans e) .refl F ⟨o',_,e1,e2,r'⟩
   ·exact q.elim
  ·exact q.elim
 |lst=>exact q.elim
 |ins=>exact q.elim⟩
noncomputable abbrev ETs(X:Cx)(ifs:iL)(f:Sc->Hb->R Bool):Prop:=Ev X (forIn ifs true fun c r=>if r=true then do let ok <- isTrue c X.env (eval c X.env);pure (ForInStep.yield ok)else pure (ForInStep.yield r)) RB f
theorem Ys:ETs X [] fun _ b=>.ok true b:=⟨fun p sc b c s Q Z I q=>wpAny_tests_nil (q.fin I rfl)⟩
theorem Yr(h:ET X e ft):ETs X [e] ft:=⟨fun p sc b c s Q Z I q=>wpAny_tests_one (h.h p sc b c s Q Z I q)⟩
noncomputable def cmpD(t:Tg)(ft:Sc->Hb->R Bool)(fx:Ob->Sc->Hb->R Ob):List E.D->Sc->Ob->Hb->R Ob
 |[],_,o,b=>.ok o b
 |d::l,s,o,b=>match asg t d s with
  |none=>.bad
  |some s=>(ft s b).bind fun q b=>if q=true then(fx o s b).bind fun o b=>cmpD t ft fx l s o b else cmpD t ft fx l s o b
noncomputable def cmpR(fi:Sc->Hb->R (List E.D×Option Nat))(t:Tg)(ft:Sc->Hb->R Bool)(fx:Ob->Sc->Hb->R Ob)(k:Nat)(ix:List Nat)(o0:Ob)(s:Sc)(b:Hb):R Res:=
 (fi s b).bind fun r b=>(cmpD t ft fx r.1 (blk k ix s) o0 (qY r.2 true b)).bind fun o b=>.ok (.n o) (qY r.2 false b)
theorem Fp.blk{a:Addr}{wr:iG}(I2:Inv X p sc b2 c2 s2)(O:CompOk X scope cl T caps ix)(F:Fp X p c2 a)(hC:a≠C)(x:a∈wr\/s2.heap.get? a=none)(t:c.t a=none){p':Pin}(hp:∀q∈p',q.1≠a):Fp (kL X scope cl N C s2 c2 wr) p' c a:=
 ⟨t,hC,fun z=>(I2.stk a z).elim F.l F.f,x,fun y z e=>F.z y z (O.sub _ _ e),fun q hq=>hp q hq,F.y⟩
theorem yn{d:E.D}{s:Sc}:cmpD t ft fx (d::l) s o b=match asg t d s with
  |none=>.bad
  |some s=>(ft s b).bind fun q b=>if q=true then(fx o s b).bind fun o b=>cmpD t ft fx l s o b else cmpD t ft fx l s o b:=rfl
theorem wL{newAcc:Sem Value}{ob:Obj}{o0:Ob}{ip:Pos}{r0:R Res}{use:Option (Value->Sem Unit)}{QQ:iE}
  (ecl:clausesOf e=[⟨tg,iter,ifs,0⟩])(hU:∀it acc env,X.A.under (.compLoop e 0 it acc env)=X.A)
  (hden:∀it acc env,X.M.den (.compLoop e 0 it acc env)=(compTurn e 0 it acc env).onRaise (fun x=>do noteFrame x env;theTreesLotGoes x))
  (hT:∀it D env,compTurn e 0 it (.ref D) env=(do
   standAt ip
   match <- pyNext it with
   |none=>pure (.done .next)
   |some v=>
    letOwnedTupleGo tg it v
    assign tg env v
    let mut ok:=true
    for c in ifs do
     if ok then ok <- isTrue c env (eval c env)
    if ok then tl D env
    again (.compLoop e 0 it (.ref D) env)))
  (hS:∀{R:Result->Shared->Prop}{s it acc env},codeAny X.M X.A (.compLoop e 0 it acc env) R s->wpAny X.M X.A (pyIter it) (fun it' s'=>codeAny X.M X.A (.compLoop e 0 it' acc env) R s') (notedBy X.M X.A env fun x s'=>R (.error x) s') s->codeAny X.M X.A (.compStart e 0 it acc env) R s)
  (hN:∀{Q:iE}{s},Q (.ref s.heap.objs.size) { s with heap:=s.heap.push ob }->wpAny X.M X.A newAcc Q Z s)(hfr:ob.isFreed=false)(hO:∀(c:Co)(h:Heap)(a:Addr),h.get? a=some ob->ObA X.W c h (a,a) o0)
  (hnw:o0.nw.isSome=true)(hfx:∀o s b o' b',o.nw.isSome=true->fx o s b=.ok o' b'->o'.nw.isSome=true)
  (O:CompOk X scope cl T caps ix)(hx:Exk X)(hi:EI X tg iter fi)(hg:∀X',Blk X scope cl (T++caps) X'->EG X' tg t)(ht:∀X',Blk X scope cl (T++caps) X'->ETs X' ifs ft)(he:∀X',Blk X scope cl (T++caps) X'->EX X' tl fx)(hs:∀x,foldedSetIterable iter X.env x=pure x)
  (I:Inv X p sc b c s)(h:cmpR fi t ft fx T.length ix o0 sc b=r0)(hbad:r0≠.bad)(hexc:∀x b',r0=.exc x b'->∀a s' c',Inv X p sc b' c' s'->Le c c'->Fly X p c' s' a x->Z (.ref a) s')
  (fin:∀(D C:Addr)(s4:Shared)(b4:Hb)(c4:Co)(m:iF)(o:Ob),Inv X p sc b4 c4 s4->s4.heap.Ns C m->Fp X p c4 C->Fp X p c4 D->D≠C->ObA X.W c4 s4.heap (D,D) o->Le c c4->r0=.ok (.n o) b4->compPost X.M X.A Z use QQ (.ref D) C (.ok .next) s4) :
  wpAny X.M X.A (comprehension e scope X.env pos2 newAcc false (eval iter X.env) use) QQ Z s:=by
 refine wpAny_comprehension_free (use:=use) ecl hs O.clos O.kind O.names (hi.h p sc b c s _ Z I ?_);have h:(fi sc b).bind _=r0:=h;cases r:fi sc b with
 |bad=>rw[r]at h;exact absurd h.symm hbad
 |exc x b'=>rw[r]at h;exact hexc x b' h.symm
 |ok lh b'=>
 obtain⟨l,hd⟩:=lh;rw[r]at h;intro it s2 c₁ I2 S;obtain⟨fp,wr,St,T2,st0,f0⟩:=S.tn;have h:(cmpD t ft fx l (blk T.length ix sc) o0 (qY hd true b')).bind (fun o b=>.ok (.n o) (qY hd false b))=r0:=h;refine hN (wpAny_newFunctionEnv O.nocell (fun y hy=>absurd hy (by simp)) (fun h₁ hns hsb=>?_) O.kind);dsimp only at hns hsb ⊢;generalize hG:s2.heap.push ob=G at hns hsb ⊢
 have hCz:s2.heap.objs.size<G.objs.size:=by rw[<- hG,dj];exact bu _
 have old:∀b o,s2.heap.get? b=some o->h₁.get? b=some o:=fun b o e=>hsb.extBut b o (aH (eB (aA e) hCz)) (af _ (hG▸af _ e))
 have FD:Fp X p c₁ s2.heap.objs.size:=I2.fpn (aI _);have FC:Fp X p c₁ G.objs.size:=I2.fpn (cN hCz);have nD:s2.heap.get? s2.heap.objs.size=none:=bw (aI _);have nC:s2.heap.get? G.objs.size=none:=bw (cN hCz);have hCs:s2.heap.objs.size<=G.objs.size:=cN hCz;have wlt:∀a∈wr,a<s2.heap.objs.size:=fun a ha=>by obtain⟨o,e,_⟩:=T2.obj _ _ st0 a ha;exact aA e
 generalize eD:s2.heap.objs.size=D at *
 generalize eC:G.objs.size=C at *
 have hD:h₁.get? D=some ob:=hsb.extBut _ _ (aH hCz) (af _ (hG▸eD▸ao _ hfr));have neC:D≠C:=aH hCz;let X0:Cx:=kL X scope cl (T++caps) C s2 c₁ wr;have bk:Blk X scope cl (T++caps) X0:=⟨C,s2,c₁,wr,rfl⟩;have K1:Inv X0 [] (blk T.length ix sc) (qY hd true b') c₁ { s2 with heap:=h₁,toks:=s2.toks+([]:List (Str×Value)).length }:=Zw O I2 (fun a ha=>⟨f0 a ha,eD▸wlt a ha⟩) old hns (eD▸hCs);let E1:iE:=notedBy X.M X.A (compEnvC scope cl C X.env) fun x s'=>compPost X.M X.A Z use QQ (.ref D) C (.error x) s'
 have fw:∀{c':Co}{p':Pin},(∀a∈wr,c'.t a=none)->(∀a∈wr,∀q∈p',q.1≠a)->∀a∈wr,Fp X0 p' c' a:=fun h hp a ha=>(f0 a ha).blk I2 O (aH (eB (wlt a ha) hCz)) (.inl ha) (h a ha) (hp a ha)
 have fD:∀{c':Co}{p':Pin},c'.t D=none->(∀q∈p',q.1≠D)->Fp X0 p' c' D:=fun h hp=>FD.blk I2 O neC (.inr nD) h hp
 have out:∀{x:Nat}{b':Hb}{c2:Co}{p':Pin}{sc':Sc},Le c₁ c2->(∀a s' c',Inv X p sc b' c' s'->Le c c'->Fly X p c' s' a x->Z (.ref a) s')->∀a s' c',Inv X0 p' sc' b' c' s'->Le c2 c'->Fly X0 p' c' s' a x->E1 (.ref a) s':=
  fun l12 q a s' c' I' l' fl=>W5 hx I2 f0 I' fl fun s3 J3 F3=>q a s3 c' J3 (S.le.trans (l12.trans l')) F3
 let Wn:Nat->Shared->Prop:=fun n s'=>∃(i:Nat)(sc':Sc)(o:Ob)(b':Hb)(c':Co),Inv X0 [] sc' b' c' s'/\Le c₁ c'/\St i s'.heap/\(∀a∈wr,c'.t a=none)/\c'.t D=none/\ObA X.W c' s'.heap (D,D) o/\o.nw.isSome=true/\n+i=l.length/\(cmpD t ft fx (l.drop i) sc' o b').bind (fun o b=>.ok (.n o) (qY hd false b))=r0
 have start:Wn l.length { s2 with heap:=h₁,toks:=s2.toks+([]:List (Str×Value)).length }:=⟨0,_,o0,_,c₁,K1,.refl,T2.frame _ _ _ st0 fun a _ o e=>old a o e,fun a ha=>(f0 a ha).t,FD.t,hO _ _ _ hD,hnw,rfl,h⟩;have loop:codeAny X.M X.A (.compLoop e 0 (.ref it) (.ref D) (compEnvC scope cl C X.env)) (compPost X.M X.A Z use QQ (.ref D) C) { s2 with heap:=h₁,toks:=s2.toks+([]:List (Str×Value)).length }:=by
  refine Kl (E:=E1) (hU _ _ _) (hden _ _ _) (hT _ _ _) Wn (fun _ _ z=>z) ?_ _ start;rintro n s3 ⟨i,sc3,o3,b3,c3,I3,l3,st3,fr3,tD3,oa3,nw3,hn,q3⟩;cases n with
  |zero=>
   have hi:i=l.length:=by omega
   subst hi;rw[List.drop_length]at q3;have q3:.ok (.n o3) (qY hd false b3)=r0:=q3;obtain⟨oD,g1,g2⟩:=oa3.there nw3;have Ip:=I3.pin1 (fD tD3 (fun _ h=>nomatch h)) g1 g2;refine aY (T2.done X0 rfl rfl _ sc3 b3 c3 s3 (fun s'=>Inv X0 ([(D,oD)]++[]) sc3 b3 c3 s') _ Ip (fw fr3 fun a ha q hq z=>by
    cases aD.mp hq;exact cU (wlt a ha) z) st3 fun _ I=>I) (fun r s4⟨e,I4⟩=>?_) fun _ _ z=>z
   subst e;obtain⟨m,hm,_⟩:=I4.loc;have J:=Q_ I2 f0 I4;obtain⟨c5,I5,l5,t5,l05⟩:=J.rel (S.le.trans l3) S.fin;obtain⟨p1,p2,_⟩:=I4.pin (D,oD) (by simp);have k5:∀a o,a=D\/a=D->s3.heap.get? a=some o->s4.heap.get? a=some o:=fun a o h e=>by
    have h:a=D:=by simpa using h
    subst h;rw[g1]at e;cases e;exact p1
   exact fin D C s4 _ c5 m o3 I5 hm { FC with t:=by rw[t5];exact I4.free } { FD with t:=by rw[t5];exact tD3 } neC (oa3.mono l05 k5) l5 q3.symm
  |succ n=>
   have hi:i<l.length:=by omega
   rw[ck hi,yn]at q3;obtain⟨oD,g1,g2⟩:=oa3.there nw3;have Ip:=I3.pin1 (fD tD3 (fun _ h=>nomatch h)) g1 g2;have neW:∀a∈wr,∀q∈[(D,oD)]++([]:Pin),q.1≠a:=fun a ha q hq z=>by cases aD.mp hq;exact cU (wlt a ha) z
   refine aY (T2.item X0 rfl rfl i l[i] _ sc3 b3 c3 s3 (fun u s'=>∃c5,Inv X0 ([(D,oD)]++[]) sc3 b3 c5 s'/\Le c3 c5/\Rep X.W c5 l[i] u/\St (i+1) s'.heap/\∀a∈wr,c5.t a=none) _ (ak hi) Ip l3 (fw fr3 neW) st3 fun u s' c' I l r st fr=>⟨c',I,l,r,st,fr⟩) (fun r s4⟨u,e,k⟩=>?_) fun _ _ z=>z
   subst e;refine aY k (fun _ s5⟨c5,I5,l5,r5,st5,fr5⟩=>?_) fun _ _ z=>z
   cases ea:asg t l[i] sc3 with
   |none=>rw[ea]at q3;exact absurd q3.symm hbad
   |some sc5=>
   rw[ea]at q3;have q3:((ft sc5 b3).bind fun q b=>if q=true then(fx o3 sc5 b).bind fun o b=>cmpD t ft fx (l.drop (i+1)) sc5 o b else cmpD t ft fx (l.drop (i+1)) sc5 o3 b).bind (fun o b=>.ok (.n o) (qY hd false b))=r0:=q3;have F5:=fw fr5 neW;have Iq:Inv X0 ([(D,oD)]++kq wr s5.heap) sc3 b3 c5 s5:=I5.pins fun y hy=>(b9.mp hy).elim (fun z=>I5.pin y (aT _ (by simpa using z))) fun z=>by
    obtain⟨h1,h2⟩:=vV z;have f:=F5 _ h1;obtain⟨o,g1,g2⟩:=T2.obj _ _ st5 _ h1;rw[h2]at g1;cases g1;exact⟨h2,f.t,f.l,f.f,g2⟩
   have again:∀{o8 b8 c8 s8},Inv X0 (kq wr s5.heap) sc5 b8 c8 s8->Le c5 c8->c8.t D=none->ObA X.W c8 s8.heap (D,D) o8->o8.nw.isSome=true->(cmpD t ft fx (l.drop (i+1)) sc5 o8 b8).bind (fun o b=>.ok (.n o) (qY hd false b))=r0->∃m,m<n+1/\Wn m s8:=fun{o8 b8 c8 s8} I8 l8 t8 oa8 nw8 q8=>by
    have pn:∀a∈wr,∀o,s5.heap.get? a=some o->s8.heap.get? a=some o/\c8.t a=none:=fun a ha o e=>let z:=I8.pin (a,o) (aT _ (xN ha e));⟨z.1,z.2.1⟩
    refine⟨n,bu _,i+1,sc5,o8,b8,c8,I8.pins (fun _ h=>nomatch h),l3.trans (l5.trans l8),T2.frame _ _ _ st5 fun a ha o e=>?_,fun a ha=>?_,t8,oa8,nw8,by omega,q8⟩
    ·rcases T2.fix a ha with z|⟨o',z⟩
     ·exact(pn a z o e).1
     ·have e2:=(z.mono (l3.trans l5)).get I5.st
      rw[e]at e2;cases e2;exact(z.mono (l3.trans (l5.trans l8))).get I8.st
    ·obtain⟨o,g1,_⟩:=T2.obj _ _ st5 a ha
     exact(pn a ha o g1).2
   have keepD:∀{sc' b' c' s'},Inv X0 ([(D,oD)]++kq wr s5.heap) sc' b' c' s'->Le c3 c'->ObA X.W c' s'.heap (D,D) o3/\c'.t D=none/\Inv X0 (kq wr s5.heap) sc' b' c' s':=fun I' l'=>by
    obtain⟨p1,p2,_⟩:=I'.pin (D,oD) (by simp);exact⟨oa3.mono l'.toL0 fun a o h e=>by
     have h:a=D:=by simpa using h
     subst h;rw[g1]at e;cases e;exact p1,p2,I'.pins fun y h=>I'.pin y (aT _ (aT _ h))⟩
   refine aY ((hg X0 bk).h _ _ _ _ _ _ _ _ (fun _ s'=>Inv X0 ([(D,oD)]++kq wr s5.heap) sc5 b3 c5 s') _ Iq r5 ea fun s6 I6=>I6) (fun _ s6 I6=>?_) fun _ _ z=>z
   refine(ht X0 bk).h _ _ _ _ _ _ _ I6 ?_;cases z:ft sc5 b3 with
   |bad=>rw[z]at q3;exact absurd q3.symm hbad
   |exc x b'=>rw[z]at q3;exact out (l3.trans l5) (hexc x b' q3.symm)
   |ok ok b7=>
    rw[z]at q3;intro ok' s7 c7 I7 l7 e;cases (show ok'=ok from e);obtain⟨oa7,t7,I7'⟩:=keepD I7 (l5.trans l7);cases ok with
    |false=>
     rw[ax (by decide)];exact again I7' l7 t7 oa7 nw3 q3
    |true=>
     rw[aE rfl];have q3:((fx o3 sc5 b7).bind fun o b=>cmpD t ft fx (l.drop (i+1)) sc5 o b).bind (fun o b=>.ok (.n o) (qY hd false b))=r0:=q3;refine(he X0 bk).h _ _ _ _ _ D o3 _ _ I7' (fD t7 fun q hq=>aH (wlt _ (vV hq).1)) oa7 ?_;cases z8:fx o3 sc5 b7 with
     |bad=>rw[z8]at q3;exact absurd q3.symm hbad
     |exc x b'=>rw[z8]at q3;exact out (l3.trans (l5.trans l7)) (hexc x b' q3.symm)
     |ok o8 b8=>rw[z8]at q3;exact fun s8 c8 I8 l8 f8 oa8=>again I8 (l7.trans l8) f8.t oa8 (hfx _ _ _ _ _ nw3 z8) q3
 exact hS loop (T2.self _ _ _ _ (T2.frame _ _ _ st0 fun a _ o e=>old a o e) loop)
theorem Xe(o:Ob)(s:Sc)(b:Hb)(o':Ob)(b':Hb)(h:o.nw.isSome=true)(e:fxL fe o s b=.ok o' b'):o'.nw.isSome=true:=by
 cases o with
 |lst hd ys=>
  cases hd
  ·have e:(fe s b).bind _=.ok o' b':=e
   cases z:fe s b with
   |ok y b1=>rw[z]at e;have e:(if ys.length<sizeLine then _ else _)=_:=e;split at e <;> cases e;rfl
   |exc=>rw[z]at e;cases e
   |bad=>rw[z]at e;cases e
  ·cases h
 |_=>cases e
theorem uH(o:Ob)(s:Sc)(b:Hb)(o':Ob)(b':Hb)(h:o.nw.isSome=true)(e:fxD fk fv o s b=.ok o' b'):o'.nw.isSome=true:=by
 cases o with
 |dic hd l=>
  cases hd
  ·have e:(fk s b).bind _=.ok o' b':=e
   cases z:fk s b with
   |ok k b1=>
    rw[z]at e;have e:(fv s b1).bind _=.ok o' b':=e;cases z2:fv s b1 with
    |ok y b2=>
     rw[z2]at e;cases k2:dKK k with
     |none=>simp only[R.bind,k2]at e;cases e
     |some kk=>simp only[R.bind,k2]at e;split at e <;> cases e;rfl
    |exc=>rw[z2]at e;cases e
    |bad=>rw[z2]at e;cases e
   |exc=>rw[z]at e;cases e
   |bad=>rw[z]at e;cases e
  ·cases h
 |_=>cases e
theorem lst0(W:Wd)(c:Co)(h:Heap)(a:Addr)(e:h.get? a=some { cls:=.type "list",dict:=none,data:=.seq ([]:iH).toArray }):ObA W c h (a,a) (.lst false []):=⟨_,[],e,⟨bz _,0,rfl⟩,rfl⟩
theorem Post.bad{rel:Rl α β}{r:R β}{Q:α->Shared->Prop}(h:Post X p sc Z c rel r Q):r≠.bad:=fun e=>by subst e;exact h
theorem Post.exc{rel:Rl α β}{r:R β}{Q:α->Shared->Prop}(h:Post X p sc Z c rel r Q)(x:Nat)(b':Hb)(e:r=.exc x b'):∀a s' c',Inv X p sc b' c' s'->Le c c'->Fly X p c' s' a x->Z (.ref a) s':=by subst e;exact h
theorem QY{Q:iE}{r0:R Res}(q:Post X p sc Z c RR r0 Q)(D C:Addr)(s4:Shared)(b4:Hb)(c4:Co)(m:iF)(o:Ob)(I:Inv X p sc b4 c4 s4)(hm:s4.heap.Ns C m)(FC:Fp X p c4 C)(FD:Fp X p c4 D)(ne:D≠C)(oa:ObA X.W c4 s4.heap (D,D) o)(l:Le c c4)(e:r0=.ok (.n o) b4):compPost X.M X.A Z none Q (.ref D) C (.ok .next) s4:=by
 subst e;exact⟨m,hm,fun h' hs'=>q _ _ c4 (I.turn (t':=s4.toks) (ch:=[C]) (fun a h=>by cases aD.mp h;exact FC) fun a o h e=>hs'.extBut a o (fun y=>h (by simp[y])) e) l ⟨D,rfl,FD,oa.mono .refl fun a o h e=>hs'.extBut a o (fun y=>ne ((show a=D by simpa using h).symm.trans y)) e⟩⟩
theorem e_lc(O:CompOk X scope cl T caps ix)(hx:Exk X)(hi:EI X tg iter fi)(hg:∀X',Blk X scope cl (T++caps) X'->EG X' tg t)(ht:∀X',Blk X scope cl (T++caps) X'->ETs X' ifs ft)(he:∀X',Blk X scope cl (T++caps) X'->EV X' e fe)(hs:∀x,foldedSetIterable iter X.env x=pure x) :
  ER X (.ListComp e [⟨tg,iter,ifs,0⟩] scope pos) (cmpR fi t ft (fxL fe) T.length ix (.lst false [])):=⟨fun p sc b c s Q Z I q=>by
 rw[eval_ListComp];exact wL (use:=none) (ob:={ cls:=.type "list",dict:=none,data:=.seq ([]:iH).toArray }) (ip:=iter.pos) rfl (fun _ _ _=>rfl) (fun _ _ _=>rfl) (fun it D env=>compTurn_list _ _ _ _ _ _ _ _ _) codeAny_compStart_list aN rfl (lst0 _) rfl Xe O hx hi hg ht (fun X' k=>VU (he X' k)) hs I rfl q.bad q.exc (QY q)⟩
theorem e_dc(hu:∀X',Blk X scope cl (T++caps) X'->X'.A.units+64<cLine)(O:CompOk X scope cl T caps ix)(hx:Exk X)(hi:EI X tg iter fi)(hg:∀X',Blk X scope cl (T++caps) X'->EG X' tg t)(ht:∀X',Blk X scope cl (T++caps) X'->ETs X' ifs ft)(hk:∀X',Blk X scope cl (T++caps) X'->EV X' kx fk)(hv:∀X',Blk X scope cl (T++caps) X'->EV X' vx fv)(hs:∀x,foldedSetIterable iter X.env x=pure x) :
  ER X (.DictComp kx vx [⟨tg,iter,ifs,0⟩] scope pos) (cmpR fi t ft (fxD fk fv) T.length ix (.dic false [])):=⟨fun p sc b c s Q Z I q=>by
 show wpAny _ _ (comprehension (.DictComp kx vx [⟨tg,iter,ifs,0⟩] scope pos) scope X.env _ newDict false (eval iter X.env) none) _ _ s;exact wL (use:=none) (ob:={ cls:=.type "dict",dict:=none,data:=.dict #[] }) (o0:=.dic false []) (ip:=iter.pos) rfl (fun _ _ _=>rfl) (fun _ _ _=>rfl) (fun it D env=>compTurn_dict _ _ _ _ _ _ _ _ _ _) codeAny_compStart_dict aN rfl (fun c h a e=>⟨_,[],e,dic0 _,rfl⟩) rfl uH O hx hi hg ht (fun X' k=>Yk (hu X' k) (hk X' k) (hv X' k)) hs I rfl q.bad q.exc (QY q)⟩
theorem YA{m:Bool}{y:Str}{n:Nat}(hy:Nm X y n)(O:CompOk X scope cl T caps ix)(hx:Exk X)(hi:EI X tg iter fi)(hg:∀X',Blk X scope cl (T++caps) X'->EG X' tg t)(ht:∀X',Blk X scope cl (T++caps) X'->ETs X' ifs ft)(he:∀X',Blk X scope cl (T++caps) X'->EV X' e fe)(hs:∀x,foldedSetIterable iter X.env x=pure x)
  (hsw:swapsWith (.ListComp e [⟨tg,iter,ifs,0⟩] scope pos) (some (.Name y py)) spos.line X.env=pure true) :
  ES X (.Assign [.Name y py] (.ListComp e [⟨tg,iter,ifs,0⟩] scope pos) spos) fun s b=>eO (kp m (cmpR fi t ft (fxL fe) T.length ix (.lst false []) s b)) s fun d b=>.nx (s.set n (some d)) b:=⟨fun p sc b c s Q Z I h=>by
 rw[exec_Assign_Name_used _ _ _ _ hsw];refine aa (cm (aa ?_));show wpAny _ X.A (do let _ <- comprehension (.ListComp e [⟨tg,iter,ifs,0⟩] scope pos) scope X.env _ (newList []) false (eval iter X.env) (some (assign (.Name y py) X.env))) _ _ s;have h:PoS X p Z c (eO (kp m (cmpR fi t ft (fxL fe) T.length ix (.lst false []) sc b)) sc fun d b=>.nx (sc.set n (some d)) b) Q:=h;generalize hr:cmpR fi t ft (fxL fe) T.length ix (.lst false []) sc b=r0 at h
 refine aa (aY (wL (QQ:=fun _ s'=>Q .next s') (r0:=r0) (use:=some (assign (.Name y py) X.env)) (ob:={ cls:=.type "list",dict:=none,data:=.seq ([]:iH).toArray }) (ip:=iter.pos) rfl (fun _ _ _=>rfl) (fun _ _ _=>rfl) (fun it D env=>compTurn_list _ _ _ _ _ _ _ _ _) codeAny_compStart_list aN rfl (lst0 _) rfl Xe O hx hi hg ht (fun X' k=>VU (he X' k)) hs I hr (fun e=>?_) (fun x b' e=>?_) ?_) (fun _ s' hq=>ae (ae hq)) fun _ _ e=>e)
 ·subst e;exact h
 ·subst e;exact h
 ·intro D C s4 b4 c4 mm o I4 hm FC FD ne oa l e
  subst e;obtain⟨oC,g1,g2⟩:∃oC,s4.heap.get? C=some oC/\∀v,oC.data≠.cell v:=let⟨o,es,ep,h1,h2,_⟩:=hm;⟨o,h1,fun v z=>by rw[h2]at z;cases z⟩;have go:∀d b5 c5,Inv X p sc b5 c5 s4->Le c4 c5->Rep X.W c5 d (.ref D)->c5.t C=none->PoS X p Z c (.nx (sc.set n (some d)) b5) Q->compPost X.M X.A Z (some (assign (.Name y py) X.env)) (fun _ s'=>Q .next s') (.ref D) C (.ok .next) s4:=fun d b5 c5 I5 l5 r5 t5 q=>by
   have FC5:Fp X p c5 C:={ FC with t:=t5 };refine wpAny_assign_Name (store (I5.pin1 FC5 g1 g2) hy.nd hy.at_ hy.own r5 fun s6 I6=>?_);obtain⟨g3,g4,_⟩:=I6.pin (C,oC) (by simp);have hm6:s6.heap.Ns C mm:=let⟨o,es,ep,h1,r⟩:=hm;⟨o,es,ep,by rw[g1]at h1;cases h1;exact g3,r⟩;have J:Inv X p (sc.set n (some d)) b5 c5 s6:=I6.pins fun y h=>I6.pin y (aT _ (aT _ h))
   exact⟨mm,hm6,fun h' hs'=>q .next _ c5 (l.trans l5) (J.turn (t':=s6.toks) (ch:=[C]) (fun a h=>by cases aD.mp h;exact FC5) fun a o h e=>hs'.extBut a o (fun y=>h (by simp[y])) e)⟩
  cases m with
  |false=>
   have h:PoS X p Z c (eO (opt o.nw b4) sc fun d b=>.nx (sc.set n (some d)) b) Q:=h;cases eo:o.nw with
   |none=>rw[eo]at h;exact h.elim
   |some d=>
    rw[eo]at h;cases o with
    |lst hd l=>
     cases hd <;> cases eo
     obtain⟨oo,us,h1,h2,h3⟩:=oa;obtain⟨I5,l5⟩:=I4.fz FD h1;exact go (.lst l) _ _ I5 l5 ⟨D,oo,us,rfl,qJ,h2,h3.mono l5.toL0⟩ (by show upT c4.t D _ C=none;rw[zC (bN ne)];exact FC.t) h
    |dic hd l=>
     cases hd <;> cases eo
     obtain⟨oo,us,h1,h2,h3⟩:=oa;obtain⟨I5,l5⟩:=I4.fz FD h1;exact go (.dic l) _ _ I5 l5 ⟨D,oo,us,rfl,qJ,h2,h3.mono l5.toL0⟩ (by show upT c4.t D _ C=none;rw[zC (bN ne)];exact FC.t) h
    |ins=>cases eo
  |true=>
   have h:PoS X p Z c (eO (if o.nw.isSome=true then .ok (.obj b4.length) (b4++[o])else .bad) sc fun d b=>.nx (sc.set n (some d)) b) Q:=h
   split at h
   ·rename_i eo
    obtain⟨oD,h1,_⟩:=oa.there eo;obtain⟨I5,l5⟩:=I4.nw (q:=(D,D)) FD FD oa ⟨_,h1⟩;refine go (.obj b4.length) _ _ I5 l5 ⟨(D,D),?_,rfl⟩ (by show upT (upT c4.t D _) D _ C=none;rw[zC (bN ne),zC (bN ne)];exact FC.t) h;show(c4.ad++[(D,D)])[b4.length]?=_;rw[<- I4.st.len];simp
   ·exact h.elim⟩
end
end E
namespace E
open PySem PySem.Spec PyProof PyProof.Rows L2 PySem.W
noncomputable def good{α:Type}(n:Nat)(r:Nat->Nat):KasT α->(α->Prop)->Prop
 |.ret a,Q=>Q a
 |.ask i j k,Q=>i<n/\j<n/\good n r (k (decide (r i<r j))) Q
section
variable{n:Nat}{r:Nat->Nat}{α β:Type}
theorem z4{f:α->KasT β}{Q:β->Prop}:∀{t:KasT α},good n r t (fun a=>good n r (f a) Q)->good n r (t.bind f) Q
 |.ret _,h=>h
 |.ask _ _ k,⟨h1,h2,h3⟩=>⟨h1,h2,z4 (t:=k _) h3⟩
theorem JH{cmp:Nat->Nat->(Bool->Shared->Prop)->Shared->Prop}{s:Shared}(hc:∀i j C,i<n->j<n->C (decide (r i<r j)) s->cmp i j C s){Q:α->Prop}{G:α->Shared->Prop}(k:∀a,Q a->G a s):∀{t:KasT α},good n r t Q->t.kasWp cmp G s
 |.ret _,h=>k _ h
 |.ask i j t,⟨h1,h2,h3⟩=>hc i j _ h1 h2 (JH hc k h3)
noncomputable def Ok(n:Nat)(p:Array Nat):Prop:=p.Perm (List.range n).toArray
noncomputable def Rk(r:Nat->Nat)(p:Array Nat)(k:Nat):Nat:=r (p.getD k 0)
theorem Ok.size{p:Array Nat}(h:Ok n p):p.size=n:=by have:=Array.Perm.size_eq h;simpa using this
theorem Ok.lt{p:Array Nat}(h:Ok n p){k:Nat}(hk:k<n):p.getD k 0<n:=by
 have hs:k<p.size:=by rw[h.size];exact hk
 have e:p.getD k 0=p[k]:=by simp[hs]
 rw[e];have:=(Array.Perm.mem_iff h).mp (Array.getElem_mem hs);simpa using this
theorem Rk.congr{p q:Array Nat}{i j:Nat}(h:p[i]?=q[j]?):Rk r p i=Rk r q j:=by
 unfold Rk;rw[gH,gH,h]
theorem Rk.rev{p:Array Nat}{i j:Nat}(hj:j<=p.size)(k:Nat):Rk r (kas_rev p i j) k=if i<=k/\k<j then Rk r p (i+j - 1 - k)else Rk r p k:=by
 have e:=getElem?_mirror_all (xs:=p) (i:=i) hj k;unfold kas_rev
 by_cases h1:i<=k/\k<j
 ·rw[aE h1]at e ⊢;exact Rk.congr e
 ·rw[ax h1]at e ⊢;exact Rk.congr e
theorem Ok.rev{p:Array Nat}(h:Ok n p)(i j:Nat):Ok n (kas_rev p i j):=(mirror_perm p i j _).trans h
noncomputable def Up(r:Nat->Nat)(p:Array Nat)(m:Nat):Prop:=∀i,i+1<m->Rk r p i<=Rk r p (i+1)
noncomputable def Dn(r:Nat->Nat)(p:Array Nat)(m:Nat):Prop:=∀i,i+1<m->Rk r p (i+1)<=Rk r p i
theorem Up.le{p:Array Nat}{m:Nat}(h:Up r p m){i:Nat}:∀{j:Nat},i<=j->j<m->Rk r p i<=Rk r p j
 |0,h1,_=>by cases Nat.le_zero.mp h1;exact aI _
 |j+1,h1,h2=>by
  rcases Nat.lt_or_eq_of_le h1 with h3|h3
  ·exact ba (Up.le h (by omega) (by omega)) (h j h2)
  ·rw[h3];exact aI _
theorem wB{p:Array Nat}(o:Ok n p){Q:Nat->Prop}:∀(f m:Nat),1<=m->m+f<=n->Up r p m->(∀m',m<=m'->m'<=m+f->Up r p m'->(m'=m+f\/Rk r p m'<Rk r p (m' - 1))->Q m')->good n r (kas_asc p f m) Q
 |0,m,_,_,u,k=>k m (aI _) (aI _) u (.inl rfl)
 |f+1,m,h1,h2,u,k=>by
  refine⟨o.lt (by omega),o.lt (by omega),?_⟩
  by_cases c:r (p.getD m 0)<r (p.getD (m - 1) 0)
  ·rw[br c];dsimp only;rw[aE rfl]
   exact k m (aI _) (by omega) u (.inr c)
  ·rw[aZ c];dsimp only;rw[ax aG]
   refine wB o f (m+1) (by omega) (by omega) (fun i hi=>?_) fun m' a1 a2 a3 a4=>k m' (by omega) (by omega) a3 (a4.imp (fun z=>by omega) id)
   by_cases hm:i+1<m
   ·exact u i hm
   ·have:i=m - 1:=by omega
    subst this;rw[show m - 1+1=m by omega];exact dW c
theorem kE{Q:Array Nat×Nat×Nat->Prop}:∀(f:Nat)(p:Array Nat)(m q:Nat),Ok n p->m+f<=n->q+1<=m->Dn r p m->(∀i,m - 1 - q<=i->i<m->Rk r p i=Rk r p (m - 1))->
  (∀p' m' q',Ok n p'->m'<=m+f->Dn r p' m'->q'+1<=m'->(∀i,m' - 1 - q'<=i->i<m'->Rk r p' i=Rk r p' (m' - 1))->Q (p',m',q'))->good n r (kas_desc f p m q) Q
 |0,p,m,q,o,h2,h3,d,e,k=>k p m q o (by omega) d h3 e
 |f+1,p,m,q,o,h2,h3,d,e,k=>by
  refine⟨o.lt (by omega),o.lt (by omega),?_⟩;have nxt:∀{p':Array Nat},(∀i,Rk r p' i=Rk r p i)->Rk r p m<=Rk r p (m - 1)->Dn r p' (m+1):=fun{p'} same c i hi=>by
   rw[same,same]
   by_cases hm:i+1<m
   ·exact d i hm
   ·have:i=m - 1:=by omega
    subst this;rw[show m - 1+1=m by omega];exact c
  by_cases c:r (p.getD m 0)<r (p.getD (m - 1) 0)
  ·rw[br c];dsimp only;rw[aE rfl]
   have z:∀{p':Array Nat}(i:Nat),m+1 - 1 - 0<=i->i<m+1->Rk r p' i=Rk r p' (m+1 - 1):=fun{p'} i h1 h2=>by
    have:i=m+1 - 1:=by omega
    rw[this]
   split
   ·have same:∀i,Rk r (kas_rev p (m - (q+1)) m) i=Rk r p i:=fun i=>by
     rw[Rk.rev (by rw[o.size];omega)]
     split
     ·rename_i hi
      rw[e _ (by omega) (by omega),e i (by omega) (by omega)]
     ·rfl
    exact kE f _ (m+1) 0 (o.rev _ _) (by omega) (by omega) (nxt same (cN c)) z fun p' m' q' a1 a2 a3 a4 a5=>k p' m' q' a1 (by omega) a3 a4 a5
   ·exact kE f _ (m+1) 0 o (by omega) (by omega) (nxt (fun _=>rfl) (cN c)) z fun p' m' q' a1 a2 a3 a4 a5=>k p' m' q' a1 (by omega) a3 a4 a5
  ·rw[aZ c];dsimp only;rw[ax aG]
   refine⟨o.lt (by omega),o.lt (by omega),?_⟩
   by_cases c2:r (p.getD (m - 1) 0)<r (p.getD m 0)
   ·rw[br c2];dsimp only;rw[aE rfl]
    exact k p m q o (by omega) d h3 e
   ·rw[aZ c2];dsimp only;rw[ax aG]
    have eq:Rk r p m=Rk r p (m - 1):=Nat.le_antisymm (dW c2) (dW c);refine kE f p (m+1) (q+1) o (by omega) (by omega) (nxt (fun _=>rfl) (Nat.le_of_eq eq)) (fun i h1 h2=>?_) fun p' m' q' a1 a2 a3 a4 a5=>k p' m' q' a1 (by omega) a3 a4 a5
    rw[show m+1 - 1=m by omega,eq]
    by_cases hm:i<m
    ·exact e i (by omega) hm
    ·rw[show i=m by omega,eq]
theorem yh{p:Array Nat}{m:Nat}{Q:Nat×Array Nat->Prop}(o:Ok n p)(h1:1<=m)(h2:m<=n)(d:Dn r p m)(k:∀p' m',Ok n p'->1<=m'->m'<=n->Up r p' m'->Q (m',p')):good n r (kas_tail3 m n p) Q:=by
 refine z4 (wB (o.rev 0 m) _ m h1 (by omega) (fun i hi=>?_) fun m' a1 a2 a3 _=>k _ m' (o.rev 0 m) (by omega) (by omega) a3);rw[Rk.rev (by rw[o.size];omega),Rk.rev (by rw[o.size];omega),aE (by omega),aE (by omega)];have:=d (0+m - 1 - (i+1)) (by omega);rw[show 0+m - 1 - (i+1)+1=0+m - 1 - i by omega]at this;exact this
theorem JJ{p:Array Nat}{m:Nat}{Q:Nat×Array Nat->Prop}(o:Ok n p)(h1:1<=m)(h2:m+1<=n)(d:Dn r p (m+1))(k:∀p' m',Ok n p'->1<=m'->m'<=n->Up r p' m'->Q (m',p')):good n r (kas_descPart m n p) Q:=by
 refine z4 (kE _ p (m+1) 0 o (by omega) (by omega) d (fun i h1 h2=>by rw[show i=m+1 - 1 by omega]) fun p' m' q' a1 a2 a3 a4 a5=>?_);have hm:m'<=n:=by omega
 dsimp only
 split
 ·refine yh (a1.rev _ _) (by omega) hm (fun i hi=>?_) k
  have same:∀i,Rk r (kas_rev p' (m' - (q'+1)) m') i=Rk r p' i:=fun i=>by
   rw[Rk.rev (by rw[a1.size];omega)]
   split
   ·rename_i hi
    rw[a5 _ (by omega) (by omega),a5 i (by omega) (by omega)]
   ·rfl
  rw[same,same];exact a3 i hi
 ·exact yh a1 (by omega) hm a3 k
theorem Zs{p:Array Nat}{Q:Nat×Array Nat->Prop}(o:Ok n p)(h1:1<=n)(k:∀p' m',Ok n p'->1<=m'->m'<=n->Up r p' m'->Q (m',p')):good n r (kas_count n p) Q:=by
 refine z4 (wB o _ 1 (aI _) (by omega) (fun i hi=>by omega) fun m a1 a2 a3 a4=>?_)
 by_cases hm:m=n
 ·rw[aE (by simpa using hm)]
  exact k p m o a1 (by omega) a3
 ·rw[ax (by simpa using hm)]
  have lt:Rk r p m<Rk r p (m - 1):=by rcases a4 with z|z <;> first|omega|exact z
  split
  ·refine⟨o.lt (by omega),o.lt (by omega),?_⟩
   by_cases c:r (p.getD 0 0)<r (p.getD (m - 1) 0)
   ·rw[br c];dsimp only;rw[aE rfl]
    exact k p m o a1 (by omega) a3
   ·rw[aZ c];dsimp only;rw[ax aG]
    have eq:∀i,i<m->Rk r p i=Rk r p (m - 1):=fun i hi=>by
     have x1:=a3.le (bz i) hi;have x2:=a3.le (show i<=m - 1 by omega) (by omega);have x3:Rk r p (m - 1)<=Rk r p 0:=dW c;omega
    have same:∀i,Rk r (kas_rev p 0 m) i=Rk r p i:=fun i=>by
     rw[Rk.rev (by rw[o.size];omega)]
     split
     ·rename_i hi
      rw[eq _ (by omega),eq i (by omega)]
     ·rfl
    refine JJ (o.rev _ _) a1 (by omega) (fun i hi=>?_) k;rw[same,same]
    by_cases h:i+1<m
    ·rw[eq _ h,eq i (by omega)];exact aI _
    ·rw[show i+1=m by omega,show i=m - 1 by omega];exact cN lt
  ·have:m=1:=by omega
   subst this;exact JJ o a1 (by omega) (fun i hi=>by rw[show i=0 by omega];exact cN lt) k
theorem kY{p:Array Nat}{k:Nat}(o:Ok n p)(hk:k<n)(u:Up r p k){Q:Nat->Prop}(q:∀l,l<=k->(∀i,i<l->Rk r p i<=Rk r p k)->(∀i,l<=i->i<k->Rk r p k<Rk r p i)->Q l) :
  ∀(f l x:Nat),l<=x->x<=k->x - l<=f->(∀i,i<l->Rk r p i<=Rk r p k)->(∀i,x<=i->i<k->Rk r p k<Rk r p i)->good n r (kas_place p k f l x) Q
 |0,l,x,h1,h2,h3,a,b=>q l (by omega) a fun i hi=>b i (by omega)
 |f+1,l,x,h1,h2,h3,a,b=>by
  unfold kas_place
  split
  ·exact q l (by omega) a fun i hi=>b i (by omega)
  ·refine⟨o.lt hk,o.lt (by omega),?_⟩
   by_cases c:r (p.getD k 0)<r (p.getD ((l+x) / 2) 0)
   ·rw[br c];dsimp only;rw[aE rfl]
    exact kY o hk u q f l _ (by omega) (by omega) (by omega) a fun i h4 h5=>bS c (u.le h4 h5)
   ·rw[aZ c];dsimp only;rw[ax aG]
    refine kY o hk u q f _ x (by omega) h2 (by omega) (fun i hi=>?_) b;exact ba (u.le (show i<=(l+x) / 2 by omega) (by omega)) (dW c)
theorem Rk.bub{p:Array Nat}{src d:Nat}(hs:src<p.size)(hd:d<=src)(k:Nat):Rk r (bubble p src d) k=if k=src - d then Rk r p src else if src - d<k/\k<=src then Rk r p (k - 1)else Rk r p k:=by
 have e:=getElem?_bubble hs d hd k
 by_cases h1:k=src - d
 ·rw[aE h1]at e ⊢;exact Rk.congr e
 ·rw[ax h1]at e ⊢
  by_cases h2:src - d<k/\k<=src
  ·rw[aE h2]at e ⊢;exact Rk.congr e
  ·rw[ax h2]at e ⊢;exact Rk.congr e
theorem QV{Q:Array Nat->Prop}(q:∀p,Ok n p->Up r p n->Q p):∀(f:Nat)(p:Array Nat)(k:Nat),Ok n p->k+f=n->Up r p k->good n r (kas_bin f p k) Q
 |0,p,k,o,h,u=>q p o (by rw[<- h];exact u)
 |f+1,p,k,o,h,u=>by
  refine z4 (kY o (by omega) u (fun l h1 h2 h3=>?_) k 0 k (bz _) (aI _) (by omega) (fun i hi=>by omega) fun i h1 h2=>by omega);refine QV q f _ (k+1) ((bubble_perm p k (k - l)).trans o) (by omega) fun i hi=>?_
  have hs:k<p.size:=by rw[o.size];omega
  rw[Rk.bub hs (by omega),Rk.bub hs (by omega),show k - (k - l)=l by omega]
  by_cases e1:i=l
  ·rw[aE e1,ax (by omega),aE (by omega),show i+1 - 1=i by omega,e1]
   exact cN (h3 l (aI _) (by omega))
  ·rw[ax e1]
   by_cases e2:i+1=l
   ·rw[aE e2,ax (by omega)]
    exact h2 i (by omega)
   ·rw[ax e2]
    by_cases e3:l<i
    ·rw[aE (by omega),aE (by omega),show i+1 - 1=i - 1+1 by omega]
     exact u (i - 1) (by omega)
    ·rw[ax (by omega),ax (by omega)]
     exact u i (by omega)
theorem xc(h1:1<=n):good n r (kas_sort n) fun p=>Ok n p/\Up r p n:=by
 refine z4 (Zs (Array.Perm.refl _) h1 fun p m o a1 a2 a3=>?_);dsimp only
 split
 ·rw[show max m 1=m by omega]
  exact QV (fun p o u=>⟨o,u⟩) _ p m o (by omega) a3
 ·exact⟨o,by rw[show n=m by omega];exact a3⟩
end
noncomputable def enc:Key->iM
 |.inl i=>[i]
 |.inr x=>x.cps.toList.map (fun(c:Nat)=>(c:Int)+1)++[0]
noncomputable def encL(ks:List Key):iM:=ks.flatMap enc
noncomputable def encK:KK->iM
 |.inl k=>enc k
 |.inr ks=>encL ks
noncomputable def sh:Key->Bool
 |.inl _=>false
 |.inr _=>true
noncomputable def shK:KK->Bool ⊕ List Bool
 |.inl k=>.inl (sh k)
 |.inr ks=>.inr (ks.map sh)
noncomputable def lt1:Key->Key->Bool
 |.inl i,.inl j=>decide (i<j)
 |.inr x,.inr y=>decide (x.cps.toList<y.cps.toList)
 |_,_=>false
theorem X8{a x y:iM}:(a++x<a++y)↔x<y:=by
 induction a with
 |nil=>rfl
 |cons c a ih=>
  rw[bI,bI,cO];constructor
  ·rintro(h|⟨_,h⟩)
   ·exact absurd h (Int.lt_irrefl _)
   ·exact ih.mp h
  ·exact fun h=>.inr ⟨rfl,ih.mpr h⟩
theorem Jj{x y:iM}:∀{a b:List Nat},a≠b->(((a.map fun(c:Nat)=>(c:Int)+1)++[0]++x<(b.map fun(c:Nat)=>(c:Int)+1)++[0]++y)↔a<b)
 |[],[],h=>absurd rfl h
 |[],c::b,_=>by
  simp only[i4,cX,av,bI,cO];exact⟨fun _=>List.nil_lt_cons _ _,fun _=>.inl (by omega)⟩
 |c::a,[],_=>by
  simp only[i4,cX,av,bI,cO];exact⟨fun h=>by rcases h with h|⟨h,_⟩ <;> omega,fun h=>absurd h (List.not_lt_nil _)⟩
 |c::a,d::b,h=>by
  rw[av,av,bI,bI,bI,bI,cO,cO]
  by_cases e:c=d
  ·subst e
   have ih:=Jj (x:=x) (y:=y) (a:=a) (b:=b) fun z=>h (by rw[z])
   constructor
   ·rintro(q|⟨_,q⟩)
    ·exact absurd q (Int.lt_irrefl _)
    ·exact .inr ⟨rfl,ih.mp q⟩
   ·rintro(q|⟨_,q⟩)
    ·exact absurd q (cL _)
    ·exact .inr ⟨rfl,ih.mpr q⟩
  ·constructor
   ·rintro(q|⟨q,_⟩)
    ·exact .inl (by omega)
    ·exact absurd (show c=d by omega) e
   ·rintro(q|⟨q,_⟩)
    ·exact .inl (by omega)
    ·exact absurd q e
theorem XI{x y:Str}(h:x.cps.toList=y.cps.toList):x=y:=by
 cases x;cases y;simp only[Str.mk.injEq];exact Array.toList_inj.mp h
theorem Jl{a b:Key}{x y:iM}(hs:sh a=sh b)(hn:a≠b):(enc a++x<enc b++y)↔lt1 a b=true:=by
 cases a with
 |inl i=>
  cases b with
  |inl j=>
   simp only[enc,lt1,bI,cX,cO,aF];exact⟨fun h=>h.elim id fun z=>absurd (by rw[z.1]) hn,.inl⟩
  |inr _=>cases hs
 |inr u=>
  cases b with
  |inl _=>cases hs
  |inr v=>
   simp only[enc,lt1,aF];exact Jj fun z=>hn (by rw[XI z])
noncomputable def lexL:List Key->List Key->Bool
 |a::ks,b::ls=>if a=b then lexL ks ls else lt1 a b
 |_,_=>false
theorem QH:∀{ks ls:List Key},ks.map sh=ls.map sh->(encL ks<encL ls↔lexL ks ls=true)
 |[],[],_=>by simp[encL,lexL,gT]
 |[],_::_,h=>by simp at h
 |_::_,[],h=>by simp at h
 |a::ks,b::ls,h=>by
  simp only[av,ew]at h;show(enc a++encL ks<enc b++encL ls)↔(if a=b then lexL ks ls else lt1 a b)=true
  by_cases e:a=b
  ·subst e
   rw[aE rfl,X8];exact QH h.2
  ·rw[ax e]
   exact Jl h.1 e
noncomputable def ltK:KK->KK->Bool
 |.inl a,.inl b=>if a=b then false else lt1 a b
 |.inr ks,.inr ls=>lexL ks ls
 |_,_=>false
theorem qcl{a b:KK}(h:shK a=shK b):encK a<encK b↔ltK a b=true:=by
 cases a with
 |inl a=>
  cases b with
  |inl b=>
   have h:sh a=sh b:=i6 h;show enc a<enc b↔(if a=b then false else lt1 a b)=true
   by_cases e:a=b
   ·subst e;simp[gT]
   ·rw[ax e]
    have:=Jl (x:=[]) (y:=[]) h e
    rwa [i3,i3]at this
  |inr _=>cases h
 |inr ks=>
  cases b with
  |inl _=>cases h
  |inr ls=>exact QH (fQ h)
theorem tot{a b:iM}(h1:¬ a<b)(h2:¬ b<a):a=b:=List.le_antisymm (List.not_lt.mp h2) (List.not_lt.mp h1)
noncomputable def rk(ks:List (iM))(k:iM):Nat:=(ks.filter fun x=>decide (x<k)).length
theorem yI{ks:List (iM)}{k k':iM}(h:k∈ks)(hk:k<k'):rk ks k<rk ks k':=by
 unfold rk;have e:ks.filter (fun x=>decide (x<k))=(ks.filter (fun x=>decide (x<k'))).filter (fun x=>decide (x<k)):=by
  rw[List.filter_filter];apply List.filter_congr;intro x _
  by_cases q:x<k
  ·have:x<k':=List.lt_trans q hk
   simp[q,this]
  ·simp[q]
 rw[e,List.length_filter_lt_length_iff_exists];exact⟨k,dv.mpr ⟨h,by simpa using hk⟩,by simp[gT]⟩
theorem YJ{ks:List (iM)}{k k':iM}(h:k∈ks)(h':k'∈ks):rk ks k<rk ks k'↔k<k':=by
 refine⟨fun q=>?_,yI h⟩
 by_cases c:k<k'
 ·exact c
 ·by_cases c2:k'<k
  ·exact absurd (yI h' c2) (by omega)
  ·rw[tot c c2]at q
   omega
noncomputable def runK{α:Type}(r:Nat->Nat):KasT α->α
 |.ret a=>a
 |.ask i j k=>runK r (k (decide (r i<r j)))
theorem vN{α:Type}{n:Nat}{r:Nat->Nat}{Q:α->Prop}:∀{t:KasT α},good n r t Q->Q (runK r t)
 |.ret _,h=>h
 |.ask _ _ k,h=>vN (t:=k _) h.2.2
theorem JI{α:Type}{n:Nat}{r:Nat->Nat}{Q:α->Prop}:∀{t:KasT α},good n r t Q->good n r t (fun a=>a=runK r t)
 |.ret _,h=>rfl
 |.ask _ _ k,h=>⟨h.1,h.2.1,JI (t:=k _) h.2.2⟩
noncomputable def rkI(ks:List KK)(i:Nat):Nat:=rk (ks.map encK) (encK (ks.getD i (.inl (.inl 0))))
noncomputable def srtP(ks:List KK):List Nat:=if ks.length<2 then List.range ks.length else(runK (rkI ks) (kas_sort ks.length)).toList
noncomputable def srtK(ks:List KK):List KK:=(srtP ks).map fun i=>ks.getD i (.inl (.inl 0))
theorem ki(ks:List KK):(srtP ks).Perm (List.range ks.length):=by
 unfold srtP
 split
 ·exact List.Perm.refl _
 ·have:=vN (xc (r:=rkI ks) (n:=ks.length) (by omega))
  have:=Array.Perm.toList this.1;simpa using this
theorem range_getD{α:Type}(l:List α)(d:α):(List.range l.length).map (fun i=>l.getD i d)=l:=by
 apply List.ext_getElem
 ·simp
 ·intro i h1 h2
  simp[show i<l.length by simpa using h1]
theorem qF(ks:List KK):(srtK ks).Perm ks:=by
 have:=(ki ks).map fun i=>ks.getD i (.inl (.inl 0))
 rw[range_getD]at this;exact this
theorem wb(ks:List KK):(srtK ks).Pairwise fun a b=>¬ encK b<encK a:=by
 unfold srtK srtP
 split
 ·rename_i h
  match ks,h with
  |[],_=>exact .nil
  |[a],_=>simp
 ·rename_i h
  obtain⟨o,u⟩:=vN (xc (r:=rkI ks) (n:=ks.length) (by omega));rw[hJ,List.pairwise_iff_getElem];intro i j hi hj hij;have hsz:=o.size;rw[bE]at hi hj;have h1:=u.le (cN hij) (by rw[<- hsz];exact hj);have e:∀k(hk:k<(runK (rkI ks) (kas_sort ks.length)).size),Rk (rkI ks) (runK (rkI ks) (kas_sort ks.length)) k=rkI ks ((runK (rkI ks) (kas_sort ks.length)).toList[k]'(by rw[bE];exact hk)):=fun k hk=>by
   unfold Rk;simp[hk]
  rw[e i hi,e j hj]at h1;intro z;have m:∀k(hk:k<(runK (rkI ks) (kas_sort ks.length)).size),encK (ks.getD ((runK (rkI ks) (kas_sort ks.length)).toList[k]'(by rw[bE];exact hk)) (.inl (.inl 0)))∈ks.map encK:=fun k hk=>by
   have:=o.lt (k:=k) (by rw[<- hsz];exact hk);have e2:(runK (rkI ks) (kas_sort ks.length)).getD k 0=(runK (rkI ks) (kas_sort ks.length)).toList[k]'(by rw[bE];exact hk):=by simp[hk]
   rw[e2]at this;refine aQ.mpr ⟨_,?_,rfl⟩;have e3:∀q,q<ks.length->ks.getD q (.inl (.inl 0))∈ks:=fun q hq=>by
    have:ks.getD q (.inl (.inl 0))=ks[q]:=by simp[hq]
    rw[this];exact dg hq
   exact e3 _ this
  exact absurd (yI (m j hj) z) (Nat.not_lt.mpr h1)
section
variable{prog:Program}{w:World}{A:Around}{E:iE}{s:Shared}
theorem wn{a:Addr}{vs:iH}{n:Nat}{P:PySem.Fin->Shared->Prop}{κ:SortKind}{r:Nat->Nat}{p:Array Nat}(ho:s.heap.get? a=some (seqObj "list" vs.toArray n))(h2:2<=vs.length)(h64:vs.length<64)
  (hk:∀s':Shared,(∀b o,b≠a->s.heap.get? b=some o->s'.heap.get? b=some o)->∀(Q:SortKind->Shared->Prop)(E':iE),Q κ s'->wpAny (model prog w) A (keyKind' vs.toArray) Q E' s')
  (hc:∀s':Shared,(∀b o,b≠a->s.heap.get? b=some o->s'.heap.get? b=some o)->∀i j C,i<vs.length->j<vs.length->C (decide (r i<r j)) s'->kas_ask prog w A κ vs i j C s')
  (hp:good vs.length r (kas_sort vs.length) (fun a=>a=p))(pl:p.toList.length=vs.length)
  (h:P (.done (.ret .none)) { s with heap:=sortedHeap s.heap a vs (p.toList.map fun i=>vs.getD i Value.none).toArray }) :
  wpAny (model prog w) A (Builtin.«list.sort» ⟨[.ref a],[]⟩) P E s:=by
 have ha:a<s.heap.objs.size:=aA ho;have s1:=aS s.heap a (Obj.mapSeq fun _=>(#[]:iJ));obtain⟨e1,ho1⟩:∃e1,(s.heap.update a (Obj.mapSeq fun _=>(#[]:iJ))).get? a=some (seqObj "list" #[] e1):=⟨_,get?_update_seq ho fun _=>#[]⟩;have keep:∀b o,b≠a->s.heap.get? b=some o->(((s.heap.update a (Obj.mapSeq fun _=>(#[]:iJ))).push (seqObj "tuple" vs.toArray 0)).push (seqObj "list" #[] 0)).get? b=some o:=fun b o nb e=>
  af _ (af _ ((s1.2 b nb).trans e))
 have ho3:(((s.heap.update a (Obj.mapSeq fun _=>(#[]:iJ))).push (seqObj "tuple" vs.toArray 0)).push (seqObj "list" #[] 0)).get? a=some (seqObj "list" #[] e1):=af _ (af _ ho1);rw[list_sort_plain];refine aa (listItems_at ho rfl ?_);refine aa (listUpdate_at ho rfl ?_ (by rw[au,cu];omega) (bz _));refine aa (seqEpoch_at ho1 rfl ?_);refine aa (wpAny_newTuple ?_ (by show vs.length<=_;rw[cu];omega));refine aa (wpAny_newList ?_ (bz _));refine aK ?_;show wpAny (model prog w) A _ P E { s with heap:=((s.heap.update a (Obj.mapSeq fun _=>(#[]:iJ))).push (seqObj "tuple" vs.toArray 0)).push (seqObj "list" #[] 0) };dsimp only;have hn2:¬ vs.toArray.size<2:=by rw[au];omega
 rw[ax hn2,ax hn2];refine aa (hk { s with heap:=((s.heap.update a (Obj.mapSeq fun _=>(#[]:iJ))).push (seqObj "tuple" vs.toArray 0)).push (seqObj "list" #[] 0) } keep _ _ ?_);have run:=kat_run (prog:=prog) (w:=w) (A:=A) (E:=E) (κ:=κ) (ks:=vs) (vs:=vs) (s:={ s with heap:=((s.heap.update a (Obj.mapSeq fun _=>(#[]:iJ))).push (seqObj "tuple" vs.toArray 0)).push (seqObj "list" #[] 0) })
  (Q:=fun st' s'=>s'={ s with heap:=((s.heap.update a (Obj.mapSeq fun _=>(#[]:iJ))).push (seqObj "tuple" vs.toArray 0)).push (seqObj "list" #[] 0) }/\arrOf st'=p.map (kas_item (vs.toArray.zip vs.toArray))/\failedOf st'=none)
  (G:=fun p' s'=>p'=p/\s'={ s with heap:=((s.heap.update a (Obj.mapSeq fun _=>(#[]:iJ))).push (seqObj "tuple" vs.toArray 0)).push (seqObj "list" #[] 0) })
  rfl h2 h64 (fun p' st' s' _ a2 a3⟨e,e'⟩=>⟨e',by rw[a2,e],a3⟩) (JH (hc { s with heap:=((s.heap.update a (Obj.mapSeq fun _=>(#[]:iJ))).push (seqObj "tuple" vs.toArray 0)).push (seqObj "list" #[] 0) } keep) (fun a e=>⟨e,rfl⟩) hp)
 refine aa (aY run ?_ fun _ _ e=>e);rintro⟨⟨⟩,st'⟩ s' ⟨rfl,har,hf⟩;dsimp only;have hout:=kat_snds (ks:=vs) (vs:=vs) rfl har;rw[hout];refine aa (seqEpoch_at ho3 rfl ?_);refine aa (listUpdate_at ho3 rfl ?_ (bz _) (by rw[au,aM,pl,cu];omega));rw[hf];simp only[bne_self_eq_false,aR,bR];exact ae h
theorem vZ{a:Addr}{vs:iH}{n:Nat}{P:PySem.Fin->Shared->Prop}(ho:s.heap.get? a=some (seqObj "list" vs.toArray n))(h2:vs.length<2)
  (h:P (.done (.ret .none)) { s with heap:=sortedHeap s.heap a vs vs.toArray }) :
  wpAny (model prog w) A (Builtin.«list.sort» ⟨[.ref a],[]⟩) P E s:=by
 have s1:=aS s.heap a (Obj.mapSeq fun _=>(#[]:iJ));obtain⟨e1,ho1⟩:∃e1,(s.heap.update a (Obj.mapSeq fun _=>(#[]:iJ))).get? a=some (seqObj "list" #[] e1):=⟨_,get?_update_seq ho fun _=>#[]⟩;have ho3:(((s.heap.update a (Obj.mapSeq fun _=>(#[]:iJ))).push (seqObj "tuple" vs.toArray 0)).push (seqObj "list" #[] 0)).get? a=some (seqObj "list" #[] e1):=af _ (af _ ho1);rw[list_sort_plain];refine aa (listItems_at ho rfl ?_);refine aa (listUpdate_at ho rfl ?_ (by rw[au,cu];omega) (bz _));refine aa (seqEpoch_at ho1 rfl ?_);refine aa (wpAny_newTuple ?_ (by show vs.length<=_;rw[cu];omega));refine aa (wpAny_newList ?_ (bz _));refine aK ?_;show wpAny (model prog w) A _ P E { s with heap:=((s.heap.update a (Obj.mapSeq fun _=>(#[]:iJ))).push (seqObj "tuple" vs.toArray 0)).push (seqObj "list" #[] 0) };dsimp only;have hn2:vs.toArray.size<2:=by rw[au];exact h2
 rw[aE hn2,aE hn2];refine aa (ae ?_);rw[StateT.run_pure];refine aa (ae ?_);dsimp only;have hout:(arrOf (SortSt.mk' general' (vs.toArray.zip vs.toArray) #[] 7 none)).map (·.2)=vs.toArray:=by
  show(vs.toArray.zip vs.toArray).map (·.2)=vs.toArray;apply Array.toList_inj.mp;rw[Array.toList_map,ksk_zip,List.toList_toArray,List.map_snd_zip (aI _)]
 rw[hout];refine aa (seqEpoch_at ho3 rfl ?_);refine aa (listUpdate_at ho3 rfl ?_ (bz _) (by rw[au,cu];omega));show wpAny _ _ _ _ _ _;simp only[bne_self_eq_false,aR,bR];exact ae h
noncomputable def KR:Key->Value->Prop
 |.inl i,u=>∃t,u=.int i t
 |.inr x,u=>∃t,u=.str x t
noncomputable def KV(h:Heap):KK->Value->Prop
 |.inl k,u=>KR k u
 |.inr ks,u=>∃q o n us,u=.ref q/\h.get? q=some o/\o.cls=.type "tuple"/\o.data=.seq (List.toArray us) n/\Paired KR ks us
theorem Jk{C:Bool->Shared->Prop}{fin:Bool}:∀{ks ls:List Key}{us vs:iH}(i:Nat),Paired KR ks us->Paired KR ls vs->ks.map sh=ls.map sh->fin=false->C (lexL ks ls) s->KatLex prog w A true fin C (us.zip vs) i s
 |[],[],_,_,i,.nil,.nil,_,e,c=>kat_nil (by rw[e];exact c)
 |[],_::_,_,_,_,_,_,h,_,_=>by simp at h
 |_::_,[],_,_,_,_,_,h,_,_=>by simp at h
 |a::ks,b::ls,_,_,i,.cons (b:=u) ru tu,.cons (b:=v) rv tv,h,e,c=>by
  simp only[av,ew]at h;have c:C (if a=b then lexL ks ls else lt1 a b) s:=c;show KatLex prog w A true fin C ((u,v)::_) i s;cases a with
  |inl x=>
   cases b with
   |inr _=>cases h.1
   |inl y=>
    obtain⟨t,rfl⟩:=ru;obtain⟨t',rfl⟩:=rv;refine kat_cons (SeqAt.EqAt.int_int _ _ _ _ _ _ _ _ (kat_go (fun z=>?_) fun z=>?_))
    ·have z:x=y:=by simpa using z
     subst z;rw[aE rfl]at c;exact kat_yes (Jk (i+1) tu tv h.2 e c)
    ·have z:x≠y:=by simpa using z
     rw[ax fun q=>z (i6 q)]at c;refine kat_no ?_;cases i with
     |zero=>exact oneLt_int c
     |succ i=>exact kat_one _ _ (lt_int c)
  |inr x=>
   cases b with
   |inl _=>cases h.1
   |inr y=>
    obtain⟨t,rfl⟩:=ru;obtain⟨t',rfl⟩:=rv;refine kat_cons (SeqAt.EqAt.str_str _ _ _ _ _ _ _ _ (kat_go (fun z=>?_) fun z=>?_))
    ·have z:x=y:=by simpa using z
     subst z;rw[aE rfl]at c;exact kat_yes (Jk (i+1) tu tv h.2 e c)
    ·have z:x≠y:=by simpa using z
     rw[ax fun q=>z (fQ q)]at c;refine kat_no ?_;cases i with
     |zero=>exact oneLt_str c
     |succ i=>exact kat_one _ _ (lt_str c)
noncomputable def kindS:KK->Option SortKind
 |.inl (.inr _)=>some oneType'
 |.inr (_::_)=>some (tuples' true)
 |_=>none
theorem QJ{a b:KK}(h:shK a=shK b):kindS a=kindS b:=by
 rcases a with(i|x)|(_|⟨k,ks⟩) <;> rcases b with(j|y)|(_|⟨l,ls⟩) <;> first|rfl|exact absurd h (by simp[shK,sh])
theorem qa0{k l:KK}{u v:Value}{κ:SortKind}{C:Bool->Shared->Prop}(hk:kindS k=some κ)(hs:shK k=shK l)(hu:KV s.heap k u)(hv:KV s.heap l v)(c:C (ltK k l) s):wpAny (model prog w) A (keyLt' κ u v) C E s:=by
 cases k with
 |inl k=>
  cases k with
  |inl i=>cases hk
  |inr x=>
   cases hk;cases l with
   |inr _=>cases hs
   |inl l=>
    cases l with
    |inl _=>cases hs
    |inr y=>
     obtain⟨t,rfl⟩:=hu;obtain⟨t',rfl⟩:=hv;rw[keyLt'_oneType];refine oneLt_str ?_;have c:C (if(Sum.inr x:Key)=.inr y then false else decide (x.cps.toList<y.cps.toList)) s:=c
     by_cases e:x=y
     ·subst e
      rw[aE rfl]at c;simpa[gT] using c
     ·rwa [ax fun q=>e (fQ q)]at c
 |inr ks=>
  cases l with
  |inl _=>cases hs
  |inr ls=>
   have hs:ks.map sh=ls.map sh:=fQ hs;obtain⟨q,o,n,us,rfl,h1,h2,h3,h4⟩:=hu;obtain⟨q',o',n',vs,rfl,g1,g2,g3,g4⟩:=hv;have:κ=tuples' true:=by
    cases ks with
    |nil=>cases hk
    |cons _ _=>cases hk;rfl
   subst this;refine kat_lt h1 h3 g1 g3 ?_;have hl:us.length=vs.length:=by
    have:=bY List.length hs;rw[<- h4.length,<- g4.length];simpa using this
   refine Jk (fin:=decide ((List.toArray us).size<(List.toArray vs).size)) 0 h4 g4 hs (by simp[hl]) c
theorem ZN{h:Heap}:∀{ks:List KK}{us:iH},Paired (KV h) ks us->(∀k∈ks,shK k=.inl true)->∃ss,StrsAre us ss
 |[],[],.nil,_=>⟨[],.nil⟩
 |k::ks,u::us,.cons r t,hs=>by
  obtain⟨ss,h⟩:=ZN t fun k hk=>hs k (ay _ hk)
  have e:=hs k (aC ..);cases k with
  |inr _=>cases e
  |inl k=>
   cases k with
   |inl _=>cases e
   |inr x=>
    obtain⟨tk,rfl⟩:=r;exact⟨x::ss,.cons x tk h⟩
theorem ZH{h:Heap}{b:Bool}{bs:List Bool}:∀{ks:List KK}{us:iH},Paired (KV h) ks us->(∀k∈ks,shK k=.inr (b::bs))->∃fs,KatTups h us fs/\fs.length=us.length/\∀f∈fs,(b=false->∃i t,f=Value.int i t)/\(b=true->∃x t,f=Value.str x t)
 |[],[],.nil,_=>⟨[],.nil,rfl,fun f hf=>nomatch hf⟩
 |k::ks,u::us,.cons r t,hs=>by
  obtain⟨fs,h1,h2,h3⟩:=ZH t fun k hk=>hs k (ay _ hk)
  have e:=hs k (aC ..);cases k with
  |inl _=>cases e
  |inr ls=>
   have e:ls.map sh=b::bs:=fQ e;cases ls with
   |nil=>cases e
   |cons l ls=>
    simp only[av,ew]at e;obtain⟨q,o,n,vs,rfl,g1,g2,g3,g4⟩:=r;cases g4 with
    |@cons _ v _ vs rv tv=>
     refine⟨v::fs,KatTups.cons g1 g2 g3 (by simp) h1,by simp[h2],fun f hf=>?_⟩;rcases aw.mp hf with rfl|hf
     ·rw[<- e.1]
      cases l with
      |inl i=>obtain⟨t,rfl⟩:=rv;exact⟨fun _=>⟨i,t,rfl⟩,(fun z=>by cases z)⟩
      |inr x=>obtain⟨t,rfl⟩:=rv;exact⟨(fun z=>by cases z),fun _=>⟨x,t,rfl⟩⟩
     ·exact h3 f hf
theorem Wm{k0:KK}{κ:SortKind}{ks:List KK}{us:iH}{Q:SortKind->Shared->Prop}(hk:kindS k0=some κ)(hs:∀k∈ks,shK k=shK k0)(hv:Paired (KV s.heap) ks us)(h2:2<=us.length)(q:Q κ s):wpAny (model prog w) A (keyKind' us.toArray) Q E s:=by
 cases k0 with
 |inl k=>
  cases k with
  |inl _=>cases hk
  |inr x=>
   cases hk;obtain⟨ss,hS⟩:=ZN hv fun k hk=>hs k hk
   match us,h2,hS with
   |v₁::v₂::r,_,hS=>
    rw[keyKind_strs hS];exact ae q
 |inr ls=>
  cases ls with
  |nil=>cases hk
  |cons l ls=>
   cases hk;obtain⟨fs,h1,h3,h4⟩:=ZH (b:=sh l) (bs:=ls.map sh) hv fun k hk=>hs k hk
   cases l with
   |inl i=>exact kat_kind (T:=.type "int") h1 (by omega) (fun f hf=>by obtain⟨i,t,rfl⟩:=(h4 f hf).1 rfl;exact Looks.of_pure rfl) (by decide) (show Q (tuples' (Value.type "int" != Value.type "tuple")) s from(show(Value.type "int" != Value.type "tuple")=true by decide)▸q)
   |inr x=>exact kat_kind (T:=.type "str") h1 (by omega) (fun f hf=>by obtain⟨i,t,rfl⟩:=(h4 f hf).2 rfl;exact Looks.of_pure rfl) (by decide) (show Q (tuples' (Value.type "str" != Value.type "tuple")) s from(show(Value.type "str" != Value.type "tuple")=true by decide)▸q)
theorem KV.keep{h h':Heap}{k:KK}{u:Value}(hv:KV h k u)(kp:∀q o,h.get? q=some o->h'.get? q=some o):KV h' k u:=by
 cases k with
 |inl k=>exact hv
 |inr ks=>
  obtain⟨q,o,n,us,h1,h2,h3⟩:=hv;exact⟨q,o,n,us,h1,kp _ _ h2,h3⟩
noncomputable def sortable:List KK->Bool
 |k::l::r=>(kindS k).isSome && (l::r).all fun z=>decide (shK z=shK k)
 |_=>true
theorem KY{h1:Heap}{tk:Nat}{ks:List KK}{us:iH}{P:PySem.Fin->Shared->Prop}(hv:Paired (KV h1) ks us)(h64:ks.length<64)(hs:sortable ks=true)
  (fin:P (.done (.ret .none)) { s with heap:=sortedHeap (h1.push { cls:=.type "list",data:=.seq us.toArray }) h1.objs.size us (List.toArray ((srtP ks).map fun i=>us.getD i Value.none)),toks:=tk }) :
  wpAny (model prog w) A (Builtin.«list.sort» ⟨[.ref h1.objs.size],[]⟩) P E { s with heap:=h1.push { cls:=.type "list",data:=.seq us.toArray },toks:=tk }:=by
 have hB:(h1.push { cls:=.type "list",data:=.seq us.toArray }).get? h1.objs.size=some (seqObj "list" us.toArray 0):=ao _ rfl;have hl:ks.length=us.length:=ig hv
 by_cases h2:ks.length<2
 ·have e:(srtP ks).map (fun i=>us.getD i Value.none)=us:=by unfold srtP;rw[aE h2,hl];exact range_getD us _
  rw[e]at fin;exact vZ hB (by omega) fin
 ·obtain⟨k0,l0,r0,ek⟩:∃a b c,ks=a::b::c:=by
   match ks,h2 with
   |a::b::c,_=>exact⟨a,b,c,rfl⟩
   |[],h=>exact absurd (by simp) h
   |[_],h=>exact absurd (by simp) h
  have hs':=hs;rw[ek]at hs';simp only[sortable,aq,aP,aF]at hs';obtain⟨κ,hκ⟩:=bA.mp hs'.1;have sh0:∀k∈ks,shK k=shK k0:=fun k hk=>by
   rw[ek]at hk;rcases aw.mp hk with rfl|hk
   ·rfl
   ·exact hs'.2 k hk
  have lt1:∀q o,h1.get? q=some o->q≠h1.objs.size:=fun q o e=>aH (aA e)
  have hg:=xc (r:=rkI ks) (n:=us.length) (by omega);have ep:srtP ks=(runK (rkI ks) (kas_sort us.length)).toList:=by unfold srtP;rw[ax h2,hl]
  rw[ep]at fin;have hsz:(runK (rkI ks) (kas_sort us.length)).toList.length=us.length:=by rw[bE];exact(vN hg).1.size
  have at_:∀i,i<us.length->KV h1 (ks.getD i (.inl (.inl 0))) (us.getD i Value.none)/\ks.getD i (.inl (.inl 0))∈ks:=fun i hi=>by
   have hi':i<ks.length:=by omega
   have:∀{ks:List KK}{us:iH}(i:Nat),Paired (KV h1) ks us->(hi:i<ks.length)->KV h1 (ks.getD i (.inl (.inl 0))) (us.getD i Value.none):=by
    intro ks us i r
    induction r generalizing i with
    |nil=>intro hi;simp at hi
    |cons a t ih=>
     intro hi;cases i with
     |zero=>exact a
     |succ i=>simpa using ih i (by simpa using hi)
   refine⟨this i hv hi',?_⟩;have e:ks.getD i (.inl (.inl 0))=ks[i]:=by simp[hi']
   rw[e];exact dg hi'
  refine wn (κ:=κ) (r:=rkI ks) (p:=runK (rkI ks) (kas_sort us.length)) hB (by omega) (by omega) (fun s' kp Q E' q=>?_) (fun s' kp i j C hi hj c=>?_) (JI hg) hsz fin
  ·have hv':Paired (KV s'.heap) ks us:=by
    have:∀{ks:List KK}{us:iH},Paired (KV h1) ks us->Paired (KV s'.heap) ks us:=by
     intro ks us r
     induction r with
     |nil=>exact .nil
     |cons a t ih=>exact .cons (a.keep fun q o e=>kp q o (lt1 q o e) (af _ e)) ih
    exact this hv
   exact Wm hκ sh0 hv' (by omega) q
  ·obtain⟨a1,m1⟩:=at_ i hi
   obtain⟨a2,m2⟩:=at_ j hj;have e1:=sh0 _ m1;have e2:=sh0 _ m2;have kk:kindS (ks.getD i (.inl (.inl 0)))=some κ:=(QJ e1).trans hκ;refine qa0 (E:=fun _ _=>False) kk (e1.trans e2.symm) (a1.keep fun q o e=>kp q o (lt1 q o e) (af _ e)) (a2.keep fun q o e=>kp q o (lt1 q o e) (af _ e)) ?_;have:decide (rkI ks i<rkI ks j)=ltK (ks.getD i (.inl (.inl 0))) (ks.getD j (.inl (.inl 0))):=by
    rw[fE,aF,<- qcl (e1.trans e2.symm)];exact YJ (aQ.mpr ⟨_,m1,rfl⟩) (aQ.mpr ⟨_,m2,rfl⟩)
   rw[<- this];exact c
end
noncomputable def allK:List D->Option (List KK)
 |[]=>some []
 |d::r=>(dKK d).bind fun k=>(allK r).map (k::·)
noncomputable def srtR(ds:List D)(ks:List KK):Option Res:=if ks.length<64/\sortable ks=true then some (.n (.lst false ((srtP ks).map fun i=>ds.getD i .non)))else none
noncomputable def iSrt(b:Hb)(d:D):Option Res:=((qG b d).bind fun l=>(allK l).bind fun ks=>srtR l ks).or ((qv b d).bind fun l=>srtR (l.map fun x=>kkD x.1) (l.map (·.1)))
theorem V_{k:Key}{u:Value}(h:vJ k u=true):KR k u:=by rcases qk h with⟨i,t,rfl,rfl⟩|⟨x,t,rfl,rfl⟩ <;> exact⟨t,rfl⟩
theorem KyR.kv(S:Sto W c b h){k:KK}{u:Value}(r:KyR W c k u):KV h k u:=by
 cases k with
 |inl k=>exact V_ r
 |inr l=>
  obtain⟨a,o,us,e,f,⟨_,n,rfl⟩,q⟩:=r;have:∀{l us},ItemsAre (qr W.prog W.w) l us->Paired KR l us:=by
   intro l us q
   induction q with
   |nil=>exact .nil
   |cons a t ih=>exact .cons (V_ a) ih
  exact⟨a,_,n,us,e,S.frz _ _ f,rfl,rfl,this q⟩
theorem Xw(S:Sto W c b h):∀{ds us ks},Reps W c ds us->allK ds=some ks->Paired (KV h) ks us
 |[],_,_,e,h=>by cases e;cases h;exact .nil
 |d::ds,_,_,⟨u,us,e,r,t⟩,h=>by
  subst e;obtain⟨k,h1,h⟩:=ai.mp (show(dKK d).bind _=_ from h);obtain⟨ks,h2,rfl⟩:=ah.mp h;exact .cons ((kj r h1).kv S) (Xw S t h2)
theorem w_{h h':Heap}(k:∀a o,h.get? a=some o->h'.get? a=some o):∀{ks us},Paired (KV h) ks us->Paired (KV h') ks us
 |_,_,.nil=>.nil
 |_,_,.cons a t=>.cons (a.keep k) (w_ k t)
theorem wX(r:Reps W c ds us):∀p:List Nat,(∀i∈p,i<ds.length)->Reps W c (p.map fun i=>ds.getD i .non) (p.map fun i=>us.getD i Value.none)
 |[],_=>rfl
 |i::p,h=>by
  have hi:=h i (aC ..);obtain⟨u,h1,h2⟩:=r.at (ak hi);exact⟨_,_,rfl,by show Rep W c (ds.getD i .non) (us.getD i Value.none);rw[cG,cG,ak hi,h1];exact h2,wX r p fun j hj=>h j (ay _ hj)⟩
section
variable{prog:Program}{w:World}{A:Around}{d:Addr}{es:Array DictEntry}{ep:Nat}
theorem Wo(lo:(d == sysModules)=false):KdlSrc prog w "dict" d d es.size (fun i v=>∃e,es[i]?=some e/\v=e.key) (fun h=>RawD h d es ep) where
 type:=fun _ hm=>RawD.ty hm
 there:=fun _ hm=>let⟨_,h1,_⟩:=hm;⟨aA h1,aA h1⟩
 keep:=fun _ _ hm hk=>let⟨o,h1,h2⟩:=hm;⟨o,hk d (.inl rfl) o h1,h2⟩
 notList:=by decide
 notTuple:=by decide
 hint:=fun _ _ _ _ hm hq=>kdl_hint_dict (RawD.ty hm) hq
 iter:=fun A s hh hm=>⟨_,_,(fun _ _ hq=>Qy lo hm hq),xD hh _ (let⟨_,h1,_⟩:=hm;aH (aA h1)),⟨_,ao _ rfl,rfl,rfl⟩,let⟨o,h1,h2⟩:=hm;⟨o,af _ h1,h2⟩⟩
end
section
variable{X:Cx}
theorem qas(hc:X.calm=true):Op X (fun us=>call (.builtin "sorted") us) (gN (g1 iSrt)):=.one (fun _=>rfl) fun{p sc b c s u d r Q Z} I r1 e q=>by
 refine Calls.call_function_entry kind_sorted plain_sorted entry_sorted (args_sorted1 _) ?_;unfold Builtin.«sorted»;refine aa (m:=checkCount "sorted" 1 1 _) (ae ?_);have st:wpAny X.M X.A.in1 (collect u) (fun acc s'=>∃(its:iH)(h1:Heap)(tk:Nat)(ds:List D)(ks:List KK),acc=its/\s'={ s with heap:=h1,toks:=tk }/\(∀a o,s.heap.get? a=some o->h1.get? a=some o)/\Paired (KV h1) ks its/\Reps X.W c ds its/\srtR ds ks=some r) Z s:=by
  cases h0:(qG b d).bind fun l=>(allK l).bind fun ks=>srtR l ks with
  |some w=>
   unfold iSrt at e;rw[h0]at e;cases e;obtain⟨l,h1,e⟩:=ai.mp h0;obtain⟨ks,h2,e⟩:=ai.mp e;obtain⟨a,o,us,rfl,ho,g,rs⟩:=I.st.lst r1 h1;have hv:=Xw I.st rs h2;have h64:ks.length<64:=by unfold srtR at e;split at e;rename_i z;exact z.1;cases e
   refine collect_list (g.pl ho).isList ?_ (by rw[<- ig hv,cu];omega);have kp:∀b o,s.heap.get? b=some o->((s.heap.push (seqObj "list" #[] 0)).update s.heap.objs.size (Obj.mapSeq (·++us.toArray))).get? b=some o:=fun b o e=>
    ((aS (s.heap.push (seqObj "list" #[] 0)) s.heap.objs.size (Obj.mapSeq (·++us.toArray))).2 b (aH (aA e))).trans (af _ e)
   exact⟨us,_,_,l,ks,rfl,rfl,kp,w_ kp hv,rs,e⟩
  |none=>
   unfold iSrt at e;rw[h0]at e;obtain⟨l,h1,e⟩:=ai.mp (show(qv b d).bind _=_ from e);obtain⟨a,o,xs,rfl,ho,g,rs,nt⟩:=I.st.dic r1 h1;obtain⟨es,ep,g1,g2,g3⟩:=g.raw (z:=a) rs;have h64:l.length<64:=by unfold srtR at e;split at e;rename_i z;simpa using z.1;cases e
   refine kdu_collect (Wo (I.st.ny nt)) (I.ok.hd hc) (g2 _ ho) (by rw[g1,cu];omega) fun h1 tk acc hk items=>?_
   have li:acc.toList.length=l.length:=by have:=items.1;simpa[g1] using this
   have both:∀{l:List (KK×D)}{its:iH},its.length=l.length->(∀(i:Nat) v x,its[i]?=some v->l[i]?=some x->Rep X.W c (kkD x.1) v/\KV h1 x.1 v)->Reps X.W c (l.map fun x=>kkD x.1) its/\Paired (KV h1) (l.map (·.1)) its:=by
    intro l
    induction l with
    |nil=>intro its h _;cases its with
     |nil=>exact⟨rfl,.nil⟩
     |cons=>cases h
    |cons x l ih=>
     intro its h k;cases its with
     |nil=>cases h
     |cons v its=>
      obtain⟨a1,a2⟩:=ih (by simpa using h) fun i v x e1 e2=>k (i+1) v x (by simpa using e1) (by simpa using e2)
      obtain⟨b1,b2⟩:=k 0 v x rfl rfl;exact⟨⟨v,its,rfl,b1,a1⟩,.cons b2 a2⟩
   obtain⟨a1,a2⟩:=both li fun i v x e1 e2=>by
    obtain⟨e,e3,rfl⟩:=items.2 i v (by simpa using e1);obtain⟨en,e4,e5,_⟩:=g3 i x.1 x.2 e2;rw[e3]at e4;cases e4;refine⟨e5,?_⟩;obtain⟨v',u',m1,m2,_⟩:=rs.at e2;have m3:e.key=v':=by
     have:=g.2.2.2;obtain⟨es',ep',n1,n2⟩:=this;obtain⟨o2,n3,n4,n5⟩:=g2 _ ho;rw[ho]at n3;cases n3;rw[n1]at n5;cases n5;have:=zB n2 i;rw[e3,m1]at this;cases this;rfl
    rw[m3];exact(m2.kv I.st).keep hk
   exact⟨acc.toList,h1,tk,_,_,rfl,rfl,hk,a2,a1,e⟩
 refine aa (aY st (fun its s' h=>?_) fun _ _ e=>e)
 ·obtain⟨_,h1,tk,ds,ks,rfl,rfl,hk,hv,rz,e⟩:=h
  unfold srtR at e
  split at e
  ·rename_i hz
   cases e;have lk:ks.length=its.length:=ig hv;have lz:=rz.len;have pin:∀i∈srtP ks,i<ds.length:=fun i hi=>by
    have:=dX.mp ((ki ks).mem_iff.mp hi);omega
   have plen:(srtP ks).length=ks.length:=by rw[(ki ks).length_eq,List.length_range]
   refine aa (wpAny_newList ?_ (by rw[cu];omega));have hB:(h1.push { cls:=.type "list",data:=.seq its.toArray }).get? h1.objs.size=some (seqObj "list" its.toArray 0):=ao _ rfl;refine aa (aK (bj PyProof.Rows.slot_list_sort ⟨_,hB,rfl⟩ PyProof.Rows.entry_list_sort ?_ (args_list_sort _)));refine KY (s:=s) (tk:=tk) hv hz.1 hz.2 ⟨_,rfl,ae ⟨_,rfl,?_⟩⟩;have szp:(h1.push { cls:=.type "list",data:=.seq its.toArray }).objs.size=h1.objs.size+1:=dj ..;have keepG:∀b o,s.heap.get? b=some o->(sortedHeap (h1.push { cls:=.type "list",data:=.seq its.toArray }) h1.objs.size its (List.toArray ((srtP ks).map fun i=>its.getD i Value.none))).get? b=some o:=fun b o e=>
    (sortedHeap_old (aH (aA (hk b o e))) (by rw[szp];exact fW (aA (hk b o e)))).trans (af _ (hk b o e))
   obtain⟨e',he⟩:=sortedHeap_at (out:=List.toArray ((srtP ks).map fun i=>its.getD i Value.none)) hB;have nB:s.heap.get? h1.objs.size=none:=by
    cases e:s.heap.get? h1.objs.size with
    |none=>rfl
    |some o=>exact absurd (aA (hk _ _ e)) (cL _)
   exact q _ _ c (I.kept (t':=tk) keepG) .refl ⟨_,rfl,I.fp nB,_,_,he,⟨by rw[aM,plen,cu];omega,e',rfl⟩,wX rz _ pin⟩
  ·cases e
end
end E
namespace E
open PySem PySem.Spec PyProof.Rows L2
noncomputable def ordE(e r:Nat->Bool)(t:Bool):Nat->Nat->Bool
 |_,0=>t
 |i,k+1=>if e i=true then ordE e r t (i+1) k else r i
noncomputable def RcO(op:CmpOp)(A:Around)(s:Shared)(y x:Value)(b:Bool):Prop:=∀(prog:Program)(w:World)(E:iE)(Q:iE),Q (.bool b) s->wpAny (model prog w) A (richCompare op y x) Q E s
section
open PySem.SeqAt
open PySem.AutoSeq1 (wpAny_loadPart')
open PySem.MeetsSeq PySem.MeetsSeq2 PySem.MeetsSeq3 SeqRoads2
theorem Yp(l b:Addr)(items items2:iJ)(n n2:Nat)(dd dd2:iI)(sl sl2:Array (Option Value))(e r:Nat->Bool) :
  Meets (Builtin.«tuple.__lt__» ⟨[.ref l,.ref b],[]⟩)
   (fun A R s=>s.heap.get? l=some { cls:=.type "tuple",dict:=dd,data:=.seq items n,slots:=sl }/\s.heap.get? b=some { cls:=.type "tuple",dict:=dd2,data:=.seq items2 n2,slots:=sl2 }/\
    (∀j(h1:j<items.size)(h2:j<items2.size),(∀k,k<j->e k=true)->EqAt A.in1 s items[j] items2[j] (e j))/\(∀j(h1:j<items.size)(h2:j<items2.size),(∀k,k<j->e k=true)->e j=false->RcO .Lt A.in1 s items[j] items2[j] (r j))/\
    R (.ok (.ret (.bool (ordE e r (decide (items.size<items2.size)) 0 (min items.size items2.size))))) s):=
 .of_wp fun prog w A R s h=>by
  obtain⟨hp,g,d,tk,os⟩:=s;obtain⟨hl,hb,he,hr,h⟩:=h;have f2:=AutoSeq1.sub_tuple_tuple;have zl:(items.toList.zip items2.toList).length=min items.size items2.size:=by rw[List.length_zip,bE,bE]
  wp_walk using aX hl,aX hb,cZ _ (fun rest b s'=>b.1=none/\s'=⟨hp,g,d,tk,os⟩/\∃i k,i+k=min items.size items2.size/\rest=(items.toList.zip items2.toList).drop i/\(∀q,q<i->e q=true)/\
   R (.ok (.ret (.bool (ordE e r (decide (items.size<items2.size)) i k)))) ⟨hp,g,d,tk,os⟩) _
  case turn=>
   rintro⟨y,x⟩ rest b s' ⟨hb',rfl,i,k,hik,hz,hq,hR⟩;have lt0:i<(items.toList.zip items2.toList).length:=by
    by_cases q:i<(items.toList.zip items2.toList).length
    ·exact q
    ·rw[List.drop_eq_nil_of_le (by omega)]at hz;cases hz
   have a1:i<items.size:=by omega
   have a2:i<items2.size:=by omega
   rw[ck lt0]at hz
   injection hz with ez hrest
   rw[List.getElem_zip]at ez
   injection ez with ey ex
   have ey:y=items[i]:=by rw[ey];simp
   have ex:x=items2[i]:=by rw[ex];simp
   subst ey ex;cases k with
   |zero=>omega
   |succ k=>
    have hR:R (.ok (.ret (.bool (if e i=true then ordE e r (decide (items.size<items2.size)) (i+1) k else r i)))) _:=hR;refine aa (he i a1 a2 hq prog w _ _ ?_);cases ei:e i with
    |true=>
     rw[aE ei]at hR
     wp_walk
     exact⟨rfl,rfl,i+1,k,by omega,hrest,fun q hq'=>by by_cases z:q=i;(subst z;exact ei);exact hq q (by omega),hR⟩
    |false=>
     rw[ei,ax (by decide)]at hR;have hri:=hr i a1 a2 hq ei prog w
     wp_walk using hri
     exact⟨_,rfl,by simpa using hR⟩
  case fin=>
   rintro⟨b1,b2⟩ s' ⟨hb',rfl,i,k,hik,hz,hq,hR⟩;simp only at hb';subst hb';have k0:k=0:=by
    by_cases q:i<(items.toList.zip items2.toList).length
    ·rw[ck q]at hz;cases hz
    ·omega
   subst k0;have hR:R (.ok (.ret (.bool (decide (items.size<items2.size))))) _:=hR
   wp_walk
   exact⟨_,rfl,by simpa[Builtin.Tuple.tupleCompareSizes] using hR⟩
  case h=>
   exact⟨rfl,rfl,0,min items.size items2.size,by omega,rfl,fun q hq=>absurd hq (dq _),h⟩
theorem yP(l b:Addr)(items items2:iJ)(n n2:Nat)(dd dd2:iI)(sl sl2:Array (Option Value))(e r:Nat->Bool)(k:Nat) :
  ∀i:Nat,i+k=min items.size items2.size->Meets (Builtin.«list.__eq__.loop» ⟨[.ref l,.ref b,rawInt i,rawInt (0)],[]⟩)
   (fun A R s=>s.heap.get? l=some { cls:=.type "list",dict:=dd,data:=.seq items n,slots:=sl }/\s.heap.get? b=some { cls:=.type "list",dict:=dd2,data:=.seq items2 n2,slots:=sl2 }/\
    (∀j(h1:j<items.size)(h2:j<items2.size),(∀k,k<j->e k=true)->EqAt A.in1 s items[j] items2[j] (e j))/\(∀j(h1:j<items.size)(h2:j<items2.size),(∀k,k<j->e k=true)->e j=false->RcO .Lt A.in1 s items[j] items2[j] (r j))/\(∀q,q<i->e q=true)/\
    R (.ok (.ret (.bool (ordE e r (decide (items.size<items2.size)) i k)))) s):=by
 induction k with
 |zero=>
  intro i hk prog w A R s h;obtain⟨hp,g,d,tk,os⟩:=s;obtain⟨hl,hb,he,hr,hq,h⟩:=h
  wp_walk using aX hl,aX hb
  have h:R (.ok (.ret (.bool (decide (items.size<items2.size))))) _:=h;have zz:items[((i:Nat):Int).toNat]?=none\/items2[((i:Nat):Int).toNat]?=none:=by
   simp only[dA,cY];omega
  cases z1:items[((i:Nat):Int).toNat]? with
  |none=>
   wp_walk using aX hl,aX hb
   exact h
  |some v1=>
   cases z2:items2[((i:Nat):Int).toNat]? with
   |none=>
    wp_walk using aX hl,aX hb
    exact h
   |some v2=>rw[z1,z2]at zz;rcases zz with zz|zz <;> cases zz
 |succ k ih=>
  intro i hk prog w A R s h;obtain⟨hp,g,d,tk,os⟩:=s;obtain⟨hl,hb,he,hr,hq,h⟩:=h
  wp_walk using aX hl,aX hb
  have a1:i<items.size:=by omega
  have a2:i<items2.size:=by omega
  have z1:items[((i:Nat):Int).toNat]?=some items[i]:=by simp[a1]
  have z2:items2[((i:Nat):Int).toNat]?=some items2[i]:=by simp[a2]
  have hc:((i:Int)+1)=((i+1:Nat):Int):=by push_cast;rfl
  have h:R (.ok (.ret (.bool (if e i=true then ordE e r (decide (items.size<items2.size)) (i+1) k else r i)))) _:=h;rw[z1,z2];refine aa (he i a1 a2 hq prog w _ _ ?_);cases ei:e i with
  |true=>
   rw[aE ei]at h
   wp_walk
   rw[hc];refine⟨cK plain_eq_loop _,c9 entry_eq_loop ?_⟩;rw[bH plain_eq_loop _];exact ih (i+1) (by omega) prog w A R _ ⟨hl,hb,he,hr,fun q hq'=>by by_cases z:q=i;(subst z;exact ei);exact hq q (by omega),h⟩
  |false=>
   rw[ei,ax (by decide)]at h;have hri:=hr i a1 a2 hq ei prog w
   wp_walk using aX hl,aX hb
   rw[z1,z2]
   wp_walk using hri
   simpa using h
theorem YY(l b:Addr)(items items2:iJ)(n n2:Nat)(dd dd2:iI)(sl sl2:Array (Option Value))(e r:Nat->Bool) :
  Meets (Builtin.«list.__lt__» ⟨[.ref l,.ref b],[]⟩)
   (fun A R s=>s.heap.get? l=some { cls:=.type "list",dict:=dd,data:=.seq items n,slots:=sl }/\s.heap.get? b=some { cls:=.type "list",dict:=dd2,data:=.seq items2 n2,slots:=sl2 }/\
    (∀j(h1:j<items.size)(h2:j<items2.size),(∀k,k<j->e k=true)->EqAt A.in1 s items[j] items2[j] (e j))/\(∀j(h1:j<items.size)(h2:j<items2.size),(∀k,k<j->e k=true)->e j=false->RcO .Lt A.in1 s items[j] items2[j] (r j))/\
    R (.ok (.ret (.bool (ordE e r (decide (items.size<items2.size)) 0 (min items.size items2.size))))) s):=by
 intro prog w A R s h;obtain⟨hp,g,d,tk,os⟩:=s;obtain⟨hl,hb,he,hr,h⟩:=h;have f3:=AutoSeq1.sub_list_list
 wp_walk using aX hl,aX hb
 refine⟨cK plain_eq_loop _,c9 entry_eq_loop ?_⟩;rw[bH plain_eq_loop _];exact yP l b items items2 n n2 dd dd2 sl sl2 e r _ 0 (by omega) prog w A R _ ⟨hl,hb,he,hr,fun q hq=>absurd hq (dq _),h⟩
theorem Yq(l b:Addr)(items items2:iJ)(n n2:Nat)(dd dd2:iI)(sl sl2:Array (Option Value))(e r:Nat->Bool) :
  Meets (Builtin.«tuple.__gt__» ⟨[.ref l,.ref b],[]⟩)
   (fun A R s=>s.heap.get? l=some { cls:=.type "tuple",dict:=dd,data:=.seq items n,slots:=sl }/\s.heap.get? b=some { cls:=.type "tuple",dict:=dd2,data:=.seq items2 n2,slots:=sl2 }/\
    (∀j(h1:j<items.size)(h2:j<items2.size),(∀k,k<j->e k=true)->EqAt A.in1 s items[j] items2[j] (e j))/\(∀j(h1:j<items.size)(h2:j<items2.size),(∀k,k<j->e k=true)->e j=false->RcO .Gt A.in1 s items[j] items2[j] (r j))/\
    R (.ok (.ret (.bool (ordE e r (decide (items.size > items2.size)) 0 (min items.size items2.size))))) s):=
 .of_wp fun prog w A R s h=>by
  obtain⟨hp,g,d,tk,os⟩:=s;obtain⟨hl,hb,he,hr,h⟩:=h;have f2:=AutoSeq1.sub_tuple_tuple;have zl:(items.toList.zip items2.toList).length=min items.size items2.size:=by rw[List.length_zip,bE,bE]
  wp_walk using aX hl,aX hb,cZ _ (fun rest b s'=>b.1=none/\s'=⟨hp,g,d,tk,os⟩/\∃i k,i+k=min items.size items2.size/\rest=(items.toList.zip items2.toList).drop i/\(∀q,q<i->e q=true)/\
   R (.ok (.ret (.bool (ordE e r (decide (items.size > items2.size)) i k)))) ⟨hp,g,d,tk,os⟩) _
  case turn=>
   rintro⟨y,x⟩ rest b s' ⟨hb',rfl,i,k,hik,hz,hq,hR⟩;have lt0:i<(items.toList.zip items2.toList).length:=by
    by_cases q:i<(items.toList.zip items2.toList).length
    ·exact q
    ·rw[List.drop_eq_nil_of_le (by omega)]at hz;cases hz
   have a1:i<items.size:=by omega
   have a2:i<items2.size:=by omega
   rw[ck lt0]at hz
   injection hz with ez hrest
   rw[List.getElem_zip]at ez
   injection ez with ey ex
   have ey:y=items[i]:=by rw[ey];simp
   have ex:x=items2[i]:=by rw[ex];simp
   subst ey ex;cases k with
   |zero=>omega
   |succ k=>
    have hR:R (.ok (.ret (.bool (if e i=true then ordE e r (decide (items.size > items2.size)) (i+1) k else r i)))) _:=hR;refine aa (he i a1 a2 hq prog w _ _ ?_);cases ei:e i with
    |true=>
     rw[aE ei]at hR
     wp_walk
     exact⟨rfl,rfl,i+1,k,by omega,hrest,fun q hq'=>by by_cases z:q=i;(subst z;exact ei);exact hq q (by omega),hR⟩
    |false=>
     rw[ei,ax (by decide)]at hR;have hri:=hr i a1 a2 hq ei prog w
     wp_walk using hri
     exact⟨_,rfl,by simpa using hR⟩
  case fin=>
   rintro⟨b1,b2⟩ s' ⟨hb',rfl,i,k,hik,hz,hq,hR⟩;simp only at hb';subst hb';have k0:k=0:=by
    by_cases q:i<(items.toList.zip items2.toList).length
    ·rw[ck q]at hz;cases hz
    ·omega
   subst k0;have hR:R (.ok (.ret (.bool (decide (items.size > items2.size))))) _:=hR
   wp_walk
   exact⟨_,rfl,by simpa[Builtin.Tuple.tupleCompareSizes] using hR⟩
  case h=>
   exact⟨rfl,rfl,0,min items.size items2.size,by omega,rfl,fun q hq=>absurd hq (dq _),h⟩
end
noncomputable def ordL(g:Bool)(eq od:D->D->Option Bool):List D->List D->Option Bool
 |x::xs,y::ys=>match eq x y with
  |some true=>ordL g eq od xs ys
  |some false=>od x y
  |none=>none
 |xs,ys=>some (if g then decide (xs.length<ys.length)else decide (ys.length<xs.length))
noncomputable def ordN(b:Hb)(g:Bool):Nat->D->D->Option Bool
 |0,_,_=>none
 |n+1,d,e=>match d,e with
  |.int i,.int j=>some (if g then decide (i<j)else decide (j<i))
  |.str i,.str j=>some (if g then decide (i.cps.toList<j.cps.toList)else decide (j.cps.toList<i.cps.toList))
  |.tup xs,.tup ys=>ordL g (eqN b n) (ordN b g n) xs ys
  |.lst xs,.lst ys=>if g then ordL g (eqN b n) (ordN b g n) xs ys else none
  |_,_=>none
theorem yL{g:Bool}{eq od:D->D->Option Bool}:∀{xs ys:List D}{b:Bool},ordL g eq od xs ys=some b->∃e r:Nat->Bool,
  (∀(j:Nat) x y,xs[j]?=some x->ys[j]?=some y->(∀k,k<j->e k=true)->eq x y=some (e j))/\(∀(j:Nat) x y,xs[j]?=some x->ys[j]?=some y->(∀k,k<j->e k=true)->e j=false->od x y=some (r j))/\
  b=ordE e r (if g then decide (xs.length<ys.length)else decide (ys.length<xs.length)) 0 (min xs.length ys.length)
 |[],ys,b,h=>by
  have h':some (if g=true then decide (([]:List D).length<ys.length)else decide (ys.length<([]:List D).length))=some b:=by cases ys <;> exact h
  cases h';exact⟨fun _=>true,fun _=>true,fun j x y h=>by simp at h,fun j x y h=>by simp at h,by rw[gC,Nat.zero_min];rfl⟩
 |x::xs,[],b,h=>by
  have h':some (if g=true then decide ((x::xs).length<([]:List D).length)else decide (([]:List D).length<(x::xs).length))=some b:=h;cases h';exact⟨fun _=>true,fun _=>true,fun j x y _ h=>by simp at h,fun j x y _ h=>by simp at h,by rw[gC,Nat.min_zero];rfl⟩
 |x::xs,y::ys,b,h=>by
  have h':(match eq x y with|some true=>ordL g eq od xs ys|some false=>od x y|none=>none)=some b:=h;have hm:min (x::xs).length (y::ys).length=min xs.length ys.length+1:=by simp only[bO];omega
  cases q:eq x y with
  |none=>rw[q]at h';cases h'
  |some c=>
   rw[q]at h';cases c with
   |true=>
    obtain⟨e,r,h1,h2,h3⟩:=yL (show ordL g eq od xs ys=some b from h');have shift:∀(t:Bool) k i,ordE (fun j=>match j with|0=>true|j+1=>e j) (fun j=>match j with|0=>true|j+1=>r j) t (i+1) k=ordE e r t i k:=fun t k=>by
     induction k with
     |zero=>intro i;rfl
     |succ k ih=>intro i;show(if e i=true then _ else _)=(if e i=true then _ else _);rw[ih (i+1)]
    refine⟨fun j=>match j with|0=>true|j+1=>e j,fun j=>match j with|0=>true|j+1=>r j,fun j u v hu hv hk=>?_,fun j u v hu hv hk hf=>?_,?_⟩
    ·cases j with
     |zero=>cases hu;cases hv;exact q
     |succ j=>exact h1 j u v (by simpa using hu) (by simpa using hv) fun k hk'=>hk (k+1) (by omega)
    ·cases j with
     |zero=>cases hf
     |succ j=>exact h2 j u v (by simpa using hu) (by simpa using hv) (fun k hk'=>hk (k+1) (by omega)) hf
    ·rw[hm,h3]
     show _=(if true=true then _ else _);rw[aE rfl,shift];simp only[bO,Nat.add_lt_add_iff_right]
   |false=>
    have h':od x y=some b:=h';refine⟨fun _=>false,fun _=>b,fun j u v hu hv hk=>?_,fun j u v hu hv hk _=>?_,?_⟩
    ·cases j with
     |zero=>cases hu;cases hv;exact q
     |succ j=>exact absurd (hk 0 (by omega)) (by decide)
    ·cases j with
     |zero=>cases hu;cases hv;exact h'
     |succ j=>exact absurd (hk 0 (by omega)) (by decide)
    ·rw[hm];rfl
noncomputable def copO(g:Bool):CmpOp:=if g then .Lt else .Gt
end E
namespace E
open PySem PySem.Spec PyProof PyProof.Rows L2 SeqAt
theorem QB{W:Wd}{c:Co}{b:Hb}{s:Shared}(S:Sto W c b s.heap)(g:Bool):∀(n:Nat){A:Around}{u v:Value}{d e:D}{r:Bool},A.units+1+n<cLine->Rep W c d u->Rep W c e v->ordN b g n d e=some r->RcO (copO g) A s u v r
 |0,_,_,_,_,_,_,_,_,_,h=>by cases h
 |n+1,A,u,v,d,e,r,hu,r1,r2,h=>by
  have hu0:A.units<cLine:=by omega
  have items:∀{ds ds':List D}{us us':iH}{e r:Nat->Bool},Reps W c ds us->Reps W c ds' us'->
    (∀(j:Nat) x y,ds[j]?=some x->ds'[j]?=some y->(∀k,k<j->e k=true)->eqN b n x y=some (e j))->(∀(j:Nat) x y,ds[j]?=some x->ds'[j]?=some y->(∀k,k<j->e k=true)->e j=false->ordN b g n x y=some (r j))->
    (∀j(h1:j<us.toArray.size)(h2:j<us'.toArray.size),(∀k,k<j->e k=true)->EqAt A.in1 s us.toArray[j] us'.toArray[j] (e j))/\(∀j(h1:j<us.toArray.size)(h2:j<us'.toArray.size),(∀k,k<j->e k=true)->e j=false->RcO (copO g) A.in1 s us.toArray[j] us'.toArray[j] (r j)):=by
   intro ds ds' us us' e r rs rs' k1 k2;have w:∀j(h1:j<us.toArray.size)(h2:j<us'.toArray.size),∃d1 d2,Rep W c d1 us.toArray[j]/\Rep W c d2 us'.toArray[j]/\ds[j]?=some d1/\ds'[j]?=some d2:=fun j h1 h2=>by
    have h1':j<us.length:=by simpa using h1
    have h2':j<us'.length:=by simpa using h2
    have g1:=ak (rs.len▸h1');have g2:=ak (rs'.len▸h2');obtain⟨x1,b1,q1⟩:=rs.at g1;obtain⟨x2,b2,q2⟩:=rs'.at g2;rw[ak h1']at b1;cases b1;rw[ak h2']at b2;cases b2;exact⟨_,_,by simpa using q1,by simpa using q2,g1,g2⟩
   refine⟨fun j h1 h2 hk=>?_,fun j h1 h2 hk hf=>?_⟩
   ·obtain⟨d1,d2,a1,a2,a5,a6⟩:=w j h1 h2
    exact(kZ S n (A:=A.in1) (by show A.units+1+1+n<_;omega) a1 a2 (k1 j _ _ a5 a6 hk)).2
   ·obtain⟨d1,d2,a1,a2,a5,a6⟩:=w j h1 h2
    exact QB S g n (A:=A.in1) (by show A.units+1+1+n<_;omega) a1 a2 (k2 j _ _ a5 a6 hk hf)
  unfold ordN at h
  split at h
  ·cases h
   obtain⟨t,rfl⟩:=r1;obtain⟨t',rfl⟩:=r2;intro prog w E Q hq;cases g with
   |true=>exact(PyProof.Rows.lt_int hq:wpAny (model prog w) A (compareOp .Lt _ _) Q E s)
   |false=>exact(PyProof.Rows.gt_int hq:wpAny (model prog w) A (compareOp .Gt _ _) Q E s)
  ·cases h
   obtain⟨t,rfl⟩:=r1;obtain⟨t',rfl⟩:=r2;intro prog w E Q hq;cases g with
   |true=>exact(PyProof.Rows.lt_str hq:wpAny (model prog w) A (compareOp .Lt _ _) Q E s)
   |false=>exact(PySem.P.gt_str hq:wpAny (model prog w) A (compareOp .Gt _ _) Q E s)
  ·obtain⟨a,o,us,rfl,ho,⟨_,n1,rfl⟩,rs⟩:=S.tup r1
   obtain⟨a',o',us',rfl,ho',⟨_,n2,rfl⟩,rs'⟩:=S.tup r2;obtain⟨e,q,k1,k2,rfl⟩:=yL h;obtain⟨m1,m2⟩:=items rs rs' k1 k2;intro prog w E Q hq;rw[<- rs.len,<- rs'.len]at hq;cases g with
   |true=>exact fP (op:=.Lt) ⟨_,ho,rfl⟩ ⟨_,ho',rfl⟩ PySem.F.slot_tuple_lt PySem.F.entry_tuple_lt (PySem.F.args_tuple_lt_2 _ _) (Yp a a' us.toArray us'.toArray n1 n2 none none #[] #[] e q) ⟨ho,ho',m1,m2,(fun z=>nomatch z),by simpa using hq⟩ hu0
   |false=>exact fP (op:=.Gt) ⟨_,ho,rfl⟩ ⟨_,ho',rfl⟩ PySem.F.slot_tuple_gt PySem.F.entry_tuple_gt (PySem.F.args_tuple_gt_2 _ _) (Yq a a' us.toArray us'.toArray n1 n2 none none #[] #[] e q) ⟨ho,ho',m1,m2,(fun z=>nomatch z),by simpa using hq⟩ hu0
  ·cases g with
   |false=>cases h
   |true=>
    obtain⟨a,o,us,rfl,ho,⟨_,n1,rfl⟩,rs⟩:=S.lst r1 rfl;obtain⟨a',o',us',rfl,ho',⟨_,n2,rfl⟩,rs'⟩:=S.lst r2 rfl;obtain⟨e,q,k1,k2,rfl⟩:=yL (show ordL true (eqN b n) (ordN b true n) _ _=some r from h);obtain⟨m1,m2⟩:=items rs rs' k1 k2;intro prog w E Q hq;rw[<- rs.len,<- rs'.len]at hq;exact fP (op:=.Lt) ⟨_,ho,rfl⟩ ⟨_,ho',rfl⟩ PySem.F.slot_list_lt PySem.F.entry_list_lt (PySem.F.args_list_lt_2 _ _) (YY a a' us.toArray us'.toArray n1 n2 none none #[] #[] e q) ⟨ho,ho',m1,m2,(fun z=>nomatch z),by simpa using hq⟩ hu0
  ·cases h
end E
namespace E
open PySem PySem.Spec PyProof PyProof.Rows L2
noncomputable def mmN(g:Bool):String:=if g then "min" else "max"
noncomputable def mmL(g:Bool):String:=if g then "min.loop" else "max.loop"
noncomputable def mmB(g:Bool):Builtin:=if g then Builtin.«min.loop» else Builtin.«max.loop»
theorem QE:∀g,entryFor table (mmL g)=some (mmB g)
 |true=>F.entry_min_loop
 |false=>F.entry_max_loop
theorem kz:∀g,plainId (mmL g)=true
 |true=>F.plain_min_loop
 |false=>F.plain_max_loop
section
variable{prog:Program}{w:World}{A:Around}{R:Result->Shared->Prop}{it:Addr}{fs ws:iG}{n:Nat}{Pv:Nat->Value->Prop}{St:Nat->Heap->Prop}
theorem turns(g:Bool)(Wk:Walks prog w A.in1 it fs ws n Pv St)(G:Shared->Prop)(z:Addr)(hz:z∉fs)(kG:∀(t:Shared)(h2:Heap)(tk:Nat),G t->(∀q o,q∉ws->q≠z->t.heap.get? q=some o->h2.get? q=some o)->G { t with heap:=h2,toks:=tk })(bt:Nat->Nat->Bool)
  (cmp:∀i j u v(t:Shared)(Q:iE)(E:iE),Pv i u->Pv j v->G t->Q (.bool (bt i j)) t->wpAny (model prog w) A.in1 (richCompare (copO g) u v) Q E t)(pos:0<n) :
  ∀(left j:Nat)(s:Shared)(its:iJ)(ep:Nat),j+left=n->St j s.heap->G s->((j=0/\its=#[])\/∃u,0<j/\Pv (argBest bt (j - 1)) u/\its=#[u,u])->s.heap.get? z=some { cls:=.type "list",dict:=none,data:=.seq its ep,slots:=#[] }->
  (∀v h2 tk,Pv (argBest bt (n - 1)) v->G { s with heap:=h2,toks:=tk }->(∀q o,q∉ws->q≠z->s.heap.get? q=some o->h2.get? q=some o)->R (.ok (.ret v)) { s with heap:=h2,toks:=tk })->codeAny (model prog w) A (.builtin (mmL g) ⟨[.ref it,.none,.ref z],[]⟩) R s:=by
 have zw:z∉ws:=fun q=>hz (Wk.sub _ q)
 have nm1:(toString "min"++toString ".loop":String)=mmL true:=by decide
 have nm2:(toString "max"++toString ".loop":String)=mmL false:=by decide
 intro left
 induction left with
 |zero=>
  intro j s its ep hj st hG hb hS fin;obtain rfl:j=n:=by omega
  rcases hb with⟨e,_⟩|⟨u,_,hu,rfl⟩
  ·omega
  refine c9 (QE g) ?_;rw[bH (kz g) _];cases g <;> (
  show wpAny _ A.in1 (seqItems? (.ref z) >>= _) _ _ s;refine aa (dY hS rfl ?_);show wpAny _ A.in1 (tryCatch (pyNext (.ref it)) _ >>= _) _ _ s;refine aa (gb (Wk.done s _ _ st fun h1 tk k1=>?_));have hS1:=k1 z _ zw hS;show wpAny _ A.in1 (updateSeq z (fun _=>#[]) >>= _) _ _ _;refine aa (gF hS1 rfl (aa (et (ae ?_))));have keep:∀q o,q∉ws->q≠z->s.heap.get? q=some o->(h1.update z (Obj.mapSeq fun _=>#[])).get? q=some o:=fun q o a1 a2 e=>(bg _ _ (bN a2)).trans (k1 q o a1 e)
  exact fin u _ tk hu (kG _ _ _ hG keep) keep)
 |succ left ih=>
  intro j s its ep hj st hG hb hS fin;have go:∀v h1 tk,Pv j v->St (j+1) h1->(∀q o,q∉ws->s.heap.get? q=some o->h1.get? q=some o)->∀(its2:iJ)(ep2:Nat)(h2:Heap),(∀q o,q≠z->h1.get? q=some o->h2.get? q=some o)->h2.get? z=some { cls:=.type "list",dict:=none,data:=.seq its2 ep2,slots:=#[] }->
    (∃u,Pv (argBest bt j) u/\its2=#[u,u])->codeAny (model prog w) A (.builtin (mmL g) ⟨[.ref it,.none,.ref z],[]⟩) R { s with heap:=h2,toks:=tk }:=fun v h1 tk hP st1 k1 its2 ep2 h2 k2 hS2⟨u,hu,e2⟩=>by
   have keep:∀q o,q∉ws->q≠z->s.heap.get? q=some o->h2.get? q=some o:=fun q o a1 a2 e=>k2 q o a2 (k1 q o a1 e)
   refine ih (j+1) _ its2 ep2 (by omega) (Wk.frame _ _ _ st1 fun q hq o e=>k2 q o (fun y=>hz (y▸hq)) e) (kG _ _ _ hG keep) (.inr ⟨u,by omega,hu,e2⟩) hS2 fun v' h3 tk' hP' G3 k3=>?_
   exact fin v' h3 tk' hP' G3 fun q o a1 a2 e=>k3 q o a1 a2 (keep q o a1 a2 e)
  refine c9 (QE g) ?_;rw[bH (kz g) _];cases g <;> (
  show wpAny _ A.in1 (seqItems? (.ref z) >>= _) _ _ s;refine aa (dY hS rfl ?_);rcases hb with⟨rfl,rfl⟩|⟨u,j0,hu,rfl⟩
  ·show wpAny _ A.in1 (tryCatch (pyNext (.ref it)) _ >>= _) _ _ s
   refine aa (gb (Wk.item 0 s _ _ pos st fun v h1 tk hP st1 k1=>?_));have hS1:=k1 z _ zw hS;show wpAny _ A.in1 (updateSeq z (fun _=>#[v,v]) >>= _) _ _ _;refine aa (gF hS1 rfl ?_)
   first|rw[nm1]|rw[nm2]
   exact ae ⟨cK (kz _) _,go v h1 tk hP st1 k1 _ _ _ (fun q o a2 e=>(bg _ _ (bN a2)).trans e) (bc _ hS1 rfl) ⟨v,hP,rfl⟩⟩
  ·show wpAny _ A.in1 (tryCatch (pyNext (.ref it)) _ >>= _) _ _ s
   refine aa (gb (Wk.item j s _ _ (by omega) st fun v h1 tk hP st1 k1=>?_));have hS1:=k1 z _ zw hS;have G1:G { s with heap:=h1,toks:=tk }:=kG _ _ _ hG fun q o a1 _ e=>k1 q o a1 e
   show wpAny _ A.in1 (tryCatch (holding [v,v] (richCompare _ v u >>= _)) _ >>= _) _ _ _;refine aa (gb (aK (aa (cmp j (argBest bt (j - 1)) v u _ _ _ hP hu G1 ?_))));refine aa (aK (bK (aa (et (ae ?_)))));have eb:argBest bt j=if bt j (argBest bt (j - 1))=true then j else argBest bt (j - 1):=by
    obtain⟨i,rfl⟩:∃i,j=i+1:=⟨j - 1,by omega⟩;rfl
   cases hbt:bt j (argBest bt (j - 1))with
   |true=>
    rw[hbt,aE rfl]at eb;simp only[dy];refine aa (gF hS1 rfl (aa (et ?_)))
    first|rw[nm1]|rw[nm2]
    exact ae ⟨cK (kz _) _,go v h1 tk hP st1 k1 _ _ _ (fun q o a2 e=>(bg _ _ (bN a2)).trans e) (bc _ hS1 rfl) ⟨v,by rw[eb];exact hP,rfl⟩⟩
   |false=>
    rw[hbt,ax (by decide)]at eb;simp only[aR,bR];refine aa (et ?_)
    first|rw[nm1]|rw[nm2]
    exact ae ⟨cK (kz _) _,go v h1 tk hP st1 k1 _ _ h1 (fun q o _ e=>e) hS1 ⟨u,by rw[eb];exact hu,rfl⟩⟩)
end
noncomputable def wN(b:Hb)(g:Bool)(ds:List D):Nat->Option Nat
 |0=>some 0
 |k+1=>match wN b g ds k with
  |none=>none
  |some j=>match ds[k+1]?,ds[j]? with
   |some d,some e=>(match ordN b g 6 d e with|some true=>some (k+1)|some false=>some j|none=>none)
   |_,_=>none
noncomputable def minD(b:Hb)(g:Bool)(ds:List D):Option D:=if ds.isEmpty=true then none else(wN b g ds (ds.length - 1)).bind fun j=>ds[j]?
noncomputable def btD(b:Hb)(g:Bool)(ds:List D)(i j:Nat):Bool:=match ds[i]?,ds[j]? with
 |some d,some e=>(match ordN b g 6 d e with|some true=>true|_=>false)
 |_,_=>false
theorem W2{b:Hb}{g:Bool}{ds:List D}{i j:Nat}{d e:D}{r:Bool}(h1:ds[i]?=some d)(h2:ds[j]?=some e)(h:ordN b g 6 d e=some r):btD b g ds i j=r:=by
 unfold btD;rw[h1,h2];simp only[h];cases r <;> rfl
theorem Za{b:Hb}{g:Bool}{ds:List D}:∀{k j:Nat},wN b g ds k=some j->argBest (btD b g ds) k=j
 |0,j,h=>by cases h;rfl
 |k+1,j,h=>by
  unfold wN at h;cases e1:wN b g ds k with
  |none=>simp only[e1]at h;cases h
  |some i=>
   simp only[e1]at h;have ih:=Za e1;cases e2:ds[k+1]? with
   |none=>simp only[e2]at h;cases h
   |some d=>
    cases e3:ds[i]? with
    |none=>simp only[e2,e3]at h;cases h
    |some e=>
     simp only[e2,e3]at h;show(if btD b g ds (k+1) (argBest (btD b g ds) k)=true then k+1 else argBest (btD b g ds) k)=j;rw[ih];cases e4:ordN b g 6 d e with
     |none=>simp only[e4]at h;cases h
     |some q=>
      cases q with
      |true=>
       simp only[e4]at h;cases h;rw[W2 e2 e3 e4,aE rfl]
      |false=>
       simp only[e4]at h;cases h;rw[W2 e2 e3 e4,ax (by decide)]
section
variable{X:Cx}
noncomputable def iMM(g:Bool)(b:Hb)(d:D):Option Res:=(kQ b d).bind fun l=>if l.all (fun d=>l.all fun e=>(ordN b g 6 d e).isSome)=true then(minD b g l).map .v else none
theorem qau(hc:X.calm=true)(hu:X.A.units+64<cLine)(g:Bool):Op X (fun us=>call (.builtin (mmN g)) us) (gN (g1 (iMM g))):=.one (fun _=>rfl) fun{p sc b c s u d r Q Z} I r1 e q=>by
 obtain⟨l,e1,e⟩:=ai.mp e
 split at e
 ·rename_i hall
  obtain⟨m,hm,rfl⟩:=ah.mp e;unfold minD at hm
  split at hm
  ·cases hm
  rename_i hne;obtain⟨j,hb,hj⟩:=ai.mp hm;obtain⟨a,us,rfl,rs,hz,gl⟩:=I.st.seq r1 e1;have lds:us.toArray.size=l.length:=by rw[au,rs.len]
  have pos:0<l.length:=by
   cases l with
   |nil=>exact absurd rfl hne
   |cons=>simp
  have bt:argBest (btD b g l) (us.toArray.size - 1)=j:=by rw[lds];exact Za hb
  have hh:=I.ok.hd hc;have lt:a<s.heap.objs.size:=gl.elim (fun⟨_,_,k,_⟩=>aA k) fun⟨_,k,_⟩=>aA k
  have run:∀(o:Obj)(St:Nat->Heap->Prop),Walks X.W.prog X.W.w X.A.in1 s.heap.objs.size [s.heap.objs.size,a] [s.heap.objs.size] us.toArray.size (fun i v=>us.toArray[i]?=some v) St->St 0 (s.heap.push o)->
    codeAny X.M X.A (.builtin (mmL g) ⟨[.ref s.heap.objs.size,.none,.ref (s.heap.push o).objs.size],[]⟩) (wants Q Z) { s with heap:=(s.heap.push o).push { cls:=.type "list",data:=.seq #[] } }:=fun o St Wk st=>by
   have sz:(s.heap.push o).objs.size=s.heap.objs.size+1:=dj ..;have kG:∀(t:Shared)(h2:Heap)(tk:Nat),(∃h tk,t={ s with heap:=h,toks:=tk }/\∀b o,s.heap.get? b=some o->h.get? b=some o)->(∀q o',q∉[s.heap.objs.size]->q≠(s.heap.push o).objs.size->t.heap.get? q=some o'->h2.get? q=some o')->∃h tk',({ t with heap:=h2,toks:=tk }:Shared)={ s with heap:=h,toks:=tk' }/\∀b o,s.heap.get? b=some o->h.get? b=some o:=by
    rintro t h2 tk ⟨h1,tk1,rfl,k1⟩ k2;refine⟨h2,tk,rfl,fun b o e=>k2 b o (fun z=>?_) (fun z=>?_) (k1 b o e)⟩ <;> have:=aA e
    ·rw[aD.mp z]at this;exact cL _ this
    ·rw[z,sz]at this;exact cL _ (eB this (bu _))
   refine turns g Wk (fun t=>∃h tk,t={ s with heap:=h,toks:=tk }/\∀b o,s.heap.get? b=some o->h.get? b=some o) _ (fun z=>?_) kG (btD b g l) (fun i k u v t Q' E' hi hk hG hq=>?_) (by rw[lds];exact pos) us.toArray.size 0 _ #[] _ (by omega) (Wk.frame 0 _ _ st fun b _ o e=>af _ e) ⟨_,_,rfl,fun b o e=>af _ (af _ e)⟩ (.inl ⟨rfl,rfl⟩) (ao _ rfl) fun v h2 tk hP hG _=>?_
   ·rw[sz]at z
    simp only[aw,aL,bZ]at z;rcases z with z|z
    ·exact Nat.succ_ne_self _ z
    ·exact cL _ (eB (z▸lt) (bu _))
   ·have at_:∀{i:Nat}{u:Value},us.toArray[i]?=some u->∃d,l[i]?=some d/\Rep X.W c d u:=fun{i u} h=>by
     have h:us[i]?=some u:=by simpa using h
     have hi:=(ag.mp h).1;have g1:=ak (rs.len▸hi);obtain⟨x,b1,q1⟩:=rs.at g1;rw[h]at b1;cases b1;exact⟨_,g1,q1⟩
    obtain⟨d1,e1,w1⟩:=at_ hi;obtain⟨d2,e2,w2⟩:=at_ hk;obtain⟨r0,hb'⟩:=bA.mp (aP.mp (aP.mp hall d1 (aB e1)) d2 (aB e2));rw[W2 e1 e2 hb']at hq;obtain⟨h,tk,rfl,hG⟩:=hG;exact QB (I.kept (t':=tk) hG).st g 6 (A:=X.A.in1) (by show X.A.units+1+1+6<_;omega) w1 w2 hb' _ _ E' Q' hq
   ·rw[bt]at hP
    obtain⟨x,b1,q1⟩:=rs.at hj;have hP:us[j]?=some v:=by simpa using hP
    rw[hP]at b1;cases b1;obtain⟨h3,tk3,e3,k3⟩:=hG;have e4:h2=h3:=bY Shared.heap e3;subst e4;exact q v _ c (I.kept (t':=tk) k3) .refl q1
  have go:wpAny X.M X.A.in1 (pyIter (.ref a)) (fun it s2=>∃o St,it=.ref s.heap.objs.size/\s2={ s with heap:=s.heap.push o }/\Walks X.W.prog X.W.w X.A.in1 s.heap.objs.size [s.heap.objs.size,a] [s.heap.objs.size] us.toArray.size (fun i v=>us.toArray[i]?=some v) St/\St 0 (s.heap.push o)) Z s:=by
   rcases gl with k|k
   ·exact fV k.isList ⟨_,_,rfl,rfl,Walks.list (A:=X.A.in1) hh _ a (aH lt) us.toArray,⟨_,ao _ rfl,rfl,rfl⟩,k.isList.push _⟩
   ·exact f7 k ⟨_,_,rfl,rfl,Walks.tuple (A:=X.A.in1) hh _ a (aH lt) us.toArray,⟨_,ao _ rfl,rfl,rfl⟩,IsTup.push k _⟩
  cases g with
  |true=>
   refine call_function_tree F.kind_min F.plain_min F.entry_min (F.args_min1 _) ?_;show wpAny _ X.A.in1 (Builtin.Builtins.bindParams "min" ["key","default"] 0 ⟨[],[]⟩ >>= _) _ _ s;refine aa (fU (show Builtin.Builtins.bindParams "min" ["key","default"] 0 ⟨[],[]⟩=pure [none,none] from rfl) (aa (ae (aa (aY go (fun it s2⟨o,St,e1,e2,Wk,st⟩=>?_) fun _ _ e=>e)))));subst e1 e2;refine aa (aN ?_);rw[show(toString "min"++toString ".loop":String)=mmL true by decide];exact ae ⟨cK F.plain_min_loop _,run o St Wk st⟩
  |false=>
   refine call_function_tree F.kind_max F.plain_max F.entry_max (F.args_max1 _) ?_;show wpAny _ X.A.in1 (Builtin.Builtins.bindParams "max" ["key","default"] 0 ⟨[],[]⟩ >>= _) _ _ s;refine aa (fU (show Builtin.Builtins.bindParams "max" ["key","default"] 0 ⟨[],[]⟩=pure [none,none] from rfl) (aa (ae (aa (aY go (fun it s2⟨o,St,e1,e2,Wk,st⟩=>?_) fun _ _ e=>e)))));subst e1 e2;refine aa (aN ?_);rw[show(toString "max"++toString ".loop":String)=mmL false by decide];exact ae ⟨cK F.plain_max_loop _,run o St Wk st⟩
 ·cases e
end
end E
namespace E
open PySem PySem.Spec PyProof.Rows L2
theorem Zi{α:Type}{xs:List α}{i:Nat}{x:α}(h:xs[i]?=some x):xs.take (i+1)=xs.take i++[x]:=by
 rw[List.take_succ,h];rfl
section
variable{prog:Program}{w:World}{A:Around}{E:iE}{s:Shared}
theorem Jq{a:Addr}{o:Obj}{xs:iJ}{k:Nat}{Q:Option Value->Shared->Prop}
  (hx:s.heap.get? a=some o)(hc:o.cls=.type "list")(hdat:o.data=.seq xs k)(hd:o.dict=none)(hA:A.handled=none)
  (h:∀h' tk,(∀b ob,s.heap.get? b=some ob->h'.get? b=some ob)->Q none { s with heap:=h',toks:=tk }) :
  wpAny (model prog w) A (getAttr? (.ref a) "keys") Q E s:=by
 obtain⟨c,dct,dat,sl⟩:=o;simp only at hc hdat hd;subst hc hdat hd;obtain⟨hp,g,d,tk,os⟩:=s;have hT:∀tk',(⟨hp,g,d,tk',os⟩:Shared).TypeIs (.ref a) "list":=fun _=>⟨_,hx,rfl⟩
 have hmiss:typeLookup (.type "list") "keys"=pure none:=am_miss_of_fast (by decide +kernel);have f1:=sub_AttributeError;have f3:=dH.lookup;have f4:=dH.bind (.ref a);have f5:=am_list_getattr_none;unfold getAttr? getAttrBy? getAttrBy
 repeat (any_goals (first|assumption|exact hT _|((with_reducible show wpAny _ _ (call (Value.builtin "list.__getattribute__") _ _) _ _ _);refine gY dH (hT _) am_entry_list_getattribute (PySem.F.args_list_getattribute_2 _ _) (meets_getattribute_miss_list a xs k sl "keys" _ hmiss (by decide +kernel) (by size_fits)) ⟨hx,hA,fun h' tk' e hx'=>?_⟩)|wp_step))
 obtain⟨t',u',he⟩:=hx'.there;show wpAny _ _ (getattributeRaised _ _ _ _ _ _ _) _ _ _;unfold getattributeRaised
 repeat (any_goals (first|assumption|wp_step))
 exact h h' tk' hx'.keeps
end
theorem yi:entryFor table "dict.update.loop"=some Builtin.«dict.update.loop»:=entryFor_of_tree (by kernel_rfl)
theorem km:plainId "dict.update.loop"=true:=by decide +kernel
section
variable{prog:Program}{w:World}{A:Around}{R:Result->Shared->Prop}{I:Addr}{fp wr:iG}{G:Array GenState->Array GenState->Prop}{n:Nat}{St:Nat->Shared->Prop}
theorem Zv{K:Type}[DecidableEq K](knd:KeyKind prog w K){P:Nat->Value->Prop}(W:WalksS prog w A.in1 I fp wr G n P St)(S:Addr)(hSf:S∉fp)(h0:Heap)(kvs:List (K×Value))(hn:kvs.length=n)(nd:(kvs.map (·.1)).Nodup)(hz:n<=sizeLine)
  (hval:∀i v,P i v->∃q k key x,v=.ref q/\kvs[i]?=some (k,x)/\knd.is k key=true/\q∉S::wr/\∃o m,h0.get? q=some o/\o.cls=.type "tuple"/\o.data=.seq #[key,x] m) :
  ∀(j i:Nat)(s:Shared),n - i=j->i<=n->St i s->s.heap.DictOf knd S (kvs.take i)->(∀b o,b∉S::wr->h0.get? b=some o->s.heap.get? b=some o)->
   (∀s',Moved (S::wr) G s s'->s'.heap.DictOf knd S kvs->R (.ok (.ret .none)) s')->
   codeAny (model prog w) A (.builtin "dict.update.loop" ⟨[.ref S,.ref I,rawInt i,.none],[]⟩) R s:=by
 have hSw:S∉wr:=fun h=>hSf (W.sub _ h)
 have up:∀b∈wr,b∈S::wr:=fun b hb=>ay _ hb
 intro j
 induction j with
 |zero=>
  intro i s hk hi hst hS hkeep hR;have e:i=n:=by omega
  subst e;refine c9 yi ?_;rw[bH km _];show wpAny _ A.in1 (pyNext (.ref I) >>= _) _ _ s;refine aa (W.done s _ _ hst fun s' hm=>?_);show wpAny _ A.in1 (Builtin.Dict.addKeywords S [] >>= _) _ _ s';refine aa (ae ?_);refine ae (hR s' (hm.mono up) ?_);rw[<- hn,List.take_length]at hS;obtain⟨o,es,ep,ho,rest⟩:=hS;exact⟨o,es,ep,hm.heap S _ hSw ho,rest⟩
 |succ j ih=>
  intro i s hk hi hst hS hkeep hR;have lt:i<n:=by omega
  refine c9 yi ?_;rw[bH km _];show wpAny _ A.in1 (pyNext (.ref I) >>= _) _ _ s;refine aa (W.item i s _ _ lt hst fun v s' hP hst' hm=>?_);obtain⟨q,k,key,x,rfl,hx,hkey,hq,o,m,ho,hoc,hod⟩:=hval i v hP;have hS':s'.heap.DictOf knd S (kvs.take i):=by
   obtain⟨o,es,ep,ho,rest⟩:=hS;exact⟨o,es,ep,hm.heap S _ hSw ho,rest⟩
  have hkeep':∀b o,b∉S::wr->h0.get? b=some o->s'.heap.get? b=some o:=fun b o hb e=>hm.heap b o (fun z=>hb (up b z)) (hkeep b o hb e)
  have ht:=hkeep' q o hq ho;have new:k∉(kvs.take i).map (·.1):=fun z=>by
   rw[List.map_take]at z;obtain⟨j',hj⟩:=cM.mp z;rw[List.getElem?_take]at hj
   split at hj
   ·rename_i hji
    have e1:(kvs.map (·.1))[i]?=some k:=by rw[aW,hx];rfl
    have:=(hV (by rw[aM];omega) nd).mp (hj.trans e1.symm);omega
   ·cases hj
  have es:stored (kvs.take i) k x=kvs.take (i+1):=by
   unfold stored;rw[ax,Zi hx];rw[cE];rintro⟨kv,hkv,he⟩;exact new (aQ.mpr ⟨kv,hkv,cI he⟩)
  show wpAny _ A.in1 (holding [Value.ref q] _ >>= _) _ _ s';refine aa (aK (aa ?_));refine gb ?_;unfold Builtin.Dict.pairItems;refine aa (gf (T:="tuple") ⟨o,ht,hoc⟩ ?_);rw[aE (by decide)];refine aa (dY ht hod (ae ?_));show wpAny _ A.in1 (holding [key,x] (dictSet S key x)) _ _ s';refine aK (wpAny_dictSet_pairs hkey hS' (fun h' hD hsb=>?_) (by rw[gu];omega));rw[es]at hD;refine ae ⟨cK km _,?_⟩;have ei:rawInt ((i:Int)+1)=rawInt ((i+1:Nat):Int):=by push_cast;rfl
  show codeAny _ _ (.builtin "dict.update.loop" ⟨[.ref S,.ref I,rawInt ((i:Int)+1),.none],[]⟩) _ _;rw[ei];refine ih (i+1) _ (by omega) lt (W.frame _ s' _ _ hst' (fX _) fun b hb o e=>?_) hD (fun b o hb e=>?_) fun s'' hm'' hS''=>?_
  ·rw[hsb.2 b (fun h:b=S=>hSf (by rw[<- h];exact hb))];exact e
  ·rw[hsb.2 b (fun h:b=S=>hb (by rw[h];exact aC))];exact hkeep' b o hb e
  ·refine hR s'' (Moved.trans W.gtrans ((hm.mono up).then_heap (fX _) fun b o hb e=>?_) hm'') hS''
   rw[hsb.2 b (fun h:b=S=>hb (by rw[h];exact aC))];exact e
end
section
variable{prog:Program}{w:World}{A:Around}{E:iE}{s:Shared}
theorem wK{K:Type}[DecidableEq K]{knd:KeyKind prog w K}{l:Addr}{ol:Obj}{items:iJ}{nl:Nat}{kvs:List (K×Value)}{Q:iE}(hh:A.handled=none)(hol:s.heap.get? l=some ol)(hc:ol.cls=.type "list")(hd:ol.dict=none)(hdat:ol.data=.seq items nl)
  (hi:∀(i:Nat)(v:Value),items[i]?=some v->∃(q:Addr)(k:K)(key x:Value),v=Value.ref q/\kvs[i]?=some (k,x)/\knd.is k key=true/\∃o m,s.heap.get? q=some o/\o.cls=.type "tuple"/\o.data=.seq #[key,x] m)(hn:kvs.length=items.size)(nd:(kvs.map (·.1)).Nodup)(hz:items.size<=sizeLine)
  (h:∀h' tk,h'.DictOf knd s.heap.objs.size kvs->(∀b o,s.heap.get? b=some o->h'.get? b=some o)->Q (.ref s.heap.objs.size) { s with heap:=h',toks:=tk }) :
  wpAny (model prog w) A (call (.type "dict") [.ref l]) Q E s:=by
 refine callType_codes (Q₁:=fun obj s₁=>obj=.ref s.heap.objs.size/\s₁={ s with heap:=s.heap.push { cls:=.type "dict",data:=.dict #[] } }) F.kt_called_dict (F.kt_typeCall_dict_1 _) F.entry_dict_init (kt_code_dict_new _ ⟨rfl,rfl⟩) ?_;rintro obj s₁ ⟨rfl,rfl⟩;have hnew:(s.heap.push { cls:=.type "dict",data:=.dict #[] }).DictOf knd s.heap.objs.size []:=Heap.DictOf.new s.heap;have hol':(s.heap.push { cls:=.type "dict",data:=.dict #[] }).get? l=some ol:=af _ hol;refine⟨hnew.typeIs,F.args_dict_init_2 _ _,?_⟩;unfold Builtin.«dict.__init__»;refine aa ?_;unfold Builtin.Dict.selfAndRest;refine aa (bW hnew.typeIs ?_);show wpAny _ _ (pure (s.heap.objs.size,[Value.ref l])) _ _ _;refine ae ?_;show wpAny _ _ (Builtin.Dict.updateFrom "dict.__init__" s.heap.objs.size (.ref l) [] .none) _ _ _;unfold Builtin.Dict.updateFrom;refine aa (gf (T:="list") ⟨_,hol',hc⟩ ?_);rw[aE (by decide)];have z2:A.in1.in1.handled=none:=by simp[hh]
 refine aa (Jq hol' hc hdat hd z2 fun h1 tk1 keep=>?_);rw[aE (by rfl)];have hl1:h1.IsList l items:=⟨ol,keep l ol hol',hc,nl,hdat⟩;refine aa (cv (aa (fV hl1 (ae ⟨cK km _,?_⟩))));have hlS:l<s.heap.objs.size:=aA hol;have hS1:s.heap.objs.size<h1.objs.size:=by
  obtain⟨o,es,ep,ho,_⟩:=hnew;exact aA (keep _ _ ho)
 have neI:l≠h1.objs.size:=aH (eB hlS hS1);have nSf:s.heap.objs.size∉[h1.objs.size,l]:=by
  simp only[aw,aD,aL,bZ,not_or];exact⟨aH hS1,cU hlS⟩
 have hD0:(h1.push { cls:=.type "list_iterator",data:=.fields #[.ref l,.int 0 0] }).DictOf knd s.heap.objs.size []:=by
  obtain⟨o,es,ep,ho,rest⟩:=hnew;exact⟨o,es,ep,af _ (keep _ _ ho),rest⟩
 refine Zv (A:=A.in1) knd ((Walks.list z2 h1.objs.size l neI items).toS) s.heap.objs.size nSf s.heap kvs hn nd hz (fun i v hv=>?_) (items.size - 0) 0 _ (by omega) (bz _) ⟨⟨_,ao _ rfl,rfl,rfl⟩,(hl1.push _)⟩ hD0 (fun b o hb e=>af _ (keep b o (af _ e))) ?_
 ·obtain⟨q,k,key,x,e1,e2,e3,o,m,e4,e5,e6⟩:=hi i v hv
  refine⟨q,k,key,x,e1,e2,e3,?_,o,m,e4,e5,e6⟩;have hq:q<s.heap.objs.size:=aA e4;simp only[aw,aD,aL,bZ,not_or];exact⟨aH hq,aH (eB hq hS1)⟩
 ·intro s' hm hS'
  obtain⟨h',g',d',tk',os'⟩:=s';have eg:g'=s.gens:=hm.gens;have ed:d'=s.drawn:=hm.drawn;have eo:os'=s.os:=hm.os;subst eg;subst ed;subst eo;refine⟨rfl,h h' tk' hS' fun b o e=>?_⟩;have hb:b<s.heap.objs.size:=aA e;exact hm.heap b o (by simp only[aw,aD,aL,bZ,not_or];exact⟨aH hb,aH (eB hb hS1)⟩) (af _ (keep b o (af _ e)))
end
end E
namespace E
open PySem PySem.Spec PyProof PyProof.Rows L2
section
variable{K:iA}
noncomputable abbrev kSub(a b:String):Option Bool:=if(Value.type a == Value.type b)=true then some true else if PySem.W.kitMeta b=true then(fastBuiltinMro a).map (·.contains (Value.type b))else none
noncomputable def tyL:List String:=["NoneType","bool","int","str","tuple","list","dict"]
noncomputable def isiS(n t:String):Bool:=n == t || (n == "bool" && t == "int")
theorem Wq:∀n∈tyL,∀t∈tyL.drop 1,kSub n t=some (isiS n t):=by decide +kernel
theorem yU{n t:String}(h:n∈tyL)(h':t∈tyL.drop 1):PySem.W.kitOne K (.type n) (.type t)=some (isiS n t):=by
 rw[<- Wq n h t h'];rfl
theorem Wf{n:String}(h:n∈tyL):PySem.W.kitAny K (.type n) [.type "tuple",.type "list"]=some (isiS n "tuple" || isiS n "list"):=by
 unfold PySem.W.kitAny;rw[yU h (by decide)];cases isiS n "tuple"
 ·unfold PySem.W.kitAny
  rw[yU h (by decide)];cases isiS n "list" <;> rfl
 ·rfl
end
noncomputable def tyD(b:Hb):D->Option String
 |.non=>some "NoneType"|.bl _=>some "bool"|.int _=>some "int"|.str _=>some "str"|.tup _=>some "tuple"
 |d=>if(qG b d).isSome then some "list" else if(qv b d).isSome then some "dict" else none
theorem ZF{b:Hb}{d:D}{n:String}(h:tyD b d=some n):n∈tyL:=by
 unfold tyD at h
 split at h <;> try (cases h;decide)
 split at h
 ·cases h;decide
 ·split at h <;> cases h <;> decide
section
variable{prog:Program}{w:World}{A:Around}{E:iE}{s:Shared}
noncomputable def zS(a b:Str)(i:Nat):List Nat:=if i=0 then a.cps.toList else b.cps.toList
theorem wl{a b:Str}{t u:Tok}{i:Nat}{v:Value}(h:(#[Value.str a t,Value.str b u]:iJ)[i]?=some v):∃x y,v=.str x y/\x.cps.toList=zS a b i:=by
 match i,h with
 |0,h=>cases h;exact⟨a,t,rfl,rfl⟩
 |1,h=>cases h;exact⟨b,u,rfl,rfl⟩
 |i+2,h=>simp at h
theorem Ve{a b:Str}{t u:Tok}{Q:iE}(hh:A.handled=none)
  (h:∀h' tk,(∀c o,s.heap.get? c=some o->h'.get? c=some o)->Q (if b.cps.toList<a.cps.toList then .str b u else .str a t) { s with heap:=h',toks:=tk }) :
  wpAny (model prog w) A (call (.builtin "min") [.str a t,.str b u]) Q E s:=by
 have hT:(s.heap.push { cls:=.type "tuple",data:=.seq #[.str a t,.str b u] }).IsTuple s.heap.objs.size #[.str a t,.str b u]:=⟨_,ao _ rfl,rfl,0,rfl⟩;refine call_min_two (f7 hT ?_);have hsz:(s.heap.push { cls:=.type "tuple",data:=.seq #[.str a t,.str b u] }).objs.size=s.heap.objs.size+1:=dj ..;refine⟨_,[_,s.heap.objs.size],[_],_,_,_,fun i j=>decide (zS a b i<zS a b j),rfl,Walks.tuple (A:=A.in1) hh _ s.heap.objs.size (by rw[hsz];exact aH (bu _)) #[.str a t,.str b u],
  ⟨⟨_,ao _ rfl,rfl,rfl⟩,hT.push _⟩,fun c hc=>?_,by simp,fun i j vi vj s' Q' E' hi hj hq=>?_,fun v h' tk hP hk=>?_⟩
 ·show c<((s.heap.push _).push _).objs.size
  rw[dj,hsz];rcases aw.mp hc with rfl|hc
  ·rw[hsz];exact bu _
  ·rcases aw.mp hc with rfl|hc
   ·exact fW (bu _)
   ·cases hc
 ·obtain⟨x,y,rfl,ex⟩:=wl hi
  obtain⟨x',y',rfl,ex'⟩:=wl hj;dsimp only at hq;rw[<- ex,<- ex']at hq;exact lt_str hq
 ·have hold:∀c o,s.heap.get? c=some o->h'.get? c=some o:=fun c o e=>by
   refine hk c o (fun hm=>?_) (af _ (af _ e));rcases aw.mp hm with e1|hm
   ·have:=aA e;rw[e1,hsz]at this;exact cL _ (Nat.lt_of_succ_lt this)
   ·cases hm
  have q:=h h' tk hold;have hP':(#[Value.str a t,Value.str b u]:iJ)[argBest (fun i j=>decide (zS a b i<zS a b j)) 1]?=some v:=hP
  by_cases hba:b.cps.toList<a.cps.toList
  ·have e:argBest (fun i j=>decide (zS a b i<zS a b j)) 1=1:=by simp[argBest,zS,hba]
   rw[e]at hP';rw[aE hba]at q;cases hP';exact q
  ·have e:argBest (fun i j=>decide (zS a b i<zS a b j)) 1=0:=by simp[argBest,zS,hba]
   rw[e]at hP';rw[ax hba]at q;cases hP';exact q
theorem Vg{a b:Str}{t u:Tok}{Q:iE}(hh:A.handled=none)
  (h:∀h' tk,(∀c o,s.heap.get? c=some o->h'.get? c=some o)->Q (if a.cps.toList<b.cps.toList then .str b u else .str a t) { s with heap:=h',toks:=tk }) :
  wpAny (model prog w) A (call (.builtin "max") [.str a t,.str b u]) Q E s:=by
 have hT:(s.heap.push { cls:=.type "tuple",data:=.seq #[.str a t,.str b u] }).IsTuple s.heap.objs.size #[.str a t,.str b u]:=⟨_,ao _ rfl,rfl,0,rfl⟩;refine call_max_two (f7 hT ?_);have hsz:(s.heap.push { cls:=.type "tuple",data:=.seq #[.str a t,.str b u] }).objs.size=s.heap.objs.size+1:=dj ..;refine⟨_,[_,s.heap.objs.size],[_],_,_,_,fun i j=>decide (zS a b j<zS a b i),rfl,Walks.tuple (A:=A.in1) hh _ s.heap.objs.size (by rw[hsz];exact aH (bu _)) #[.str a t,.str b u],
  ⟨⟨_,ao _ rfl,rfl,rfl⟩,hT.push _⟩,fun c hc=>?_,by simp,fun i j vi vj s' Q' E' hi hj hq=>?_,fun v h' tk hP hk=>?_⟩
 ·show c<((s.heap.push _).push _).objs.size
  rw[dj,hsz];rcases aw.mp hc with rfl|hc
  ·rw[hsz];exact bu _
  ·rcases aw.mp hc with rfl|hc
   ·exact fW (bu _)
   ·cases hc
 ·obtain⟨x,y,rfl,ex⟩:=wl hi
  obtain⟨x',y',rfl,ex'⟩:=wl hj;dsimp only at hq;rw[<- ex,<- ex']at hq;exact PySem.P.gt_str hq
 ·have hold:∀c o,s.heap.get? c=some o->h'.get? c=some o:=fun c o e=>by
   refine hk c o (fun hm=>?_) (af _ (af _ e));rcases aw.mp hm with e1|hm
   ·have:=aA e;rw[e1,hsz]at this;exact cL _ (Nat.lt_of_succ_lt this)
   ·cases hm
  have q:=h h' tk hold;have hP':(#[Value.str a t,Value.str b u]:iJ)[argBest (fun i j=>decide (zS a b j<zS a b i)) 1]?=some v:=hP
  by_cases hba:a.cps.toList<b.cps.toList
  ·have e:argBest (fun i j=>decide (zS a b j<zS a b i)) 1=1:=by simp[argBest,zS,hba]
   rw[e]at hP';rw[aE hba]at q;cases hP';exact q
  ·have e:argBest (fun i j=>decide (zS a b j<zS a b i)) 1=0:=by simp[argBest,zS,hba]
   rw[e]at hP';rw[ax hba]at q;cases hP';exact q
end
section
variable{X:Cx}{p:Pin}{sc:Sc}{b:Hb}{c:Co}{s:Shared}{a:Expr}{fa:Sc->Hb->R D}{pos p1 p2 p3 p4:Pos}{x:Str}
theorem Inv.kit{d u n}(I:Inv X p sc b c s)(r:Rep X.W c d u)(h:tyD b d=some n):∃H:Heap->Prop,PySem.W.KitX X.W.K u (.type n) H/\H s.heap/\∀y,u≠.builtin y:=by
 have oth:(if(qG b d).isSome then some "list" else if(qv b d).isSome then some "dict" else none)=some n->∃H:Heap->Prop,PySem.W.KitX X.W.K u (.type n) H/\H s.heap/\∀y,u≠.builtin y:=fun h=>by
  split at h
  ·rename_i e
   cases h;obtain⟨l,e⟩:=bA.mp e;obtain⟨a,o,us,rfl,ho,⟨_,k,rfl⟩,_⟩:=I.st.lst r e;exact⟨_,PySem.W.kitx_list,⟨_,ho,rfl⟩,fun _ e=>nomatch e⟩
  ·split at h
   ·rename_i e
    cases h;obtain⟨l,e⟩:=bA.mp e;obtain⟨a,o,us,rfl,ho,g,_⟩:=I.st.dic r e;exact⟨_,PySem.W.kitx_dict,⟨_,ho,g.2.2.1.1⟩,fun _ e=>nomatch e⟩
   ·cases h
 cases d with
 |non=>cases h;cases r;exact⟨_,PySem.W.kitx_none,True.intro,fun _ e=>nomatch e⟩
 |bl=>cases h;cases r;exact⟨_,PySem.W.kitx_bool,True.intro,fun _ e=>nomatch e⟩
 |int=>cases h;obtain⟨t,rfl⟩:=r;exact⟨_,PySem.W.kitx_int,True.intro,fun _ e=>nomatch e⟩
 |str=>cases h;obtain⟨t,rfl⟩:=r;exact⟨_,PySem.W.kitx_str,True.intro,fun _ e=>nomatch e⟩
 |tup=>cases h;obtain⟨a,o,us,rfl,ho,⟨_,k,rfl⟩,_⟩:=I.st.tup r;exact⟨_,PySem.W.kitx_tuple,⟨_,ho,rfl⟩,fun _ e=>nomatch e⟩
 |_=>exact oth h
theorem Kt:bootBuiltins "isinstance"=some (.builtin "isinstance"):=by decide +kernel
noncomputable def isi(f:String->Bool)(b:Hb)(d:D):Option D:=(tyD b d).map fun n=>.bl (f n)
theorem qdj{t:String}(ht:t∈tyL.drop 1)(hv:bootBuiltins x=some (.type t))(hgx:Gl X x)(hmx:X.W.mg x=none)(hn:x≠"__name__")(hd:(x == ("__debug__":Str))=false)(hg:Gl X "isinstance")(hm:X.W.mg "isinstance"=none)(ha:EV X a fa)(hs:notStar a=true) :
  EV X (.Call (.Name "isinstance" p1) [a,.Name x p2] [] pos) fun s b=>(fa s b).bind fun d b=>opt (isi (isiS · t) b d) b:=⟨fun p sc b c s Q Z I q=>by
 refine Call_ (vI I hg hm Kt ?_ (by decide) (by decide));rw[qQ hs];refine bP rfl (cD (bU (ha.run I q fun d b u s c I _ r q=>bU (vI I hgx hmx hv (dz ?_) hn hd))));obtain⟨z,e,k⟩:=Post.opt q;obtain⟨n,h1,rfl⟩:=ah.mp e;obtain⟨H,h2,h3,h4⟩:=I.kit r h1;exact PySem.W.kia_one h2 I.kIn h3 (yU (ZF h1) ht) (h4 _) fun tk=>k _ _ c (I.tok tk) .refl rfl⟩
theorem WP{k0:Nat}(hg:Gl X "isinstance")(hm:X.W.mg "isinstance"=none)(hgt:Gl X "tuple")(hmt:X.W.mg "tuple"=none)(hgl:Gl X "list")(hml:X.W.mg "list"=none)(ha:EV X a fa)(hs:notStar a=true) :
  EV X (.Call (.Name "isinstance" p1) [a,.Tuple [.Name "tuple" p2,.Name "list" p3] k0 p4] [] pos) fun s b=>(fa s b).bind fun d b=>opt (isi (fun n=>isiS n "tuple" || isiS n "list") b d) b:=⟨fun p sc b c s Q Z I q=>by
 refine Call_ (vI I hg hm Kt ?_ (by decide) (by decide));rw[qQ hs];refine bP rfl (cD (bU (ha.run I q fun d b u s c I _ r q=>bU (wpAny_Tuple_spliced (x1:=k0) (bU (vI I hgt hmt (by decide +kernel:bootBuiltins "tuple"=some (.type "tuple")) (bU (vI I hgl hml (by decide +kernel:bootBuiltins "list"=some (.type "list")) (dz ⟨wU,dz ?_⟩) (by decide) (by decide))) (by decide) (by decide)))))));obtain⟨z,e,k⟩:=Post.opt q;obtain⟨n,h1,rfl⟩:=ah.mp e;have J:=I.push (t':=s.toks) { cls:=.type "tuple",data:=.seq #[Value.type "tuple",.type "list"] };obtain⟨H,h2,h3,h4⟩:=J.kit r h1;exact PySem.W.kia_tup h2 J.kIn h3 (its:=[.type "tuple",.type "list"]) (ao _ rfl) (Wf (ZF h1)) (h4 _) fun tk=>k _ _ c (J.tok tk) .refl rfl⟩
theorem qav(hc:X.calm=true)(g:Bool):Op X (fun us=>call (.builtin (mmN g)) us) (gN fun _ l=>match l with
 |[.int i,.int j]=>some (.v (.int (if(if g then j<i else i<j)then j else i)))
 |_=>none):=.get fun{p sc b c s us ds r Q Z} I rs e q=>by
 split at e
 ·cases e
  obtain⟨_,_,rfl,⟨t,rfl⟩,_,_,rfl,⟨t',rfl⟩,rfl⟩:=rs;cases g with
  |true=>exact min_two_ints (I.ok.hd hc) fun h' tk k=>q _ _ c (I.kept k) .refl (by simp only[dy];split <;> exact⟨_,rfl⟩)
  |false=>exact max_two_ints (I.ok.hd hc) fun h' tk k=>q _ _ c (I.kept k) .refl (by simp only[aR,bR,gt_iff_lt];split <;> exact⟨_,rfl⟩)
 ·cases e
theorem qat(hc:X.calm=true)(g:Bool):Op X (fun us=>call (.builtin (mmN g)) us) (gN fun _ l=>match l with
 |[.str i,.str j]=>some (.v (.str (if(if g then j.cps.toList<i.cps.toList else i.cps.toList<j.cps.toList)then j else i)))
 |_=>none):=.get fun{p sc b c s us ds r Q Z} I rs e q=>by
 split at e
 ·cases e
  obtain⟨_,_,rfl,⟨t,rfl⟩,_,_,rfl,⟨t',rfl⟩,rfl⟩:=rs;cases g with
  |true=>exact Ve (I.ok.hd hc) fun h' tk k=>q _ _ c (I.kept k) .refl (by simp only[dy];split <;> exact⟨_,rfl⟩)
  |false=>exact Vg (I.ok.hd hc) fun h' tk k=>q _ _ c (I.kept k) .refl (by simp only[aR,bR];split <;> exact⟨_,rfl⟩)
 ·cases e
noncomputable def pairD:D->Option (KK×D)
 |.tup [k,v]=>(dKey k).map fun k=>(.inl k,v)
 |_=>none
noncomputable def Z8:List D->Option (List (KK×D))
 |[]=>some []
 |d::ds=>(pairD d).bind fun p=>(Z8 ds).map (p::·)
noncomputable def iDct(b:Hb)(d:D):Option Res:=(qG b d).bind fun l=>(Z8 l).bind fun kvs=>if(kvs.map (·.1)).Nodup then some (.n (.dic false kvs))else none
theorem pairs_at{W:Wd}{h:Heap}(S:Sto W c b h):∀{ds us kvs},Reps W c ds us->Z8 ds=some kvs->∃vs:List (Key×Value),vs.length=us.length/\kvs.map (·.1)=vs.map (fun p=>Sum.inl p.1)/\Paired (fun(p:KK×D)(q:Key×Value)=>p.1=.inl q.1/\Rep W c p.2 q.2) kvs vs/\
  ∀(i:Nat)(v:Value),us[i]?=some v->∃(q:Addr)(k:Key)(key x:Value),v=Value.ref q/\vs[i]?=some (k,x)/\(qr W.prog W.w).is k key=true/\∃o m,h.get? q=some o/\o.cls=.type "tuple"/\o.data=.seq #[key,x] m
 |[],_,_,e,h=>by cases e;cases h;exact⟨[],rfl,rfl,.nil,fun i v h=>by simp at h⟩
 |d::ds,_,_,⟨u,us,e,r,t⟩,h=>by
  subst e;obtain⟨p,h1,h⟩:=ai.mp (show(pairD d).bind _=_ from h);obtain⟨rest,h2,rfl⟩:=ah.mp h;obtain⟨vs,a1,a2,a3,a4⟩:=pairs_at S t h2;unfold pairD at h1
  split at h1
  ·obtain⟨k,h3,rfl⟩:=ah.mp h1
   obtain⟨a,o,ws,rfl,ho,⟨_,n,rfl⟩,key,_,rfl,r1,x,_,rfl,r2,rfl⟩:=S.tup r;refine⟨(k,x)::vs,by simp[a1],by rw[av,av,a2],.cons ⟨rfl,r2⟩ a3,fun i v hi=>?_⟩;cases i with
   |zero=>cases hi;exact⟨a,k,key,x,rfl,rfl,wg r1 h3,_,n,ho,rfl,rfl⟩
   |succ i=>simpa using a4 i v (by simpa using hi)
  ·cases h1
theorem xh{W:Wd}:∀{es:List DictEntry}{vs:List (Key×Value)}{kvs:List (KK×D)},Pairs (qr W.prog W.w) es vs->(∀e∈es,∃k,(qr W.prog W.w).is k e.key=true/\e.hash=(qr W.prog W.w).hash k)->Paired (fun(p:KK×D)(q:Key×Value)=>p.1=.inl q.1/\Rep W c p.2 q.2) kvs vs->∃xs:List (KK×Value×Value),Repk W c kvs xs/\es=xs.map (entA (qH W.prog W.w))
 |_,_,_,.nil,_,.nil=>⟨[],rfl,rfl⟩
 |_,_,_,.cons (e:=e) (kv:=kv) h1 h2 t,hk,.cons (a:=y) p ps=>by
  obtain⟨xs,a1,a2⟩:=xh t (fun e he=>hk e (ay _ he)) ps;obtain⟨k,k1,k2⟩:=hk e aC;have hkk:=(qr W.prog W.w).inj _ _ _ k1 h1;subst hkk;obtain⟨y1,y2⟩:=y;obtain⟨p1,p2⟩:=p;have p1:y1=.inl kv.1:=p1;subst p1;refine⟨(.inl kv.1,e.key,e.val)::xs,⟨_,_,_,rfl,h1,by rw[h2];exact p2,a1⟩,?_⟩;rw[av,<- a2];congr 1;show e=⟨(qr W.prog W.w).hash kv.1,e.key,e.val⟩;rw[<- k2]
theorem qay(hc:X.calm=true):Op X (fun us=>call (.type "dict") us) (gN (g1 iDct)):=.one (fun _=>rfl) fun{p sc b c s u d r Q Z} I r1 e q=>by
 obtain⟨l,e1,e⟩:=ai.mp e;obtain⟨kvs,e2,e⟩:=ai.mp e
 split at e
 ·rename_i nd
  cases e;obtain⟨a,o,us,rfl,ho,⟨hz,n,rfl⟩,rs⟩:=I.st.lst r1 e1;obtain⟨vs,h2,h5,h6,h7⟩:=pairs_at I.st rs e2;have e6:vs.map (fun p=>(Sum.inl p.1:KK))=(vs.map (·.1)).map Sum.inl:=by rw[dE];rfl
  have ndv:(vs.map (·.1)).Nodup:=by rw[h5,e6]at nd;exact(hJ.mp nd).imp fun h z=>h (by rw[z])
  refine wK (knd:=qr X.W.prog X.W.w) (I.ok.hd hc) ho rfl rfl rfl (fun i v h=>h7 i v (by simpa using h)) (by rw[au];exact h2) ndv (by rw[au];exact hz) fun h' tk dd keep=>?_
  obtain⟨o,ess,ep,d1,d2,d3,d4,d5,d6⟩:=dd;obtain⟨xs,x1,x2⟩:=xh d5 (fun e he=>d4 e (by simpa using he)) h6;have I':=I.kept (t':=tk) keep;refine q _ _ c I' .refl ⟨_,rfl,I.fpn (aI _),_,xs,d1,⟨?_,by rw[x1.keys];exact nd,d2,ess,ep,d3,x2⟩,x1⟩;rw[x1.len,ig h6,h2];exact hz
 ·cases e
noncomputable def qa6(P:Program)(w:World)(mg:iF)(base:Heap)(g:Str)(kvs:List (Str×Int)):Prop:=∃a xs,mg g=some (.ref a)/\(a == sysModules)=false/\DictA (qH P w) base a xs/\∀x:Str,match kvs.lookup x with
 |some i=>∃k t,atA xs (.inl (.inr x))=some (k,.int i t)
 |none=>atA xs (.inl (.inr x))=none
end
end E
namespace E
open PySem PySem.Spec PyProof PyProof.Rows L2 PySem.W
noncomputable def BmOk(base:Heap)(mg:iF):Prop:=∃bm ob,mg "__builtins__"=some (.ref bm)/\bm≠builtinsNs/\base.get? bm=some ob/\ob.cls=.type "module"/\ob.dict=some builtinsNs/\ob.data=.plain
section
variable{prog:Program}{w:World}{A:Around}{s:Shared}{h₀:Heap}{L kS D:Addr}{m:iF}{f:Value}{news:iB}{e1:Nat}{Fin:iH->Nat->Shared->Prop}
end
section
variable{X:Cx}{p:Pin}{sc:Sc}{b:Hb}{c:Co}{s:Shared}{Z:iE}
end
end E
namespace E
open PySem PySem.Spec PyProof PyProof.Rows L2
noncomputable def jc(h:Heap)(C D:Addr):Prop:=∃bm N nm q bs hdct sn sub ab col dd k0 k1 k2 k3 k5 newId,h.get? C=some (excClassObj nm q C N bs bm hdct sn sub ab col dd k0 k1 k2 k3 k5 newId)/\bm.contains (.type "BaseException")=true/\(Value.ref C::bm).contains (.ref D)=true
theorem yO{M:Model}{A:Around}{E:iE}{s:Shared}{e C D:Addr}{oe:Obj}{Q:Bool->Shared->Prop}(hC:jc s.heap C D)(hD:jc s.heap D D)(he:s.heap.get? e=some oe)(hcls:oe.cls=.ref C)(hq:Q true s):wpAny M A (excMatches (.ref e) (.ref D)) Q E s:=by
 obtain⟨bm,N,nm,q,bs,hdct,sn,sub,ab,col,dd,k0,k1,k2,k3,k5,newId,hC,_,hcC⟩:=hC;obtain⟨bm',N',nm',q',bs',hdct',sn',sub',ab',col',dd',k0',k1',k2',k3',k5',newId',hD,hb,_⟩:=hD;have hcB:(Value.ref D::bm').contains (.type "BaseException")=true:=by rw[List.contains_cons,hb,Bool.or_true]
 have f:=tc_notTuple;obtain⟨h,g,d,t,os⟩:=s;unfold excMatches
 repeat (first|(with_reducible refine bL he ?_;rw[hcls])|with_reducible refine bL hD ?_|(with_reducible refine dO hD ?_;rw[hcB])|(with_reducible refine dO hC ?_;rw[hcC])|wp_step)
 exact hq
theorem vt{h h':Heap}{C D:Addr}(k:∀b o,h.get? b=some o->h'.get? b=some o)(x:jc h C D):jc h' C D:=by
 obtain⟨bm,N,nm,q,bs,hdct,sn,sub,ab,col,dd,k0,k1,k2,k3,k5,newId,hC,r⟩:=x;exact⟨bm,N,nm,q,bs,hdct,sn,sub,ab,col,dd,k0,k1,k2,k3,k5,newId,k _ _ hC,r⟩
noncomputable abbrev hnd(X:Cx)(e:Addr):Cx:={ X with A:=X.A.mark (some (.ref e)),calm:=false }
noncomputable def yg(C:Nat):Bool:=decide (2<=C) && decide (C<40)
section
variable{X:Cx}{p:Pin}{sc:Sc}{b:Hb}{c:Co}{s:Shared}{a e:Addr}{x:Nat}{Z:iE}
theorem Jz{o:Obj}{vs:iJ}(I:Inv X p sc b c s)(e:Addr)(t:c.t e=some (.frz o))(hd:o.data=.fields vs)(hv:vs[2]?=some .none):Inv (hnd X e) p sc b c s:=
 ⟨⟨I.ok.mo,I.ok.kind,I.ok.glob,I.ok.blt,I.ok.above,I.ok.inj,I.ok.has,I.ok.cab,(fun z=>by cases z),I.ok.frames,I.ok.stk,I.ok.exf,I.ok.bs,I.ok.bsz,I.ok.noex,I.ok.exfs,I.ok.funs,I.ok.frf⟩,I.os,I.bare,I.un,I.loc,I.cell,I.free,I.pin,I.st,I.len,fun v h=>by cases h;exact⟨e,o,vs,rfl,t,hd,hv⟩⟩
theorem QP(J:X.Ok)(h:Hx X.A c)(I:Inv (hnd X e) p sc b c s):Inv X p sc b c s:=⟨J,I.os,I.bare,I.un,I.loc,I.cell,I.free,I.pin,I.st,I.len,h⟩
theorem xS{M:Model}{A:Around}{Q:Unit->Shared->Prop}{E:iE}{fl:iI}{k:Value}(I:Inv X p sc b c s)(t:Tb (Fp X p c) s.heap a k)(q:∀s',Inv X p sc b c s'->Tb (Fp X p c) s'.heap a k->Q () s'):wpAny M A (setFlight (.ref a) fl) Q E s:=
 wC t fun h2 T2 t2 n2 o2 k2=>q _ (I.turn (t':=s.toks) (ch:=[T2]) (fun a h=>by cases aD.mp h;exact n2) fun b o hb e=>k2 b o (fun z=>hb (by simp[z])) e) t2
theorem JR{Q:Unit->Shared->Prop}(hx:Exk X)(I:Inv X p sc b c s)(f:Fly X p c s a x)(q:∀s',Inv X p sc b c s'->Tb (Fp X p c) s'.heap a (.ref (X.W.cl x))->Q () s'):wpAny X.M X.A (noteFrame (.ref a) X.env) Q Z s:=by
 obtain⟨e0,o0,L,st1,st2,st3⟩:=hx.st;rw[yM (env':=e0) (st3.trans st2.symm)];have hS:s.heap.FunFrames X.W.base (e0::o0):=by rw[<- st1];exact I.stack
 have hF:X.A.frames=some (e0::o0):=by rw[<- st1];exact I.ok.frames
 have mem:(e0::o0).filterMap (·.frame)=frs X.stack:=by rw[st1];rfl
 refine QD (base:=X.W.base) hF hS st2 f (fun b e=>I.fp e) fun h' ch t' hch keep slot=>?_
 rw[mem]at keep;exact q _ (I.ch (fun a h=>(hch a h).1) keep slot) t'
theorem qdn{x:Str}{C:Addr}{cp:Pos}{Q:iE}(I:Inv X p sc b c s)(hg:Gl X x)(hm:X.W.mg x=some (.ref C))(hd:(x == ("__debug__":Str))=false)(q:Q (.ref C) s):wpAny X.M X.A (eval (.Name x cp) X.env) Q Z s:=wp I hg hm q hd
end
noncomputable def plK:KK->Bool
 |.inl _=>true
 |_=>false
noncomputable def iCpd(b:Hb)(d:D):Option Res:=(qv b d).bind fun l=>if l.all (fun x=>plK x.1)=true then some (.n (.dic false l))else none
theorem Ki{W:Wd}{c:Co}:∀{l:List (KK×D)}{xs},l.all (fun x=>plK x.1)=true->Repk W c l xs->
  ∃vs:List (Key×Value),Pairs (qr W.prog W.w) (xs.map (entA (qH W.prog W.w))) vs/\(∀e∈xs.map (entA (qH W.prog W.w)),∃k,(qr W.prog W.w).is k e.key=true/\e.hash=(qr W.prog W.w).hash k)/\Paired (fun(p:KK×D)(q:Key×Value)=>p.1=.inl q.1/\Rep W c p.2 q.2) l vs
 |[],xs,_,r=>by cases r;exact⟨[],.nil,fun e he=>(by cases he),.nil⟩
 |(k,d)::l,xs,h,r=>by
  obtain⟨v,u,rest,rfl,hk,hd,t⟩:=r;rw[i7,aq]at h;obtain⟨vs,a1,a2,a3⟩:=Ki h.2 t;cases k with
  |inr _=>cases h.1
  |inl k=>
   have hk:vJ k v=true:=hk;refine⟨(k,u)::vs,.cons hk rfl a1,fun e he=>?_,.cons ⟨rfl,hd⟩ a3⟩;rcases aw.mp he with rfl|he
   ·exact⟨k,hk,rfl⟩
   ·exact a2 e he
theorem w9{W:Wd}{c:Co}:∀{l:List (KK×D)}{vs:List (Key×Value)},Paired (fun(p:KK×D)(q:Key×Value)=>p.1=.inl q.1/\Rep W c p.2 q.2) l vs->vs.map (fun p=>(Sum.inl p.1:KK))=l.map (·.1)
 |_,_,.nil=>rfl
 |_,_,.cons h t=>by rw[av,av,w9 t,h.1]
section
variable{X:Cx}
theorem qao:Op X (fun us=>call (.builtin "dict.copy") us) (gN (g1 iCpd)):=.one (t:=fun u=>call (.builtin "dict.copy") [u]) (fun _=>rfl) fun{p sc b c s u d r Q Z} I r1 e q=>by
 obtain⟨l,h1,e⟩:=ai.mp e
 split at e
 ·rename_i hp
  cases e;obtain⟨a,o,xs,rfl,ho,g,rs,nt⟩:=I.st.dic r1 h1;obtain⟨hz,nd,ex,es,ep,h2,h3⟩:=g;obtain⟨vs,a1,a2,a3⟩:=Ki hp rs;rw[<- h3]at a1 a2;have hv:vs.map (fun p=>(Sum.inl p.1:KK))=xs.map (·.1):=by
   rw[rs.keys];exact w9 a3
  have ndv:(vs.map (·.1)).Nodup:=by
   have e6:vs.map (fun p=>(Sum.inl p.1:KK))=(vs.map (·.1)).map Sum.inl:=by rw[dE];rfl
   rw[<- hv,e6]at nd;exact(hJ.mp nd).imp fun h z=>h (by rw[z])
  have len:vs.length=xs.length:=by have:=bY List.length hv;simpa using this
  refine el PySem.F.slot_dict_copy ⟨o,ho,ex.1⟩ PySem.F.entry_dict_copy (PySem.F.args_dict_copy_1 _) (meets_dict_copy (qr X.W.prog X.W.w) a (I.st.ny nt)) ⟨vs,⟨o,es,ep,ho,ex,h2,fun e he=>a2 e (by simpa using he),a1,ndv⟩,by rw[len];exact hz,fun h' dd _ keep=>?_⟩;obtain⟨o',es',ep',d1,d2,d3,d4,d5,d6⟩:=dd;obtain⟨xs',x1,x2⟩:=xh d5 (fun e he=>d4 e (by simpa using he)) a3;refine q _ _ c (I.kept (t':=s.toks) keep) .refl ⟨_,rfl,I.fpn (aI _),_,xs',d1,⟨?_,by rw[x1.keys,<- rs.keys];exact nd,d2,es',ep',d3,x2⟩,x1⟩;rw[x1.len,<- rs.len];exact hz
 ·cases e
end
end E
namespace UH
open PySem PySem.Spec PyProof PyProof.Rows L2
theorem wF:entryFor table "proto.unchain"=some Builtin.«proto.unchain»:=entryFor_of_tree (by kernel_rfl)
theorem wj:plainId "proto.unchain"=true:=by decide +kernel
section
variable{prog:Program}{w:World}{A:Around}{E:iE}{s:Shared}
noncomputable def HndAt(A:Around)(h:Heap):Prop:=∃b ob vb,A.handled=some (.ref b)/\h.get? b=some ob/\ob.data=.fields vb/\vb[2]?=some .none
theorem w6{α:Type}{a:Addr}{oa:Obj}{va:iJ}{Q:α->Shared->Prop}(hh:HndAt A s.heap)(hna:∀b,A.handled=some (.ref b)->b≠a)(he:s.heap.get? a=some oa)(hd:oa.data=.fields va)(h2:2<va.size)
  (h:∀v,E (.ref a) { s with heap:=s.heap.update a (Obj.mapFields (·.setIfInBounds 2 v)) }):wpAny (model prog w) A (raiseNew (.ref a):Sem α) Q E s:=by
 obtain⟨b,ob,vb,hb,hob,hdb,hb2⟩:=hh;have hne:=hna b hb;unfold raiseNew;refine aa (ie ?_);rw[hb];show wpAny (model prog w) A (if(Value.ref b != Value.ref a)=true then _ else _) Q E s;rw[aE (by simp[hne])];refine aa (aK (wpAny_runValue (c9 wF ?_)));rw[bH wj _];unfold Builtin.«proto.unchain»;refine aa (bB hob hdb hb2 ?_);rw[aE (by rfl)];refine ae ?_;show wpAny (model prog w) A (updateField a 2 (.ref b) >>= _) Q E s;refine aa ?_;unfold updateField;refine aa (wpAny_load he ?_);rw[hd];show wpAny (model prog w) A (if 2<va.size then _ else _) _ E s;rw[aE h2];exact wpAny_update he (ic (h _))
theorem HndAt.keeps{A':Around}{h h':Heap}(hA:A'.handled=A.handled)(x:HndAt A h)(k:∀b o,A.handled=some (.ref b)->h.get? b=some o->h'.get? b=some o):HndAt A' h':=by
 obtain⟨b,ob,vb,h1,h2,h3⟩:=x;exact⟨b,ob,vb,hA.trans h1,k b ob h1 h2,h3⟩
open PySem.F in
theorem jg{it l:Addr}{i:Nat}{items:iJ}{Q:iE}(hh:HndAt A s.heap)(hni:∀b,A.handled=some (.ref b)->b≠it)
  (hit:s.heap.IsListIter it l i)(hl:s.heap.IsList l items)(hx:items[i]?=none)
  (hE:∀h' e,Heap.ExtBut it s.heap h'->(∃o,h'.get? e=some o/\o.cls=.type "StopIteration")->E (.ref e) { s with heap:=h' }) :
  wpAny (model prog w) A (Builtin.SmallTypes.nextOf (.ref it)) Q E s:=by
 obtain⟨o,ho,hc,hd⟩:=id hit;obtain⟨ol,hol,_,nl,hdl⟩:=hl;unfold Builtin.SmallTypes.nextOf;refine aa (bp (name:=Str.ofString "__next__") hit.typeIs slot_listiter_next
  (bj slot_listiter_next hit.typeIs entry_listiter_next ?_ (args_listiter_next _)))
 show wpAny _ _ (field (.ref it) 0 >>= _) _ _ s;refine aa (bB ho hd (x:=.ref l) rfl ?_);show wpAny _ _ (if(Value.ref l == Value.none)=true then _ else _) _ _ s;rw[ax (show ¬ ((Value.ref l == Value.none)=true)from aG)];show wpAny _ _ (field (.ref it) 1 >>= _) _ _ s;refine aa (bB ho hd (x:=.int i 0) rfl ?_);show wpAny _ _ (seqItems? (.ref l) >>= _) _ _ s;refine aa (dY hol hdl ?_);simp only[dA,hx];refine aa (cv (aa (cJ ho hd (by simp) ?_)));show wpAny _ _ (newExc (.type "StopIteration") [] >>= _) _ _ _;refine aa ?_;simp only[newExc,newTuple];refine aa (aN ?_ (by size_fits));refine aa (m:=firstArgMember _ _) (fU (a:=Value.none) (by first|rfl|(simp only[firstArgMember];rfl)) ?_);refine aN ?_ (by size_fits);have kp:∀b o,b≠it->s.heap.get? b=some o->(s.heap.update it (Obj.mapFields (·.setIfInBounds 0 .none))).get? b=some o:=fun b o hb e=>(bg _ _ (bN hb)).trans e
 obtain⟨hb',ob,vb,hhb,hob,hdb⟩:=id hh;refine w6 (oa:=_) (va:=_) (hh.keeps rfl fun b o hb e=>af _ (af _ (kp b o (hni b hb) e))) (fun b hb z=>?_) (ao _ rfl) rfl (by show 2<6;decide) fun v=>?_
 ·have e2:=hhb.symm.trans hb
  cases e2;have hlt:=aA (af (h:=s.heap.update it (Obj.mapFields (·.setIfInBounds 0 .none))) { cls:=.type "tuple",data:=.seq #[] } (kp hb' ob (hni hb' hhb) hob));exact absurd (show hb'=_ from z) (aH hlt)
 ·have hself:=fun(h:Heap)(vs:iJ)=>bc (Obj.mapFields (·.setIfInBounds 2 v)) (ao (o:={ cls:=.type "StopIteration",data:=.fields vs }) h rfl) (cw (bT rfl _))
  refine hE _ _ (fun b o hb e=>?_) ⟨_,hself _ _,eF _ _⟩;have e2:=af (h:=s.heap.update it (Obj.mapFields (·.setIfInBounds 0 .none))) { cls:=.type "tuple",data:=.seq #[] } (kp b o hb e);exact(bg _ _ (cU (aA e2))).trans (af _ e2)
open PySem.F in
theorem x6{z TI TO i1 i2 l1 l2:Addr}{k1 k2:Nat}{xs ys:iJ}{a b:Value}{Q:Fin->Shared->Prop}(hh:HndAt A s.heap)(hni:∀b,A.handled=some (.ref b)->b≠z/\b≠TO/\b≠i1/\b≠i2)(D:ZipApart z TI TO i1 i2 l1 l2)
  (hz:IsZip s.heap z TI TO .none)(hTI:IsPair s.heap TI (.ref i1) (.ref i2))(hTO:IsPair s.heap TO a b)
  (h1:s.heap.IsListIter i1 l1 k1)(h2:s.heap.IsListIter i2 l2 k2)(hl1:s.heap.IsList l1 xs)(hl2:s.heap.IsList l2 ys)(hend:xs[k1]?=none\/ys[k2]?=none)
  (hE:∀h' e,(∀c o,c≠z->c≠TO->c≠i1->c≠i2->s.heap.get? c=some o->h'.get? c=some o)->(∃o,h'.get? e=some o/\o.cls=.type "StopIteration")->E (.ref e) { s with heap:=h' }) :
  wpAny (model prog w) A (Builtin.«zip.__next__» ⟨[.ref z],[]⟩) Q E s:=by
 show wpAny _ _ (field (.ref z) 2 >>= _) _ _ _;refine aa (bB hz rfl (x:=.bool false) rfl ?_);show wpAny _ _ (field (.ref z) 3 >>= _) _ _ _;refine aa (bB hz rfl (x:=.ref TI) rfl ?_);refine aa (dY hTI rfl ?_);show wpAny _ _ (Builtin.SmallTypes.ownedTupleIsFree (.ref z) >>= _) _ _ _;refine aa ?_;unfold Builtin.SmallTypes.ownedTupleIsFree;refine aa (bB hz rfl (x:=.none) rfl (ae ?_));simp only[dy];refine aa (cv ?_);refine aa (bB hz rfl (x:=.ref TO) rfl ?_);refine aa (cA hz (by simp) fun h₁ hz₁ hs₁=>?_)
 replace hz₁:IsZip h₁ z TI TO .ellipsis:=hz₁
 refine aa ?_;simp only[List.zipIdx_cons,List.zipIdx_nil,List.forIn_cons,List.forIn_nil];refine aa (aa (wpAny_onRaise ?_));show wpAny _ _ (Builtin.SmallTypes.nextOf (.ref i1) >>= _) _ _ _;cases hx:xs[k1]? with
 |none=>
  refine aa (jg (hh.keeps rfl fun b o hb e=>hs₁.extBut _ _ (hni b hb).1 e) (fun b hb=>(hni b hb).2.2.1) (h1.extBut hs₁.extBut D.i1z) (hl1.extBut hs₁.extBut D.l1z) hx fun h₂ e hs₂ he=>?_);obtain⟨oe,hoe,hce⟩:=he;have hz₂:IsZip h₂ z TI TO .ellipsis:=hs₂ _ _ D.i1z.symm hz₁;have hez:e≠z:=fun x=>by subst x;rw[hz₂]at hoe;cases hoe;simp at hce
  refine cA hz₂ (by simp) fun h₃ _ hs₃=>hE h₃ e (fun c o c1 _ c3 _ x=>hs₃.extBut _ _ c1 (hs₂ _ _ c3 (hs₁.extBut _ _ c1 x))) ⟨oe,hs₃.extBut _ _ hez hoe,hce⟩
 |some x=>
  have hy:ys[k2]?=none:=by rcases hend with h|h;rw[hx]at h;cases h;exact h
  refine aa (wpAny_nextOf_list_item (h1.extBut hs₁.extBut D.i1z) (hl1.extBut hs₁.extBut D.l1z) hx fun h₂ h1₂ hs₂=>ae ?_);have hTO₂:IsPair h₂ TO a b:=hs₂.extBut _ _ D.TOi1 (hs₁.extBut _ _ D.TOz hTO);refine aa (dY hTO₂ rfl ?_);refine aa (wpAny_updateSeq_pair hTO₂ fun h₃ hTO₃ hs₃=>?_);refine aa (et (ae ?_));refine aa (aa (wpAny_onRaise ?_));show wpAny _ _ (Builtin.SmallTypes.nextOf (.ref i2) >>= _) _ _ _;refine aa (jg (hh.keeps rfl fun b o hb e=>hs₃.extBut _ _ (hni b hb).2.1 (hs₂.extBut _ _ (hni b hb).2.2.1 (hs₁.extBut _ _ (hni b hb).1 e))) (fun b hb=>(hni b hb).2.2.2) (((h2.extBut hs₁.extBut D.i2z).extBut hs₂.extBut D.i12.symm).extBut hs₃.extBut D.TOi2.symm)
   (((hl2.extBut hs₁.extBut D.l2z).extBut hs₂.extBut D.l2i1).extBut hs₃.extBut D.l2TO) hy fun h₄ e hs₄ he=>?_)
  obtain⟨oe,hoe,hce⟩:=he;have hz₄:IsZip h₄ z TI TO .ellipsis:=hs₄ _ _ D.i2z.symm (hs₃.extBut _ _ D.TOz.symm (hs₂.extBut _ _ D.i1z.symm hz₁));have hez:e≠z:=fun x=>by subst x;rw[hz₄]at hoe;cases hoe;simp at hce
  refine cA hz₄ (by simp) fun h₅ _ hs₅=>hE h₅ e (fun c o c1 c2 c3 c4 x=>hs₅.extBut _ _ c1 (hs₄ _ _ c4 (hs₃.extBut _ _ c2 (hs₂.extBut _ _ c3 (hs₁.extBut _ _ c1 x))))) ⟨oe,hs₅.extBut _ _ hez hoe,hce⟩
open PySem.F in
theorem KL{z TI TO i1 i2 l1 l2:Addr}{k1 k2:Nat}{xs ys:iJ}{a b:Value}{Q:Option Value->Shared->Prop}(hh:HndAt A s.heap)(hni:∀b,A.handled=some (.ref b)->b≠z/\b≠TO/\b≠i1/\b≠i2)(D:ZipApart z TI TO i1 i2 l1 l2)
  (hz:IsZip s.heap z TI TO .none)(hTI:IsPair s.heap TI (.ref i1) (.ref i2))(hTO:IsPair s.heap TO a b)
  (h1:s.heap.IsListIter i1 l1 k1)(h2:s.heap.IsListIter i2 l2 k2)(hl1:s.heap.IsList l1 xs)(hl2:s.heap.IsList l2 ys)(hend:xs[k1]?=none\/ys[k2]?=none)
  (hQ:∀h',(∀c o,c≠z->c≠TO->c≠i1->c≠i2->s.heap.get? c=some o->h'.get? c=some o)->Q none { s with heap:=h' }):wpAny (model prog w) A (pyNext (.ref z)) Q E s:=by
 have hT:s.TypeIs (.ref z) "zip":=⟨_,hz,rfl⟩;unfold pyNext;refine aa (dM (bp (name:=Str.ofString "__next__") hT F.slot_zip_next
  (bj F.slot_zip_next hT F.entry_zip_next (x6 (A:=A.in1) (hh.keeps rfl fun _ _ _ e=>e) hni D hz hTI hTO h1 h2 hl1 hl2 hend fun h' e hk he=>?_) (F.args_zip_next_1 _))))
 obtain⟨o,ho,hc⟩:=he;refine aa (dQ (T:="StopIteration") (b:=true) ⟨o,ho,hc⟩ fZ ?_);exact ae (hQ _ hk)
theorem vW{it t:Addr}{i:Nat}{items:iJ}{Q:Option Value->Shared->Prop}(hh:HndAt A s.heap)(hni:∀b,A.handled=some (.ref b)->b≠it)
  (hit:IsTupIter s.heap it t i)(ht:IsTup s.heap t items)(hx:items[i]?=none)
  (hQ:∀h',Heap.ExtBut it s.heap h'->Q none { s with heap:=h' }):wpAny (model prog w) A (pyNext (.ref it)) Q E s:=by
 obtain⟨o,ho,hc,hd⟩:=id hit;obtain⟨ol,hol,_,nl,hdl⟩:=ht;unfold pyNext;refine aa (dM (bp (name:=Str.ofString "__next__") hit.typeIs slot_tupleiter_next
  (bj slot_tupleiter_next hit.typeIs entry_tupleiter_next ?_ (args_tupleiter_next _))))
 show wpAny _ _ (field (.ref it) 0 >>= _) _ _ s;refine aa (bB ho hd (x:=.ref t) rfl ?_);show wpAny _ _ (if(Value.ref t == Value.none)=true then _ else _) _ _ s;rw[ax (show ¬ ((Value.ref t == Value.none)=true)from aG)];show wpAny _ _ (field (.ref it) 1 >>= _) _ _ s;refine aa (bB ho hd (x:=.int i 0) rfl ?_);show wpAny _ _ (seqItems? (.ref t) >>= _) _ _ s;refine aa (dY hol hdl ?_);simp only[dA,hx];refine aa (cv (aa (cJ ho hd (by simp) ?_)));show wpAny _ _ (newExc (.type "StopIteration") [] >>= _) _ _ _;refine aa ?_;simp only[newExc,newTuple];refine aa (aN ?_ (by size_fits));refine aa (m:=firstArgMember _ _) (fU (a:=Value.none) (by first|rfl|(simp only[firstArgMember];rfl)) ?_);refine aN ?_ (by size_fits);have kp:∀b o,b≠it->s.heap.get? b=some o->(s.heap.update it (Obj.mapFields (·.setIfInBounds 0 .none))).get? b=some o:=fun b o hb e=>(bg _ _ (bN hb)).trans e
 obtain⟨hb',ob,vb,hhb,hob,hdb⟩:=id hh;refine w6 (oa:=_) (va:=_) (hh.keeps rfl fun b o hb e=>af _ (af _ (kp b o (hni b hb) e))) (fun b hb z=>?_) (ao _ rfl) rfl (by show 2<6;decide) fun v=>?_
 ·have e2:=hhb.symm.trans hb
  cases e2;have hlt:=aA (af (h:=s.heap.update it (Obj.mapFields (·.setIfInBounds 0 .none))) { cls:=.type "tuple",data:=.seq #[] } (kp hb' ob (hni hb' hhb) hob));exact absurd (show hb'=_ from z) (aH hlt)
 ·have hself:=fun(h:Heap)(vs:iJ)=>bc (Obj.mapFields (·.setIfInBounds 2 v)) (ao (o:={ cls:=.type "StopIteration",data:=.fields vs }) h rfl) (cw (bT rfl _))
  refine aa (dQ (T:="StopIteration") (b:=true) ⟨_,hself _ _,eF _ _⟩ fZ (ae (hQ _ fun b o hb e=>?_)));have e2:=af (h:=s.heap.update it (Obj.mapFields (·.setIfInBounds 0 .none))) { cls:=.type "tuple",data:=.seq #[] } (kp b o hb e);exact(bg _ _ (cU (aA e2))).trans (af _ e2)
theorem kh{t:Addr}{items:iJ}{Q:iH->Shared->Prop}(hh:HndAt A s.heap)(ht:IsTup s.heap t items)
  (hQ:∀h',Heap.ExtBut s.heap.objs.size s.heap h'->Q items.toList { s with heap:=h' }):wpAny (model prog w) A (unpackItems (.ref t) items.size none) Q E s:=by
 have hlt:t≠s.heap.objs.size:=by obtain⟨o,ho,_⟩:=ht;exact aH (aA ho)
 have hnb:∀b,A.handled=some (.ref b)->b≠s.heap.objs.size:=fun b hb=>by
  obtain⟨c,oc,vc,h1,h2,_⟩:=hh;cases h1.symm.trans hb;exact aH (aA h2)
 unfold unpackItems;refine aa ?_
 ·unfold notIterableAtAll
  refine aa (fj ht.typeIs slot_tuple_iter.lookup ?_);refine ae ?_;simp only[aR,bR];refine aa (aK (iter_tuple ht ?_));refine aa (aK (draw_tuple hlt items.size 0 _ _ ⟨_,ao _ rfl,rfl,rfl⟩ (ht.push _) (by omega) fun h₁ hit₁ hs₁=>?_));have hall:List.take items.size (List.drop 0 items.toList)=items.toList:=by
   rw[List.drop_zero];exact List.take_of_length_le (by simp)
  rw[hall];rw[ax (by simp)];have ht₁:IsTup h₁ t items:=(ht.push _).extBut hs₁.extBut hlt;refine aa (aK (vW (hh.keeps rfl fun b o hb e=>hs₁.extBut b o (aH (aA e)) (af _ e)) (fun b hb=>hnb b hb) hit₁ ht₁ (by simp) fun h₂ he₂=>?_));simp only[Option.isSome_none,aR,bR];refine ae (hQ h₂ fun b o hb e=>he₂ b o hb (hs₁.extBut b o hb (af _ e)))
theorem x7{t:Addr}{items:iJ}{targets:List (Bool×(Value->Sem Unit))}{Q:Unit->Shared->Prop}(hh:HndAt A s.heap)(ht:IsTup s.heap t items)
  (hn:targets.length=items.size)(hstar:targets.findIdx? (·.1)=none)
  (h:∀h',Heap.ExtBut s.heap.objs.size s.heap h'->wpAny (model prog w) A (assignInOrder (targets.map (·.2)) items.toList) Q E { s with heap:=h' }) :
  wpAny (model prog w) A (unpack (.ref t) targets) Q E s:=by
 unfold unpack;rw[hn,hstar];exact aa (aK (kh hh ht h))
theorem assign_Tuple_tupleH{env:Env}{elts:iL}{x1}{pos:Pos}{t:Addr}{items:iJ}{Q:Unit->Shared->Prop}(hh:HndAt A s.heap)(ht:IsTup s.heap t items)
  (hn:(assignEach elts env).length=items.size)(hstar:(assignEach elts env).findIdx? (·.1)=none)
  (h:∀h',Heap.ExtBut s.heap.objs.size s.heap h'->wpAny (model prog w) A (assignInOrder ((assignEach elts env).map (·.2)) items.toList) Q E { s with heap:=h' }) :
  wpAny (model prog w) A (assign (.Tuple elts x1 pos) env (.ref t)) Q E s:=by
 rw[assign_Tuple];exact aa (cm (x7 hh ht hn hstar h))
end
section
variable{prog:Program}{w:World}{A:Around}{E:iE}{s:Shared}{K:iA}{x D:Addr}{ox:Obj}
structure ExcK(K:iA)(D:Addr):Prop where
 ga:PySem.W.findIn K (.ref D) "__getattribute__"=some (some (.builtin "BaseException.__getattribute__"))
 gn:PySem.W.findIn K (.ref D) "__getattr__"=some none
 cls:(PySem.W.clsIn K D).isSome=true
 ca:PySem.W.findIn K (.ref D) "__class__"=some (some (.builtin "object.__class__"))
 cg:PySem.W.specialIn K (.builtin "object.__class__") "__get__"=some (some (.builtin "getset_descriptor.__get__"))
 ct:PySem.W.takesIn K (.builtin "object.__class__")=some true
 mo:PySem.W.mroIn K D (.type "object")=some true
 mb:PySem.W.mroIn K D (.type "BaseException")=some true
theorem JT{Q:Option Value->Shared->Prop}(F:ExcK K D)(X:K.In s.heap)(I:PySem.W.InstAt s.heap x ox D none)(h:Q (some (.ref D)) { s with toks:=s.toks+1 }):wpAny (model prog w) A (getAttr? (.ref x) "__class__") Q E s:=by
 have hf:PySem.W.findObj K D none "__class__"=some (.bind (.builtin "getset_descriptor.__get__") (.builtin "object.__class__")):=by
  obtain⟨cd,hc⟩:=bA.mp F.cls;unfold PySem.W.findObj;rw[hc,bb,F.ca,bb];simp[F.cg,F.ct]
 have f3:=gM.ga.bind (.ref x);have f4:=gM.ga.plain;obtain⟨hh,g,d,t,os⟩:=s;have L0:=I.type (M:=model prog w);have L1:=cT (M:=model prog w) X F.ga;have L2:=PySem.W.looks_find (M:=model prog w) X I hf;have L3:=PySem.W.looks_mroIn (M:=model prog w) X F.mb;have L4:=cT (M:=model prog w) X F.gn;unfold getAttr? getAttrBy? getAttrBy;refine aa (wpAny_mkText (aa (dM (aK (aa (L0.at (aa (L1.at ?_))))))));show wpAny _ _ (getAttrByItsOwn _ _ _ _ _ _) _ _ _;unfold getAttrByItsOwn;refine aa ?_;show wpAny _ _ (typeLookup _ _) _ _ _;refine L4.at ?_;refine aa (dM (aK ?_));unfold callGetattribute;rw[Bool.false_and,ax (by decide)];unfold boundAndCalled;rw[f3];refine aa (ae ?_);show wpAny _ _ (call (.builtin "BaseException.__getattribute__") [.ref x,.str "__class__" t]) _ _ _;refine gy (codeAny_call_builtin f4 PySem.F.entry_bexc_ga ?_);have hk:builtinKind "BaseException.__getattribute__"=some .slot:=by decide +kernel
 have hsplit:splitId "BaseException.__getattribute__"=some ("BaseException","__getattribute__"):=by decide +kernel
 have ha:=PySem.F.args_bexc_ga (.ref x) (.str "__class__" t);simp only[checkBuiltinCall,hk,hsplit];refine aa ?_;unfold isInstance;refine aa (L0.at (L3.at ?_));simp only[ib,aR,bR]
 repeat (any_goals (first|assumption|wp_step))
 refine bL I.at_ ?_;rw[show ox.cls=.ref D from I.cls];refine ae (aa (L2.at ?_));show wpAny _ _ (Builtin.ObjectAttr.bindTo _ _ _ _) _ _ _;show wpAny _ _ (holding [.builtin "object.__class__"] (call (.builtin "getset_descriptor.__get__") [.builtin "object.__class__",.ref x,.ref D]) >>= ret) _ _ _;refine aa (aK (gy (PySem.W.class_get (s:=⟨hh,g,d,t+1,os⟩) (ox:=ox) (od:=none) X I F.mo ?_)));refine ae ?_;show wpAny _ _ (handedOut (.ref D)) _ _ _;exact PySem.W.handed_on rfl (ae h)
theorem W0(F:ExcK K D):∃o cd,K.lookup D=some o/\o.data=.cls cd:=by
 have h:=F.cls;unfold PySem.W.clsIn at h
 split at h
 ·rename_i e
  exact⟨_,_,e,rfl⟩
 ·cases h
theorem kitx_exc(F:ExcK K D):PySem.W.KitX K (.ref x) (.ref D) (fun h=>PySem.W.InstAt h x ox D none):=by
 obtain⟨o,cd,e,ed⟩:=W0 F;refine⟨fun _ _ _ I=>I.type,fun M h X _=>?_,fun h tp dd its n sl X htp=>?_,fun X I k=>JT F X I k⟩
 ·intro A' Q' E' s' k q
  unfold isType;refine aa (bL (k _ _ (X _ _ e)) ?_);rw[ed];exact ae q
 ·cases hb:(Value.ref D == Value.ref tp)with
  |false=>rfl
  |true=>
   cases (cC.mp hb);have z:=(X _ _ e).symm.trans htp;cases z;cases ed
end
section
variable{prog:Program}{w:World}{A:Around}{E:iE}{s:Shared}
theorem zip2H{e:Addr}{oe:Obj}{vb:iJ}(hA:A.handled=some (.ref e))(hf:oe.data=.fields vb)(hv:vb[2]?=some .none)(z TI TO i1 i2 l1 l2:Addr)(D:ZipApart z TI TO i1 i2 l1 l2)(xs ys:iJ)(ne:e≠z/\e≠TO/\e≠i1/\e≠i2) :
  WalksT prog w A z [z,TI,TO,i1,i2,l1,l2,e] [z,TO,i1,i2] (min xs.size ys.size)
   (fun i vals=>∃x y,xs[i]?=some x/\ys[i]?=some y/\vals=#[x,y])
   (fun i h=>IsZip h z TI TO .none/\IsPair h TI (.ref i1) (.ref i2)/\(∃a b,IsPair h TO a b)/\h.IsListIter i1 l1 i/\h.IsListIter i2 l2 i/\h.IsList l1 xs/\h.IsList l2 ys/\h.get? e=some oe)
   (fun i T h=>IsZip h z TI TO (rawInt T)/\IsPair h TI (.ref i1) (.ref i2)/\(∃a b,IsPair h TO a b)/\h.IsListIter i1 l1 (i+1)/\h.IsListIter i2 l2 (i+1)/\h.IsList l1 xs/\h.IsList l2 ys/\
    T≠z/\T≠TO/\T≠i1/\T≠i2/\h.get? e=some oe) where
 sub:=fun c hc=>by simp at hc ⊢;rcases hc with rfl|rfl|rfl|rfl <;> simp
 frame:=fun i h h' hst hk=>by
  obtain⟨hz,hTI,⟨a,b,hTO⟩,h1,h2,hl1,hl2,he⟩:=hst;exact⟨hk z (by simp) _ hz,hk TI (by simp) _ hTI,⟨a,b,hk TO (by simp) _ hTO⟩,h1.at fun o e=>hk i1 (by simp) o e,h2.at fun o e=>hk i2 (by simp) o e,
   hl1.at fun o e=>hk l1 (by simp) o e,hl2.at fun o e=>hk l2 (by simp) o e,hk _ (by simp) _ he⟩
 item:=fun i s Q E hi hst hQ=>by
  obtain⟨hz,hTI,⟨a,b,hTO⟩,h1,h2,hl1,hl2,he⟩:=hst;have hix:i<xs.size:=bS hi (Nat.min_le_left ..);have hiy:i<ys.size:=bS hi (Nat.min_le_right ..);refine wpAny_pyNext_zip_item D hz hTI hTO h1 h2 hl1 hl2 (bG hix) (bG hiy) fun h' a1 a2 a3 a4 a5 a6 hk=>?_
  have lt:∀{c o},s.heap.get? c=some o->s.heap.objs.size≠c:=fun e=>cU (aA e)
  exact hQ s.heap.objs.size #[xs[i],ys[i]] h' s.toks ⟨_,_,bG hix,bG hiy,rfl⟩ (aI _) ⟨_,a5,rfl,_,rfl⟩
   ⟨a1,hk _ _ D.TIz D.TITO D.TIi1 D.TIi2 hTI,⟨_,_,a2⟩,a3,a4,hl1.at fun o e=>hk _ o D.l1z D.l1TO D.l1i1 D.l1i2 e,hl2.at fun o e=>hk _ o D.l2z D.l2TO D.l2i1 D.l2i2 e,
    lt hz,lt hTO,(by obtain⟨_,e,_⟩:=h1;exact lt e),(by obtain⟨_,e,_⟩:=h2;exact lt e),hk _ _ ne.1 ne.2.1 ne.2.2.1 ne.2.2.2 he⟩
   fun c o hc e=>hk c o (fun x=>hc (by simp[x])) (fun x=>hc (by simp[x])) (fun x=>hc (by simp[x])) (fun x=>hc (by simp[x])) e
 go:=fun elts k pos i T s Q E hm hQ=>by
  obtain⟨hz,hTI,⟨a,b,hTO⟩,h1,h2,hl1,hl2,_,_,_,_,he⟩:=hm;refine wpAny_letOwnedTupleGo_zip hz fun h' hz' hs'=>hQ h' ⟨hz',hs'.extBut _ _ D.TIz hTI,⟨a,b,hs'.extBut _ _ D.TOz hTO⟩,h1.extBut hs'.extBut D.i1z,h2.extBut hs'.extBut D.i2z,
   hl1.extBut hs'.extBut D.l1z,hl2.extBut hs'.extBut D.l2z,hs'.extBut _ _ ne.1 he⟩ fun c o hc e=>hs'.extBut _ _ (fun x=>hc (by simp[x])) e
 apart:=fun i T h hm hT=>by
  obtain⟨_,_,_,_,_,_,_,t1,t2,t3,t4,_⟩:=hm;simp at hT;rcases hT with rfl|rfl|rfl|rfl
  ·exact t1 rfl
  ·exact t2 rfl
  ·exact t3 rfl
  ·exact t4 rfl
 done:=fun s Q E hst hQ=>by
  obtain⟨hz,hTI,⟨a,b,hTO⟩,h1,h2,hl1,hl2,he⟩:=hst;have hend:xs[min xs.size ys.size]?=none\/ys[min xs.size ys.size]?=none:=by
   rcases Nat.le_total xs.size ys.size with h|h
   ·exact .inl (by rw[Nat.min_eq_left h];exact Array.getElem?_eq_none (aI _))
   ·exact .inr (by rw[Nat.min_eq_right h];exact Array.getElem?_eq_none (aI _))
  exact KL ⟨e,oe,vb,hA,he,hf,hv⟩ (fun b hb=>by cases hA.symm.trans hb;exact ne) D hz hTI hTO h1 h2 hl1 hl2 hend fun h' hk=>hQ h' s.toks fun c o hc e=>
   hk c o (fun x=>hc (by simp[x])) (fun x=>hc (by simp[x])) (fun x=>hc (by simp[x])) (fun x=>hc (by simp[x])) e
 self:=fun i s Q E hst hQ=>iy hst.1 hQ
end
end UH
namespace E
open PySem PySem.Spec PyProof PyProof.Rows L2
noncomputable def HX(X:Cx):Prop:=∃v,X.A.handled=some v
section
variable{X:Cx}{p:Pin}{sc:Sc}{b:Hb}{c:Co}{s:Shared}{Z:iE}{e i a:Expr}{es:iL}{fa:Sc->Hb->R D}{fs:Sc->Hb->R (List D)}{pos tp ps p1 p2:Pos}{ts:iL}{k:Nat}
theorem HX.at(h:HX X)(I:Inv X p sc b c s):∃e o vs,X.A.handled=some (.ref e)/\c.t e=some (.frz o)/\s.heap.get? e=some o/\o.data=.fields vs/\vs[2]?=some .none:=by
 obtain⟨v,h⟩:=h;obtain⟨e,o,vs,rfl,h2,h3,h4⟩:=I.hx v h;exact⟨e,o,vs,h,h2,I.st.frz _ _ h2,h3,h4⟩
theorem HX.hnd(h:HX X)(I:Inv X p sc b c s):UH.HndAt X.A s.heap:=by
 obtain⟨e,o,vs,h1,_,h2,h3,h4⟩:=h.at I;exact⟨e,o,vs,h1,h2,h3,h4⟩
theorem uF{ts}(hx:HX X)(h:EGs X es ts)(hst:(assignEach es X.env).findIdx? (·.1)=none)(hn:(assignEach es X.env).length=es.length)(hl:∀sc sc' l,asgs ts l sc=some sc'->l.length=es.length):EG X (.Tuple es k pos) (.tp ts):=⟨fun p sc b c s sc' u d Q Z I r e q=>by
 have go:∀l,(∃a o us,u=.ref a/\c.t a=some (.frz o)/\ScrO o us/\Reps X.W c l us)->asgs ts l sc=some sc'->wpAny X.M X.A (assign (.Tuple es k pos) X.env u) Q Z s:=fun l⟨z,o,us,eu,f,z1,rs⟩ e=>by
  subst eu;refine UH.assign_Tuple_tupleH (hx.hnd I) (z1.tu (I.st.frz _ _ f)) (by rw[hn,au,rs.len];exact(hl _ _ _ e).symm) hst fun h' hx=>?_
  exact h.h _ _ _ _ _ _ _ _ _ _ (I.kept (t':=s.toks) fun b o e=>hx b o (aH (aA e)) e) (by simpa using rs) e q
 cases d with
 |tup l=>obtain⟨z,o,us,e1,f,z1,rs⟩:=r;exact go l ⟨z,o,us,e1,f,z1.scr,rs⟩ e
 |scr l=>exact go l r e
 |_=>cases e⟩
theorem ur(hx:HX X)(hg:Gl X "zip")(hm:X.W.mg "zip"=none)(ha:EA X [e,i] fs)(h1:notStar e=true)(h2:notStar i=true):EI X (.Tuple ts k tp) (.Call (.Name "zip" ps) [e,i] [] pos) fun s b=>(fs s b).bind fun l b=>opt (srcZ l) b:=⟨fun p sc b c s Q Z I q=>by
 refine Call_ (vI I hg hm Xp (callWith_type1 ((ha pos).runI I q fun ds b us s c I lc rs q=>?_) (qQ h1) (by rw[qQ h2];rfl)) (by decide) (by decide));obtain⟨l,h,e,k⟩:=PoI.opt q;unfold srcZ at e
 split at e
 ·rename_i x y
  cases e;obtain⟨_,_,rfl,⟨z,o,us,rfl,f,g,rs⟩,_,_,rfl,⟨z',o',us',rfl,f',g',rs'⟩,rfl⟩:=rs;have ho:=I.st.frz _ _ f;have ho':=I.st.frz _ _ f';have il:=(g.pl ho).isList;have il':=(g'.pl ho').isList;obtain⟨e0,oe,ve,hA,te,he,hf,hv⟩:=hx.at I;have lt:=aA he;refine call_zip_2 il il' fun h' a1 a2 a3 a4 a5 a6 kk=>iy a1 (k _ _ _ (I.kept (t':=s.toks) kk) ⟨.refl,⟨_,[s.heap.objs.size+4,s.heap.objs.size+2,s.heap.objs.size+3,s.heap.objs.size,s.heap.objs.size+1],_,.walkT (UH.zip2H hA hf hv _ _ _ _ _ z z' (PySem.W.ktu_apart _ z z' (aA ho) (aA ho')) us.toArray us'.toArray ⟨aH (bS lt (bD _ _)),aH (bS lt (bD _ _)),aH lt,aH (bS lt (bD _ _))⟩) (by simp[rs.len,rs'.len]) (fun a ha=>?_) (fun i h st a ha=>?_) (fun a ha=>?_) (fun i vs d e hv=>?_),⟨a1,a2,⟨_,_,a3⟩,a4,a5,il.at fun o e=>kk z o e,il'.at fun o e=>kk z' o e,kk _ _ he⟩,fun a ha=>?_⟩,fun _ h=>nomatch h⟩)
  ·simp only[aw,aL,bZ]at ha ⊢
   rcases ha with rfl|rfl|rfl|rfl <;> simp
  ·obtain⟨b1,b2,⟨_,_,b3⟩,⟨o1,b4,_,b5⟩,⟨o2,b6,_,b7⟩,_⟩:=st
   simp only[aw,aL,bZ]at ha;rcases ha with rfl|rfl|rfl|rfl|rfl
   ·exact⟨_,b1,fun v z=>by cases z⟩
   ·exact⟨_,b2,fun v z=>by cases z⟩
   ·exact⟨_,b3,fun v z=>by cases z⟩
   ·exact⟨o1,b4,fun v z=>by rw[b5]at z;cases z⟩
   ·exact⟨o2,b6,fun v z=>by rw[b7]at z;cases z⟩
  ·simp only[aw,aL,bZ]at ha ⊢
   rcases ha with h|h|h|h|h|rfl|rfl|rfl
   ·exact .inl (.inl h)
   ·exact .inl (.inr (.inl h))
   ·exact .inl (.inr (.inr (.inl h)))
   ·exact .inl (.inr (.inr (.inr (.inl h))))
   ·exact .inl (.inr (.inr (.inr (.inr h))))
   ·exact .inr ⟨o,.inl f⟩
   ·exact .inr ⟨o',.inl f'⟩
   ·exact .inr ⟨oe,.inl te⟩
  ·obtain⟨v,w,g1,g2,rfl⟩:=hv
   rw[aW]at e;obtain⟨y,g3,rfl⟩:=ah.mp e;obtain⟨g4,g5⟩:=gQ.mp g3;obtain⟨u,b1,b2⟩:=rs.at g4;obtain⟨u',b3,b4⟩:=rs'.at g5;rw[show us[i]?=some v by simpa using g1]at b1;cases b1;rw[show us'[i]?=some w by simpa using g2]at b3;cases b3;exact⟨_,rfl,.two b2 b4,wU⟩
  ·simp only[aw,aL,bZ]at ha
   rcases ha with rfl|rfl|rfl|rfl|rfl <;> first|exact I.fpn (bD _ _)|exact I.fpn (aI _)
 ·cases e⟩
structure KdOk(W:Wd):Prop where
 ex:∀i,3<=i->i<22->UH.ExcK W.K (W.cl i)
 one:∀i j,3<=i->i<22->3<=j->j<22->PySem.W.kitOne W.K (.ref (W.cl i)) (.ref (W.cl j))=some (decide (i=j))
noncomputable def isX(j:Nat):D->Option D
 |.exn C=>if 3<=C/\C<22 then some (.bl (decide (C=j)))else none
 |_=>none
theorem qdi{x:Str}{j:Nat}(kd:KdOk X.W)(h3:3<=j)(h22:j<22)(hgx:Gl X x)(hmx:X.W.mg x=some (.ref (X.W.cl j)))(hd:(x == ("__debug__":Str))=false)(hg:Gl X "isinstance")(hm:X.W.mg "isinstance"=none)(ha:EV X a fa)(hs:notStar a=true) :
  EV X (.Call (.Name "isinstance" p1) [a,.Name x p2] [] pos) fun s b=>(fa s b).bind fun d b=>opt (isX j d) b:=⟨fun p sc b c s Q Z I q=>by
 refine Call_ (vI I hg hm Kt ?_ (by decide) (by decide));rw[qQ hs];refine bP rfl (cD (bU (ha.run I q fun d b u s c I _ r q=>bU (wp I hgx hmx (dz ?_) hd))));obtain⟨z,e,k⟩:=Post.opt q;unfold isX at e
 split at e
 ·rename_i C
  split at e
  ·rename_i hC
   cases e;obtain⟨a',o,vs,rfl,t,h1,h2,h4,h5⟩:=r;have g:=I.st.frz _ _ t;have J:PySem.W.InstAt s.heap a' o (X.W.cl C) none:=⟨g,h1,by unfold PySem.W.notCls;rw[h4],by rw[h2];trivial⟩;exact PySem.W.kia_one (UH.kitx_exc (kd.ex C hC.1 hC.2)) I.kIn J (kd.one C j hC.1 hC.2 h3 h22) (fun z=>nomatch z) fun tk=>k _ _ c (I.tok tk) .refl rfl
  ·cases e
 ·cases e⟩
end
section
variable{X:Cx}{p:Pin}{sc:Sc}{b:Hb}{c:Co}{s:Shared}{a e:Addr}{x:Nat}{Z:iE}
theorem Inv.unbind{i:Nat}{x:Str}{d:D}{M:Model}{A:Around}{E:iE}{Q:Unit->Shared->Prop}(I:Inv X p sc b c s)(hN:X.N.Nodup)(hi:X.N[i]?=some x)(hx:X.env.scope.names.lookup x=some .local)(hs:sc[i]?=some (some d))
  (h:∀s',Inv X p (sc.set i none) b c s'->Q () s'):wpAny M A (unbindName X.env x) Q E s:=by
 obtain⟨m,hn,hl⟩:=id I.loc;have hcls:(X.env.scope.kind == .class || (X.env.scope.kind == .module && X.env.locals != X.env.globals))=false:=by rw[I.ok.kind];rfl
 have hii:i<sc.length:=(ag.mp hs).1;obtain⟨u,ru,lk⟩:=hl i x d hi hs (.inl hx);have hk:X.env.kindOf x=some .local:=hx;have hm:m x=some u:=by
  rcases lk with⟨_,e⟩|⟨k,_⟩
  ·exact e
  ·rw[hk]at k
   rcases k with k|k <;> cases k
 refine wpAny_unbindName_local hk hn hm hcls fun h' u' hn' hs'=>h _ (I.put hs' I.free (bw I.ok.above) (fun q hq=>(I.pin q hq).2.2.1) ⟨_,hn',fun j y e e1 e2 e3=>?_⟩ (fun y z e=>?_) (by rw[cW];exact I.len))
 ·by_cases hj:j=i
  ·subst hj
   rw[aV hii]at e2;cases e2
  ·rw[aO (bN hj)]at e2
   obtain⟨v,r',q⟩:=hl j y e e1 e2 e3;have ne:y≠x:=fun z=>hj (YS hN e1 (z▸hi))
   exact⟨v,r',q.imp (fun⟨k,e⟩=>⟨k,by simp[ne,e]⟩) fun⟨k,z,e,w⟩=>⟨k,z,e,w.sameBut hs' (I.cne e)⟩⟩
 ·obtain⟨_,v,w⟩:=I.cell y z e
  exact⟨v,w.sameBut hs' (I.cne e)⟩
theorem yD{prog:Program}{w:World}{A:Around}{s:Shared}{env:Env}{R:Result->Shared->Prop}{e:Value}{n:Str}{b₀:Stmt}{body:List Stmt}{pos:Pos}
  (h:wpAny (model prog w) A (setFlight e none) (fun _ s₁=>wpAny (model prog w) A (bindName env n e) (fun _ s₂=>wpAny (model prog w) A (execs (b₀::body) env) (fun f s₃=>R (.ok f) s₃) (fun _ _=>False) s₂) (fun _ _=>False) s₁) (fun _ _=>False) s) :
  codeAny (model prog w) A (.handlers e [.ExceptHandler none (some n) (b₀::body) pos] env) R s:=by
 refine codeAny_of_tree ?_;show wpAny _ A (do return Fin.done (<- (handleWith e env [.ExceptHandler none (some n) (b₀::body) pos]).onRaise (fun x=>do noteFrame x env;theTreesLotGoes x))) _ _ s;refine aa (wpAny_noted ?_);unfold handleWith;refine aa (cm (aa (aY h (fun _ s₁ h₁=>aa (aY h₁ (fun _ s₂ h₂=>aa (dM (aY h₂ (fun f s₃ h₃=>ae (ae h₃)) fun _ _ x=>x.elim))) fun _ _ x=>x.elim)) fun _ _ x=>x.elim)))
noncomputable def unO(i:Nat):Out->Out
 |.nx s b=>.nx (s.set i none) b
 |.rt (.v d) b=>.rt (.v d) b
 |.bk s b=>.bk (s.set i none) b
 |.ct s b=>.ct (s.set i none) b
 |_=>.bad
noncomputable def catN(i:Nat)(fsu:Sc->Hb->Out):Out->Out
 |.ex C s b=>if yg C=true then unO i (fsu (s.set i (some (.exn C))) b)else .bad
 |o=>o
theorem Yz{cx nm:Str}{Wc:Addr}{i:Nat}{cp hp pos:Pos}{body:List Stmt}{b₀:Stmt}{suite:List Stmt}{fs fsu:Sc->Hb->Out}(hx:Exk X)(hN:X.N.Nodup)(hi:X.N[i]?=some nm)(hloc:X.env.scope.names.lookup nm=some .local)(hgc:Gl X cx)(hmc:X.W.mg cx=some (.ref Wc))(hd:(cx == ("__debug__":Str))=false)(hW:jc X.W.base Wc Wc)(hsub:∀C,yg C=true->jc X.W.base (X.W.cl C) Wc)(hb:ESs X body fs)(hs:∀a,ESs (hnd X a) (b₀::suite) fsu) :
  ES X (.Try body [.ExceptHandler (some (.Name cx cp)) (some nm) (b₀::suite) hp] [] [] pos) fun s b=>catN i fsu (fs s b):=⟨fun p sc b c s Q Z I q=>by
 refine wpAny_Try_except ?_;have q:PoS X p Z c (catN i fsu (fs sc b)) Q:=q;let E1:iE:=fun e s₁=>wpAny X.M X.A (noteFrame e X.env) (fun _ s₂=>wpAny X.M X.A (setFlight e none) (fun _ s₃=>wpAny X.M X.A (handleBy e X.env [.ExceptHandler (some (.Name cx cp)) (some nm) (b₀::suite) hp]) Q Z s₃) Z s₂) Z s₁
 have fin:∀{s2:Shared}{sc2:Sc}{b2:Hb}{c2:Co}{Q':Unit->Shared->Prop},Inv X p sc2 b2 c2 s2->(∀s3,Inv X p (sc2.set i none) b2 c2 s3->Q' () s3)->wpAny X.M X.A (do bindName X.env nm .none;unbindBehindTheSuite X.env nm hp) Q' Z s2:=fun{s2 sc2 b2 c2 Q'} J0 k=>by
  refine aa (wpAny_bindName (store (d:=.non) J0 hN hi (.inl hloc) rfl fun s3 J3=>?_));unfold unbindBehindTheSuite;have hii:i<sc2.length:=by rw[J0.len];exact(ag.mp hi).1
  refine wpAny_onRaise (aY (J3.unbind (E:=fun _ _=>False) hN hi hloc (d:=.non) (by rw[aV hii]) fun s4 J4=>?_) (fun _ _ z=>z) fun _ _ z=>z.elim);rw[i5]at J4;exact k s4 J4
 have hq:PoS X p E1 c (fs sc b) Q:=by
  cases z:fs sc b with
  |ex C s1 b1=>
   rw[z]at q;have q:PoS X p Z c (if yg C=true then unO i (fsu (s1.set i (some (.exn C))) b1)else .bad) Q:=q
   split at q
   ·rename_i hC
    intro a s' c' J l' t;refine JR hx J t fun s2 J2 t2=>xS J2 t2 fun s3 J3 t3=>?_
    obtain⟨hn,oe,vs,T,oT,ts,v,he,hcls,hdv,hcx,r⟩:=id t3;refine wpAny_handleBy_cons (codeAny_handlers_test (qdn (X:=hnd X a) (Jz (J3.fz hn he).1 a qJ hdv hcx.1) hgc hmc hd ?_)) (by intro z;cases z);refine yO (vt J3.bk (hsub C hC)) (vt J3.bk hW) he hcls ?_;show codeAny _ _ _ _ s3;refine yD (xS J3 t3 fun s4 J4 t4=>?_);obtain⟨hn4,oe4,vs4,T4,oT4,ts4,v4,he4,hcls4,hdv4,hcx4,r4⟩:=id t4;obtain⟨J4f,l4⟩:=J4.fz hn4 he4;refine wpAny_bindName (store (X:=hnd X a) (d:=.exn C) (E:=fun _ _=>False) (Jz J4f a qJ hdv4 hcx4.1) hN hi (.inl hloc) ⟨a,oe4,vs4,rfl,qJ,hcls4,qds hcx4.2,hdv4,hcx4.1⟩ fun s5 J5=>?_);refine(hs a).h p _ b1 _ s5 _ _ J5 ?_;cases zz:fsu (s1.set i (some (.exn C))) b1 with
    |bad=>rw[zz]at q;exact q
    |ex=>rw[zz]at q;exact q.elim
    |nx s6 b6=>
     rw[zz]at q;intro f s7 c7 l7 fr;cases f <;> first|exact fr.elim|skip
     exact fin (QP J3.ok (J3.hx.le (l4.trans l7).toL0) fr) fun s8 J8=>q .next s8 c7 ((l'.trans l4).trans l7) J8
    |bk s6 b6=>
     rw[zz]at q;intro f s7 c7 l7 fr;cases f <;> first|exact fr.elim|skip
     exact fin (QP J3.ok (J3.hx.le (l4.trans l7).toL0) fr) fun s8 J8=>q .brk s8 c7 ((l'.trans l4).trans l7) J8
    |ct s6 b6=>
     rw[zz]at q;intro f s7 c7 l7 fr;cases f <;> first|exact fr.elim|skip
     exact fin (QP J3.ok (J3.hx.le (l4.trans l7).toL0) fr) fun s8 J8=>q .cont s8 c7 ((l'.trans l4).trans l7) J8
    |rt r6 b6=>
     rw[zz]at q;cases r6 with
     |n o=>exact q.elim
     |v d=>
      intro f s7 c7 l7 fr;cases f <;> first|exact fr.elim|skip
      obtain⟨⟨sc7,J7⟩,r7⟩:=fr;exact fin (QP J3.ok (J3.hx.le (l4.trans l7).toL0) J7) fun s8 J8=>q _ s8 c7 ((l'.trans l4).trans l7) ⟨⟨_,J8⟩,r7⟩
   ·exact q.elim
  |_=>rw[z]at q;exact q
 refine aY (hb.h p sc b c s Q E1 I hq) (fun f s1 h1=>?_) fun e s1 h1=>h1
 cases f with
 |next=>exact ae h1
 |_=>exact h1⟩
end
structure RoomH(k:Nat)(A:Around):Prop where
 hd:∃v,A.handled=some v
 dp:A.depth+3 * k+5<recursionLimit
 un:A.units+16 * k+200<cLine
theorem RoomH.deeper{k:Nat}{A:Around}(r:RoomH (k+1) A)(env:Env):RoomH k (A.deeper env):=
 ⟨r.hd,by have:=r.dp;show A.depth+1+3 * k+5<_;omega,by have:=r.un;show A.units+3+16 * k+200<_;omega⟩
theorem RoomH.mono{j k:Nat}{A:Around}(r:RoomH k A)(h:j<=k):RoomH j A:=⟨r.hd,by have:=r.dp;omega,by have:=r.un;omega⟩
theorem Room.hnd{k:Nat}{A:Around}(r:Room k A)(e:Value):RoomH k (A.mark (some e)):=⟨⟨e,rfl⟩,r.dp,r.un⟩
structure FnOkH(W:Wd)(k:Nat)(f:Addr)(fd:FuncData)(ps:iK)(F:List D->Hb->R Res):Prop where
 run:∀A outer s c b args us ds Q,RoomH k A->E0 W A outer s c b->BindsTo s fd args (ps.zip us)->Reps W c ds us->ds.length=ps.length->PoF W outer s c (F ds b) Q->codeAny W.M A (.call (.ref f) args) Q s
noncomputable def outH:Out->R Res
 |.rt r b=>.ok r b
 |.nx _ b=>.ok (.v .non) b
 |_=>.bad
noncomputable def Kw(n:Nat)(f:Sc->Hb->Out)(l:List D)(b:Hb):R Res:=outH (f (zL n l) b)
section
variable{W:Wd}{N ps:iK}{qual:Str}{scope:Scope}{f:Addr}
theorem uI{k name params body dV kV doc pm cdv ct oc}{an od:iI}{osl}{fs:Sc->Hb->Out}(lk:W.K.lookup f=some ⟨oc,od,.func (PySem.W.fnOf name qual params body scope dV kV doc pm an cdv ct),osl⟩)(hcd:PySem.W.codeIn W.K cdv qual=true)(S:FnScope N ps scope)
  (hb:∀A outer s c,RoomH k (A.deeper (envOfC qual scope s.heap.objs.size f cdv))->ESs (cxQ false W N qual scope f cdv A outer s c) body fs):FnOkH W (k+1) f (PySem.W.fnOf name qual params body scope dV kV doc pm an cdv ct) ps (Kw N.length fs):=by
 refine⟨fun A outer s c b args us ds Q hr e0 hbd r hl q=>?_⟩;have KX:W.K.In s.heap:=e0.mo.kin.keeps fun b o e=>(e0.bs b o e).1
 have lim:s.heap.NoLimit:=e0.mo.lim.keeps fun b o e=>(e0.bs b o e).1
 have hkind:∀y∈ps.zip us,scope.names.lookup y.1=some .local\/(scope.names.lookup y.1=some .cell/\((cellsFrom (s.heap.objs.size+1) scope.names []).lookup y.1).isSome=true):=fun⟨n,v⟩ hy=>by
  rcases S.par n (fy hy).1 with q|q
  ·exact .inl q
  ·exact .inr ⟨q,fN _ _ _ (.inl q)⟩
 refine gm (by have:=hr.dp;omega) (KX _ _ lk) rfl S.co S.gen rfl (PySem.W.codeRec_of KX hcd) (hbd _ _ _ _ ?_);refine eH S.kind hkind fun env he s1 x=>?_
 subst he;refine⟨lim.keeps x.toInCall.keep,codeAny_func ?_⟩;have I:Inv (cxQ false W N qual scope f cdv A outer s c) [] (zL N.length ds) b c s1:=.start S (fun z=>by cases z) e0 hl r x;refine(hb A outer s c (hr.deeper _)).h [] (zL N.length ds) b c s1 _ _ I ?_;unfold Kw at q;cases eo:fs (zL N.length ds) b with
 |rt r b'=>
  rw[eo]at q;intro fl s' c' l fr;cases fl <;> first|exact fr.elim|skip
  obtain⟨⟨sc',J⟩,rr⟩:=fr;refine q _ s' c' ⟨J.os,J.bare,J.un,J.st⟩ ?_;cases r with
  |v d=>exact rr
  |n o=>obtain⟨a,e,F,oa⟩:=rr;exact⟨a,e,⟨F.x.elim (fun z=>nomatch (show a∈([]:iG)from z)) id,F.t⟩,F.y,oa⟩
 |nx sc' b'=>
  rw[eo]at q;intro fl s' c' l fr;cases fl <;> first|exact fr.elim|skip
  exact q .none s' c' ⟨fr.os,fr.bare,fr.un,fr.st⟩ rfl
 |ex x sc' b'=>rw[eo]at q;exact q.elim
 |bk=>rw[eo]at q;exact q.elim
 |ct=>rw[eo]at q;exact q.elim
 |bad=>rw[eo]at q;exact q.elim
end
section
variable{X:Cx}{p:Pin}{sc:Sc}{b:Hb}{c:Co}{s:Shared}{Z:iE}{e:Expr}{es:iL}{pos ps:Pos}{fs:Sc->Hb->R (List D)}{k:Nat}{f:Addr}{fd:FuncData}{pr:iK}{F:List D->Hb->R Res}{ds:List D}{us:iH}{Q:iE}{x:Str}
theorem XV(G:FnOkH X.W k f fd pr F)(hr:RoomH k X.A)(hb:Bnd fd pr)(I:Inv X p sc b c s)(r:Reps X.W c ds us)(q:Post X p sc Z c RR (cl pr.length F ds b) Q):wpAny X.M X.A (call (.ref f) us) Q Z s:=by
 unfold cl at q
 split at q
 ·rename_i hl
  refine gy (G.run X.A X.stack s c b ⟨us,[]⟩ us ds _ hr I.e0 (.of_eq (hb us (by rw[r.len];exact hl))) r hl ?_);cases e:F ds b with
  |bad=>rw[e]at q;exact q
  |ok r b'=>
   rw[e]at q;refine fun u s' c' B rc=>q u s' c' (I.after B) B.un.le ?_
   cases r with
   |v d=>exact rc
   |n o=>obtain⟨a,e,n,y,oa⟩:=rc;exact⟨a,e,n.fp I,oa⟩
  |exc x b'=>rw[e]at q;exact fun a s' c' B t=>q a s' c' (I.after B) B.un.le (t.mono fun _ n=>n.fp I)
 ·exact q.elim
theorem WR(G:FnOkH X.W k f fd pr F)(hr:RoomH k X.A)(hg:Gl X x)(hm:X.W.mg x=some (.ref f))(hk:PySem.W.keepIn X.W.K (.ref f)=true)(hb:Bnd fd pr)(ha:EA X (e::es) fs)(hd:(x == ("__debug__":Str))=false)(hs:notStar e=true)(hpl:(backTo pos (starEach es X.env)).any (·.1)=false):ER X (.Call (.Name x ps) (e::es) [] pos) fun s b=>(fs s b).bind (cl pr.length F):=⟨fun _ _ _ _ _ _ _ I q=>
 fB (wp I hg hm (gP (h₀:=X.W.base) I.ok.mo.kin hk ((ha pos).run I q fun _ _ _ _ _ I _ r q=>⟨I.kIn,XV G hr hb I r q⟩) (qQ hs) hpl) hd)⟩
end
inductive C0 where
 |non|bl (b:Bool)|int (i:Int)|str (x:Str)
 deriving DecidableEq
noncomputable def C0.d:C0->D
 |.non=>.non
 |.bl b=>.bl b
 |.int i=>.int i
 |.str x=>.str x
structure Bop where
 o:Operator
 g:G
 ok:∀X,Op2 X (binaryOp o) g
noncomputable def Bop.add:Bop:=⟨.Add,gR addD,fun _=>qcc⟩
noncomputable def Bop.sub:Bop:=⟨.Sub,gR subD,fun _=>qb6⟩
noncomputable def Bop.mul:Bop:=⟨.Mult,gR mulD,fun _=>qb9⟩
noncomputable def Bop.mod:Bop:=⟨.Mod,gR modD,fun _=>qca⟩
noncomputable def Bop.div:Bop:=⟨.FloorDiv,gR divD,fun _=>qcb⟩
noncomputable def Bop.pow:Bop:=⟨.Pow,gR powD,fun _=>qb7⟩
noncomputable abbrev Un64(X:Cx):Prop:=X.A.units+64<cLine
structure Cop where
 o:CmpOp
 g:G
 ok:∀X,Un64 X->Op2 X (compareOp o) g
noncomputable def Cop.eq:Cop:=⟨.Eq,g2 fun b=>eqN b 8,fun _=>o_eq⟩
noncomputable def Cop.ne:Cop:=⟨.NotEq,g2 (scD not),fun _ _=>o_ne⟩
noncomputable def Cop.lt:Cop:=⟨.Lt,g2 ltD,fun _ _=>o_lt⟩
noncomputable def Cop.le:Cop:=⟨.LtE,g2 (cmpI fun i j=>decide (i<=j)),fun _ _=>o_le⟩
noncomputable def Cop.gt:Cop:=⟨.Gt,g2 (cmpI fun i j=>decide (j<i)),fun _ _=>o_gt⟩
noncomputable def Cop.ge:Cop:=⟨.GtE,g2 (cmpI fun i j=>decide (j<=i)),fun _ _=>o_ge⟩
noncomputable def Cop.is:Cop:=⟨.Is,g2 (isN id),fun _ _=>o_is⟩
noncomputable def Cop.isn:Cop:=⟨.IsNot,g2 (isN not),fun _ _=>XZ⟩
noncomputable def Cop.inn:Cop:=⟨.In,g2 (inD id),fun _=>o_in⟩
noncomputable def Cop.nin:Cop:=⟨.NotIn,g2 (inD not),fun _=>XY⟩
structure Bf where
 x:Str
 g:G
 ty:String:="bool"
 ok:∀X,X.calm=true->Un64 X->(∃id,Op X (fun us=>call (.builtin id) us) g/\bootBuiltins x=some (.builtin id))\/∃t,Op X (fun us=>call (.type t) us) g/\bootBuiltins x=some (.type t)
noncomputable def orG(f g:G):G:=fun l b=>(f l b).or (g l b)
noncomputable def mmG(g:Bool):G:=orG (orG (gN fun _ l=>match l with
 |[.int i,.int j]=>some (.v (.int (if(if g then j<i else i<j)then j else i)))
 |_=>none) (gN fun _ l=>match l with
 |[.str i,.str j]=>some (.v (.str (if(if g then j.cps.toList<i.cps.toList else i.cps.toList<j.cps.toList)then j else i)))
 |_=>none)) (gN (g1 (iMM g)))
noncomputable def Bf.len:Bf:=⟨"len",gN (g1 iLen),"bool",fun _ _ _=>.inl ⟨_,qaw,by decide +kernel⟩⟩
noncomputable def Bf.int:Bf:=⟨"int",gN (g1 iInt),"int",fun _ _ _=>.inr ⟨_,qax,by decide +kernel⟩⟩
noncomputable def Bf.str:Bf:=⟨"str",gN (g1 iStr),"str",fun _ _ _=>.inr ⟨_,qar,by decide +kernel⟩⟩
noncomputable def Bf.list:Bf:=⟨"list",gN (g1 uv),"list",fun _ _ _=>.inr ⟨_,W6,by decide +kernel⟩⟩
noncomputable def Bf.tup:Bf:=⟨"tuple",gN (g1 iTup),"tuple",fun _ _ _=>.inr ⟨_,qaq,by decide +kernel⟩⟩
noncomputable def Bf.all:Bf:=⟨"all",gN (g1 iAll),"bool",fun _ hc _=>.inl ⟨_,qaz hc,by decide +kernel⟩⟩
theorem YT(hc:X.calm=true)(hu:X.A.units+64<cLine)(g:Bool):Op X (fun us=>call (.builtin (mmN g)) us) (mmG g):=.or (.or (qav hc g) (qat hc g)) (qau hc hu g)
noncomputable def Bf.max:Bf:=⟨"max",mmG false,"bool",fun _ hc hu=>.inl ⟨_,YT hc hu false,by decide +kernel⟩⟩
noncomputable def Bf.min:Bf:=⟨"min",mmG true,"bool",fun _ hc hu=>.inl ⟨_,YT hc hu true,by decide +kernel⟩⟩
noncomputable def Bf.srt:Bf:=⟨"sorted",gN (g1 iSrt),"bool",fun _ hc _=>.inl ⟨_,qas hc,by decide +kernel⟩⟩
noncomputable def Bf.dct:Bf:=⟨"dict",gN (g1 iDct),"dict",fun _ hc _=>.inr ⟨_,qay hc,by decide +kernel⟩⟩
theorem Y_:∀t∈tyL.drop 1,bootBuiltins (t:Str)=some (.type t):=by decide +kernel
structure Bm where
 T:Ty
 x:Str
 g:G
 ok:∀X,Un64 X->∃id,PlainAttrs T.nm/\Slot T.nm x id/\typeOf (.builtin id)=pure (.type "method_descriptor")/\Op X (fun us=>call (.builtin id) us) g
noncomputable def Bm.app:Bm:=⟨.list,"append",gL iApp,fun _ _=>⟨_,fG,fc,PySem.F.type_list_append,qap⟩⟩
noncomputable def Bm.get:Bm:=⟨.dict,"get",gN iGet,fun _ hu=>⟨_,cB,gp,PySem.F.type_dict_get,qal hu⟩⟩
noncomputable def Bm.sdf:Bm:=⟨.dict,"setdefault",iSdf,fun _ hu=>⟨_,cB,gx,PySem.F.type_dict_setdefault,qaj hu⟩⟩
noncomputable def Bm.dpp:Bm:=⟨.dict,"pop",iDpp,fun _ hu=>⟨_,cB,PySem.F.slot_dict_pop,PySem.F.type_dict_pop,qam hu⟩⟩
noncomputable def Bm.join:Bm:=⟨.str,"join",gN WC,fun _ _=>⟨_,PySem.F.plainAttrs_str,PySem.F.slot_str_join,PySem.F.type_str_join,W4⟩⟩
noncomputable def Bm.rem:Bm:=⟨.list,"remove",gL iRem,fun _ hu=>⟨_,fG,gZ,PySem.F.type_list_remove,qak hu⟩⟩
noncomputable def Bm.tix:Bm:=⟨.tuple,"index",gN iTix,fun _ hu=>⟨_,PySem.F.plainAttrs_tuple,hI,PySem.F.type_tuple_index,qai hu⟩⟩
noncomputable def Bm.cpy:Bm:=⟨.list,"copy",gN (g1 iCpy),fun _ _=>⟨_,fG,PySem.F.slot_list_copy,PySem.F.type_list_copy,qan⟩⟩
noncomputable def Bm.cpd:Bm:=⟨.dict,"copy",gN (g1 iCpd),fun _ _=>⟨_,cB,PySem.F.slot_dict_copy,PySem.F.type_dict_copy,qao⟩⟩
noncomputable def flds:List (Nat×Nat):=[(0,0),(1,1),(1,2),(1,3)]
structure FnE where
 kd:Nat
 x:Str
 C:Nat
 j:Nat
 n:Nat
 k:Nat
 F:List D->Hb->R Res
noncomputable abbrev EvD:=Sc->Hb->R D
noncomputable abbrev EvB:=Sc->Hb->R Bool
noncomputable def Yd:List EvD->EvD
 |[]=>fun _ _=>.bad
 |[f]=>f
 |f::g::r=>andV f (Yd (g::r))
noncomputable def Ye:List EvB->EvB
 |[]=>fun _ _=>.bad
 |[f]=>f
 |f::g::r=>andT f (Ye (g::r))
noncomputable def orTL:List EvB->EvB
 |[]=>fun _ _=>.bad
 |[f]=>f
 |f::g::r=>orT f (orTL (g::r))
noncomputable def seqA:List EvD->Sc->Hb->R (List D)
 |[]=>fun _ b=>.ok [] b
 |f::r=>qac f (seqA r)
noncomputable def zipC(ops:List Cop)(fs:List EvD):List (G×EvD):=(ops.map Cop.g).zip fs
noncomputable def evO(fs:List EvD)(s:Sc)(b:Hb):R (Option Int):=match fs with
 |[]=>.ok none b
 |f::_=>(f s b).bind asI
noncomputable def xj(o:Option FnE)(fs:List EvD)(s:Sc)(b:Hb):R Res:=match o with
 |some fe=>(seqA fs s b).bind (cl fe.n fe.F)
 |none=>.bad
noncomputable def Jg(o:Option FnE)(fo:EvD)(fs:List EvD)(s:Sc)(b:Hb):R Res:=match o with
 |some fe=>X6 fe.C fe.j fe.n fe.F fo (seqA fs) s b
 |none=>.bad
noncomputable def Vj(o:Option FnE)(b:Hb):R Res:=match o with
 |some fe=>Zo fe.C fe.n fe.F b
 |none=>.bad
noncomputable def negG:G:=fun l b=>match l with
 |[.int i]=>some (.v (.int (-i)),b)
 |_=>none
noncomputable def altF(f g:Sc->Hb->R Res)(s:Sc)(b:Hb):R Res:=match f s b with
 |.bad=>g s b
 |r=>r
structure Gs where
 cs:List (Str×C0)
 bn:iK
 nm:iK
 ex:List (Str×Nat)
 gd:List (Str×List (Str×Int))
 lm:List (Pos×Str)
 rb:List (Str×Nat)
 kd:List (Str×Nat)
structure Inf where
 N:iK
 sc:Scope
 fn:Bool
 k:Nat
 qual:Str
 lam:Option Nat
 q:Bool
noncomputable def ya:Expr->Bool
 |.Call (.Name _ _) [] [] _=>false
 |_=>true
theorem k8{o:Expr}{m:Str}{env:Env}{wh:Sem Value}(h:ya o=true):attributeBase o m env wh=wh:=by
 unfold attributeBase
 split
 ·cases h
 ·rfl
noncomputable def qV(es:iL):Bool:=es.all notStar
theorem Qr{env:Env}:∀{es:iL},qV es=true->(starEach es env).any (·.1)=false
 |[],_=>rfl
 |e::es,h=>by
  have h:(notStar e && qV es)=true:=h;rw[aq]at h;have e1:starEach (e::es) env=(false,eval e env)::starEach es env:=by cases e <;> first|rfl|cases h.1
  rw[e1];exact Qr h.2
theorem back_any{pos:Pos}{l:List (Bool×Sem Value)}:(backTo pos l).any (·.1)=l.any (·.1):=by
 unfold backTo;rw[List.any_map];rfl
theorem plain_any{env:Env}{pos:Pos}{es:iL}(h:qV es=true):(backTo pos (starEach es env)).any (·.1)=false:=back_any.trans (Qr h)
theorem Xf{env:Env}{pos:Pos}{es:iL}(h:qV es=true)(hl:es.length<29):((backTo pos (starEach es env)).all (fun x=>!x.1) && (backToKw pos (keywordEach [] env)).all (fun x=>x.1.isSome) && decide (es.length+([]:List Keyword).length+(if([]:List Keyword).isEmpty then 0 else 1)<30))=true:=by
 have h1:(backTo pos (starEach es env)).all (fun x=>!x.1)=true:=by
  have:=plain_any (env:=env) (pos:=pos) h;rw[List.any_eq_false]at this;rw[aP];intro x hx;have:=this x hx;cases hx:x.1 <;> simp_all
 rw[h1];have h2:es.length+0+0<30:=by omega
 show(true && true && decide (es.length+0+0<30))=true;rw[br h2];rfl
noncomputable def plainT:Expr->Bool
 |.UnaryOp .Not _ _=>false
 |.BoolOp _ _ _=>false
 |.IfExp _ _ _ _=>false
 |.Compare _ _ _ _=>false
 |_=>true
theorem XE{e:Expr}{env:Env}(h:plainT e=true)(whole:Sem Value):isTrue e env whole=(do let v <- whole;standAt e.pos;holding [v] (truthy v)):=by
 cases e <;> first|rfl|cases h|skip
 rename_i op x p;cases op <;> first|rfl|cases h
noncomputable def Z7:Expr->Bool
 |.Slice _ _ _ _=>false
 |_=>true
theorem qcn{e:Expr}(h:Z7 e=true):KJ e:=by
 intro o i;cases e <;> first|rfl|cases h
noncomputable def Jb:Expr->Bool
 |.Set _ _ _=>false
 |_=>true
theorem V2{e:Expr}{env:Env}(h:Jb e=true)(x:Value):foldedSetIterable e env x=pure x:=by
 cases e <;> first|rfl|cases h
noncomputable def isComp:Expr->Bool
 |.ListComp _ _ _ _=>true
 |.SetComp _ _ _ _=>true
 |.DictComp _ _ _ _ _=>true
 |_=>false
theorem ZL{e:Expr}{t:Option Expr}{l:Nat}{env:Env}(h:isComp e=false):swapsWith e t l env=pure false:=by
 cases e <;> first|rfl|cases h
noncomputable def swS(I:Inf)(e:Expr)(t:Str)(pl:Nat):Bool:=match e with
 |.ListComp _ _ s p=>decide (I.sc.names.lookup t=some .local) && pl == p.line && !(s.names.any fun(n,k)=>n == t && (k == .local || k == .cell))
 |_=>false
noncomputable def Ja:Expr->Bool
 |.Tuple _ _ _=>false
 |_=>true
theorem wV{es:iL}{k:Nat}{p:Pos}{e:Expr}{env:Env}(h:Ja e=true):swappedStores [.Tuple es k p] e env=pure none:=by
 cases e <;> first|rfl|cases h
theorem X5{o:Expr}{m:Str}{apos pos:Pos}{es:iL}{env:Env}(hb:ya o=true)(hs:qV es=true)(hl:es.length<29)(hp:(apos.endLine == pos.line)=true):∃pl:Sem Bool,eval (.Call (.Attribute o m apos) es [] pos) env=(do
   let ov <- eval o env
   standAt apos.atName
   let(f,first) <- holding [ov] (getMethod ov m pl)
   callWith pos f first (backTo pos (starEach es env)) (backToKw pos (keywordEach [] env))):=by
 refine⟨do return (<- importBound o env).getD true,?_⟩;show(do
  let ov <- attributeBase o m env (eval o env)
  standAt apos.atName
  methodCall o m apos pos env ov (es.length+0) (backTo pos (starEach es env)) (backToKw pos (keywordEach [] env)))=_
 rw[k8 hb];have hf:methodCallForm (es.length+0) (backTo pos (starEach es env)) (backToKw pos (keywordEach [] env))=true:=by
  have:=Xf (env:=env) (pos:=pos) hs hl;exact this
 unfold methodCall;rw[hf];have hq:methodCallPos true o env apos pos=pure pos:=by
  unfold methodCallPos;rw[hp];rfl
 rw[hq];rfl
noncomputable def jh(sc:Scope):iK:=(sc.names.filter fun p=>decide (p.2=.local)).map (·.1)
noncomputable def zP(sc:Scope):iK:=(sc.names.filter fun p=>decide (p.2=.free)).map (·.1)
noncomputable def relS(scope sc:Scope):Scope:={ scope with names:=scope.names.map fun(n,k)=>if(k == .free && sc.kind == .function && sc.names.lookup n == some .cell)then(n,.cell)else(n,k) }
theorem Z1{scope:Scope}{env:Env}:relabel scope env=relS scope env.scope:=rfl
noncomputable def blkI(I:Inf)(scope:Scope):Inf:=⟨jh scope++zP scope,relS scope I.sc,false,I.k,I.qual,I.lam,I.q⟩
noncomputable def chB(I:Inf)(scope:Scope)(k:Nat)(ix:List Nat):Bool:=
 decide (scope.kind=.function) && decide (I.sc.kind=.function) && scope.names.all (fun p=>decide (p.2≠.cell)) && decide ((scope.names.map (·.1)).Nodup) && decide (k=(jh scope).length) && decide (ix.map (fun i=>I.N[i]?)=(zP scope).map some) && (zP scope).all fun x=>decide (I.sc.names.lookup x=some .cell)
noncomputable def clL(cells:List (Str×Addr)):List (Str×NameKind)->List (Str×Addr)->List (Str×Addr)
 |[],acc=>acc
 |(n,k)::r,acc=>if k == .free then clL cells r ((n,(cells.lookup n).getD 0)::acc)else clL cells r acc
theorem y_{env:Env}:∀{names:List (Str×NameKind)}{acc:List (Str×Addr)},(∀n,(n,NameKind.free)∈names->∃c,env.cells.lookup n=some c)->
  (forIn names acc fun(p:Str×NameKind)(cs:List (Str×Addr))=>(if p.2 == .free then do let a <- cellOf env p.1;pure (ForInStep.yield ((p.1,a)::cs))else pure (ForInStep.yield cs):Sem (ForInStep (List (Str×Addr)))))=(pure (clL env.cells names acc):Sem (List (Str×Addr)))
 |[],acc,_=>rfl
 |(n,k)::r,acc,h=>by
  rw[List.forIn_cons]
  by_cases hk:(k == NameKind.free)=true
  ·have hk':k=.free:=by simpa using hk
   subst hk';obtain⟨c,hc⟩:=h n aC;have ih:=y_ (env:=env) (names:=r) (acc:=(n,(env.cells.lookup n).getD 0)::acc) fun m hm=>h m (ay _ hm)
   have e:clL env.cells ((n,NameKind.free)::r) acc=clL env.cells r ((n,(env.cells.lookup n).getD 0)::acc):=aE rfl;rw[e,<- ih,hc];show(do let x <- (do let a <- cellOf env n;pure (ForInStep.yield ((n,a)::acc)));_)=_;unfold cellOf;rw[hc];rfl
  ·have ih:=y_ (env:=env) (names:=r) (acc:=acc) fun m hm=>h m (ay _ hm)
   have e:clL env.cells ((n,k)::r) acc=clL env.cells r acc:=ax hk;rw[e,<- ih];show(bind (m:=Sem) (if(k == NameKind.free)=true then _ else _) _)=_;rw[ax hk];rfl
theorem Zy{scope:Scope}{env:Env}(h:∀n,(n,NameKind.free)∈scope.names->∃c,env.cells.lookup n=some c):closureFor scope env=pure (clL env.cells scope.names []):=by
 have:=y_ (acc:=[]) h;unfold closureFor;show(bind (m:=Sem) (forIn scope.names [] fun(p:Str×NameKind)(cs:List (Str×Addr))=>(if p.2 == .free then do let a <- cellOf env p.1;pure (ForInStep.yield ((p.1,a)::cs))else pure (ForInStep.yield cs):Sem (ForInStep (List (Str×Addr))))) fun cs=>pure cs)=_;rw[this];rfl
theorem wM{cells:List (Str×Addr)}:∀{names:List (Str×NameKind)}{acc:List (Str×Addr)}{n:Str}{a:Addr},(n,a)∈clL cells names acc->(n,a)∈acc\/((n,NameKind.free)∈names/\a=(cells.lookup n).getD 0)
 |[],acc,n,a,h=>.inl h
 |(m,k)::r,acc,n,a,h=>by
  unfold clL at h
  split at h
  ·rename_i hk
   have hk':k=.free:=by simpa using hk
   subst hk';rcases wM h with h|⟨h1,h2⟩
   ·rcases aw.mp h with h|h
    ·cases h;exact .inr ⟨aC,rfl⟩
    ·exact .inl h
   ·exact .inr ⟨ay _ h1,h2⟩
  ·rcases wM h with h|⟨h1,h2⟩
   ·exact .inl h
   ·exact .inr ⟨ay _ h1,h2⟩
theorem Qc{cells:List (Str×Addr)}:∀{names:List (Str×NameKind)}{acc:List (Str×Addr)}{p:Str×Addr},p∈acc->p∈clL cells names acc
 |[],_,_,h=>h
 |(m,k)::r,acc,p,h=>by
  unfold clL
  split
  ·exact Qc (ay _ h)
  ·exact Qc h
theorem Qb{cells:List (Str×Addr)}:∀{names:List (Str×NameKind)}{acc:List (Str×Addr)}{n:Str},(n,NameKind.free)∈names->(n,(cells.lookup n).getD 0)∈clL cells names acc
 |(m,k)::r,acc,n,h=>by
  unfold clL;rcases aw.mp h with h|h
  ·cases h
   exact Qc (names:=r) (acc:=(m,(cells.lookup m).getD 0)::acc) aC
  ·split
   ·exact Qb h
   ·exact Qb h
theorem kA{α:Type}:∀{l:List (Str×α)}{n:Str}{a:α},(n,a)∈l->∃b,l.lookup n=some b
 |(m,c)::r,n,a,h=>by
  rw[cF];cases e:n == m with
  |true=>exact⟨c,rfl⟩
  |false=>
   rcases aw.mp h with h|h
   ·cases h;simp at e
   ·exact kA h
theorem zy{α:Type}:∀{l:List (Str×α)}{n:Str}{a:α},(l.map (·.1)).Nodup->(n,a)∈l->l.lookup n=some a
 |(m,c)::r,n,a,hn,h=>by
  rw[av,bq]at hn;rw[cF];rcases aw.mp h with h|h
  ·cases h;simp
  ·have:n≠m:=fun e=>hn.1 (by rw[<- e];exact eV (f:=(·.1)) h)
   have e:(n == m)=false:=by simpa using this
   rw[e];exact zy hn.2 h
theorem QF{sc:Scope}{x:Str}(h:x∈zP sc):(x,NameKind.free)∈sc.names:=by
 unfold zP at h;obtain⟨p,h1,h2⟩:=aQ.mp h;obtain⟨h3,h4⟩:=dv.mp h1;have h4:p.2=.free:=by simpa using h4
 rw[<- h2,<- h4];exact h3
theorem Q7{sc:Scope}{x:Str}(h:(x,NameKind.free)∈sc.names):x∈zP sc:=aQ.mpr ⟨_,dv.mpr ⟨h,by simp⟩,rfl⟩
theorem Z0{scope sc:Scope}:(relS scope sc).names.map (·.1)=scope.names.map (·.1):=by
 unfold relS;rw[dE];apply cq;intro p _;show(if _ then(p.1,NameKind.cell)else(p.1,p.2)).1=p.1
 split <;> rfl
structure Cok(X:Cx)(I:Inf):Prop where
 N:X.N=I.N
 nd:I.N.Nodup
 sc:X.env.scope=I.sc
 fn:I.fn=true->∀x,X.fn x=true
 exk:Exk X
 cells:∀x,I.sc.names.lookup x=some .cell->∃c,X.env.cells.lookup x=some c
 qual:X.env.qual=I.qual
theorem WZ{X:Cx}{I:Inf}{scope:Scope}{k:Nat}{ix:List Nat}(O:Cok X I)(h:chB I scope k ix=true):k=(jh scope).length/\CompOk X scope (clL X.env.cells scope.names []) (jh scope) (zP scope) ix/\∀X',Blk X scope (clL X.env.cells scope.names []) (jh scope++zP scope) X'->Cok X' (blkI I scope):=by
 unfold chB at h;simp only[aq,aF,aP]at h;obtain⟨⟨⟨⟨⟨⟨h1,h2⟩,h3⟩,h4⟩,h5⟩,h6⟩,h7⟩:=h;have cel:∀n,(n,NameKind.free)∈scope.names->∃c,X.env.cells.lookup n=some c:=fun n hn=>O.cells n (h7 n (Q7 hn))
 have look:∀x,(x,NameKind.free)∈scope.names->(clL X.env.cells scope.names []).lookup x=X.env.cells.lookup x:=fun x hx=>by
  obtain⟨b,hb⟩:=kA (Qb (cells:=X.env.cells) (acc:=[]) hx);rcases wM (mem_of_lookup hb)with h|⟨_,h⟩
  ·cases h
  ·obtain⟨c,hc⟩:=cel x hx
   rw[hb,h,hc];rfl
 have sub:∀x c,(clL X.env.cells scope.names []).lookup x=some c->X.env.cells.lookup x=some c:=fun x c hc=>by
  rcases wM (mem_of_lookup hc)with h|⟨h,_⟩
  ·cases h
  ·rw[<- look x h];exact hc
 have relm:∀x,(x,NameKind.free)∈scope.names->(relS scope I.sc).names.lookup x=some .cell:=fun x hx=>by
  refine zy (by rw[Z0];exact h4) (aQ.mpr ⟨_,hx,?_⟩);show(if _ then _ else _)=_;rw[aE];rw[h7 x (Q7 hx),h2];rfl
 have has:∀x,((relS scope I.sc).names.lookup x=some .cell\/(relS scope I.sc).names.lookup x=some .free)->∃c,(clL X.env.cells scope.names []).lookup x=some c:=fun x hx=>by
  have hm:∃p∈scope.names,p.1=x/\p.2=.free:=by
   rcases hx with hx|hx
   ·obtain⟨p,h8,h9⟩:=aQ.mp (mem_of_lookup hx)
    have h9:(if(p.2 == NameKind.free && I.sc.kind == .function && I.sc.names.lookup p.1 == some .cell)=true then(p.1,NameKind.cell)else(p.1,p.2))=(x,.cell):=h9
    split at h9
    ·rename_i hq
     simp only[aq]at hq;exact⟨p,h8,by cases h9;rfl,by simpa using hq.1.1⟩
    ·exact absurd (bY (·.2) h9) (h3 _ h8)
   ·obtain⟨p,h8,h9⟩:=aQ.mp (mem_of_lookup hx)
    have h9:(if(p.2 == NameKind.free && I.sc.kind == .function && I.sc.names.lookup p.1 == some .cell)=true then(p.1,NameKind.cell)else(p.1,p.2))=(x,.free):=h9
    split at h9
    ·cases h9
    ·exact⟨p,h8,bY (·.1) h9,bY (·.2) h9⟩
  obtain⟨⟨n,kk⟩,h8,h9,h10⟩:=hm;have h9:n=x:=h9;have h10:kk=.free:=h10;subst h9 h10;obtain⟨c,hc⟩:=cel n h8;exact⟨c,by rw[look n h8];exact hc⟩
 refine⟨h5,⟨h1,Zy cel,h3,fun y hy e=>?_,by rw[O.N];exact h6,fun x hx=>?_,by rw[Z1,O.sc];exact has,sub⟩,fun X' hX=>?_⟩
 ·refine zy h4 ?_
  rw[<- e];exact hy
 ·have hm:=QF hx
  exact⟨by rw[Z1,O.sc];exact relm x hm,by rw[O.sc];exact h7 x hx,look x hm⟩
 ·obtain⟨C,s,c,wr,rfl⟩:=hX
  refine⟨rfl,?_,(by show relabel scope X.env=_;rw[Z1,O.sc];rfl),(fun h=>nomatch (show false=true from h)),⟨O.exk.st⟩,fun x hx=>has x (.inl hx),O.qual⟩;show(jh scope++zP scope).Nodup;have nd:∀kd:NameKind,((scope.names.filter fun p=>decide (p.2=kd)).map (·.1)).Nodup:=fun kd=>(List.Sublist.map _ eU).nodup h4
  refine du.mpr ⟨nd _,nd _,fun a ha b hb e=>?_⟩;subst e;obtain⟨p,hp,e1⟩:=aQ.mp ha;obtain⟨hp1,hp2⟩:=dv.mp hp;have hp2:p.2=.local:=by simpa using hp2
  have q1:scope.names.lookup a=some .local:=zy h4 (by rw[<- e1,<- hp2];exact hp1);have q2:scope.names.lookup a=some .free:=zy h4 (QF hb);rw[q1]at q2;cases q2
noncomputable def RbOk(W:Wd)(x:Str)(C:Nat):Prop:=∀(X:Cx)(np cp pos:Pos)(es:iL)(fa:Sc->Hb->R (List D)),X.W=W->Gl X x->(x == ("__debug__":Str))=false->X.calm=true->Exk X->Room 3 X.A->EA X es fa->qV es=true->es.length=2->(∀s b ds b1,fa s b=.ok ds b1->ds.length=2)->
 ES X (.Raise (some (.Call (.Name x np) es [] cp)) none pos) fun s b=>eO (fa s b) s fun _ b=>.ex C s b
structure Gok(W:Wd)(Γ:Gs):Prop where
 cs:∀x c,Γ.cs.lookup x=some c->∃u,W.mg x=some u/\∀co,Rep W co c.d u
 bn:∀x∈Γ.bn,W.mg x=none
 nm:∀k x,Γ.nm[k]?=some x->W.nm k=x
 fl:FlOk W
 fle:W.fl=flds
 ex:∀x C,(x,C)∈Γ.ex->OwnCls x (W.cl C) bmVE "ValueError.__new__" W.mg W.base
 way:∃Wc,W.mg "WayError"=some (.ref Wc)/\jc W.base Wc Wc/\∀C,yg C=true->jc W.base (W.cl C) Wc
 tbu:∀x∈W.tb,∀y∈W.tb,x.1=y.1->x=y
 bm:W.tb≠[]->BmOk W.base W.mg
 gd:∀g kvs,Γ.gd.lookup g=some kvs->qa6 W.prog W.w W.mg W.base g kvs
 rb:∀x C,(x,C)∈Γ.rb->RbOk W x C
 kd:∀x C,(x,C)∈Γ.kd->W.mg x=some (.ref (W.cl C))/\3<=C/\C<22/\KdOk W
noncomputable def Fok(W:Wd)(fe:FnE):Prop:=∃f fd ps,ps.length=fe.n/\Bnd fd ps/\match fe.kd with
 |0=>FnOk W fe.k f fd ps fe.F/\W.mg fe.x=some (.ref f)/\PySem.W.keepIn W.K (.ref f)=true
 |1=>FnOk W fe.k f fd ps fe.F/\Cls W.K (W.cl fe.C)/\Meth W.K (W.cl fe.C) (W.nm fe.j) f
 |2=>FnOk W fe.k f fd ps fe.F/\Mk W.K (W.cl fe.C) f/\W.mg fe.x=some (.ref (W.cl fe.C))
 |_=>FnOkH W fe.k f fd ps fe.F/\W.mg fe.x=some (.ref f)/\PySem.W.keepIn W.K (.ref f)=true
structure All(Γ:Gs)(T:List FnE)(X:Cx)(I:Inf):Prop where
 g:Gok X.W Γ
 t:∀fe∈T,Fok X.W fe
 l:∀j,I.lam=some j->∃cd P pos q,X.env.code=.ref cd/\PySem.W.codeHdIn X.W.K cd P=true/\X.W.tb[j]?=some (P,pos,q)/\Γ.lm[j]?=some (pos,q)
 c:Cok X I
 un:Un64 X
 calm:I.q=false->X.calm=true
 room:I.q=false->Room I.k X.A
 qt:I.q=true->RoomH I.k X.A
noncomputable def isGl(I:Inf)(x:Str):Bool:=decide (I.sc.names.lookup x=some .globalImplicit) && !(x == ("__debug__":Str))
noncomputable def isBn(Γ:Gs)(I:Inf)(x:Str):Bool:=isGl I x && Γ.bn.contains x && decide (x≠"__name__")
noncomputable def Wr(I:Inf)(x:Str)(i:Nat):Bool:=decide (I.N[i]?=some x) && (decide (I.sc.names.lookup x=some .local) || decide (I.sc.names.lookup x=some .cell) || decide (I.sc.names.lookup x=some .free)) && !(x == ("__debug__":Str)) && !(x == ("__classdict__":Str))
noncomputable def isNm(I:Inf)(x:Str)(i:Nat):Bool:=decide (I.N[i]?=some x) && (decide (I.sc.names.lookup x=some .local) || (decide (I.sc.names.lookup x=some .cell) && I.fn))
noncomputable def isTp:Expr->Bool
 |.Tuple _ _ _=>true
 |_=>false
noncomputable def cIs:C0->Const->Bool
 |.non,.none=>true
 |.bl b,.bool c=>b == c
 |.int i,.int j=>decide (i=j)
 |.str x,.str y=>decide (x=y)
 |_,_=>false
theorem an{a b:Bool}(h:(a && b)=true):a=true/\b=true:=eI.mp h
theorem de{p:Prop}[Decidable p](h:decide p=true):p:=cI h
theorem ff{P:Prop}(h:false=true):P:=absurd h aG
theorem nt{a:Bool}(h:(!a)=true):a=false:=by cases a <;> first|rfl|cases h
noncomputable def isName(e:Expr)(k:Str->Bool):Bool:=by
 cases e;case Name x _=>exact k x
 all_goals exact false
@[elab_as_elim] theorem qB{P:Expr->Prop}{k:Str->Bool}{e:Expr}(h:isName e k=true)(H:∀x p,k x=true->P (.Name x p)):P e:=by
 cases e;case Name=>exact H _ _ h
 all_goals exact ff h
noncomputable def Ww(e:Expr)(k:Const->Bool):Bool:=by
 cases e;case Constant c _ _=>exact k c
 all_goals exact false
@[elab_as_elim] theorem QN{P:Expr->Prop}{k:Const->Bool}{e:Expr}(h:Ww e k=true)(H:∀c j p,k c=true->P (.Constant c j p)):P e:=by
 cases e;case Constant=>exact H _ _ _ h
 all_goals exact ff h
noncomputable def isBool(e:Expr)(k:BoolOp->iL->Bool):Bool:=by
 cases e;case BoolOp o es _=>exact k o es
 all_goals exact false
@[elab_as_elim] theorem v8{P:Expr->Prop}{k:BoolOp->iL->Bool}{e:Expr}(h:isBool e k=true)(H:∀o es p,k o es=true->P (.BoolOp o es p)):P e:=by
 cases e;case BoolOp=>exact H _ _ _ h
 all_goals exact ff h
noncomputable def isUn(e:Expr)(k:UnaryOp->Expr->Bool):Bool:=by
 cases e;case UnaryOp o x _=>exact k o x
 all_goals exact false
@[elab_as_elim] theorem Jw{P:Expr->Prop}{k:UnaryOp->Expr->Bool}{e:Expr}(h:isUn e k=true)(H:∀o x p,k o x=true->P (.UnaryOp o x p)):P e:=by
 cases e;case UnaryOp=>exact H _ _ _ h
 all_goals exact ff h
noncomputable def Vu(e:Expr)(k:Expr->Expr->Bool):Bool:=by
 cases e;case Subscript x y _=>exact k x y
 all_goals exact false
@[elab_as_elim] theorem wu{P:Expr->Prop}{k:Expr->Expr->Bool}{e:Expr}(h:Vu e k=true)(H:∀x y p,k x y=true->P (.Subscript x y p)):P e:=by
 cases e;case Subscript=>exact H _ _ _ h
 all_goals exact ff h
noncomputable def xP(e:Expr)(k:iL->Bool):Bool:=by
 cases e;case Tuple es _ _=>exact k es
 all_goals exact false
@[elab_as_elim] theorem kB{P:Expr->Prop}{k:iL->Bool}{e:Expr}(h:xP e k=true)(H:∀es j p,k es=true->P (.Tuple es j p)):P e:=by
 cases e;case Tuple=>exact H _ _ _ h
 all_goals exact ff h
noncomputable def xQ(e:Expr)(k:Expr->Str->Pos->Bool):Bool:=by
 cases e;case Attribute x m p=>exact k x m p
 all_goals exact false
@[elab_as_elim] theorem ju{P:Expr->Prop}{k:Expr->Str->Pos->Bool}{e:Expr}(h:xQ e k=true)(H:∀x m p,k x m p=true->P (.Attribute x m p)):P e:=by
 cases e;case Attribute=>exact H _ _ _ h
 all_goals exact ff h
noncomputable def Wx(e:Expr)(k:Expr->List CmpOp->iL->Bool):Bool:=by
 cases e;case Compare x os es _=>exact k x os es
 all_goals exact false
@[elab_as_elim] theorem QO{P:Expr->Prop}{k:Expr->List CmpOp->iL->Bool}{e:Expr}(h:Wx e k=true)(H:∀x os es p,k x os es=true->P (.Compare x os es p)):P e:=by
 cases e;case Compare=>exact H _ _ _ _ h
 all_goals exact ff h
noncomputable def isCall(e:Expr)(k:Expr->iL->List Keyword->Pos->Bool):Bool:=by
 cases e;case Call f es ks p=>exact k f es ks p
 all_goals exact false
@[elab_as_elim] theorem jr{P:Expr->Prop}{k:Expr->iL->List Keyword->Pos->Bool}{e:Expr}(h:isCall e k=true)(H:∀f es ks p,k f es ks p=true->P (.Call f es ks p)):P e:=by
 cases e;case Call=>exact H _ _ _ _ h
 all_goals exact ff h
noncomputable def ui(e:Expr)(k:Expr->Operator->Expr->Bool):Bool:=by
 cases e;case BinOp x o y _=>exact k x o y
 all_goals exact false
@[elab_as_elim] theorem VC{P:Expr->Prop}{k:Expr->Operator->Expr->Bool}{e:Expr}(h:ui e k=true)(H:∀x o y p,k x o y=true->P (.BinOp x o y p)):P e:=by
 cases e;case BinOp=>exact H _ _ _ _ h
 all_goals exact ff h
noncomputable def isSl(e:Expr)(k:Option Expr->Option Expr->Option Expr->Bool):Bool:=by
 cases e;case Slice l h s _=>exact k l h s
 all_goals exact false
@[elab_as_elim] theorem Ws{P:Expr->Prop}{k:Option Expr->Option Expr->Option Expr->Bool}{e:Expr}(h:isSl e k=true)(H:∀l h s p,k l h s=true->P (.Slice l h s p)):P e:=by
 cases e;case Slice=>exact H _ _ _ _ h
 all_goals exact ff h
noncomputable def ue(e:Expr)(k:iL->Bool):Bool:=by
 cases e;case List es _=>exact k es
 all_goals exact false
@[elab_as_elim] theorem Vy{P:Expr->Prop}{k:iL->Bool}{e:Expr}(h:ue e k=true)(H:∀es p,k es=true->P (.List es p)):P e:=by
 cases e;case List=>exact H _ _ h
 all_goals exact ff h
noncomputable def uh(e:Expr)(k:List (Option Expr)->iL->Bool):Bool:=match e with
 |.Dict ks vs _=>k ks vs
 |_=>false
@[elab_as_elim] theorem VB{P:Expr->Prop}{k:List (Option Expr)->iL->Bool}{e:Expr}(h:uh e k=true)(H:∀ks vs p,k ks vs=true->P (.Dict ks vs p)):P e:=by
 cases e;case Dict=>exact H _ _ _ h
 all_goals exact ff h
noncomputable def isLC(e:Expr)(k:Expr->List Comprehension->Scope->Pos->Bool):Bool:=by
 cases e;case ListComp x gs sc p=>exact k x gs sc p
 all_goals exact false
@[elab_as_elim] theorem Jy{P:Expr->Prop}{k:Expr->List Comprehension->Scope->Pos->Bool}{e:Expr}(h:isLC e k=true)(H:∀x gs sc p,k x gs sc p=true->P (.ListComp x gs sc p)):P e:=by
 cases e;case ListComp=>exact H _ _ _ _ h
 all_goals exact ff h
noncomputable def isDC(e:Expr)(k:Expr->Expr->List Comprehension->Scope->Bool):Bool:=by
 cases e;case DictComp x y gs sc _=>exact k x y gs sc
 all_goals exact false
@[elab_as_elim] theorem Wv{P:Expr->Prop}{k:Expr->Expr->List Comprehension->Scope->Bool}{e:Expr}(h:isDC e k=true)(H:∀x y gs sc p,k x y gs sc=true->P (.DictComp x y gs sc p)):P e:=by
 cases e;case DictComp=>exact H _ _ _ _ _ h
 all_goals exact ff h
noncomputable def ug(e:Stmt)(k:Expr->Bool):Bool:=by
 cases e;case Expr x _=>exact k x
 all_goals exact false
@[elab_as_elim] theorem VA{P:Stmt->Prop}{k:Expr->Bool}{e:Stmt}(h:ug e k=true)(H:∀x p,k x=true->P (.Expr x p)):P e:=by
 cases e;case Expr=>exact H _ _ h
 all_goals exact ff h
noncomputable def ud(e:Stmt)(k:Option Expr->Bool):Bool:=by
 cases e;case Return x _=>exact k x
 all_goals exact false
@[elab_as_elim] theorem Vx{P:Stmt->Prop}{k:Option Expr->Bool}{e:Stmt}(h:ud e k=true)(H:∀x p,k x=true->P (.Return x p)):P e:=by
 cases e;case Return=>exact H _ _ h
 all_goals exact ff h
noncomputable def isIf(e:Stmt)(k:Expr->List Stmt->List Stmt->Bool):Bool:=by
 cases e;case If z xs ys _=>exact k z xs ys
 all_goals exact false
@[elab_as_elim] theorem Wu{P:Stmt->Prop}{k:Expr->List Stmt->List Stmt->Bool}{e:Stmt}(h:isIf e k=true)(H:∀z xs ys p,k z xs ys=true->P (.If z xs ys p)):P e:=by
 cases e;case If=>exact H _ _ _ _ h
 all_goals exact ff h
noncomputable def uj(e:Stmt)(k:iL->Expr->Bool):Bool:=by
 cases e;case Assign ts e _=>exact k ts e
 all_goals exact false
@[elab_as_elim] theorem VD{P:Stmt->Prop}{k:iL->Expr->Bool}{e:Stmt}(h:uj e k=true)(H:∀ts e p,k ts e=true->P (.Assign ts e p)):P e:=by
 cases e;case Assign=>exact H _ _ _ h
 all_goals exact ff h
noncomputable def ua(e:Stmt)(k:Expr->List Stmt->List Stmt->Bool):Bool:=by
 cases e;case While z xs ys _=>exact k z xs ys
 all_goals exact false
@[elab_as_elim] theorem Vq{P:Stmt->Prop}{k:Expr->List Stmt->List Stmt->Bool}{e:Stmt}(h:ua e k=true)(H:∀z xs ys p,k z xs ys=true->P (.While z xs ys p)):P e:=by
 cases e;case While=>exact H _ _ _ _ h
 all_goals exact ff h
noncomputable def uf(e:Stmt)(k:Expr->Expr->List Stmt->List Stmt->Bool):Bool:=by
 cases e;case For t i xs ys _=>exact k t i xs ys
 all_goals exact false
@[elab_as_elim] theorem Vz{P:Stmt->Prop}{k:Expr->Expr->List Stmt->List Stmt->Bool}{e:Stmt}(h:uf e k=true)(H:∀t i xs ys p,k t i xs ys=true->P (.For t i xs ys p)):P e:=by
 cases e;case For=>exact H _ _ _ _ _ h
 all_goals exact ff h
noncomputable def uc(e:Stmt)(k:Option Expr->Option Expr->Bool):Bool:=by
 cases e;case Raise e c _=>exact k e c
 all_goals exact false
@[elab_as_elim] theorem Vv{P:Stmt->Prop}{k:Option Expr->Option Expr->Bool}{e:Stmt}(h:uc e k=true)(H:∀e c p,k e c=true->P (.Raise e c p)):P e:=by
 cases e;case Raise=>exact H _ _ _ h
 all_goals exact ff h
noncomputable def ub(e:Stmt)(k:List Stmt->List ExceptHandler->List Stmt->List Stmt->Bool):Bool:=by
 cases e;case Try xs hs os fs _=>exact k xs hs os fs
 all_goals exact false
@[elab_as_elim] theorem Vt{P:Stmt->Prop}{k:List Stmt->List ExceptHandler->List Stmt->List Stmt->Bool}{e:Stmt}(h:ub e k=true)(H:∀xs hs os fs p,k xs hs os fs=true->P (.Try xs hs os fs p)):P e:=by
 cases e;case Try=>exact H _ _ _ _ _ h
 all_goals exact ff h
noncomputable def is1{α:Type}(l:List α)(k:α->Bool):Bool:=match l with
 |[x]=>k x
 |_=>false
@[elab_as_elim] theorem zO{α:Type}{P:List α->Prop}{k:α->Bool}:∀{l:List α}(h:is1 l k=true)(H:∀x,k x=true->P [x]),P l
 |[_],h,H=>H _ h
 |[],h,_=>absurd h aG
 |_::_::_,h,_=>absurd h aG
noncomputable def is0{α:Type}(l:List α):Bool:=match l with
 |[]=>true
 |_=>false
theorem q6{α:Type}:∀{l:List α},is0 l=true->l=[]
 |[],_=>rfl
 |_::_,h=>absurd h aG
noncomputable def isC{α:Type}(l:List α)(k:α->List α->Bool):Bool:=match l with
 |x::r=>k x r
 |_=>false
@[elab_as_elim] theorem jt{α:Type}{P:List α->Prop}{k:α->List α->Bool}:∀{l:List α}(h:isC l k=true)(H:∀x r,k x r=true->P (x::r)),P l
 |_::_,h,H=>H _ _ h
 |[],h,_=>absurd h aG
noncomputable def isSm{α:Type}(l:Option α)(k:α->Bool):Bool:=match l with
 |some x=>k x
 |_=>false
@[elab_as_elim] theorem wv{α:Type}{P:Option α->Prop}{k:α->Bool}:∀{l:Option α}(h:isSm l k=true)(H:∀x,k x=true->P (some x)),P l
 |some _,h,H=>H _ h
 |none,h,_=>absurd h aG
noncomputable def isNn{α:Type}(l:Option α):Bool:=match l with
 |none=>true
 |_=>false
theorem Jx{α:Type}:∀{l:Option α},isNn l=true->l=none
 |none,_=>rfl
 |some _,h=>absurd h aG
mutual
noncomputable def chG(I:Inf):Tg->Expr->Bool
 |.nm i,e=>isName e fun x=>isNm I x i
 |.tp ts,e=>xP e fun es=>chGs I ts es
noncomputable def chGs(I:Inf):Tgs->iL->Bool
 |.nil,es=>is0 es
 |.cons t ts,es=>isC es fun e es=>okTg e && chG I t e && chGs I ts es
end
inductive DFs(X:Cx):iL->List EvD->Prop where
 |nil:DFs X [] []
 |cons {e:Expr} {f:EvD} {es:iL} {fs:List EvD} (h:EV X e f) (t:DFs X es fs):DFs X (e::es) (f::fs)
inductive DTl(X:Cx):iL->List EvB->Prop where
 |nil:DTl X [] []
 |cons {e:Expr} {f:EvB} {es:iL} {fs:List EvB} (h:ET X e f) (t:DTl X es fs):DTl X (e::es) (f::fs)
section
variable{X:Cx}{Γ:Gs}{T:List FnE}{I:Inf}{es:iL}{fs:List EvD}{gs:List EvB}{pos:Pos}{e:Expr}{x:Str}{i:Nat}
theorem DFs.da(h:DFs X es fs)(hs:qV es=true):EA X es (seqA fs):=by
 induction h with
 |nil=>exact qd7
 |cons h t ih=>
  have hs:(notStar _ && qV _)=true:=hs;rw[aq]at hs;exact qa5 h (ih hs.2) hs.1
theorem DFs.and(h:DFs X es fs)(hn:es≠[]):EV X (.BoolOp .And es pos) (Yd fs):=by
 induction h with
 |nil=>exact absurd rfl hn
 |cons h t ih=>
  cases t with
  |nil=>exact qde h
  |cons h2 t2=>exact qdq h (ih (by simp))
theorem DTl.and(h:DTl X es gs)(hn:es≠[]):EW X (.BoolOp .And es pos) (Ye gs):=by
 induction h with
 |nil=>exact absurd rfl hn
 |cons h t ih=>
  cases t with
  |nil=>exact Yn h
  |cons h2 t2=>exact w_and h (ih (by simp))
theorem DTl.or(h:DTl X es gs)(hn:es≠[]):EW X (.BoolOp .Or es pos) (orTL gs):=by
 induction h with
 |nil=>exact absurd rfl hn
 |cons h t ih=>
  cases t with
  |nil=>exact qbo h
  |cons h2 t2=>exact w_or h (ih (by simp))
theorem kT(O:Cok X I)(h:isGl I x=true):Gl X x/\(x == ("__debug__":Str))=false:=by
 unfold isGl at h;simp only[aq,aF,dB]at h;refine⟨?_,h.2⟩;show X.env.scope.names.lookup x=_;rw[O.sc];exact h.1
theorem ww(A:All Γ T X I)(h:isBn Γ I x=true):Gl X x/\X.W.mg x=none/\x≠"__name__"/\(x == ("__debug__":Str))=false:=by
 unfold isBn at h;simp only[aq,aF]at h;obtain⟨h1,h2⟩:=kT A.c h.1.1;exact⟨h1,A.g.bn x (by simpa using h.1.2),h.2,h2⟩
theorem Vr{p:Pos}(O:Cok X I)(h:Wr I x i=true):EV X (.Name x p) fun s b=>opt (s[i]?).join b:=by
 unfold Wr at h;simp only[aq,bX,aF,dB]at h;refine qdb (by rw[O.N];exact h.1.1.1) ?_ h.1.2 h.2;unfold Vs;rw[O.sc];rcases h.1.1.2 with(z|z)|z
 ·exact .inl z
 ·exact .inr (.inl z)
 ·exact .inr (.inr z)
theorem yV(O:Cok X I)(h:isNm I x i=true):Nm X x i:=by
 unfold isNm at h;simp only[aq,bX,aF]at h;refine⟨by rw[O.N];exact O.nd,by rw[O.N];exact h.1,?_⟩;unfold Own;rw[O.sc];exact h.2.imp id fun z=>⟨z.1,O.fn z.2 x⟩
noncomputable def Vc(es:iL):Bool:=es.all okTg
noncomputable def KS:Tgs->Nat
 |.nil=>0
 |.cons _ ts=>KS ts+1
theorem vS{X:Cx}:∀{es:iL},Vc es=true->(assignEach es X.env).findIdx? (·.1)=none/\(assignEach es X.env).length=es.length
 |[],_=>⟨rfl,rfl⟩
 |e::es,h=>by
  have h:(okTg e && Vc es)=true:=h;rw[aq]at h;obtain⟨h1,h2⟩:=vS (X:=X) h.2;have e1:assignEach (e::es) X.env=(false,assign e X.env)::assignEach es X.env:=by cases e <;> first|rfl|cases h.1
  rw[e1];exact⟨by rw[List.findIdx?_cons];simp[h1],by simp[h2]⟩
theorem vQ:∀{ts:Tgs}{sc sc':Sc}{l:List D},asgs ts l sc=some sc'->l.length=KS ts
 |.nil,_,_,[],_=>rfl
 |.nil,_,_,_::_,h=>by cases h
 |.cons _ _,_,_,[],h=>by cases h
 |.cons t ts,sc,sc',d::l,h=>by
  obtain⟨s1,_,h2⟩:=ai.mp (show(asg t d sc).bind (asgs ts l)=some sc' from h);show l.length+1=KS ts+1;rw[vQ h2]
theorem Qd:∀{ts:Tgs}{es:iL},chGs I ts es=true->Vc es=true/\es.length=KS ts
 |.nil,es,h=>by rw[q6 (show is0 es=true from h)];exact⟨rfl,rfl⟩
 |.cons t ts,es,h=>jt (show isC es _=true from h) fun e es h=>by
   obtain⟨h1,h2⟩:=Qd (an h).2;exact⟨by show(okTg e && Vc es)=true;rw[(an (an h).1).1,h1];rfl,by rw[bO,h2];rfl⟩
mutual
theorem sG(A:All Γ T X I):∀(t:Tg)(e:Expr),chG I t e=true->EG X e t
 |.nm i,e,h=>qB (show isName e _=true from h) fun x p h=>uG (yV A.c h)
 |.tp ts,e,h=>kB (show xP e _=true from h) fun es j p h=>by
   obtain⟨h1,h2⟩:=Qd h;obtain⟨q1,q2⟩:=vS (X:=X) h1;cases q:I.q with
   |false=>exact qcx (A.calm q) (sGs A ts _ h) q1 q2 fun _ _ _ e=>(vQ e).trans h2.symm
   |true=>exact uF (A.qt q).hd (sGs A ts _ h) q1 q2 fun _ _ _ e=>(vQ e).trans h2.symm
theorem sGs(A:All Γ T X I):∀(ts:Tgs)(es:iL),chGs I ts es=true->EGs X es ts
 |.nil,es,h=>by rw[q6 (show is0 es=true from h)];exact uE
 |.cons t ts,es,h=>jt (show isC es _=true from h) fun e es h=>WE (sG A t _ (an (an h).1).2) (sGs A ts _ (an h).2) (an (an h).1).1
end
end
theorem qdx{X:Cx}{es:iL}{fs:List EvD}(hu:Un64 X)(h:DFs X es fs):∀{ops:List Cop},ops.length=es.length->es≠[]->Ch X (ops.map Cop.o) es (zipC ops fs):=by
 induction h with
 |nil=>intro ops _ hn;exact absurd rfl hn
 |@cons e f es fs h t ih=>
  intro ops hl _
  match ops,hl with
  |[],hl=>cases hl
  |[o],hl=>
   cases t with
   |nil=>exact .one (o.ok X hu) h
   |cons _ _=>cases hl
  |o::o2::ops,hl=>
   cases t with
   |nil=>cases hl
   |cons h2 t2=>exact .cons (o.ok X hu) h (ih (ops:=o2::ops) (by simpa using hl) (by simp))
structure IV where
 ch:Gs->List FnE->Inf->Expr->Bool
 ev:List FnE->EvD
 ok:∀{Γ T I X e},All Γ T X I->ch Γ T I e=true->EV X e (ev T)
 cs:Gs->List FnE->Inf->Expr->Bool:=fun _ _ _ _=>false
 os:∀{Γ T I X e y n py sp},All Γ T X I->cs Γ T I e=true->Nm X y n->ES X (.Assign [.Name y py] e sp) fun s b=>eO (ev T s b) s fun d b=>.nx (s.set n (some d)) b:=by exact fun _ h=>ff h
structure IE where
 ch:Gs->List FnE->Inf->Expr->Bool
 ev:List FnE->Sc->Hb->R Res
 ok:∀{Γ T I X e},All Γ T X I->ch Γ T I e=true->ER X e (ev T)
 cs:Gs->List FnE->Inf->Expr->Bool:=fun _ _ _ _=>false
 os:∀{Γ T I X e y n py sp m},All Γ T X I->cs Γ T I e=true->Nm X y n->ES X (.Assign [.Name y py] e sp) fun s b=>eO (E.kp m (ev T s b)) s fun d b=>.nx (s.set n (some d)) b:=by exact fun _ h=>ff h
structure IT where
 ch:Gs->List FnE->Inf->Expr->Bool
 ev:List FnE->EvB
 ok:∀{Γ T I X e},All Γ T X I->ch Γ T I e=true->ET X e (ev T)
 em:Bool:=false
 ot:em=true->∀T,ev T=fun _ b=>.ok true b:=by exact fun h=>ff h
noncomputable abbrev IA:=List IV
noncomputable abbrev ITs:=List IT
noncomputable def evL(T:List FnE):IA->List EvD
 |[]=>[]
 |v::as=>v.ev T::evL T as
noncomputable def evTs(T:List FnE):ITs->List EvB
 |[]=>[]
 |t::ts=>t.ev T::evTs T ts
noncomputable def chA(Γ:Gs)(T:List FnE):IA->Inf->iL->Bool
 |[],_,es=>is0 es
 |v::as,I,es=>isC es fun e es=>notStar e && v.ch Γ T I e && chA Γ T as I es
noncomputable def chTL(Γ:Gs)(T:List FnE):ITs->Inf->iL->Bool
 |[],_,es=>is0 es
 |t::ts,I,es=>isC es fun e es=>t.ch Γ T I e && chTL Γ T ts I es
section
variable{Γ:Gs}{T:List FnE}{X X':Cx}{I I':Inf}
theorem sA(A:All Γ T X I):∀{as:IA}{es:iL},chA Γ T as I es=true->qV es=true/\DFs X es (evL T as)
 |[],es,h=>by rw[q6 (show is0 es=true from h)];exact⟨rfl,.nil⟩
 |v::as,es,h=>jt (show isC es _=true from h) fun e es h=>by
   obtain⟨s1,s2⟩:=sA A (an h).2;exact⟨by show(notStar _ && qV _)=true;rw[(an (an h).1).1,s1];rfl,.cons (v.ok A (an (an h).1).2) s2⟩
theorem sTL(A:All Γ T X I):∀{as:ITs}{es:iL},chTL Γ T as I es=true->DTl X es (evTs T as)
 |[],es,h=>by rw[q6 (show is0 es=true from h)];exact .nil
 |v::as,es,h=>jt (show isC es _=true from h) fun e es h=>.cons (v.ok A (an h).1) (sTL A (an h).2)
theorem sE(A:All Γ T X I){as:IA}{es:iL}(h:chA Γ T as I es=true):EA X es (seqA (evL T as)):=(sA A h).2.da (sA A h).1
theorem qC{e:Expr}{es:iL}(h:qV (e::es)=true):notStar e=true/\qV es=true:=an (a:=notStar e) (b:=qV es) h
theorem u6{o:Option Expr}{fs:List EvD}(h:DFs X o.toList fs):EO X o (evO fs):=by
 cases o with
 |none=>cases h;exact YO
 |some e=>cases h with
  |cons h t=>exact YN h
theorem Ev.alt{t:Sem Value}{f g:Sc->Hb->R Res}(h:Ev X t RR f)(k:Ev X t RR g):Ev X t RR (altF f g):=⟨fun p sc b c s Q Z I q=>by
 have q:Post X p sc Z c RR (altF f g sc b) Q:=q;unfold altF at q;cases z:f sc b with
 |bad=>rw[z]at q;exact k.h p sc b c s Q Z I q
 |ok=>rw[z]at q;exact h.h p sc b c s Q Z I (by rw[z];exact q)
 |exc=>rw[z]at q;exact h.h p sc b c s Q Z I (by rw[z];exact q)⟩
theorem All.blk{scope:Scope}{cl:List (Str×Addr)}{nn:iK}(A:All Γ T X I)(h:Blk X scope cl nn X')(c:Cok X' (blkI I scope)):All Γ T X' (blkI I scope):=by
 obtain⟨C,s,co,wr,rfl⟩:=h;exact⟨A.g,A.t,A.l,c,A.un,A.calm,A.room,A.qt⟩
theorem Jd{es:iL}(h:(!es.isEmpty)=true):es≠[]:=by rintro rfl;exact ff h
theorem Ks{ops:List Cop}{os:List CmpOp}{es:iL}(h1:ops.map Cop.o=os)(h2:(os.length == es.length)=true):ops.length=es.length:=by
 rw[<- h1,aM]at h2;exact cC.mp h2
end
noncomputable def IV.var(i:Nat):IV where
 ch _ _ I e:=isName e fun x=>Wr I x i
 ev _ s b:=opt (s[i]?).join b
 ok A h:=qB h fun x p h=>Vr A.c h
theorem u_{X:Cx}{c:C0}{k:Const}{j:Nat}{p:Pos}(h:cIs c k=true):EV X (.Constant k j p) fun _ b=>.ok c.d b:=by
 cases c <;> cases k <;> first|exact ff h|skip
 ·exact qdf
 ·cases (by simpa[cIs] using h);exact e_bl
 ·cases (by simpa[cIs] using h);exact qdk
 ·cases (by simpa[cIs] using h);exact qdd
noncomputable def IV.cst(c:C0):IV where
 ch Γ _ I e:=Ww e (cIs c) || isName e fun x=>isGl I x && decide (Γ.cs.lookup x=some c)
 ev _ _ b:=.ok c.d b
 ok A h:=(gI.mp h).elim (fun h=>QN h fun c j p h=>u_ h) fun h=>qB h fun x p h=>
  have⟨h1,h2⟩:=kT A.c (an h).1;have⟨u,h3,h4⟩:=A.g.cs _ _ (de (an h).2)
  e_gl h1 h3 (fun co _=>h4 co) h2
noncomputable def IV.andv(as:IA):IV where
 ch Γ T I e:=isBool e fun o es=>decide (o=.And) && !es.isEmpty && chA Γ T as I es
 ev T:=Yd (evL T as)
 ok A h:=v8 h fun o es p h=>by
  cases de (an (an h).1).1;exact(sA A (an h).2).2.and (Jd (an (an h).1).2)
noncomputable def IV.neg(a:IV):IV where
 ch Γ T I e:=isUn e fun o x=>decide (o=.USub) && a.ch Γ T I x
 ev T s b:=E.kp false ((a.ev T s b).bind fun d b=>opR (negG [d] b))
 ok A h:=Jw h fun o x p h=>by
  cases de (an h).1;exact(e_un qb8 (a.ok A (an h).2)).kp false
noncomputable def IV.ix(a i:IV):IV where
 ch Γ T I e:=Vu e fun x y=>Z7 y && a.ch Γ T I x && i.ch Γ T I y
 ev T s b:=(a.ev T s b).bind fun x b=>(i.ev T s b).bind fun y b=>opt (ixD b x y) b
 ok A h:=wu h fun x y p h=>e_ix A.un (a.ok A (an (an h).1).2) (i.ok A (an h).2) (qcn (an (an h).1).1)
noncomputable def IV.tup(as:IA):IV where
 ch Γ T I e:=xP e fun es=>chA Γ T as I es
 ev T:=tupF (seqA (evL T as))
 ok A h:=kB h fun es j p h=>qdc (sE A h)
theorem uK{Γ T I X}{a:IV}{k:Nat}{x:Expr}{m:Str}{p:Pos}(A:All Γ T X I)(h1:Γ.nm[k]?=some m)(h2:ya x=true)(h3:a.ch Γ T I x=true):EV X (.Attribute x m p) fun s b=>(a.ev T s b).bind fun d b=>opt (fldD flds k b d) b:=by
 cases A.g.nm _ _ h1;have q:=qdl (k:=k) (pos:=p) A.g.fl (a.ok A h3) (k8 h2);rw[A.g.fle]at q;exact q
noncomputable def IV.fld(k:Nat)(a:IV):IV where
 ch Γ T I e:=xQ e fun x m _=>decide (Γ.nm[k]?=some m) && ya x && a.ch Γ T I x
 ev T s b:=(a.ev T s b).bind fun d b=>opt (fldD flds k b d) b
 ok A h:=ju h fun x m p h=>uK A (de (an (an h).1).1) (an (an h).1).2 (an h).2
noncomputable def chnB(Γ:Gs)(T:List FnE)(I:Inf)(a:IV)(ops:List Cop)(as:IA)(e:Expr):Bool:=Wx e fun x os es=>decide (ops.map Cop.o=os) && (os.length == es.length) && decide (2<=es.length) && !lastMarks os es && a.ch Γ T I x && chA Γ T as I es
@[elab_as_elim] theorem Xo{Γ T I X}{a:IV}{ops:List Cop}{as:IA}{e:Expr}{P:Expr->Prop}(A:All Γ T X I)(h:chnB Γ T I a ops as e=true)(H:∀x o1 o2 os e1 e2 es p,lastMarks (o1::o2::os) (e1::e2::es)=false->EV X x (a.ev T)->Ch X (o1::o2::os) (e1::e2::es) (zipC ops (evL T as))->P (.Compare x (o1::o2::os) (e1::e2::es) p)):P e:=QO h fun x os es p h=>by
 have h1:=(an h).1;have h2:=(an h1).1;have h3:=(an h2).1;have h4:=(an h3).1;have e1:=de (an h4).1;have l2:=de (an h3).2;have l1:=Ks e1 (an h4).2;have q:=qdx (ops:=ops) A.un (sA A (an h).2).2 l1 (by rintro rfl;exact absurd l2 (by decide));rw[e1]at q;have l3:os.length=es.length:=cC.mp (an h4).2;cases es with
 |nil=>exact absurd l2 (Nat.not_succ_le_zero 1)
 |cons e1 es=>
  cases es with
  |nil=>exact absurd l2 (cL 1)
  |cons e2 es=>
   cases os with
   |nil=>cases l3
   |cons o1 os=>
    cases os with
    |nil=>cases l3
    |cons o2 os=>exact H _ _ _ _ _ _ _ _ (nt (an h2).2) (a.ok A (an h1).2) q
noncomputable def IV.chn(a:IV)(ops:List Cop)(as:IA):IV where
 ch Γ T I e:=chnB Γ T I a ops as e
 ev T s b:=(a.ev T s b).bind fun x b=>(E.chn s (zipC ops (evL T as)) x b).bind fun k b=>.ok (.bl k) b
 ok A h:=Xo A h fun _ _ _ _ _ _ _ _ h1 h2 h3=>WQ h2 h3 h1
noncomputable def bnC(Γ:Gs)(I:Inf)(n:Str)(e:Expr)(k:iL->Bool):Bool:=isCall e fun f es ks _=>isName f fun x=>decide (x=n) && isBn Γ I x && is0 ks && k es
@[elab_as_elim] theorem xl{Γ T I X}{n:Str}{e:Expr}{k:iL->Bool}{P:Expr->Prop}(A:All Γ T X I)(h:bnC Γ I n e k=true)(H:∀es p q,Gl X n->X.W.mg n=none->n≠"__name__"->(n == ("__debug__":Str))=false->k es=true->P (.Call (.Name n p) es [] q)):P e:=jr h fun f es ks p h=>qB h fun x q h=>by
 cases de (an (an (an h).1).1).1;cases q6 (an (an h).1).2;have⟨h1,h2,h3,h4⟩:=ww A (an (an (an h).1).1).2;exact H _ _ _ h1 h2 h3 h4 (an h).2
noncomputable def IV.isi(t:Bf)(a:IV):IV where
 ch Γ T I e:=bnC Γ I "isinstance" e fun es=>isC es fun x r=>is1 r fun y=>isName y fun y=>decide (y=(t.ty:Str)) && isBn Γ I y && decide (t.ty∈tyL.drop 1) && notStar x && a.ch Γ T I x
 ev T s b:=(a.ev T s b).bind fun d b=>opt (E.isi (isiS · t.ty) b d) b
 ok A h:=xl A h fun es p q g1 g2 _ _ h=>jt h fun x r h=>zO h fun y h=>qB h fun y p h=>by
  have h1:=(an h).1;have h2:=(an h1).1;have h3:=(an h2).1;cases de (an h3).1;have⟨k1,k2,k3,k4⟩:=ww A (an h3).2;exact qdj (de (an h2).2) (Y_ _ (de (an h2).2)) k1 k2 k3 k4 g1 g2 (a.ok A (an h).2) (an h1).2
noncomputable def IV.isiTL(a:IV):IV where
 ch Γ T I e:=bnC Γ I "isinstance" e fun es=>isC es fun x r=>is1 r fun y=>xP y fun ys=>isC ys fun y zs=>is1 zs fun z=>isName y fun y=>isName z fun z=>decide (y="tuple") && isBn Γ I y && decide (z="list") && isBn Γ I z && notStar x && a.ch Γ T I x
 ev T s b:=(a.ev T s b).bind fun d b=>opt (E.isi (fun n=>isiS n "tuple" || isiS n "list") b d) b
 ok A h:=xl A h fun es p q g1 g2 _ _ h=>jt h fun x r h=>zO h fun y h=>kB h fun ys j p h=>jt h fun y zs h=>zO h fun z h=>qB h fun y p h=>qB h fun z p h=>by
  have h1:=(an h).1;have h2:=(an h1).1;have h3:=(an h2).1;have h4:=(an h3).1;cases de (an h4).1;cases de (an h3).2;have⟨k1,k2,_⟩:=ww A (an h4).2;have⟨l1,l2,_⟩:=ww A (an h2).2;exact WP g1 g2 k1 k2 l1 l2 (a.ok A (an h).2) (an h1).2
noncomputable def IV.isx(j:Nat)(a:IV):IV where
 ch Γ T I e:=bnC Γ I "isinstance" e fun es=>isC es fun x r=>is1 r fun y=>isName y fun y=>isGl I y && Γ.kd.contains (y,j) && notStar x && a.ch Γ T I x
 ev T s b:=(a.ev T s b).bind fun d b=>opt (isX j d) b
 ok A h:=xl A h fun es p q g1 g2 _ _ h=>jt h fun x r h=>zO h fun y h=>qB h fun y p h=>by
  have h1:=(an h).1;have h2:=(an h1).1;have⟨k1,k2⟩:=kT A.c (an h2).1;have⟨l1,l2,l3,l4⟩:=A.g.kd _ _ (eE.mp (an h2).2);exact qdi l4 l2 l3 k1 l1 k2 g1 g2 (a.ok A (an h).2) (an h1).2
noncomputable def IV.kp(m:Bool)(e:IE):IV where
 ch:=e.ch
 ev T s b:=E.kp m (e.ev T s b)
 ok A h:=(e.ok A h).kp m
 cs:=e.cs
 os:=e.os
noncomputable def IE.alt(a c:IE):IE where
 ch Γ T I e:=a.ch Γ T I e && c.ch Γ T I e
 ev T:=altF (a.ev T) (c.ev T)
 ok A h:=(a.ok A (an h).1).alt (c.ok A (an h).2)
noncomputable def IE.val(v:IV):IE where
 ch:=v.ch
 ev T s b:=(v.ev T s b).bind fun d b=>.ok (.v d) b
 ok A h:=(v.ok A h).val
noncomputable def IE.bin(o:Bop)(a c:IV):IE where
 ch Γ T I e:=ui e fun x p y=>decide (p=o.o) && a.ch Γ T I x && c.ch Γ T I y
 ev T:=two o.g (a.ev T) (c.ev T)
 ok A h:=VC h fun x p y q h=>by
  cases de (an (an h).1).1;exact qdp (o.ok _) (a.ok A (an (an h).1).2) (c.ok A (an h).2)
noncomputable def cmp1(Γ:Gs)(T:List FnE)(I:Inf)(o:Cop)(a c:IV)(e:Expr):Bool:=Wx e fun x ps ys=>is1 ps fun p=>is1 ys fun y=>decide (p=o.o) && !behindInMarks p y && a.ch Γ T I x && c.ch Γ T I y
@[elab_as_elim] theorem Kn{Γ T I X}{o:Cop}{a c:IV}{e:Expr}{P:Expr->Prop}(A:All Γ T X I)(h:cmp1 Γ T I o a c e=true)(H:∀x y p,behindInMarks o.o y=false->EV X x (a.ev T)->EV X y (c.ev T)->P (.Compare x [o.o] [y] p)):P e:=QO h fun x ps ys q h=>zO h fun p h=>zO h fun y h=>by
 cases de (an (an (an h).1).1).1;exact H _ _ _ (nt (an (an (an h).1).1).2) (a.ok A (an (an h).1).2) (c.ok A (an h).2)
noncomputable def IE.cmp(o:Cop)(a c:IV):IE where
 ch Γ T I e:=cmp1 Γ T I o a c e
 ev T:=two o.g (a.ev T) (c.ev T)
 ok A h:=Kn A h fun _ _ _ h1 h2 h3=>qdm (o.ok _ A.un) h2 h3 h1
noncomputable def IE.sl(a:IV)(lo hi:IA):IE where
 ch Γ T I e:=Vu e fun x y=>isSl y fun l h s=>isNn s && a.ch Γ T I x && chA Γ T lo I l.toList && chA Γ T hi I h.toList
 ev T s b:=(a.ev T s b).bind fun x b=>(evO (evL T lo) s b).bind fun l b=>(evO (evL T hi) s b).bind fun h b=>opt (slD b l h x) b
 ok A h:=wu h fun x y p h=>Ws h fun l h' s p h=>by
  cases Jx (an (an (an h).1).1).1;exact e_sl (a.ok A (an (an (an h).1).1).2) (u6 (sA A (an (an h).1).2).2) (u6 (sA A (an h).2).2)
noncomputable def IE.lst(as:IA):IE where
 ch Γ T I e:=ue e fun es=>chA Γ T as I es
 ev T:=lstF (seqA (evL T as))
 ok A h:=Vy h fun es p h=>qdg (sE A h)
noncomputable def IE.dnew:IE where
 ch _ _ _ e:=uh e fun ks vs=>is0 ks && is0 vs
 ev _ _ b:=.ok (.n (.dic false [])) b
 ok A h:=VB h fun ks vs p h=>by
  cases q6 (an h).1;cases q6 (an h).2;exact uX
noncomputable def fnB(T:List FnE)(j:Nat)(k:FnE->Bool):Bool:=isSm T[j]? k
theorem QX{T:List FnE}{j:Nat}{k:FnE->Bool}{P:Option FnE->Prop}(h:fnB T j k=true)(H:∀fe,fe∈T->k fe=true->P (some fe)):P T[j]?:=by
 cases z:T[j]? with
 |none=>unfold fnB at h;rw[z]at h;exact ff h
 |some fe=>unfold fnB at h;rw[z]at h;exact H fe (aB z) h
noncomputable def glC(I:Inf)(e:Expr)(k:Str->iL->Bool):Bool:=isCall e fun f es ks _=>isName f fun x=>isGl I x && is0 ks && k x es
@[elab_as_elim] theorem JL{Γ T I X}{e:Expr}{k:Str->iL->Bool}{P:Expr->Prop}(A:All Γ T X I)(h:glC I e k=true)(H:∀x es p q,Gl X x->(x == ("__debug__":Str))=false->k x es=true->P (.Call (.Name x p) es [] q)):P e:=jr h fun f es ks p h=>qB h fun x q h=>by
 cases q6 (an (an h).1).2;have⟨h1,h2⟩:=kT A.c (an (an h).1).1;exact H _ _ _ _ h1 h2 (an h).2
theorem yN{X:Cx}{T:List FnE}{as:IA}(h:DFs X [] (evL T as)):evL T as=[]:=by generalize evL T as=z at h;cases h;rfl
noncomputable def IE.call(j:Nat)(as:IA):IE where
 ch Γ T I e:=glC I e fun x es=>fnB T j fun fe=>decide (fe.kd=0) && decide (fe.x=x) && decide (fe.k<=I.k) && !I.q && chA Γ T as I es
 ev T:=xj T[j]? (evL T as)
 ok {Γ T I X e} A h:=JL A h fun x es p q g1 g2 h=>QX (P:=fun o=>ER X _ (xj o (evL T as))) h fun fe hm h=>by
  have h1:=(an h).1;have h2:=(an h1).1;have h3:=(an h2).1;obtain⟨f,fd,ps,kn,k2,k3⟩:=A.t fe hm;rw[de (an h3).1]at k3;cases de (an h3).2;obtain⟨s1,s2⟩:=sA A (an h).2;have hr:=(A.room (nt (an h1).2)).mono (de (an h2).2);show ER X _ fun s b=>(seqA (evL T as) s b).bind (cl fe.n fe.F)
  rw[<- kn];cases es with
  |nil=>rw[yN s2];exact WS k3.1 hr g1 k3.2.1 k3.2.2 k2 g2
  |cons e es=>exact uY k3.1 hr g1 k3.2.1 k3.2.2 k2 (s2.da s1) g2 (qC s1).1 (plain_any (qC s1).2)
noncomputable def IE.callH(j:Nat)(as:IA):IE where
 ch Γ T I e:=glC I e fun x es=>fnB T j fun fe=>decide (fe.kd=4) && decide (fe.x=x) && decide (fe.k<=I.k) && I.q && !es.isEmpty && chA Γ T as I es
 ev T:=xj T[j]? (evL T as)
 ok {Γ T I X e} A h:=JL A h fun x es p q g1 g2 h=>QX (P:=fun o=>ER X _ (xj o (evL T as))) h fun fe hm h=>by
  have h0:=(an h).1;have h1:=(an h0).1;have h2:=(an h1).1;have h3:=(an h2).1;obtain⟨f,fd,ps,kn,k2,k3⟩:=A.t fe hm;rw[de (an h3).1]at k3;cases de (an h3).2;obtain⟨s1,s2⟩:=sA A (an h).2;have hr:=(A.qt (an h1).2).mono (de (an h2).2);show ER X _ fun s b=>(seqA (evL T as) s b).bind (cl fe.n fe.F)
  rw[<- kn];cases es with
  |nil=>exact ff (an h0).2
  |cons e es=>exact WR k3.1 hr g1 k3.2.1 k3.2.2 k2 (s2.da s1) g2 (qC s1).1 (plain_any (qC s1).2)
noncomputable def atC(e:Expr)(k:Expr->Str->iL->Bool):Bool:=isCall e fun f es ks p=>xQ f fun x m ap=>is0 ks && ya x && decide (es.length<29) && (ap.endLine == p.line) && k x m es
@[elab_as_elim] theorem Xv{e:Expr}{k:Expr->Str->iL->Bool}{P:Expr->Prop}(h:atC e k=true)(H:∀x m ap es p,ya x=true->es.length<29->(ap.endLine == p.line)=true->k x m es=true->P (.Call (.Attribute x m ap) es [] p)):P e:=jr h fun f es ks p h=>ju h fun x m ap h=>by
 have h1:=(an h).1;have h2:=(an h1).1;have h3:=(an h2).1;cases q6 (an h3).1;exact H _ _ _ _ _ (an h3).2 (de (an h2).2) (an h1).2 (an h).2
noncomputable def IE.meth(j:Nat)(o:IV)(as:IA):IE where
 ch Γ T I e:=atC e fun x m es=>fnB T j fun fe=>decide (fe.kd=1) && decide (Γ.nm[fe.j]?=some m) && decide (fe.k<=I.k) && !I.q && o.ch Γ T I x && chA Γ T as I es
 ev T:=Jg T[j]? (o.ev T) (evL T as)
 ok {Γ T I X e} A h:=Xv h fun x m ap es p g4 g5 g6 h=>QX (P:=fun u=>ER X _ (Jg u (o.ev T) (evL T as))) h fun fe hm h=>by
  have h0:=(an h).1;have h1:=(an h0).1;have h2:=(an h1).1;have h3:=(an h2).1;obtain⟨f,fd,ps,kn,k2,k3⟩:=A.t fe hm;rw[de (an h3).1]at k3;obtain⟨s1,s2⟩:=sA A (an h).2;cases A.g.nm _ _ (de (an h3).2);obtain⟨pl,ht⟩:=X5 (m:=X.W.nm fe.j) (env:=X.env) g4 s1 g5 g6;have hr:=(A.room (nt (an h1).2)).mono (de (an h2).2);show ER X _ (X6 fe.C fe.j fe.n fe.F (o.ev T) (seqA (evL T as)));rw[<- kn];cases es with
  |nil=>rw[yN s2];exact WO (o.ok A (an h0).2) k3.2.1 k3.2.2 k3.1 hr k2 ht
  |cons e es=>exact uV (o.ok A (an h0).2) k3.2.1 k3.2.2 k3.1 hr k2 (s2.da s1) (qC s1).1 (plain_any (qC s1).2) ht
noncomputable def IE.make(j:Nat):IE where
 ch Γ T I e:=glC I e fun x es=>fnB T j fun fe=>decide (fe.kd=2) && decide (fe.x=x) && decide (fe.k+1<=I.k) && !I.q && is0 es
 ev T _ b:=Vj T[j]? b
 ok {Γ T I X e} A h:=JL A h fun x es p q g1 g2 h=>QX (P:=fun o=>ER X _ (fun _ b=>Vj o b)) h fun fe hm h=>by
  have h1:=(an h).1;have h2:=(an h1).1;have h3:=(an h2).1;obtain⟨f,fd,ps,kn,k2,k3⟩:=A.t fe hm;rw[de (an h3).1]at k3;cases de (an h3).2;cases q6 (an h).2;show ER X _ fun _ b=>Zo fe.C fe.n fe.F b
  rw[<- kn];exact uW k3.2.1 k3.1 ((A.room (nt (an h1).2)).mono (de (an h2).2)) g1 k3.2.2 k2 g2
noncomputable def IE.bf(f:Bf)(as:IA):IE where
 ch Γ T I e:=bnC Γ I f.x e fun es=>!I.q && !es.isEmpty && chA Γ T as I es
 ev T s b:=(seqA (evL T as) s b).bind fun l b=>opR (f.g l b)
 ok A h:=xl A h fun es p q g1 g2 g3 g4 h=>by
  obtain⟨s1,s2⟩:=sA A (an h).2;have hn:=Jd (an (an h).1).2;cases es with
  |nil=>exact absurd rfl hn
  |cons e es=>
   rcases f.ok _ (A.calm (nt (an (an h).1).1)) A.un with⟨id,q1,q2⟩|⟨id,q1,q2⟩
   ·exact e_bf q1 g1 g2 q2 (s2.da s1) (qC s1).1 (plain_any (qC s1).2) g3 g4
   ·exact e_bt q1 g1 g2 q2 (s2.da s1) (qC s1).1 (plain_any (qC s1).2) g3 g4
noncomputable def IE.bm(m:Bm)(o:IV)(as:IA):IE where
 ch Γ T I e:=atC e fun x nm es=>decide (nm=m.x) && o.ch Γ T I x && chA Γ T as I es
 ev T:=bmN m.T m.g (o.ev T) (seqA (evL T as))
 ok {Γ T I X e} A h:=Xv h fun x nm ap es p g4 g5 g6 h=>by
  cases de (an (an h).1).1;obtain⟨s1,s2⟩:=sA A (an h).2;obtain⟨id,q1,q2,q3,q4⟩:=m.ok X A.un;cases es with
  |nil=>rw[yN s2];exact qdo q1 q2 q3 q4 (o.ok A (an (an h).1).2) (k8 g4) g6
  |cons e es=>exact e_bm q1 q2 q3 q4 (o.ok A (an (an h).1).2) (s2.da s1) (k8 g4) (Xf s1 g5) g6 (qC s1).1 (plain_any (qC s1).2)
structure Ik where
 ch:Gs->Inf->Expr->Expr->(iL->Bool)->Bool
 ev:List EvD->Sc->Hb->R (List D×Option Nat)
 ok:∀{Γ T I X tg iter k fs},All Γ T X I->ch Γ I tg iter k=true->(∀es,k es=true->qV es=true/\DFs X es fs)->EI X tg iter (ev fs)
noncomputable def ev1(g:Hb->D->Option (List D×Option Nat)):List EvD->Sc->Hb->R (List D×Option Nat)
 |[f]=>fun s b=>(f s b).bind fun d b=>opt (g b d) b
 |_=>fun _ _=>.bad
@[elab_as_elim] theorem Z9{X:Cx}{e:Expr}{fs:List EvD}{P:List EvD->Prop}(h:DFs X [e] fs)(H:∀f,EV X e f->P [f]):P fs:=by
 cases h with
 |cons h t=>cases t;exact H _ h
noncomputable def Ik.any:Ik where
 ch _ I _ iter k:=!I.q && k [iter]
 ev:=ev1 srcA
 ok A h H:=Z9 (H _ (an h).2).2 fun f hf=>qcp (A.calm (nt (an h).1)) hf
noncomputable def Ik.rng:Ik where
 ch Γ I _ iter k:=bnC Γ I "range" iter fun es=>!I.q && !es.isEmpty && k es
 ev fs s b:=(seqA fs s b).bind fun l b=>opt (srcR l) b
 ok A h H:=xl A h fun es p q g1 g2 _ _ h=>by
  obtain⟨s1,s2⟩:=H _ (an h).2;have hn:=Jd (an (an h).1).2;cases es with
  |nil=>exact absurd rfl hn
  |cons e es=>exact Wz (A.calm (nt (an (an h).1).1)) g1 g2 (s2.da s1) (qC s1).1 (plain_any (qC s1).2)
theorem wt{P:Expr->Prop}{e:Expr}(h:isTp e=true)(H:∀es j p,P (.Tuple es j p)):P e:=by
 cases e;case Tuple=>exact H _ _ _
 all_goals exact ff h
noncomputable def Ik.enm:Ik where
 ch Γ I tg iter k:=bnC Γ I "enumerate" iter fun es=>is1 es fun e=>!I.q && isTp tg && k [e]
 ev fs s b:=(seqA fs s b).bind fun l b=>opt (srcE b l) b
 ok {Γ T I X tg iter k fs} A h H:=xl A h fun es p q g1 g2 _ _ h=>zO h fun e h=>wt (P:=fun tg=>EI X tg _ _) (an (an h).1).2 fun es j p=>
  have⟨s1,s2⟩:=H _ (an h).2
  uu (A.calm (nt (an (an h).1).1)) g1 g2 (s2.da s1) (qC s1).1
noncomputable def Ik.zip:Ik where
 ch Γ I tg iter k:=bnC Γ I "zip" iter fun es=>isC es fun e r=>is1 r fun e'=>isTp tg && k [e,e']
 ev fs s b:=(seqA fs s b).bind fun l b=>opt (srcZ l) b
 ok {Γ T I X tg iter k fs} A h H:=xl A h fun es p q g1 g2 _ _ h=>jt h fun e r h=>zO h fun e' h=>wt (P:=fun tg=>EI X tg _ _) (an h).1 fun es j p=>by
  have⟨s1,s2⟩:=H _ (an h).2;cases z:I.q with
  |false=>exact qco (A.calm z) g1 g2 (s2.da s1) (qC s1).1 (qC (qC s1).2).1
  |true=>exact ur (A.qt z).hd g1 g2 (s2.da s1) (qC s1).1 (qC (qC s1).2).1
noncomputable def mt0(n:Str)(e:Expr)(k:Expr->Bool):Bool:=isCall e fun f es ks p=>xQ f fun o m ap=>is0 es && is0 ks && decide (m=n) && ya o && (ap.endLine == p.line) && k o
theorem V7{n:Str}{e:Expr}{k:Expr->Bool}{P:Expr->Prop}(h:mt0 n e k=true)(H:∀o ap p,ya o=true->(ap.endLine == p.line)=true->k o=true->P (.Call (.Attribute o n ap) [] [] p)):P e:=jr h fun f es ks p h=>ju h fun o m ap h=>by
 have h1:=(an h).1;have h2:=(an h1).1;have h3:=(an h2).1;have h4:=(an h3).1;cases q6 (an h4).1;cases q6 (an h4).2;cases de (an h3).2;exact H _ _ _ (an h2).2 (an h1).2 (an h).2
noncomputable def Ik.items:Ik where
 ch Γ I tg iter k:=mt0 "items" iter fun o=>!I.q && isTp tg && k [o]
 ev:=ev1 srcI
 ok {Γ T I X tg iter k fs} A h H:=V7 (P:=fun i=>EI X tg i _) h fun o ap p g1 g2 h=>wt (P:=fun tg=>EI X tg _ _) (an (an h).1).2 fun es j p=>Z9 (H _ (an h).2).2 fun f hf=>WA (A.calm (nt (an (an h).1).1)) hf (k8 g1) g2
noncomputable def Ik.vals:Ik where
 ch Γ I tg iter k:=mt0 "values" iter fun o=>!I.q && k [o]
 ev:=ev1 srcV
 ok {Γ T I X tg iter k fs} A h H:=V7 (P:=fun i=>EI X tg i _) h fun o ap p g1 g2 h=>Z9 (H _ (an h).2).2 fun f hf=>ut (A.calm (nt (an h).1)) hf (k8 g1) g2
noncomputable def IT.tt:IT where
 ch _ _ _ _:=false
 ev _ _ b:=.ok true b
 ok _ h:=ff h
 em:=true
 ot _ _:=rfl
noncomputable def IT.val(v:IV):IT where
 ch Γ T I e:=plainT e && v.ch Γ T I e
 ev T:=tst (v.ev T)
 ok A h:=qbq (v.ok A (an h).2) (XE (an h).1)
noncomputable def IT.nt(t:IT):IT where
 ch Γ T I e:=isUn e fun o x=>decide (o=.Not) && t.ch Γ T I x
 ev T s b:=(t.ev T s b).bind fun k b=>.ok (!k) b
 ok A h:=Jw h fun o x p h=>by
  cases de (an h).1;exact qbr (t.ok A (an h).2)
noncomputable def IT.and(ts:ITs):IT where
 ch Γ T I e:=isBool e fun o es=>decide (o=.And) && !es.isEmpty && chTL Γ T ts I es
 ev T:=Ye (evTs T ts)
 ok A h:=v8 h fun o es p h=>by
  cases de (an (an h).1).1;exact((sTL A (an h).2).and (Jd (an (an h).1).2)) _
noncomputable def IT.or(ts:ITs):IT where
 ch Γ T I e:=isBool e fun o es=>decide (o=.Or) && !es.isEmpty && chTL Γ T ts I es
 ev T:=orTL (evTs T ts)
 ok A h:=v8 h fun o es p h=>by
  cases de (an (an h).1).1;exact((sTL A (an h).2).or (Jd (an (an h).1).2)) _
noncomputable def IT.cmp(o:Cop)(a c:IV):IT where
 ch Γ T I e:=cmp1 Γ T I o a c e
 ev T s b:=(a.ev T s b).bind fun x b=>(c.ev T s b).bind fun y b=>(cmpB o.g x y b).bind .ok
 ok A h:=Kn A h fun _ _ _ h1 h2 h3=>qbs (o.ok _ A.un) h2 h3 h1
noncomputable def IT.chn(a:IV)(ops:List Cop)(as:IA):IT where
 ch Γ T I e:=chnB Γ T I a ops as e
 ev T s b:=(a.ev T s b).bind fun x b=>E.chn s (zipC ops (evL T as)) x b
 ok A h:=Xo A h fun _ _ _ _ _ _ _ _ h1 h2 h3=>XG h2 h3 h1
noncomputable def ifB(Γ:Gs)(T:List FnE)(I:Inf)(ts:IT)(ifs:iL):Bool:=(is0 ifs && ts.em) || is1 ifs fun c=>ts.ch Γ T I c
theorem uq{Γ T I X}{ts:IT}{ifs:iL}(A:All Γ T X I)(h:ifB Γ T I ts ifs=true):ETs X ifs (ts.ev T):=(gI.mp h).elim (fun h=>by
  rw[q6 (an h).1,ts.ot (an h).2];exact Ys) fun h=>zO h fun c h=>Yr (ts.ok A h)
noncomputable def genB(Γ:Gs)(T:List FnE)(I:Inf)(k:Nat)(ix:List Nat)(ik:Ik)(as:IA)(t:Tg)(ts:IT)(gs:List Comprehension)(scope:Scope):Bool:=is1 gs fun g=>decide (g.is_async=0) && chB I scope k ix && Jb g.iter && chG (blkI I scope) t g.target && ik.ch Γ I g.target g.iter (chA Γ T as I) && ifB Γ T (blkI I scope) ts g.ifs
theorem JM{Γ T I X}{k:Nat}{ix:List Nat}{ik:Ik}{as:IA}{t:Tg}{ts:IT}{gs:List Comprehension}{scope:Scope}{P:List Comprehension->Prop}(A:All Γ T X I)(h:genB Γ T I k ix ik as t ts gs scope=true)
  (H:∀tg iter ifs,k=(jh scope).length->CompOk X scope (clL X.env.cells scope.names []) (jh scope) (zP scope) ix->(∀X',Blk X scope (clL X.env.cells scope.names []) (jh scope++zP scope) X'->All Γ T X' (blkI I scope))->EI X tg iter (ik.ev (evL T as))->
   (∀X',Blk X scope (clL X.env.cells scope.names []) (jh scope++zP scope) X'->EG X' tg t)->(∀X',Blk X scope (clL X.env.cells scope.names []) (jh scope++zP scope) X'->ETs X' ifs (ts.ev T))->(∀x,foldedSetIterable iter X.env x=pure x)->P [⟨tg,iter,ifs,0⟩]):P gs:=zO h fun⟨tg,iter,ifs,z⟩ h=>by
 have h1:=(an h).1;have h2:=(an h1).1;have h3:=(an h2).1;have h4:=(an h3).1;cases (show z=0 from de (an h4).1);obtain⟨e,O,hB⟩:=WZ A.c (an h4).2;have B:∀X',Blk X scope (clL X.env.cells scope.names []) (jh scope++zP scope) X'->All Γ T X' (blkI I scope):=fun X' k=>A.blk k (hB X' k)
 exact H _ _ _ e O B (ik.ok A (an h1).2 fun es h=>sA A h) (fun X' k=>sG (B X' k) t _ (an h2).2) (fun X' k=>uq (B X' k) (an h).2) (V2 (an h3).2)
theorem ZM{X:Cx}{I:Inf}{x:Expr}{gs:List Comprehension}{sc:Scope}{p pp:Pos}{t:Str}{l:Nat}(O:Cok X I)(hk:I.sc.kind=.function):swapsWith (.ListComp x gs sc p) (some (.Name t pp)) l X.env=pure (swS I (.ListComp x gs sc p) t pp.line):=by
 have hb:X.env.blockKind=.function:=by
  unfold Env.blockKind;rw[O.sc,hk];rfl
 show pure (X.env.blockKind == .function && X.env.kindOf t == some .local && pp.line == p.line && !(sc.names.any fun(n,k)=>n == t && (k == .local || k == .cell)))=_;have hq:X.env.kindOf t=I.sc.names.lookup t:=by
  unfold Env.kindOf;rw[O.sc]
 rw[hb,hq];unfold swS
 by_cases h:I.sc.names.lookup t=some .local
 ·rw[h]
  rfl
 ·have e1:(I.sc.names.lookup t == some NameKind.local)=false:=by simpa using h
  rw[e1,aZ h];rfl
noncomputable def lcB(Γ:Gs)(T:List FnE)(I:Inf)(k:Nat)(ix:List Nat)(ik:Ik)(as:IA)(t:Tg)(ts:IT)(v:IV)(e:Expr):Bool:=isLC e fun x gs sc _=>genB Γ T I k ix ik as t ts gs sc && v.ch Γ T (blkI I sc) x
noncomputable def lcF(T:List FnE)(k:Nat)(ix:List Nat)(ik:Ik)(as:IA)(t:Tg)(ts:IT)(v:IV):Sc->Hb->R Res:=cmpR (ik.ev (evL T as)) t (ts.ev T) (fxL (v.ev T)) k ix (.lst false [])
noncomputable def IE.lc(k:Nat)(ix:List Nat)(ik:Ik)(as:IA)(t:Tg)(ts:IT)(v:IV):IE where
 ch Γ T I e:=lcB Γ T I k ix ik as t ts v e
 ev T:=lcF T k ix ik as t ts v
 ok {Γ T I X e} A h:=Jy h fun x gs sc p h=>JM (P:=fun gs=>ER X (.ListComp x gs sc p) _) A (an h).1 fun tg iter ifs e O B hi hg ht hs=>by
  cases e;exact e_lc O A.c.exk hi hg ht (fun X' k=>v.ok (B X' k) (an h).2) hs
 cs Γ T I e:=lcB Γ T I k ix ik as t ts v e && decide (I.sc.kind=.function)
 os {Γ T I X e y n py sp m} A h hy:=Jy (P:=fun e=>ES X (.Assign [.Name y py] e sp) _) (an h).1 fun x gs sc p h'=>JM (P:=fun gs=>ES X (.Assign [.Name y py] (.ListComp x gs sc p) sp) _) A (an h').1 fun tg iter ifs e O B hi hg ht hs=>by
  cases e;have sw:=ZM (x:=x) (gs:=[⟨tg,iter,ifs,0⟩]) (sc:=sc) (p:=p) (pp:=py) (t:=y) (l:=sp.line) A.c (de (an h).2);have hv:=fun X' k=>v.ok (B X' k) (an h').2
  cases hq:swS I (.ListComp x [⟨tg,iter,ifs,0⟩] sc p) y py.line with
  |false=>rw[hq]at sw;exact YB hy ((e_lc O A.c.exk hi hg ht hv hs).kp m) sw
  |true=>rw[hq]at sw;exact YA hy O A.c.exk hi hg ht hv hs sw
noncomputable def IE.dc(k:Nat)(ix:List Nat)(ik:Ik)(as:IA)(t:Tg)(ts:IT)(ke ve:IV):IE where
 ch Γ T I e:=isDC e fun x y gs sc=>genB Γ T I k ix ik as t ts gs sc && ke.ch Γ T (blkI I sc) x && ve.ch Γ T (blkI I sc) y
 ev T:=cmpR (ik.ev (evL T as)) t (ts.ev T) (fxD (ke.ev T) (ve.ev T)) k ix (.dic false [])
 ok {Γ T I X e} A h:=Wv h fun x y gs sc p h=>JM (P:=fun gs=>ER X (.DictComp x y gs sc p) _) A (an (an h).1).1 fun tg iter ifs e O B hi hg ht hs=>by
  cases e;exact e_dc (fun X' k=>(B X' k).un) O A.c.exk hi hg ht (fun X' k=>ke.ok (B X' k) (an (an h).1).2) (fun X' k=>ve.ok (B X' k) (an h).2) hs
theorem vT{e o:Expr}{m:Str}{p:Pos}{l:Nat}{env:Env}:swapsWith e (some (.Attribute o m p)) l env=pure false:=by
 cases e <;> rfl
theorem KT{e o i:Expr}{p:Pos}{l:Nat}{env:Env}:swapsWith e (some (.Subscript o i p)) l env=pure false:=by
 cases e <;> rfl
theorem Qq{e:Expr}{es:iL}{k:Nat}{p:Pos}{l:Nat}{env:Env}:swapsWithSole [.Tuple es k p] e l env=pure false:=by
 show swapsWith e (some (.Tuple es k p)) l env=_;cases e <;> rfl
structure IS where
 ch:Gs->List FnE->Inf->Stmt->Bool
 ev:List FnE->Sc->Hb->Out
 ok:∀{Γ T I X st},All Γ T X I->ch Γ T I st=true->ES X st (ev T)
noncomputable abbrev ISs:=List IS
noncomputable def evSs(T:List FnE):ISs->Sc->Hb->Out
 |[]=>fun s b=>.nx s b
 |s::ss=>fun sc b=>sq (s.ev T sc b) (evSs T ss)
noncomputable def chSs(Γ:Gs)(T:List FnE):ISs->Inf->List Stmt->Bool
 |[],_,l=>is0 l
 |s::ss,I,l=>isC l fun st sts=>s.ch Γ T I st && chSs Γ T ss I sts
theorem sSs{Γ T I X}(A:All Γ T X I):∀{ss:ISs}{l:List Stmt},chSs Γ T ss I l=true->ESs X l (evSs T ss)
 |[],l,h=>by rw[q6 (show is0 l=true from h)];exact qby
 |s::ss,l,h=>jt (show isC l _=true from h) fun st sts h=>YD (s.ok A (an h).1) (sSs A (an h).2)
noncomputable def IS.no:IS where
 ch _ _ _ _:=true
 ev _ _ _:=.bad
 ok _ _:=⟨fun _ _ _ _ _ _ _ _ q=>q.elim⟩
noncomputable def IS.expr(e:IE):IS where
 ch Γ T I st:=ug st fun x=>!isComp x && e.ch Γ T I x
 ev T s b:=eO (e.ev T s b) s fun _ b=>.nx s b
 ok A h:=VA h fun x p h=>YC (e.ok A (an h).2) (ZL (nt (an h).1))
noncomputable def IS.ret(e:IE):IS where
 ch Γ T I st:=ud st fun x=>isSm x fun x=>e.ch Γ T I x
 ev T s b:=eO (e.ev T s b) s .rt
 ok A h:=Vx h fun x p h=>wv h fun x h=>qbw (e.ok A h)
noncomputable def IS.iff(t:IT)(a c:ISs):IS where
 ch Γ T I st:=isIf st fun z xs ys=>t.ch Γ T I z && chSs Γ T a I xs && chSs Γ T c I ys
 ev T s b:=eO (t.ev T s b) s fun k b=>if k then evSs T a s b else evSs T c s b
 ok A h:=Wu h fun _ _ _ p h=>s_if (t.ok A (an (an h).1).1) (sSs A (an (an h).1).2) (sSs A (an h).2)
noncomputable def asg1(st:Stmt)(k:Expr->Expr->Bool):Bool:=uj st fun ts e=>is1 ts fun t=>k t e
@[elab_as_elim] theorem k9{st:Stmt}{k:Expr->Expr->Bool}{P:Stmt->Prop}(h:asg1 st k=true)(H:∀t e p,k t e=true->P (.Assign [t] e p)):P st:=VD h fun ts e p h=>zO h fun t h=>H _ _ _ h
noncomputable def IS.set(i:Nat)(v:IV):IS where
 ch Γ T I st:=asg1 st fun t e=>isName t fun x=>isNm I x i && ((!isComp e && v.ch Γ T I e) || v.cs Γ T I e)
 ev T s b:=eO (v.ev T s b) s fun d b=>.nx (s.set i (some d)) b
 ok A h:=k9 h fun t e p h=>qB h fun x q h=>(gI.mp (an h).2).elim (fun h'=>YB (yV A.c (an h).1) (v.ok A (an h').2) (ZL (nt (an h').1))) fun h'=>v.os A h' (yV A.c (an h).1)
noncomputable def IS.tup(t:Tg)(v:IV):IS where
 ch Γ T I st:=asg1 st fun tg e=>isTp tg && chG I t tg && Ja e && v.ch Γ T I e
 ev T s b:=eO (v.ev T s b) s fun d b=>nxO (asg t d s) b
 ok {Γ T I X st} A h:=k9 h fun tg e p h=>wt (P:=fun tg=>EG X tg t->ES X (.Assign [tg] e p) _) (an (an (an h).1).1).1 (fun es j p hg=>qbv (v.ok A (an h).2) hg Qq (wV (an (an h).1).2) rfl) (sG A t _ (an (an (an h).1).1).2)
theorem XN{Γ T I X}{o v:IV}{k:Nat}{x e:Expr}{m:Str}{p q:Pos}(A:All Γ T X I)(h1:Γ.nm[k]?=some m)(h2:o.ch Γ T I x=true)(h3:v.ch Γ T I e=true):ES X (.Assign [.Attribute x m p] e q) fun s b=>eO (v.ev T s b) s fun d b=>eO (o.ev T s b) s fun z b=>nxB s (setF flds k d b z):=by
 cases A.g.nm _ _ h1;have r:=qb0 (k:=k) (pos:=q) (pos':=p) A.g.fl (v.ok A h3) (o.ok A h2) vT;rw[A.g.fle]at r;exact r
noncomputable def IS.fld(k:Nat)(o v:IV):IS where
 ch Γ T I st:=asg1 st fun t e=>xQ t fun x m _=>decide (Γ.nm[k]?=some m) && o.ch Γ T I x && v.ch Γ T I e
 ev T s b:=eO (v.ev T s b) s fun d b=>eO (o.ev T s b) s fun z b=>nxB s (setF flds k d b z)
 ok A h:=k9 h fun t e p h=>ju h fun x m q h=>XN A (de (an (an h).1).1) (an (an h).1).2 (an h).2
noncomputable def IS.put(o i v:IV):IS where
 ch Γ T I st:=asg1 st fun t e=>Vu t fun x y=>o.ch Γ T I x && i.ch Γ T I y && v.ch Γ T I e
 ev T s b:=eO (v.ev T s b) s fun d b=>eO (o.ev T s b) s fun z b=>eO (i.ev T s b) s fun y b=>nxB s (setI b d y z)
 ok A h:=k9 h fun t e p h=>wu h fun x y q h=>qbx A.un (v.ok A (an h).2) (o.ok A (an (an h).1).1) (i.ok A (an (an h).1).2) KT
noncomputable def IS.whl(n:Nat)(t:IT)(body:ISs):IS where
 ch Γ T I st:=ua st fun z xs ys=>is0 ys && t.ch Γ T I z && chSs Γ T body I xs
 ev T s b:=E.whl (t.ev T) (evSs T body) n s b
 ok A h:=Vq h fun z xs ys p h=>by
  cases q6 (an (an h).1).1;exact XT n A.c.exk (t.ok A (an (an h).1).2) (sSs A (an h).2)
noncomputable def IS.each(ik:Ik)(as:IA)(t:Tg)(body:ISs):IS where
 ch Γ T I st:=uf st fun tg iter xs ys=>is0 ys && Jb iter && chG I t tg && ik.ch Γ I tg iter (chA Γ T as I) && chSs Γ T body I xs
 ev T s b:=eO (ik.ev (evL T as) s b) s fun r b=>finO r.2 (forD (za t (evSs T body)) r.1 s (qY r.2 true b))
 ok A h:=Vz h fun tg iter xs ys p h=>by
  have h1:=(an h).1;have h2:=(an h1).1;have h3:=(an h2).1;cases q6 (an h3).1;exact qbz A.c.exk (ik.ok A (an h1).2 fun es h=>sA A h) (sG A t _ (an h2).2) (sSs A (an h).2) (V2 (an h3).2)
noncomputable def YH(st:Stmt)(k:Str->iL->Bool):Bool:=uc st fun e c=>isNn c && isSm e fun e=>isCall e fun f es ks _=>isName f fun x=>is0 ks && k x es
theorem YG{st:Stmt}{k:Str->iL->Bool}{P:Stmt->Prop}(h:YH st k=true)(H:∀x es q p r,k x es=true->P (.Raise (some (.Call (.Name x q) es [] p)) none r)):P st:=Vv h fun e c p h=>by
 cases Jx (an h).1;refine wv (P:=fun e=>P (.Raise e none p)) (an h).2 fun e h=>jr (P:=fun e=>P (.Raise (some e) none p)) h fun f es ks q h=>qB (P:=fun f=>P (.Raise (some (.Call f es ks q)) none p)) h fun x r h=>?_
 cases q6 (an h).1;exact H _ _ _ _ _ (an h).2
noncomputable def IS.rse(C:Nat):IS where
 ch Γ _ I st:=YH st fun x es=>isGl I x && Γ.ex.contains (x,C) && !I.q && is1 es fun e=>Ww e fun c=>match c with
  |.str _=>true
  |_=>false
 ev _ s b:=.ex C s b
 ok {Γ T I X st} A h:=YG (P:=fun st=>ES X st _) h fun x es q p r h=>by
  have h1:=(an h).1;have h2:=(an h1).1;obtain⟨g1,g2⟩:=kT A.c (an h2).1;refine zO (P:=fun es=>ES X (.Raise (some (.Call (.Name x q) es [] p)) none r) _) (an h).2 fun e h=>QN (P:=fun e=>ES X (.Raise (some (.Call (.Name x q) [e] [] p)) none r) _) h fun c j cp h=>?_
  cases c;case str=>exact XU (A.g.ex _ _ (eE.mp (an h2).2)) g1 (A.calm (nt (an h1).2)) g2 rfl
  all_goals exact ff h
noncomputable def tryC(st:Stmt)(k:List Stmt->Str->Option Str->List Stmt->Bool):Bool:=ub st fun xs hs os fs=>is0 os && is0 fs && is1 hs fun h=>match h with
 |.ExceptHandler e n ss _=>isSm e fun e=>isName e fun cx=>k xs cx n ss
theorem XD{st:Stmt}{k:List Stmt->Str->Option Str->List Stmt->Bool}{P:Stmt->Prop}(h:tryC st k=true)(H:∀xs cx n ss cp hp p,k xs cx n ss=true->P (.Try xs [.ExceptHandler (some (.Name cx cp)) n ss hp] [] [] p)):P st:=Vt h fun xs hs os fs p h=>by
 cases q6 (an (an h).1).1;cases q6 (an (an h).1).2;refine zO (P:=fun hs=>P (.Try xs hs [] [] p)) (an h).2 fun hh h=>?_
 obtain⟨e,n,ss,hp⟩:=hh;exact wv (P:=fun e=>P (.Try xs [.ExceptHandler e n ss hp] [] [] p)) h fun e h=>qB (P:=fun e=>P (.Try xs [.ExceptHandler (some e) n ss hp] [] [] p)) h fun x r h=>H _ _ _ _ _ _ _ h
theorem All.hnd{Γ T I X}(A:All Γ T X I)(hq:I.q=false)(a:Addr):All Γ T (hnd X a) { I with q:=true }:=
 ⟨A.g,A.t,A.l,⟨A.c.N,A.c.nd,A.c.sc,A.c.fn,⟨A.c.exk.st⟩,A.c.cells,A.c.qual⟩,A.un,fun h=>ff h.symm,fun h=>ff h.symm,fun _=>(A.room hq).hnd _⟩
noncomputable def IS.tryN(i:Nat)(body suite:ISs):IS where
 ch Γ T I st:=tryC st fun xs cx n ss=>isGl I cx && decide (cx="WayError") && !I.q && chSs Γ T body I xs && !ss.isEmpty && chSs Γ T suite { I with q:=true } ss && isSm n fun n=>decide (I.N[i]?=some n) && decide (I.sc.names.lookup n=some .local)
 ev T s b:=catN i (evSs T suite) (evSs T body s b)
 ok {Γ T I X st} A h:=XD (P:=fun st=>ES X st _) h fun xs cx n ss cp hp p h=>by
  have h1:=(an h).1;have h2:=(an h1).1;have h3:=(an h2).1;have h4:=(an h3).1;cases de (an (an h4).1).2;obtain⟨g1,g2⟩:=kT A.c (an (an h4).1).1;obtain⟨Wc,w1,w2,w3⟩:=A.g.way;refine wv (P:=fun n=>ES X (.Try xs [.ExceptHandler (some (.Name "WayError" cp)) n ss hp] [] [] p) _) (an h).2 fun n h5=>?_
  cases ss with
  |nil=>exact ff (an h2).2
  |cons b0 ss=>exact Yz A.c.exk (by rw[A.c.N];exact A.c.nd) (by rw[A.c.N];exact de (an h5).1) (by rw[A.c.sc];exact de (an h5).2) g1 w1 g2 w2 w3 (sSs A (an h3).2) fun a=>sSs (A.hnd (nt (an h4).2) a) (an h1).2
theorem RoomH.units{k:Nat}{A:Around}(r:RoomH k A):A.units+64<cLine:=by have:=r.un;omega
theorem u9{W:Wd}{k name params body dV kV doc pm cdv ct oc f qual scope}{an od:iI}{osl}{N ps:iK}{form:ISs}{lam:Option Nat}(lk:W.K.lookup f=some ⟨oc,od,.func (PySem.W.fnOf name qual params body scope dV kV doc pm an cdv ct),osl⟩)(hcd:PySem.W.codeIn W.K cdv qual=true)(S:FnScope N ps scope)(G:Gok W Γ)(hT:∀fe∈T,Fok W fe)
  (hl:∀j,lam=some j->∃cd P pos q,cdv=.ref cd/\PySem.W.codeHdIn W.K cd P=true/\W.tb[j]?=some (P,pos,q)/\Γ.lm[j]?=some (pos,q))(h:chSs Γ T form ⟨N,scope,true,k,qual++".<locals>.",lam,false⟩ body=true):FnOk W (k+1) f (PySem.W.fnOf name qual params body scope dV kV doc pm an cdv ct) ps (qs N.length (evSs T form)):=
 qcy lk hcd S fun A outer s c hr=>sSs ⟨G,hT,hl,⟨rfl,S.nd,rfl,fun _ _=>rfl,⟨⟨_,_,_,rfl,rfl,rfl⟩⟩,fun x hx=>vP hx,rfl⟩,hr.units,fun _=>rfl,fun _=>hr,fun z=>ff z⟩ h
theorem WY{W:Wd}{k name params body dV kV doc pm cdv ct oc f qual scope}{an od:iI}{osl}{N ps:iK}{form:ISs}{lam:Option Nat}(lk:W.K.lookup f=some ⟨oc,od,.func (PySem.W.fnOf name qual params body scope dV kV doc pm an cdv ct),osl⟩)(hcd:PySem.W.codeIn W.K cdv qual=true)(S:FnScope N ps scope)(G:Gok W Γ)(hT:∀fe∈T,Fok W fe)
  (hl:∀j,lam=some j->∃cd P pos q,cdv=.ref cd/\PySem.W.codeHdIn W.K cd P=true/\W.tb[j]?=some (P,pos,q)/\Γ.lm[j]?=some (pos,q))(h:chSs Γ T form ⟨N,scope,true,k,qual++".<locals>.",lam,true⟩ body=true):FnOkH W (k+1) f (PySem.W.fnOf name qual params body scope dV kV doc pm an cdv ct) ps (Kw N.length (evSs T form)):=
 uI lk hcd S fun A outer s c hr=>sSs ⟨G,hT,hl,⟨rfl,S.nd,rfl,fun _ _=>rfl,⟨⟨_,_,_,rfl,rfl,rfl⟩⟩,fun x hx=>vP hx,rfl⟩,hr.units,fun z=>ff z.symm,fun z=>ff z.symm,fun _=>hr⟩ h
theorem xO{ps:iK}{us:iH}(nd:ps.Nodup)(l:us.length=ps.length):ps.filterMap (fun n=>((ps.zip us).lookup n).map (n,·))=ps.zip us:=by
 induction ps generalizing us with
 |nil=>rfl
 |cons p ps ih=>
  cases us with
  |nil=>cases l
  |cons u us=>
   have nd':=bq.mp nd;rw[List.zip_cons_cons,cH];simp only[cF,iz,gG];congr 1;refine Eq.trans ?_ (ih nd'.2 (by simpa using l));have fm:∀(l:iK)(f g:Str->Option (Str×Value)),(∀n∈l,f n=g n)->l.filterMap f=l.filterMap g:=fun l f g h=>by
    induction l with
    |nil=>rfl
    |cons a l ih2=>rw[cH,cH,h a aC,ih2 fun n hn=>h n (ay _ hn)]
   refine fm _ _ _ fun n hn=>?_
   rw[show(n == p)=false by
    have:n≠p:=fun z=>nd'.1 (by rw[<- z];exact hn)
    simpa using this]
theorem Zp{ps:iK}{us:iH}(l:us.length=ps.length){n:Str}(h:n∈ps):((ps.zip us).lookup n).isNone=false:=by
 induction ps generalizing us with
 |nil=>cases h
 |cons p ps ih=>
  cases us with
  |nil=>cases l
  |cons u us=>
   rw[List.zip_cons_cons,cF]
   by_cases z:n=p
   ·rw[show(n == p)=true by simpa using z];rfl
   ·rw[show(n == p)=false by simpa using z]
    exact ih (by simpa using l) ((aw.mp h).resolve_left z)
noncomputable def xK(a:Arguments):Option (iK):=match a with
 |⟨[],l,none,[],[],none,[]⟩=>some (l.map (·.arg))
 |_=>none
theorem xY{name qual:Str}{a:Arguments}{body:List Stmt}{scope:Scope}{kV doc pm cdv ct:Value}{an:iI}{ps:iK}(h:xK a=some ps)(nd:ps.Nodup):Bnd (PySem.W.fnOf name qual a body scope .none kV doc pm an cdv ct) ps:=fun us l=>by
 unfold xK at h
 split at h
 ·rename_i as
  cases h;unfold bindArgs;simp only[PySem.W.fnOf];have e0:seqItems? Value.none=pure none:=rfl;simp[e0,xO nd l,l];have e3:∀k,(List.filter (fun n=>(List.lookup n ((as.map (·.arg)).zip us)).isNone) (List.take k (as.map (·.arg)))).isEmpty=true:=fun k=>by
   rw[List.isEmpty_iff,fM];intro n hn;rw[Zp l (List.mem_of_mem_take hn)];simp
  refine(ax fun z=>?_).trans (by rw[<- List.filterMap_map,xO nd l]);exact aG ((bY Bool.not (e3 _)).symm.trans z)
 ·cases h
end E
namespace Att
open PySem PySem.W PySem.Calls PyProof.Rows
theorem v9{P:Params}{h:Heap}:∀(ns:iM)(vs:iH),WellAll P h vs (ns.map WData.int)->IntsAre vs ns:=by
 intro ns
 induction ns with
 |nil=>
  intro vs w;rw[i4]at w;cases w;exact .nil
 |cons n ns ih=>
  intro vs w;rw[av]at w;cases w with
  |cons a b=>
   cases a;exact .cons _ _ (ih _ b)
theorem ZX{l:OpenLaw}{n:Nat}(hn:l.most=some n){P:Params}{h:Heap}{args:List WData}{vals:iH}
  (hpre:l.row.toRowW.claim.pre args=true)(hwl:WellAll P h vals args) :
  ∃a vs ns,vals=[Value.ref a]/\args=[WData.list (ns.map WData.int)]/\h.get? a=some { cls:=.type "list",data:=.seq vs.toArray }/\IntsAre vs ns/\ns.length<=n:=by
 have hsh:WShape.hasAll [] args [.list .int]=true:=(pre_splitW hpre).1;have hc:l.pre.holds [] { args:=args }=true:=(pre_splitW hpre).2;obtain⟨d,r,rfl,h1,h2⟩:=hasAllW_cons hsh;obtain rfl:=hasAllW_nil h2;obtain⟨xs,rfl,h3⟩:=hasW_list h1;obtain⟨ns,rfl⟩:=items_int h3;have hlen:ns.length<=n:=by
  unfold OpenLaw.pre at hc;have h4:(WTm.not (.lt (.lit (.int (n:Int))) (.len (.arg 0)))).holds [] { args:=[.list (ns.map .int)] }=true:=by
   have h4:=(holds_andW hc).1;rw[hn]at h4;exact h4
  have h5:=condW_of h4 (w_not (w_lt w_lit (w_len_list (w_arg rfl))));rw[aM]at h5;refine dW fun q=>?_
  have q':(n:Int)<((ns.length:Nat):Int):=by omega
  first
   |(rw[br q']at h5;exact absurd h5 (by decide))
   |(simp at h5;omega)
 cases hwl with
 |cons w1 w2=>
  cases w2;cases w1 with
  |list ho hall=>exact⟨_,_,ns,rfl,rfl,ho,v9 ns _ hall,hlen⟩
theorem Z6(l:OpenLaw)(args:List WData):l.row.toRowW.claim.post args (.bool true) args=true:=
 postW_of (r:=l.row.toRowW) (X:=(true == true))
  (show WShape.has [] (.bool true) .bool=true by first|rfl|decide|simp[WShape.has,WShape.arms,WShape.armsAll])
  (show(WTm.eq .res (.lit (.bool true))).value [] { args:=args,res:=some (.bool true),after:=args }=some (.bool (true == true))from w_eq_bool (w_res rfl) w_lit) rfl
theorem attach_call{l:OpenLaw}{n:Nat}{q:Program}{loose:iK}{XP:(iF)->Heap->Prop}{YP:World->Heap->Prop}{d:DefRec}
  (hn:l.most=some n)(hdf:d.params.defaults=[])
  (call:∀(w:World)(s₀ s₁:Shared)(mg mb:iF)(fa:Addr)(o:Obj)(pm cd doc:Value)(a:Addr)(vs:iH)(ns:iM),
   Ground q loose [] XP w s₀ mg mb s₁.heap->YP w s₁.heap->
   s₁.heap.get? fa=some o->o.data=.func (docDef d.name d.params d.body d.scope pm cd doc)->s₁.heap.CodeRec cd d.name->mg d.name=some (.ref fa)->
   s₁.heap.get? a=some { cls:=.type "list",data:=.seq vs.toArray }->IntsAre vs ns->ns.length<=n->s₁.gens=#[]->
   codeAny (model l.prog w) callerA (.call (.ref fa) ⟨[.ref a],[]⟩) (fun r s'=>r=.ok (.ret (.bool true))/\OldK s₁.heap s'.heap/\s'.os=s₁.os/\AllBare s'.gens) s₁) :
  WalkO q loose XP YP l.row.toRowW d [] (fun f vs=>PySem.call f vs):=by
 intro w s₀ s₁ mg mb G Y fa o pm cd doc dV kV ho hd hcd hD hmg hg args vals as hpre hlay hrd hwl hlo;obtain rfl:dV=.none:=Dflts.none hD hdf;obtain rfl:kV=.none:=Dflts.noKw hD;obtain⟨a,vs,ns,rfl,rfl,hobj,hints,hlen⟩:=ZX hn hpre hwl;refine enter_call (codeAny_mono (call w s₀ s₁ mg mb fa o pm cd doc a vs ns G Y ho (fd_plain hd) hcd hmg hobj hints hlen hg) fun r s' hq=>?_);obtain⟨rfl,h2,h3,h4⟩:=hq;exact⟨.inl ⟨.bool true,.bool true,[],rfl,fun _=>rfl,.bool true,Z6 l _,fun _=>⟨List.Pairwise.nil,fun _ hm=>(nomatch hm)⟩⟩,h2,h3,h4⟩
end Att
namespace E
open PySem PySem.W PySem.Spec PyProof PyProof.Rows L2
theorem yl{K:iA}{h:Heap}{c P:Addr}(X:K.In h)(e:PySem.W.codeHdIn K c P=true):isCodeTable h P:=by
 obtain⟨o,vs,file,tf,flags,tg,inF,text,tt,e1,e2,e3,e4,_⟩:=PySem.W.codeHd_of_K X e;exact⟨c,o,vs,e1,e2,e3,e4⟩
noncomputable def x8(tb:String->Option Builtin)(p:Program)(w:World)(n₀:Nat)(ann:Option Value):Nat->SharedT->Thread->Option SharedT
 |0,_,_=>none
 |n+1,s,t=>match through t with
  |true=>some s
  |false=>match stepOk n₀ ann t with
   |false=>none
   |true=>match stepT (denote tb) p w s t with
    |some (s',t')=>x8 tb p w n₀ ann n s' t'
    |none=>none
theorem xE{tb:String->Option Builtin}{p:Program}{w:World}{n₀:Nat}{ann:Option Value}:∀{n:Nat}{s s':SharedT}{t:Thread},x8 tb p w n₀ ann n s t=some s'->topRun tb p w n₀ ann n s.abs t=some s'.abs
 |0,_,_,_,h=>by cases h
 |n+1,s,s',t,h=>by
  unfold x8 at h;unfold topRun;cases he:through t with
  |true=>rw[he]at h;cases h;rfl
  |false=>
   rw[he]at h;cases hk:stepOk n₀ ann t with
   |false=>rw[hk]at h;cases h
   |true=>
    rw[hk]at h;cases hs:stepT (denote tb) p w s t with
    |none=>rw[hs]at h;cases h
    |some r=>obtain⟨s₂,t₂⟩:=r;rw[hs]at h;rw[stepT_spec hs];exact xE h
noncomputable def qd5(P:Params):BT:=((boot_heap P).objs.toList.foldl (fun(x:BT×Nat) o=>(x.1.ins x.2 o,x.2+1)) (.nil,0)).1
noncomputable def qag(w:World)(os:OsState):SharedT:=⟨qd5 w.params,(boot_heap w.params).objs.size,(boot_heap w.params).life,#[],boot_drawn,boot_toks,os⟩
theorem boot_abs:∀w os,(qag w os).abs=⟨boot_heap w.params,#[],boot_drawn,boot_toks,os⟩:=fun w os=>by kernel_rfl
noncomputable def Kv(P:Params):Option Value:=(boot_heap P).nsMap mainGlobals "__annotations__"
noncomputable def yz(p q:Program)(loose:iK)(Xt:Shared->Bool){α:Type}(Yf:Shared->α)(N:Nat)(w:World)(os:OsState):=
 (x8 treeTable p w (boot_heap w.params).objs.size (Kv w.params) N (qag w os) (topStub p)).map fun s=>
  ((boot_heap w.params).isNs mainGlobals && (staticsOk (importedModules p.main.body) (boot_heap w.params) s.abs.heap && namesBound p s.abs.heap && gensDone s.abs && laidKept (boot_heap w.params) s.abs.heap),
   openSeen q loose (importedModules p.main.body) Xt true s.abs,Yf s.abs)
theorem yd{p q:Program}{loose:iK}{Xt:Shared->Bool}{α:Type}{Yf:Shared->α}{Ya:World->α}{N:Nat}
  (e:opening p=plainProg p.main.scope.names)(hN:Nat.ble 600 N=true)(f:∀s,fenceModules? p s=some s)
  (run:∀(w:World)(os:OsState),yz p q loose Xt Yf N w os=some (true,openGood q loose,Ya w)):LeftO p q loose Xt Yf Ya N:=fun w=>by
 obtain⟨⟨h,gs,d,k,os⟩,e1,e2⟩:=ah.mp (boot_open e hN f w);obtain⟨rfl,rfl,rfl,rfl⟩:h=boot_heap w.params/\gs=Array.mk []/\d=boot_drawn/\k=boot_toks:=by simpa using e2
 obtain⟨s,r1,r2⟩:=ah.mp (run w os);obtain⟨l1,l2,l3⟩:_/\_/\_:=by simpa only[ij] using r2
 obtain⟨i1,i2⟩:=eI.mp l1;have r:=xE r1;rw[boot_abs]at r;have t:topFrom treeTable p w N ⟨boot_heap w.params,#[],boot_drawn,boot_toks,os⟩=some s.abs:=by
  unfold topFrom;show(match(boot_heap w.params).isNs mainGlobals && true with|true=>_|false=>_)=_;rw[i1];show(topRun treeTable p w (boot_heap w.params).objs.size (Kv w.params) N _ (topStub p)).bind _=_;rw[r];show(match staticsOk (importedModules p.main.body) (boot_heap w.params) s.abs.heap && namesBound p s.abs.heap && gensDone s.abs && laidKept (boot_heap w.params) s.abs.heap with|true=>_|false=>_)=_;rw[i2]
 unfold openEnds;rw[e1];show(topFrom treeTable p w N _).map _=_;rw[t];exact bY some (Prod.ext l2 l3)
noncomputable def ZW(a:Addr)(o:Obj):Bool:=match o.cls with
 |.none=>Nat.beq a mainNs
 |_=>true
noncomputable def WG(h:Heap)(a:Addr):Option Obj:=match h.get? a with
 |some o=>(match ZW a o with
  |true=>some o
  |false=>none)
 |none=>none
theorem JK{h:Heap}{a:Addr}{o:Obj}(e:WG h a=some o):h.get? a=some o:=by
 unfold WG at e;cases g:h.get? a with
 |none=>rw[g]at e;cases e
 |some u=>
  rw[g]at e;cases q:ZW a u with
  |false=>simp only[q]at e;cases e
  |true=>simp only[q]at e;exact e
theorem jo(g:Addr->Option Obj)(a:Addr):∀(l:List Nat),((l.filterMap fun b=>(g b).map fun o=>(b,o)):iB).lookup a=if a∈l then g a else none
 |[]=>rfl
 |b::l=>by
  have ih:=jo g a l;rw[cH]
  by_cases e:a=b
  ·subst e
   cases q:g a with
   |none=>
    simp only[Option.map_none];rw[ih,aE (aC),q]
    split <;> rfl
   |some o=>
    simp only[gG];rw[cF,iz,aE (aC)]
  ·have e1:(a == b)=false:=by simpa using e
   have e2:(a∈b::l)=(a∈l):=by simp[e]
   simp only[e2];cases q:g b with
   |none=>simp only[Option.map_none];exact ih
   |some o=>simp only[gG];rw[cF,e1];exact ih
noncomputable def lkF(K:Frag):Addr->Option Obj:=fun a=>K.lookup a
noncomputable def Zt(as:iG)(h:Heap):Frag:=as.filterMap fun a=>(WG h a).map fun o=>(a,o)
theorem VI{as:iG}{h:Heap}:(Zt as h).In h:=fun a o e=>by
 unfold Zt at e;rw[jo]at e
 split at e
 ·exact JK e
 ·cases e
noncomputable def uA{α:Type}(as:iG)(obs:Frag->α)(val:World->α)(ts:iG)(hts:(ts.all fun P=>!as.contains P)=true):Hook where
 α:=α×List (Option Obj)
 obs:=fun s=>(obs (Zt as s.heap),ts.map s.heap.get?)
 val:=fun w=>(val w,ts.map fun _=>some (tabObj #[]))
 says:=fun w h=>∃K:Frag,K.In h/\obs K=val w/\(∀P∈ts,K.lookup P=none)/\∀P∈ts,h.get? P=some (tabObj #[])
 of:=fun w s x=>by
  obtain⟨x1,x2⟩:=bQ x;have x3:=cV.mp x2;refine⟨Zt as s.heap,VI,x1,fun P hP=>?_,x3⟩;unfold Zt;rw[jo,ax fun hm=>?_];have:=aP.mp hts P hP;rw[eE.mpr hm]at this;cases this
 keeps:=fun w h h'⟨K,x1,x2,x3,x4⟩ k=>⟨K,x1.keeps k,x2,x3,fun P hP=>k _ _ (x4 P hP)⟩
noncomputable def clsB(K:Frag)(C:Addr):Bool:=plainGet K C Str.empty && hasDictIn K C && plainOver K C && (findIn K (.ref C) "__setattr__" == some (some (.builtin "object.__setattr__")))
theorem Xn{K:Frag}{C:Addr}(h:clsB K C=true):Cls K C:=by
 unfold clsB at h;simp only[aq,cC]at h;exact⟨h.1.1.1,h.1.1.2,h.1.2,h.2⟩
noncomputable def naB(K:Frag)(C:Addr)(f:Str):Bool:=findIn K (.ref C) f == some none
theorem qce{K:Frag}{C:Addr}{f:Str}(h:naB K C f=true):NoAttr K C f:=cC.mp h
noncomputable def meB(K:Frag)(C:Addr)(m:Str)(f:Addr):Bool:=(findIn K (.ref C) m == some (some (.ref f))) && isFn K (.ref f) && keepIn K (.ref f)
theorem qch{K:Frag}{C f:Addr}{m:Str}(h:meB K C m f=true):Meth K C m f:=by
 unfold meB at h;simp only[aq,cC]at h;exact⟨h.1.1,h.1.2,h.2⟩
noncomputable def mkB(K:Frag)(C f:Addr):Bool:=makesIn K C && (findIn K (.ref C) "__init__" == some (some (.ref f))) && isFn K (.ref f) && keepIn K (.ref C)
theorem qcf{K:Frag}{C f:Addr}(h:mkB K C f=true):Mk K C f:=by
 unfold mkB at h;simp only[aq,cC]at h;exact⟨h.1.1.1,h.1.1.2,h.1.2,h.2⟩
noncomputable def nsB(K:Frag)(N:Addr):Bool:=match K.lookup N with
 |some ⟨_,_,.dict es _,_⟩=>es.toList.all fun e=>match e.key with|.str n _=>!(n == ("__init__":Str))|_=>false
 |_=>false
noncomputable def excB(K:Frag)(C:Addr)(bm:iH):Bool:=match K.lookup C with
 |some ⟨.type "type",_,.cls cd,sl⟩=>(cd.mro == .ref C::bm) && !cd.hasDel && (match sl.toList with|[_,_,_,_,some (.builtin n),_]=>n == "ValueError.__new__"|_=>false) && nsB K cd.ns
 |_=>false
theorem qcd{K:Frag}{N:Addr}{h:Heap}(X:K.In h)(e:nsB K N=true):h.Ns N (h.nsMap N)/\h.nsMap N "__init__"=none:=by
 unfold nsB at e
 split at e
 ·rename_i c d es ep sl hl
  have ho:=X _ _ hl;have all:=aP.mp e;constructor
  ·apply Heap.Ns.of_isNs
   unfold Heap.isNs;rw[ho];show es.all _=true;refine fL.mpr fun x hx=>?_
   have:=all x (by simpa using hx);cases hk:x.key <;> rw[hk]at this <;> first|rfl|cases this
  ·unfold Heap.nsMap
   rw[ho];show nsFind es "__init__"=none;unfold nsFind findBy;have hn:es.find? (fun x=>x.key.isStr "__init__")=none:=by
    rw[Array.find?_eq_none];intro x hx;have:=all x (by simpa using hx);cases hk:x.key with
    |str n t=>
     rw[hk]at this;intro z;have z:(n == ("__init__":Str))=true:=z;have this:(!(n == ("__init__":Str)))=true:=this;rw[z]at this;cases this
    |_=>rw[hk]at this;cases this
   rw[hn];rfl
 ·cases e
theorem xT{K:Frag}{C:Addr}{bm:iH}{h:Heap}(X:K.In h)(e:excB K C bm=true):∃N nm q bs hdct sn sub ab col dd k0 k1 k2 k3 k5,h.get? C=some (excClassObj nm q C N bs bm hdct sn sub ab col dd k0 k1 k2 k3 k5 "ValueError.__new__")/\h.Ns N (h.nsMap N)/\h.nsMap N "__init__"=none:=by
 unfold excB at e
 split at e
 ·rename_i dd cd sl hl
  simp only[aq,cC,dB]at e;obtain⟨⟨⟨e1,e2⟩,e3⟩,e4⟩:=e;obtain⟨n1,n2⟩:=qcd X e4;obtain⟨l⟩:=sl
  split at e3
  ·rename_i k0 k1 k2 k3 n k5 hs
   have hs:l=_:=hs;subst hs;have e3:n="ValueError.__new__":=by simpa using e3
   subst e3;obtain⟨nm,bs,mro,ns,q,hd,sn,sub,ab,col,del⟩:=cd;dsimp only at e1 e2 n1 n2;subst e1 e2;exact⟨ns,nm,q,bs,hd,sn,sub,ab,col,dd,k0,k1,k2,k3,k5,X _ _ hl,n1,n2⟩
  ·cases e3
 ·cases e
theorem Vb{K:Frag}{C:Addr}{x:Str}{mg:iF}{h:Heap}(X:K.In h)(hm:mg x=some (.ref C))(e:excB K C bmVE=true):OwnCls x C bmVE "ValueError.__new__" mg h:=by
 obtain⟨N,nm,q,bs,hdct,sn,sub,ab,col,dd,k0,k1,k2,k3,k5,h1,h2,h3⟩:=xT X e;exact⟨hm,bmVE,N,nm,q,bs,hdct,sn,sub,ab,col,dd,k0,k1,k2,k3,k5,_,h1,h2,h3,.base⟩
theorem yK{K:Frag}{C R:Addr}{x:Str}{mg:iF}{h:Heap}(X:K.In h)(hm:mg x=some (.ref C))(e:excB K C (.ref R::bmVE)=true)(eR:excB K R bmVE=true):OwnCls x C bmVE "ValueError.__new__" mg h:=by
 obtain⟨N,nm,q,bs,hdct,sn,sub,ab,col,dd,k0,k1,k2,k3,k5,h1,h2,h3⟩:=xT X e;obtain⟨N',nm',q',bs',hdct',sn',sub',ab',col',dd',k0',k1',k2',k3',k5',g1,g2,g3⟩:=xT X eR;exact⟨hm,.ref R::bmVE,N,nm,q,bs,hdct,sn,sub,ab,col,dd,k0,k1,k2,k3,k5,_,h1,h2,h3,.own g1 g2 g3 .base⟩
theorem x_{K:Frag}{R:Addr}{h:Heap}(X:K.In h)(eR:excB K R bmVE=true):jc h R R:=by
 obtain⟨N,nm,q,bs,hdct,sn,sub,ab,col,dd,k0,k1,k2,k3,k5,h1,_,_⟩:=xT X eR;exact⟨bmVE,N,nm,q,bs,hdct,sn,sub,ab,col,dd,k0,k1,k2,k3,k5,_,h1,by decide,by simp⟩
theorem yE{K:Frag}{C R:Addr}{h:Heap}(X:K.In h)(e:excB K C (.ref R::bmVE)=true):jc h C R:=by
 obtain⟨N,nm,q,bs,hdct,sn,sub,ab,col,dd,k0,k1,k2,k3,k5,h1,_,_⟩:=xT X e;exact⟨.ref R::bmVE,N,nm,q,bs,hdct,sn,sub,ab,col,dd,k0,k1,k2,k3,k5,_,h1,by simp,by simp⟩
noncomputable def uC(vs:iJ)(c P:Addr):Bool:=(match(vs[11]?:Option Value)with|some (.ref P')=>P' == P|_=>false) &&
   (match vs.getD 18 .none with|.str _ _=>true|_=>false) && (match vs.getD 7 .none with|.int _ _=>true|_=>false) &&
   (match vs.getD 9 .none with|.bool _=>true|_=>false) && (match vs.getD 10 .none with|.int _ _=>true|_=>false) && c != P
theorem Km{K:iA}{c P:Addr}{dct:iI}{vs:iJ}{sl:Array (Option Value)}(h:K.lookup c=some ⟨.type "code",dct,.fields vs,sl⟩)(e:uC vs c P=true):PySem.W.codeHdIn K c P=true:=by
 unfold PySem.W.codeHdIn;rw[h];exact e
noncomputable def XF(p:Program)(i:Nat):Stmt:=p.main.body.getD i (.Pass ⟨0,0,0,0⟩)
noncomputable def defName(s:Stmt):Str:=match s with
 |.FunctionDef n _ _ _ _ _ _ _ _ _=>n
 |_=>⟨#[]⟩
noncomputable def nsG(g:Addr->Option Obj)(ns:Addr)(name:Str):Option (Option Value):=match g ns with
 |some ⟨_,_,.dict es _,_⟩=>(match es.toList.find? (·.key.isStr name)with
   |some e=>some (some e.val)
   |none=>if es.toList.any (·.refKey)then none else some none)
 |_=>none
noncomputable def qdw(g:Addr->Option Obj)(cd:Value)(q:Str):Bool:=match cd with
 |.ref c=>(match g c with
   |some ⟨_,_,.fields vs,_⟩=>(match vs.toList with|_::.str n _::_=>n == q|_=>false)
   |_=>false)
 |_=>false
noncomputable def Xu(fd:FuncData):FuncData:={ fd with kwdefaults:=.none,doc:=.none,pyModule:=.none,annotations:=none,closureTuple:=.none }
noncomputable def clsAt(s:Stmt)(j:Nat):Stmt:=match s with
 |.ClassDef _ _ _ b _ _ _ _ _ _ _=>b.getD j (.Pass ⟨0,0,0,0⟩)
 |_=>.Pass ⟨0,0,0,0⟩
noncomputable def y9(g:Addr->Option Obj)(c P:Addr):Bool:=match g c with
 |some ⟨.type "code",_,.fields vs,_⟩=>uC vs c P
 |_=>false
theorem qae{K:Frag}{c P:Addr}(h:y9 (lkF K) c P=true):codeHdIn K c P=true:=by
 unfold y9 at h
 split at h
 ·rename_i a vs sl hl
  exact Km hl h
 ·cases h
noncomputable def wdOf(P:Program)(w:World)(K:Frag)(mg:iF)(cl:Nat->Addr)(nm:Nat->Str)(nmi:∀i j,nm i=nm j->i=j)(tb:List (Addr×Pos×Str))(base:Heap):Wd:=⟨P,w,K,mg,base,cl,nm,nmi,flds,tb⟩
theorem wY{W:Wd}{c:Co}:∀{vs:iH}{ns:iM},IntsAre vs ns->Reps W c (ns.map .int) vs
 |_,_,.nil=>rfl
 |_,_,.cons n t h=>⟨_,_,rfl,⟨t,rfl⟩,wY h⟩
theorem Jo{P:Program}{w:World}{K:Frag}{mg mb:iF}{cl:Nat->Addr}{nm:Nat->Str}{nmi:∀i j,nm i=nm j->i=j}{tb:List (Addr×Pos×Str)}{k:Nat}{fa a:Addr}{F:List D->Hb->R Res}{s₁:Shared}{vs:iH}{ns:iM}
  (KX:K.In s₁.heap)(hns:s₁.heap.Ns mainGlobals mg)(hb:s₁.heap.Ns builtinsNs mb)(hbb:∀x:Str,x≠"__name__"->mb x=bootBuiltins x)(hlim:s₁.heap.NoLimit)(hg:s₁.gens=#[])
  (ha:s₁.heap.get? a=some { cls:=.type "list",data:=.seq vs.toArray })(hi:IntsAre vs ns)(hl:ns.length<=sizeLine)(hr:Room k callerA)
  (htab:∀x∈tb,s₁.heap.get? x.1=some (tabObj #[]))(hKt:∀x∈tb,K.lookup x.1=none)(hct:∀x∈tb,isCodeTable s₁.heap x.1)(hbm:BmOk s₁.heap mg)(hsys:∃o es ep,K.lookup sysModules=some o/\o.data=.dict es ep)
  (G:∀base:Heap,K.In base->base.Ns mainGlobals mg->BmOk base mg->∃fd ps,FnOk (wdOf P w K mg cl nm nmi tb base) k fa fd ps F/\ps.length=1/\Bnd fd ps)
  (hF:∃b,F [.lst (ns.map .int)] []=.ok (.v (.bl true)) b) :
  codeAny (model P w) callerA (.call (.ref fa) ⟨[.ref a],[]⟩) (fun r s'=>r=.ok (.ret (.bool true))/\OldK s₁.heap s'.heap/\s'.os=s₁.os/\AllBare s'.gens) s₁:=by
 have tin:∀{b},b∈tb.map (·.1)->s₁.heap.get? b=some (tabObj #[])/\K.lookup b=none/\isCodeTable s₁.heap b:=fun h=>by
  obtain⟨x,hx,rfl⟩:=aQ.mp h;exact⟨htab x hx,hKt x hx,hct x hx⟩
 have nat:a∉tb.map (·.1):=fun z=>by
  have q:=(tin z).1;rw[ha]at q;cases q
 have hget:∀{b:Addr}{o:Obj},s₁.heap.get? b=some o->b∉tb.map (·.1)->(hideAll s₁.heap (tb.map (·.1))).get? b=some o:=fun e n=>hideAll_get _ e n
 have nof:∀{b:Addr}{o:Obj},s₁.heap.get? b=some o->(∀ps,o.data≠.fields ps)->b∉tb.map (·.1):=fun{b o} e d z=>by
  have q:=(tin z).1;rw[e]at q;cases q;exact d _ rfl
 have nsK:∀{b:Addr}{m:iF},s₁.heap.Ns b m->(hideAll s₁.heap (tb.map (·.1))).Ns b m:=fun⟨o,es,ep,e,d,r⟩=>⟨o,es,ep,hget e (nof e fun _ z=>by rw[d]at z;cases z),d,r⟩
 have hKb:K.In (hideAll s₁.heap (tb.map (·.1))):=fun b o e=>hget (KX b o e) fun z=>by rw[(tin z).2.1]at e;cases e
 have hB:BmOk (hideAll s₁.heap (tb.map (·.1))) mg:=by
  obtain⟨bm,ob,b1,b2,b3,b4,b5,b6⟩:=hbm;exact⟨bm,ob,b1,b2,hget b3 (nof b3 fun _ z=>by rw[b6]at z;cases z),b4,b5,b6⟩
 obtain⟨os,es,ep,hs1,hs2⟩:=hsys;have hs3:=KX _ _ hs1;have hM:Mo (wdOf P w K mg cl nm nmi tb (hideAll s₁.heap (tb.map (·.1)))):=⟨hKb,nsK hns,⟨mb,nsK hb,hbb⟩,let⟨mc,h1,h2⟩:=hlim;⟨mc,nsK h1,h2⟩,_,hKb _ _ hs1⟩;let c:Co:=⟨fun b=>if b=a then some (.frz { cls:=.type "list",data:=.seq vs.toArray })else if b∈tb.map (·.1)then some .tbl else none,[],fun _=>none⟩;have ca:c.t a=some (.frz { cls:=.type "list",data:=.seq vs.toArray }):=aE rfl;have ct:∀{b},b∈tb.map (·.1)->c.t b=some .tbl:=fun{b} h=>(ax fun z=>nat (by rw[<- z];exact h)).trans (aE h)
 have cn:∀{b},b≠a->b∉tb.map (·.1)->c.t b=none:=fun h1 h2=>(ax h1).trans (ax h2)
 have cc:∀{b x},c.t b=some x->(b=a/\x=.frz { cls:=.type "list",data:=.seq vs.toArray })\/(b∈tb.map (·.1)/\x=.tbl):=fun{b x} e=>by
  by_cases h1:b=a
  ·rw[h1,ca]at e;cases e;exact .inl ⟨h1,rfl⟩
  by_cases h2:b∈tb.map (·.1)
  ·rw[ct h2]at e;cases e;exact .inr ⟨h2,rfl⟩
  ·rw[cn h1 h2]at e;cases e
 have S:Sto (wdOf P w K mg cl nm nmi tb (hideAll s₁.heap (tb.map (·.1)))) c [] s₁.heap:=by
  refine⟨fun b o e=>?_,fun n p e=>by simp[c]at e,fun n o e=>by simp at e,fun n z e=>(nomatch e),rfl,fun b x e=>?_,fun x e=>?_,fun x hx=>⟨ct (eV hx),#[],htab x hx,trivial,.inl rfl⟩⟩
  ·rcases cc e with⟨rfl,z⟩|⟨_,z⟩
   ·cases z;exact ha
   ·cases z
  ·rcases cc e with⟨rfl,_⟩|⟨z,_⟩
   ·exact⟨_,ha⟩
   ·exact⟨_,(tin z).1⟩
  ·rcases cc e with⟨z,_⟩|⟨z,_⟩
   ·rw[z,ha]at hs3;cases hs3;cases hs2
   ·rw[(tin z).1]at hs3;cases hs3;cases hs2
 have bs:∀b o,(hideAll s₁.heap (tb.map (·.1))).get? b=some o->s₁.heap.get? b=some o/\(c.t b=none\/c.t b=some (.frz o)):=fun b o e=>by
  have e':=of_hideAll _ e;refine⟨e',?_⟩;cases q:c.t b with
  |none=>exact .inl rfl
  |some x=>
   rcases cc q with⟨z,h⟩|⟨z,h⟩
   ·rw[z,ha]at e';cases e';exact .inr (by rw[h])
   ·rw[hideAll_none _ z]at e;cases e
 have e0:E0 (wdOf P w K mg cl nm nmi tb (hideAll s₁.heap (tb.map (·.1)))) callerA [] s₁ c []:=⟨rfl,hM,bs,Nat.le_of_eq (hideAll_size _ _),trivial,fun b hb=>absurd (show b∈([]:iG)from hb) (by simp),S,.of_eq hg,fun _ h=>by cases h⟩;obtain⟨bF,hF⟩:=hF;obtain⟨fd,ps,G,hps,hbind⟩:=G _ hKb (nsK hns) hB;refine G.run callerA [] s₁ c [] ⟨[.ref a],[]⟩ [.ref a] [.lst (ns.map .int)] _ hr e0 (.of_eq (hbind [.ref a] hps.symm)) (.one ⟨a,_,vs,rfl,ca,⟨by rw[hi.length];exact hl,_,rfl⟩,wY hi⟩) hps.symm ?_;rw[hF];intro u s' c' B r;obtain rfl:u=Value.bool true:=r;have main:∀b o,s₁.heap.get? b=some o->asItWas s₁.heap s'.heap b o/\∃o',s'.heap.get? b=some o':=fun b o e=>by
  cases q:c.t b with
  |none=>
   have y:=B.un.keep b o e q (fun z=>absurd (show b∈([]:iG)from z) (by simp)) (by simp);exact⟨.inl y,_,y⟩
  |some x=>
   rcases cc q with⟨z,h⟩|⟨z,h⟩
   ·have y:=B.st.frz a _ (B.un.le.t _ _ ca)
    rw[z,ha]at e;cases e;exact⟨.inl (by rw[z];exact y),_,by rw[z];exact y⟩
   ·obtain⟨x,hx,rfl⟩:=aQ.mp z
    obtain⟨_,ps,y,_⟩:=B.st.tab x hx;have y':s'.heap.get? x.1=some { cls:=.none,data:=.fields (#[]++ps) }:=by rw[Array.empty_append];exact y
    rw[htab x hx]at e;cases e;exact⟨.inr (.inl ⟨hct x hx,rfl,#[],ps,rfl,y'⟩),_,y⟩
 exact⟨rfl,⟨fun b o e=>(main b o e).1,fun b o e=>(main b o e).2⟩,B.os,B.bare⟩
theorem KP{l:OpenLaw}{n k:Nat}{q:Program}{loose:iK}{XP:(iF)->Heap->Prop}{d:DefRec}{α:Type}{as:iG}{obs:Frag->α}{val:World->α}{tb:List (Addr×Pos×Str)}{hm:((tb.map (·.1)).all fun P=>!as.contains P)=true}{cl:Nat->Addr}{nm:Nat->Str}{nmi:∀i j,nm i=nm j->i=j}{F:List D->Hb->R Res}
  (hn:l.most=some n)(hn2:n<=sizeLine)(hdf:d.params.defaults=[])(hr:Room k callerA)
  (hcs:∀(w:World)(K:Frag),obs K=val w->(∃o es ep,K.lookup sysModules=some o/\o.data=.dict es ep)/\∀x∈tb,∃c,codeHdIn K c x.1=true)
  (G:∀(w:World)(K:Frag),obs K=val w->∀(mg:iF)(fa:Addr),mg d.name=some (.ref fa)->
   ∀base:Heap,K.In base->base.Ns mainGlobals mg->BmOk base mg->∃fd ps,FnOk (wdOf l.prog w K mg cl nm nmi tb base) k fa fd ps F/\ps.length=1/\Bnd fd ps)
  (hF:∀ns:iM,∃b,F [.lst (ns.map .int)] []=.ok (.v (.bl true)) b) :
  WalkO q loose XP (uA as obs val (tb.map (·.1)) hm).says l.row.toRowW d [] (fun f vs=>PySem.call f vs):=by
 refine Att.attach_call hn hdf fun w s₀ s₁ mg mb fa o pm cd doc a vs ns Gr Y ho hd hcd hmg hobj hints hlen hg=>?_
 obtain⟨K,KX,ob,kt,tbs⟩:=Y;obtain⟨hsys,hcs⟩:=hcs w K ob;exact Jo KX Gr.T.g Gr.T.b Gr.T.builtins Gr.T.nolimit hg hobj hints (ba hlen hn2) hr (fun x hx=>tbs _ (eV hx)) (fun x hx=>kt _ (eV hx)) (fun x hx=>let⟨c,hc⟩:=hcs x hx;yl KX hc) Gr.T.bmain hsys (G w K ob mg fa hmg) (hF ns)
theorem yQ{α:Type}{x:Str}{c:α}:∀{l:List (Str×α)},l.lookup x=some c->(x,c)∈l
 |(y,d)::l,h=>by
  rw[cF]at h;cases q:(x == y)with
  |true=>
   rw[q]at h;cases h;rw[show x=y by simpa using q];exact aC
  |false=>
   rw[q]at h;exact ay _ (yQ h)
noncomputable def nmF(l:iK)(k:Nat):Str:=match l[k]? with
 |some x=>x
 |none=>⟨Array.replicate (k+200) 0⟩
theorem YR{l:iK}{k:Nat}{x:Str}(h:l[k]?=some x):nmF l k=x:=by
 unfold nmF;rw[h]
theorem X4{l:iK}(nd:l.Nodup)(sz:∀x∈l,x.cps.size<200)(i j:Nat)(h:nmF l i=nmF l j):i=j:=by
 have big:∀{k:Nat}{x:Str},(⟨Array.replicate (k+200) 0⟩:Str)=x->x.cps.size=k+200:=fun{k x} e=>by rw[<- e];simp
 unfold nmF at h;cases hi:l[i]? with
 |some x=>
  cases hj:l[j]? with
  |some y=>
   rw[hi,hj]at h;have h:x=y:=h;rw[h,<- hj]at hi;exact(hV (ag.mp (hi.trans hj)).1 nd).mp hi
  |none=>
   rw[hi,hj]at h;have:=big (show _=x from h.symm);have:=sz x (aB hi);omega
 |none=>
  cases hj:l[j]? with
  |some y=>
   rw[hi,hj]at h;have:=big (show _=y from h);have:=sz y (aB hj);omega
  |none=>
   rw[hi,hj]at h;have h:(⟨Array.replicate (i+200) 0⟩:Str)=⟨Array.replicate (j+200) 0⟩:=h;have:=big h;have e:(⟨Array.replicate (j+200) (0:Nat)⟩:Str).cps.size=j+200:=by simp
   omega
theorem wayC{P:Addr->Prop}{L:iG}{d:Addr}(h1:∀i,2<=i->i<L.length->P (L.getD i d))(h2:P d)(C:Nat)(h:yg C=true):P (L.getD C d):=by
 unfold yg at h
 by_cases hl:C<L.length
 ·refine h1 C ?_ hl
  simp at h;omega
 ·rw[cG,List.getElem?_eq_none (by omega)]
  exact h2
noncomputable abbrev WdT:Type:=Option (List (Int×Option Str×Option Int))
noncomputable def wdE(e:DictEntry):Int×Option Str×Option Int:=(e.hash,(match e.key with|.str x _=>some x|_=>none),match e.val with|.int i _=>some i|_=>none)
noncomputable def wdG(K:Frag)(a:Addr):WdT:=match K.lookup a with
 |some ⟨.type "dict",none,.dict es _,sl⟩=>if sl.isEmpty then some (es.toList.map wdE)else none
 |_=>none
noncomputable def wdP(w:World)(p:Str×Int):Int×Option Str×Option Int:=(hashStr w p.1,some p.1,some p.2)
noncomputable def wdV(w:World)(l:List (Str×Int)):WdT:=some (l.map (wdP w))
noncomputable def wdX(e:DictEntry):KK×Value×Value:=(match e.key with|.str x _=>.inl (.inr x)|_=>.inl (.inl 0),e.key,e.val)
theorem Yl{P:Program}{w:World}{h:Heap}{e:DictEntry}{p:Str×Int}(q:wdE e=wdP w p):e=entA (qH P w) (wdX e)/\(wdX e).1=.inl (.inr p.1)/\(qH P w).is h (wdX e).1 (wdX e).2.1/\∃t,e.val=.int p.2 t:=by
 obtain⟨eh,ek,ev⟩:=e;obtain⟨x,i⟩:=p;unfold wdE wdP at q;simp only[ij]at q;obtain⟨q1,q2,q3⟩:=q;cases ek with
 |str y t=>
  have q2:some y=some x:=q2;cases q2;cases ev with
  |int j t'=>
   have q3:some j=some i:=q3;cases q3;subst q1;exact⟨rfl,rfl,ye _ t,t',rfl⟩
  |_=>cases q3
 |_=>cases q2
theorem VW{P:Program}{w:World}{h:Heap}:∀{es:List DictEntry}{l:List (Str×Int)},es.map wdE=l.map (wdP w)->es=(es.map wdX).map (entA (qH P w))/\(∀x∈es.map wdX,(qH P w).is h x.1 x.2.1)/\(es.map wdX).map (·.1)=l.map (fun p=>Sum.inl (Sum.inr p.1))/\∀x:Str,match l.lookup x with
  |some i=>∃k t,atA (es.map wdX) (.inl (.inr x))=some (k,.int i t)
  |none=>atA (es.map wdX) (.inl (.inr x))=none
 |[],[],_=>⟨rfl,fun x hx=>(nomatch hx),rfl,fun x=>rfl⟩
 |[],p::l,q=>by cases q
 |e::es,[],q=>by cases q
 |e::es,p::l,q=>by
  rw[av,av,ew]at q;obtain⟨a1,a2,a3,t,a4⟩:=Yl (P:=P) (h:=h) q.1;obtain⟨b1,b2,b3,b4⟩:=VW (P:=P) (h:=h) q.2;refine⟨?_,fun x hx=>?_,?_,fun x=>?_⟩
  ·rw[av,av,<- a1,<- b1]
  ·rw[av]at hx
   rcases aw.mp hx with rfl|hx
   ·exact a3
   ·exact b2 x hx
  ·rw[av,av,av,a2,b3]
  ·rw[cF]
   have hb:=b4 x
   by_cases hx:x=p.1
   ·rw[show(x == p.1)=true by simpa using hx]
    refine⟨(wdX e).2.1,t,?_⟩;unfold atA;rw[av,List.find?_cons_of_pos (by rw[a2,hx];simp)];show some ((wdX e).2.1,(wdX e).2.2)=_;rw[show(wdX e).2.2=e.val from rfl,a4]
   ·rw[show(x == p.1)=false by simpa using hx]
    have e2:atA ((e::es).map wdX) (.inl (.inr x))=atA (es.map wdX) (.inl (.inr x)):=by
     unfold atA;rw[av,List.find?_cons_of_neg (by rw[a2];simpa using fun z=>hx z.symm)]
    rw[e2];exact hb
theorem KO{P:Program}{w:World}{K:Frag}{mg:iF}{base:Heap}{g:Str}{a:Addr}{l:List (Str×Int)}(KB:K.In base)(hm:mg g=some (.ref a))(hs:(a == sysModules)=false)(h:wdG K a=wdV w l)(nd:(l.map (·.1)).Nodup):qa6 P w mg base g l:=by
 unfold wdG wdV at h
 split at h
 ·rename_i es ep sl hl
  split at h
  ·rename_i hz
   have h:=bM h;obtain⟨b1,b2,b3,b4⟩:=VW (P:=P) (h:=base) h;have hz:sl=#[]:=by simpa using hz
   refine⟨a,es.toList.map wdX,hm,hs,⟨_,es,ep,KB _ _ hl,⟨rfl,rfl,hz⟩,rfl,b1,b2,?_⟩,b4⟩;rw[b3];have e:l.map (fun p=>(Sum.inl (Sum.inr p.1):KK))=(l.map (·.1)).map (fun x=>Sum.inl (Sum.inr x)):=by rw[dE];rfl
   rw[e];exact List.Pairwise.map _ (fun a b hab z=>hab (fQ (i6 z))) nd
  ·cases h
 ·cases h
noncomputable def brkB(K:Frag)(C R f:Addr):Bool:=(match K.lookup C with
 |some ⟨.type "type",_,.cls cd,sl⟩=>(cd.mro == .ref C::.ref R::bmVE) && !cd.hasDel && cd.hasDict && (match sl.toList with|[_,_,_,_,some (.builtin n),_]=>n == "ValueError.__new__"|_=>false)
 |_=>false) && (findIn K (.ref C) "__init__" == some (some (.ref f))) && isFn K (.ref f) && keepIn K (.ref f) && (findIn K (.ref C) "__setattr__" == some (some (.builtin "object.__setattr__"))) && (findIn K (.ref C) "at" == some none) && (findIn K (.ref C) "word" == some none)
theorem Ku{K:Frag}{C R f:Addr}{h:Heap}(X:K.In h)(e:brkB K C R f=true):∃N nm q bs sn sub ab col dd k0 k1 k2 k3 k5,h.get? C=some (excClassObj nm q C N bs (.ref R::bmVE) true sn sub ab col dd k0 k1 k2 k3 k5 "ValueError.__new__"):=by
 unfold brkB at e;simp only[aq]at e;obtain⟨⟨⟨⟨⟨⟨e,_⟩,_⟩,_⟩,_⟩,_⟩,_⟩:=e
 split at e
 ·rename_i dd cd sl hl
  simp only[aq,cC,dB]at e;obtain⟨⟨⟨e1,e2⟩,e0⟩,e3⟩:=e;obtain⟨l⟩:=sl
  split at e3
  ·rename_i k0 k1 k2 k3 n k5 hs
   have hs:l=_:=hs;subst hs;have e3:n="ValueError.__new__":=by simpa using e3
   subst e3;obtain⟨nm,bs,mro,ns,q,hd,sn,sub,ab,col,del⟩:=cd;dsimp only at e1 e2 e0;subst e1 e2 e0;exact⟨ns,nm,q,bs,sn,sub,ab,col,dd,k0,k1,k2,k3,k5,X _ _ hl⟩
  ·cases e3
 ·cases e
theorem XH{K:Frag}{C R f:Addr}{h:Heap}(X:K.In h)(e:brkB K C R f=true):jc h C R:=by
 obtain⟨N,nm,q,bs,sn,sub,ab,col,dd,k0,k1,k2,k3,k5,h1⟩:=Ku X e;exact⟨.ref R::bmVE,N,nm,q,bs,true,sn,sub,ab,col,dd,k0,k1,k2,k3,k5,_,h1,by simp,by simp⟩
end E
namespace XS
open PySem PySem.W PySem.Spec PyProof PyProof.Rows L2
open Builtin Builtin.ObjectAttr
open E (bmVE)
section
variable{prog:Program}{w:World}{A:Around}{E:iE}{h:Heap}{g:Array GenState}{d:Drawn}{t:Nat}{os:OsState}
variable{nm q:Str}{C Nn x Wc:Addr}{bs:iH}{sn:iK}{sub:iH}{ab:Bool}{col:Option Bool}{dd:iI}{k0 k1 k2 k3 k5:Option Value}{newId:String}{mA:iF}{name:Str}{v:Value}{K:Frag}
theorem KN{M:Model}{o:Obj}{nameV:Value}{Q:Unit->Shared->Prop}
  (hC:h.get? C=some (excClassObj nm q C Nn bs (.ref Wc::bmVE) true sn sub ab col dd k0 k1 k2 k3 k5 newId))(hx:h.get? x=some o)(hc:o.cls=.ref C)(hq:Q () ⟨h,g,d,t,os⟩) :
  wpAny M A (checkBuiltinCall "object.__setattr__" ⟨[.ref x,nameV,v],[]⟩) Q E ⟨h,g,d,t,os⟩:=by
 have SF:=cP;have hcB:(Value.ref C::.ref Wc::bmVE).contains (.type "object")=true:=by simp
 have ha:=SF.args (.ref x) nameV v;simp only[checkBuiltinCall,SF.kind,SF.split];refine aa ?_
 ·unfold isInstance
  repeat (first|(with_reducible refine bL hx ?_;rw[hc])|(with_reducible refine dO hC ?_;rw[hcB])|wp_step)
  exact hq
theorem KM{tk:Tok}{Q:Fin->Shared->Prop}{ns:iK}(XK:K.In h)
  (hC:h.get? C=some (excClassObj nm q C Nn bs (.ref Wc::bmVE) true sn sub ab col dd k0 k1 k2 k3 k5 newId))(hna:findIn K (.ref C) name=some none)
  (hxC:x≠C)(I:h.Inst x C mA)
  (hq:∀h' tk',h'.Inst x C (fun y=>if y=name then some v else mA y)->
   (∀b o,b≠x->(∀o₀ dx,h.get? x=some o₀->o₀.dict=some dx->b≠dx)->h.get? b=some o->h'.get? b=some o)->
   (∀o₀,h.get? x=some o₀->∃o₁,h'.get? x=some o₁/\o₁.cls=o₀.cls/\o₁.data=o₀.data/\o₁.slots=o₀.slots/\∀dx,o₀.dict=some dx->o₁.dict=some dx)->(∀o₀,h.get? x=some o₀->o₀.dict=none->∃o₁,h'.get? x=some o₁/\o₁.dict=some h.objs.size)->Q (.done (.ret .none)) ⟨h',g,d,tk',os⟩)(hw:Within mA ns:=by within_ways)(hsz:ns.length<=sizeLine:=by size_fits) :
  wpAny (model prog w) A (Builtin.«object.__setattr__» ⟨[.ref x,.str name tk,v],[]⟩) Q E ⟨h,g,d,t,os⟩:=by
 obtain⟨o,hx,hc,hnc,hd⟩:=I;have hpass:=cP.passes (.ref x);unfold Builtin.«object.__setattr__»
 repeat (first|rw[refuse_eq]|(rw[refuseLoop_ref,refuseLoop_ref,hpass])|(with_reducible refine bL hx ?_;rw[hc])|with_reducible refine wpAny_mroOf_exc hC ?_|with_reducible refine(cT XK hna).here ?_|wp_step)
 rcases hd with⟨hdn,hmA⟩|⟨dx,hdx,hne,hns⟩
 ·
  rw[hdn,ax (by simp[typeHasDict])]
  split
  ·rename_i hcd
   cases hcd
  split
  ·rename_i c hcd
   exact absurd hcd (hnc c)
  ·have hx₁:(h.push { cls:=.type "dict",data:=.dict #[] }).get? x=some o:=af _ hx
   have hxs:x≠h.objs.size:=aH (aA hx);refine aa (wpAny_alloc' ?_);refine aa (wpAny_update' hx₁ ?_);refine ae ?_;have hgd:((h.push { cls:=.type "dict",data:=.dict #[] }).update x fun o=>{ cls:=o.cls,dict:=some h.objs.size,data:=o.data,slots:=o.slots }).get? h.objs.size
     = some { cls:=.type "dict",data:=.dict #[] }:=
    (Heap.get?_update_ne _ _ _ _ hxs.symm).trans (Heap.get?_push_at rfl rfl)
   have hnd:((h.push { cls:=.type "dict",data:=.dict #[] }).update x fun o=>{ cls:=o.cls,dict:=some h.objs.size,data:=o.data,slots:=o.slots }).Ns h.objs.size (fun _=>none):=
    ⟨_,#[],_,hgd,rfl,fun e he=>absurd he (by simp),fun _=>rfl⟩
   show wpAny _ _ (storeInDict h.objs.size (.str name tk) name v) _ _ _;unfold storeInDict newKeyGuard;refine aa (ae (aa (wpAny_nsSet1 (Heap.Ns1.of_empty hnd) fun h' hn' hs=>?_)));obtain⟨oD,esD,epD,hoD,hdD,hcD⟩:=hn'.count (Within.cons name v Within.nil);refine aa (ir hoD (by rw[hdD];exact iu (ba hcD (by rw[bO,gC,cu];omega))) ?_)
   wp_walk
   have hx':h'.get? x=some { cls:=o.cls,dict:=some h.objs.size,data:=o.data,slots:=o.slots }:=?_;refine hq h' _ ⟨{ cls:=o.cls,dict:=some h.objs.size,data:=o.data,slots:=o.slots },hx',hc,hnc,.inr ⟨h.objs.size,rfl,hxs.symm,?_⟩⟩ (fun b ob hbx _ hb=>?_)
    (fun o₀ h₀=>by obtain rfl:o=o₀:=bM (hx.symm.trans h₀);exact⟨_,hx',rfl,rfl,rfl,fun dx e=>by rw[hdn]at e;cases e⟩) (fun o₀ h₀ _=>⟨_,hx',rfl⟩)
   ·obtain⟨o',es,ep,e1,e2,e3,eu,e4⟩:=hn'
    exact⟨o',es,ep,e1,e2,e3,eu,fun y=>by rw[e4 y];by_cases hy:y=name <;> simp[hy,hmA]⟩
   ·exact(hs.2 b (aH (aA hb))).trans ((Heap.get?_update_ne _ _ _ _ hbx).trans (af _ hb))
   ·refine(hs.2 x hxs).trans (bc _ hx₁ ?_)
    have hfr:=(Heap.get?_some_iff.mp hx).2;obtain⟨oc,od,odt,osl⟩:=o;cases odt <;> first|rfl|exact hfr
 ·
  rw[hdx];refine ae ?_;show wpAny _ _ (storeInDict dx (.str name tk) name v) _ _ _;unfold storeInDict newKeyGuard;refine aa (ae (aa (wpAny_nsSet1 hns fun h' hn' hs=>?_)));obtain⟨oD,esD,epD,hoD,hdD,hcD⟩:=hn'.count (Within.cons name v hw);refine aa (ir hoD (by rw[hdD];exact iu (ba hcD (by rw[bO];omega))) ?_)
  wp_walk
  refine hq h' _ ⟨o,(hs.2 x hne.symm).trans hx,hc,hnc,.inr ⟨dx,hdx,hne,hn'⟩⟩ (fun b ob _ hbd hb=>?_)
   (fun o₀ h₀=>⟨o₀,(hs.2 x hne.symm).trans h₀,rfl,rfl,rfl,fun _ e=>e⟩) (fun o₀ h₀ e=>by rw[hx]at h₀;cases h₀;rw[hdx]at e;cases e)
  exact(hs.2 b (hbd o dx hx hdx)).trans hb
theorem XA{tk:Tok}{R:Result->Shared->Prop}{ns:iK}(XK:K.In h)
  (hC:h.get? C=some (excClassObj nm q C Nn bs (.ref Wc::bmVE) true sn sub ab col dd k0 k1 k2 k3 k5 newId))(hna:findIn K (.ref C) name=some none)
  (hxC:x≠C)(I:h.Inst x C mA)
  (hq:∀h' tk',h'.Inst x C (fun y=>if y=name then some v else mA y)->
   (∀b o,b≠x->(∀o₀ dx,h.get? x=some o₀->o₀.dict=some dx->b≠dx)->h.get? b=some o->h'.get? b=some o)->
   (∀o₀,h.get? x=some o₀->∃o₁,h'.get? x=some o₁/\o₁.cls=o₀.cls/\o₁.data=o₀.data/\o₁.slots=o₀.slots/\∀dx,o₀.dict=some dx->o₁.dict=some dx)->(∀o₀,h.get? x=some o₀->o₀.dict=none->∃o₁,h'.get? x=some o₁/\o₁.dict=some h.objs.size)->R (.ok (.ret .none)) ⟨h',g,d,tk',os⟩)(hw:Within mA ns:=by within_ways)(hsz:ns.length<=sizeLine:=by size_fits) :
  codeAny (model prog w) A (.call (.builtin "object.__setattr__") ⟨[.ref x,.str name tk,v],[]⟩) R ⟨h,g,d,t,os⟩:=by
 obtain⟨o,hx,hc,_⟩:=id I;exact codeAny_call_builtin cP.slot.plain cP.entry (KN hC hx hc (KM XK hC hna hxC I hq hw hsz))
theorem xs_attr{Q:Unit->Shared->Prop}{ns:iK}(XK:K.In h)
  (hC:h.get? C=some (excClassObj nm q C Nn bs (.ref Wc::bmVE) true sn sub ab col dd k0 k1 k2 k3 k5 newId))(hns:findIn K (.ref C) "__setattr__"=some (some (.builtin "object.__setattr__")))(hna:findIn K (.ref C) name=some none)
  (hxC:x≠C)(I:h.Inst x C mA)
  (hq:∀h' tk',h'.Inst x C (fun y=>if y=name then some v else mA y)->
   (∀b o,b≠x->(∀o₀ dx,h.get? x=some o₀->o₀.dict=some dx->b≠dx)->h.get? b=some o->h'.get? b=some o)->
   (∀o₀,h.get? x=some o₀->∃o₁,h'.get? x=some o₁/\o₁.cls=o₀.cls/\o₁.data=o₀.data/\o₁.slots=o₀.slots/\∀dx,o₀.dict=some dx->o₁.dict=some dx)->(∀o₀,h.get? x=some o₀->o₀.dict=none->∃o₁,h'.get? x=some o₁/\o₁.dict=some h.objs.size)->Q () ⟨h',g,d,tk',os⟩)(hw:Within mA ns:=by within_ways)(hsz:ns.length<=sizeLine:=by size_fits) :
  wpAny (model prog w) A (setAttr (.ref x) name v) Q E ⟨h,g,d,t,os⟩:=by
 obtain⟨o,hx,hc,_⟩:=id I;have f3:=cP.slot.bind (.ref x);unfold setAttr callSpecial? specialOf
 repeat (any_goals (first|assumption|(with_reducible refine bL hx ?_;rw[hc])|with_reducible refine(cT XK hns).here ?_|wp_step))
 refine XA XK hC hna hxC I (fun h' tk' I' hk hsame hfr=>?_) hw hsz
 repeat (any_goals (first|assumption|wp_step))
 exact hq h' tk' I' hk hsame hfr
end
section
variable{prog:Program}{w:World}{A:Around}{E:iE}{h:Heap}{g:Array GenState}{d:Drawn}{t:Nat}{os:OsState}
variable{nm q:Str}{C Nn Wc:Addr}{bs:iH}{hdct:Bool}{sn:iK}{sub:iH}{ab:Bool}{col:Option Bool}{dd:iI}{k0 k1 k2 k3 k5:Option Value}{K:Frag}
theorem wT(T:OwnTail h bmVE (.ref Wc::bmVE))(XK:K.In h){rest:iH}{fI:Addr}{oI:Obj}{Q:Fin->Shared->Prop}
  (hC:h.get? C=some (excClassObj nm q C Nn bs (.ref Wc::bmVE) hdct sn sub ab col dd k0 k1 k2 k3 k5 "ValueError.__new__"))(hi:findIn K (.ref C) "__init__"=some (some (.ref fI)))
  (hfI:h.get? fI=some oI)(hfc:oI.cls=.type "function")
  (hq:∀h' e,Heap.MadeExcOf h h' e (.ref C) rest->h.objs.size<=e->
   wpAny (model prog w) A (call (.ref fI) (.ref e::rest)) (fun r s'=>r=.none/\Q (.done (.ret (.ref e))) s') E ⟨h',g,d,t,os⟩)(hrest:rest.length<=sizeLine:=by size_fits) :
  wpAny (model prog w) A (Builtin.«type.__call__» ⟨.ref C::rest,[]⟩) Q E ⟨h,g,d,t,os⟩:=by
 repeat (first|with_reducible refine bL hC ?_|with_reducible refine wpAny_madeBy_exc hC ?_|wp_step)
 refine codeAny_call_builtin_code (Code.quiet_builtin _ cf.quiet) (wpAny_check_new_subU cf (by decide) T hC ?_);refine codeAny_exc_new_subU cf (by decide) cf T hC ?_ hrest;show wpAny _ _ _ _ _ _;have hC₁:=af { cls:=.ref C,data:=.fields #[.ref h.objs.size,.none,.none,.none,.bool false,.none] }
  (af { cls:=.type "tuple",data:=.seq rest.toArray } hC)
 have hfI₁:=af { cls:=.ref C,data:=.fields #[.ref h.objs.size,.none,.none,.none,.bool false,.none] }
  (af { cls:=.type "tuple",data:=.seq rest.toArray } hfI)
 have XK₁:K.In ((h.push { cls:=.type "tuple",data:=.seq rest.toArray }).push { cls:=.ref C,data:=.fields #[.ref h.objs.size,.none,.none,.none,.bool false,.none] }):=XK.keeps fun b o e=>af _ (af _ e)
 have hget:((h.push { cls:=.type "tuple",data:=.seq rest.toArray }).push
   { cls:=.ref C,data:=.fields #[.ref h.objs.size,.none,.none,.none,.bool false,.none] }).get? (h.objs.size+1)=some
   { cls:=.ref C,data:=.fields #[.ref h.objs.size,.none,.none,.none,.bool false,.none] }:=by heap_get
 have hcC:(Value.ref C::.ref Wc::bmVE).contains (.ref C)=true:=by simp
 unfold isInstance
 repeat (first|with_reducible refine bL hget ?_|(with_reducible refine dO hC₁ ?_;rw[hcC])|wp_step)
 show wpAny _ _ (typeLookup (.ref C) _) _ _ _;refine(cT XK₁ hi).here ?_;refine aK (aa ?_);unfold bindSpecial;refine aa (gf (T:="function") ⟨_,hfI₁,hfc⟩ ?_);rw[aE (by decide)];refine ae (aa (aY (hq _ (h.objs.size+1) ⟨fun b o hb=>af _ (af _ hb),bw (fX _),h.objs.size,hget,bw (aI _),?_⟩ (fX _)) (fun r s' hr=>?_) fun _ _ x=>x))
 ·exact af _ (Heap.get?_push_at rfl rfl)
 ·obtain⟨rfl,hQ⟩:=hr
  wp_walk
  exact hQ
theorem xs_class(T:OwnTail h bmVE (.ref Wc::bmVE))(XK:K.In h){rest:iH}{fI:Addr}{oI:Obj}{Q:iE}
  (hC:h.get? C=some (excClassObj nm q C Nn bs (.ref Wc::bmVE) hdct sn sub ab col dd k0 k1 k2 k3 k5 "ValueError.__new__"))(hi:findIn K (.ref C) "__init__"=some (some (.ref fI)))
  (hfI:h.get? fI=some oI)(hfc:oI.cls=.type "function")
  (hq:∀h' e,Heap.MadeExcOf h h' e (.ref C) rest->h.objs.size<=e->
   wpAny (model prog w) (A.under (.builtin "type.__call__" ⟨.ref C::rest,[]⟩)) (call (.ref fI) (.ref e::rest)) (fun r s'=>r=.none/\Q (.ref e) s') E ⟨h',g,d,t,os⟩)(hrest:rest.length<=sizeLine:=by size_fits) :
  wpAny (model prog w) A (call (.ref C) rest) Q E ⟨h,g,d,t,os⟩:=by
 have f1:=tc_lookup;have f2:=tc_bind (.ref C);have hT:(⟨h,g,d,t,os⟩:Shared).TypeIs (.ref C) "type":=⟨_,hC,rfl⟩;refine gy (codeAny_of_tree ?_);show wpAny _ _ (callAny (.ref C) _) _ _ _
 repeat (any_goals (first|assumption|with_reducible refine bL hC ?_|wp_step))
 refine⟨rfl,?_⟩;refine codeAny_call_builtin_at (Code.quiet_builtin _ (by decide +kernel)) entry_typeCall (wpAny_check_type_call_sub hC (wT (hrest:=hrest) T XK hC hi hfI hfc fun h' e hm hle=>?_));exact hq h' e hm hle
end
section
variable{M:Model}{A:Around}{E:iE}{env:Env}
variable{nm q:Str}{C Nn:Addr}{bs bm:iH}{hdct:Bool}{sn:iK}{sub:iH}{ab:Bool}{col:Option Bool}{dd:iI}{k0 k1 k2 k3 k5:Option Value}{newId:String}
theorem jn{s:Shared}{x:Sem Value}{Q:Flow->Shared->Prop}(hbase:bm.contains (.type "BaseException")=true)(hh:A.handled=none)
  (h:wpAny M A x (fun v s₁=>∃(e t:Addr)(dct:iI),v=.ref e/\s₁.heap.get? C=some (excClassObj nm q C Nn bs bm hdct sn sub ab col dd k0 k1 k2 k3 k5 newId)/\
   s₁.heap.get? e=some { cls:=.ref C,dict:=dct,data:=.fields #[.ref t,.none,.none,.none,.bool false,.none] }/\E (.ref e) s₁) E s) :
  wpAny M A (raiseStmt env (some x) none) Q E s:=by
 have hcB:(Value.ref C::bm).contains (.type "BaseException")=true:=by rw[List.contains_cons,hbase,Bool.or_true]
 unfold raiseStmt;refine aa (aY h (fun v s₁ h₁=>?_) fun _ _ x=>x);obtain⟨e,t,dct,rfl,hC,he,hE⟩:=h₁;obtain⟨hp,g,d,tk,os⟩:=s₁
 repeat (first|with_reducible refine bL he ?_|with_reducible refine bL hC ?_|(with_reducible refine dO hC ?_;rw[hcB])|wp_step)
 exact wpAny_raiseNew_none hh hE
end
section
variable{prog:Program}{w:World}{A:Around}{E:iE}{s:Shared}{env:Env}
variable{nm q:Str}{C Nn:Addr}{bs bm:iH}{hdct:Bool}{sn:iK}{sub:iH}{ab:Bool}{col:Option Bool}{dd:iI}{k0 k1 k2 k3 k5:Option Value}{newId:String}
theorem xs_Raise{x:Str}{np cpos pos:Pos}{args:iL}{Q:Flow->Shared->Prop}
  (hbase:bm.contains (.type "BaseException")=true)(hh:A.handled=none)(hplain:(backTo cpos (starEach args env)).any (·.1)=false)
  (h:wpAny (model prog w) A (eval (.Name x np) env) (fun f s₁=>f=.ref C/\wpAny (model prog w) A (evalArgs (.ref C) true (backTo cpos (starEach args env)) [])
   (fun a s₂=>a.kw=[]/\a.pos.length<=sizeLine/\s₂.heap.get? C=some (excClassObj nm q C Nn bs bm hdct sn sub ab col dd k0 k1 k2 k3 k5 newId)/\wpAny (model prog w) A (call (.ref C) a.pos) (fun v s₃=>∃(e t:Addr)(dct:iI),v=.ref e/\s₃.heap.get? C=some (excClassObj nm q C Nn bs bm hdct sn sub ab col dd k0 k1 k2 k3 k5 newId)/\s₃.heap.get? e=some { cls:=.ref C,dict:=dct,data:=.fields #[.ref t,.none,.none,.none,.bool false,.none] }/\E (.ref e) s₃) E s₂) E s₁) E s) :
  wpAny (model prog w) A (exec (.Raise (some (.Call (.Name x np) args [] cpos)) none pos) env) Q E s:=by
 rw[arm_exec_Raise]
 first
  |refine aa (cm (jn (C:=C) (nm:=nm) (q:=q) (Nn:=Nn) (bs:=bs) (bm:=bm) (hdct:=hdct) (sn:=sn) (sub:=sub) (ab:=ab) (col:=col) (dd:=dd) (k0:=k0) (k1:=k1) (k2:=k2) (k3:=k3) (k5:=k5) (newId:=newId) hbase hh (aa (aY (hY (aY h (fun f s₁ h₁=>?_) fun _ _ x=>x)) (fun v s₃ h₃=>aa (cm (ae h₃))) fun _ _ x=>x))))
  |(simp only[evalOpt,Option.map];refine aa (cm (jn (C:=C) (nm:=nm) (q:=q) (Nn:=Nn) (bs:=bs) (bm:=bm) (hdct:=hdct) (sn:=sn) (sub:=sub) (ab:=ab) (col:=col) (dd:=dd) (k0:=k0) (k1:=k1) (k2:=k2) (k3:=k3) (k5:=k5) (newId:=newId) hbase hh (aa (aY (hY (aY h (fun f s₁ h₁=>?_) fun _ _ x=>x)) (fun v s₃ h₃=>aa (cm (ae h₃))) fun _ _ x=>x)))))
  |(refine aa (cm (jn (C:=C) (nm:=nm) (q:=q) (Nn:=Nn) (bs:=bs) (bm:=bm) (hdct:=hdct) (sn:=sn) (sub:=sub) (ab:=ab) (col:=col) (dd:=dd) (k0:=k0) (k1:=k1) (k2:=k2) (k3:=k3) (k5:=k5) (newId:=newId) hbase hh ?_));refine aa (aY (hY (aY h (fun f s₁ h₁=>?_) fun _ _ x=>x)) (fun v s₃ h₃=>aa (cm (ae h₃))) fun _ _ x=>x))
 obtain⟨rfl,h₁⟩:=h₁;unfold callWith;refine aa (aK (aY h₁ (fun a s₂ h₂=>aa (cm ?_)) fun _ _ x=>x));obtain⟨apos,akw⟩:=a;obtain⟨hkw,hlen,hC,h₂⟩:=h₂;obtain rfl:akw=[]:=hkw;obtain⟨hp,g,d,tk,os⟩:=s₂;simp only[hplain];refine aa (wpAny_keeperOf_exc hC ?_);refine aa (aY h₂ (fun v s₃ h₃=>aa (aK (wpAny_point (ae h₃)))) fun _ _ z=>z)
end
end XS
namespace E
open PySem PySem.W PySem.Spec PyProof PyProof.Rows L2
theorem lnS{α:Type}{us:List α}{n:Nat}(h:us.length=n+1):∃a t,us=a::t/\t.length=n:=by
 cases us with
 |nil=>cases h
 |cons a t=>exact⟨a,t,rfl,by simpa using h⟩
theorem ln2{α:Type}{us:List α}(h:us.length=2):∃a b,us=[a,b]:=by
 obtain⟨a,t,rfl,h'⟩:=lnS h;obtain⟨b,r,rfl,h''⟩:=lnS h';cases r with
 |nil=>exact⟨a,b,rfl⟩
 |cons _ _=>cases h''
noncomputable def exD(C t:Addr)(dct:iI):Obj:={ cls:=.ref C,dict:=dct,data:=.fields #[.ref t,.none,.none,.none,.bool false,.none] }
theorem Xq{K:Frag}{C R f:Addr}(h:brkB K C R f=true):findIn K (.ref C) "__init__"=some (some (.ref f))/\isFn K (.ref f)=true/\keepIn K (.ref f)=true/\findIn K (.ref C) "__setattr__"=some (some (.builtin "object.__setattr__"))/\findIn K (.ref C) "at"=some none/\findIn K (.ref C) "word"=some none:=by
 unfold brkB at h;simp only[aq,cC]at h;obtain⟨⟨⟨⟨⟨⟨_,h1⟩,h2⟩,h3⟩,h4⟩,h5⟩,h6⟩:=h;exact⟨h1,h2,h3,h4,h5,h6⟩
noncomputable def nsI:iK:=["self","at","word"]
theorem VE{K:Frag}{C R f:Addr}{P:Program}{w:World}{A:Around}{k:Nat}{s:Shared}{e t:Addr}{u1 u2:Value}{name qual params body scope dV kV doc pm cdv ct oc}{an od:iI}{osl}{p1 p2 p3 p4 q1 q2 q3 q4:Pos}{Q:Result->Shared->Prop}
  (lk:K.lookup f=some ⟨oc,od,.func (fnOf name qual params body scope dV kV doc pm an cdv ct),osl⟩)(hcd:codeIn K cdv qual=true)(S:FnScope nsI nsI scope)(loc:∀x∈nsI,scope.names.lookup x=some .local)
  (hb:body=[.Assign [.Attribute (.Name "self" p1) "at" p2] (.Name "at" p3) p4,.Assign [.Attribute (.Name "self" q1) "word" q2] (.Name "word" q3) q4])
  (hbd:Bnd (fnOf name qual params body scope dV kV doc pm an cdv ct) nsI)(hr:Room (k+1) A)(KX:K.In s.heap)(lim:s.heap.NoLimit)(hk:brkB K C R f=true)(he:s.heap.get? e=some (exD C t none))(heK:K.lookup e=none)
  (q:∀h' tk dct,(∀b o,b≠e->s.heap.get? b=some o->h'.get? b=some o)->h'.get? e=some (exD C t dct)->Q (.ok (.ret .none)) { s with heap:=h',toks:=tk }) :
  codeAny (model P w) A (.call (.ref f) ⟨[.ref e,u1,u2],[]⟩) Q s:=by
 obtain⟨_,_,_,hsa,hat,hwd⟩:=Xq hk;have hkind:∀y∈nsI.zip [.ref e,u1,u2],scope.names.lookup y.1=some .local\/(scope.names.lookup y.1=some .cell/\((cellsFrom (s.heap.objs.size+1) scope.names []).lookup y.1).isSome=true):=fun⟨n,v⟩ hy=>.inl (loc n (fy hy).1)
 refine gm hr.depth (KX _ _ lk) rfl S.co S.gen rfl (codeRec_of KX hcd) (BindsTo.of_eq (hbd [.ref e,u1,u2] rfl) _ _ _ _ ?_);refine eH S.kind hkind fun env hv s1 x=>?_
 subst hv;refine⟨lim.keeps x.toInCall.keep,codeAny_func ?_⟩;obtain⟨h1,tk,rfl,hkp⟩:=x.done;have hn:=x.toInCall.ns;have ndI:nsI.Nodup:=S.nd;have g:∀(i:Nat)(y:Str)(u:Value),nsI[i]?=some y->([.ref e,u1,u2]:iH)[i]?=some u->bindL (envOfC qual scope s.heap.objs.size f cdv).kindOf (nsI.zip [.ref e,u1,u2]) (fun _=>none) y=some u:=fun i y u a b=>xm ndI a b (loc y (aB a))
 have he1:h1.get? e=some (exD C t none):=hkp _ _ he;have KX1:K.In h1:=KX.keeps hkp;obtain⟨Nn,nm,qq,bs,sn,sub,ab,col,dd,k0,k1,k2,k3,k5,hC⟩:=Ku KX1 hk;have hne:e≠C:=fun z=>by
  rw[z,hC]at he1;cases he1
 have heL:s.heap.objs.size≠e:=cU (aA he);show wpAny _ _ (execs body _) _ _ _;rw[hb];have ldv:∀{h':Heap}{g' d' t' os'}{i:Nat}{y:Str}{u:Value}{pos:Pos}{E':iE}{Q':iE},h'.Ns s.heap.objs.size (bindL (envOfC qual scope s.heap.objs.size f cdv).kindOf (nsI.zip [.ref e,u1,u2]) fun _=>none)->nsI[i]?=some y->([.ref e,u1,u2]:iH)[i]?=some u->(y == ("__debug__":Str))=false->Q' u ⟨h',g',d',t',os'⟩->wpAny (model P w) (A.deeper (envOfC qual scope s.heap.objs.size f cdv)) (eval (.Name y pos) (envOfC qual scope s.heap.objs.size f cdv)) Q' E' ⟨h',g',d',t',os'⟩:=fun hn a b hd hq=>wpAny_Name (wpAny_loadName_local S.kind (loc _ (aB a)) hn (g _ _ _ a b) hq) hd
 refine iw (d7 (ldv (i:=1) hn rfl rfl (by decide) (ldv (i:=0) hn rfl rfl (by decide) ?_)) vT);refine XS.xs_attr (Wc:=R) (mA:=fun _=>none) (ns:=[]) KX1 hC hsa hat hne ⟨exD C t none,he1,rfl,(fun c z=>nomatch z),Or.inl ⟨rfl,fun _=>rfl⟩⟩ (fun h' tk' I' hk' hsame hfr=>?_) Within.nil (bz _);have e1:h'.get? e=some (exD C t (some h1.objs.size)):=by
  obtain⟨o1,ho1,hc1,hd1,hs1,_⟩:=hsame _ he1;obtain⟨o2,ho2,hdx⟩:=hfr _ he1 rfl;rw[ho1]at ho2;cases ho2;obtain⟨oc1,od1,oa1,os2⟩:=o1;dsimp only[exD]at hc1 hd1 hs1 hdx;subst hc1 hd1 hs1 hdx;exact ho1
 have kp1:∀b o,b≠e->h1.get? b=some o->h'.get? b=some o:=fun b o hb q=>hk' b o hb (fun o₀ dx z1 z2=>by rw[he1]at z1;cases z1;cases z2) q
 have hn':h'.Ns s.heap.objs.size (bindL (envOfC qual scope s.heap.objs.size f cdv).kindOf (nsI.zip [.ref e,u1,u2]) fun _=>none):=let⟨o,es,ep,ho,r⟩:=hn;⟨o,es,ep,kp1 _ _ heL ho,r⟩;have hCe:C≠e:=fun z=>hne z.symm
 have KX2:K.In h':=fun b o z=>by
  by_cases hb:b=e
  ·rw[hb,heK]at z;cases z
  ·exact kp1 b o hb (KX1 b o z)
 refine iw (d7 (ldv (i:=2) hn' rfl rfl (by decide) (ldv (i:=0) hn' rfl rfl (by decide) ?_)) vT);refine XS.xs_attr (Wc:=R) (ns:=["at"]) KX2 (kp1 _ _ hCe hC) hsa hwd hne I' (fun h'' tk'' I'' hk'' hsame' _=>?_) (Within.cons "at" u1 Within.nil) (by decide);have e2:h''.get? e=some (exD C t (some h1.objs.size)):=by
  obtain⟨o1,ho1,hc1,hd1,hs1,hd9⟩:=hsame' _ e1;have hdd:o1.dict=some h1.objs.size:=hd9 h1.objs.size rfl;clear hd9;obtain⟨oc1,od1,oa1,os2⟩:=o1;dsimp only[exD]at hc1 hd1 hs1 hdd;subst hc1 hd1 hs1 hdd;exact ho1
 refine gB ?_;refine q h'' tk'' _ (fun b o hb z=>hk'' b o hb (fun o₀ dx z1 z2=>?_) (kp1 b o hb (hkp b o z))) e2;rw[e1]at z1;cases z1;cases z2;exact aH (aA (hkp b o z))
theorem qb1{W:Wd}{x:Str}{C:Nat}{R f:Addr}{name qual params body scope dV kV doc pm cdv ct oc}{an od:iI}{osl}{p1 p2 p3 p4 q1 q2 q3 q4:Pos}(hdk:∀d,DkOk d)(KB:W.K.In W.base)(hm:W.mg x=some (.ref (W.cl C)))(e:brkB W.K (W.cl C) R f=true)(eR:excB W.K R bmVE=true)
  (lk:W.K.lookup f=some ⟨oc,od,.func (fnOf name qual params body scope dV kV doc pm an cdv ct),osl⟩)(hcd:codeIn W.K cdv qual=true)(S:FnScope nsI nsI scope)(loc:∀x∈nsI,scope.names.lookup x=some .local)
  (hb:body=[.Assign [.Attribute (.Name "self" p1) "at" p2] (.Name "at" p3) p4,.Assign [.Attribute (.Name "self" q1) "word" q2] (.Name "word" q3) q4])
  (hbd:Bnd (fnOf name qual params body scope dV kV doc pm an cdv ct) nsI):RbOk W x C:=by
 intro X np cp pos es fa hW hg hd hc hx hr ha hs hl hfa;subst hW;obtain⟨Nn,nm,qn,bs,sn,sub,ab,col,dd,k0,k1,k2,k3,k5,hC⟩:=Ku KB e;obtain⟨N',nm',q',bs',hdct',sn',sub',ab',col',dd',k0',k1',k2',k3',k5',g1,g2,g3⟩:=xT KB eR;have T:OwnTail X.W.base bmVE (.ref R::bmVE):=.own g1 g2 g3 .base;obtain⟨hi,hfn,hkp,_,_,_⟩:=Xq e;have hfc:oc=.type "function":=by
  have:typeIn X.W.K (.ref f)=some (.type "function"):=cC.mp hfn;have:(X.W.K.lookup f).map (·.cls)=some (.type "function"):=this;rw[lk]at this;exact bM this
 refine⟨fun p sc b c s Q Z I q=>?_⟩;obtain⟨a1,es1,rfl,hl1⟩:=lnS hl;have hs':(notStar a1 && qV es1)=true:=hs;rw[aq]at hs';have he:starEach (a1::es1) X.env=(false,eval a1 X.env)::starEach es1 X.env:=by cases a1 <;> first|rfl|cases hs'.1
 refine XS.xs_Raise (C:=X.W.cl C) (nm:=nm) (q:=qn) (Nn:=Nn) (bs:=bs) (bm:=.ref R::bmVE) (hdct:=true) (sn:=sn) (sub:=sub) (ab:=ab) (col:=col) (dd:=dd) (k0:=k0) (k1:=k1) (k2:=k2) (k3:=k3) (k5:=k5) (newId:="ValueError.__new__") (by simp) (I.ok.hd hc) (plain_any hs) (wp I hg hm ⟨rfl,?_⟩ hd);have hA:wpAny X.M X.A (spliced (backTo cp (starEach (a1::es1) X.env))) (fun us s1=>∃ds c1 b1,Inv X p sc b1 c1 s1/\Reps X.W c1 ds us/\ds.length=2/\∀(a:Addr)(s':Shared)(c':Co),Inv X p sc b1 c' s'->Le c1 c'->Fly X p c' s' a C->Z (.ref a) s') Z s:=by
  refine(ha cp).h p sc b c s _ Z I ?_;have q:PoS X p Z c (eO (fa sc b) sc fun _ b=>.ex C sc b) Q:=q;cases hq:fa sc b with
  |bad=>rw[hq]at q;exact q
  |exc x b=>rw[hq]at q;exact q
  |ok ds b1=>
   rw[hq]at q;exact fun us s1 c1 I1 l1 r1=>⟨ds,c1,b1,I1,r1,hfa _ _ _ _ hq,fun a s' c' I' l'=>q a s' c' I' (l1.trans l')⟩
 rw[he]at hA ⊢;refine cD (aY hA (fun us s1 h=>?_) fun _ _ z=>z);obtain⟨ds,c1,b1,I1,r1,hl2,q1⟩:=h;have hus:us.length=2:=by rw[r1.len,hl2]
 obtain⟨u1,u2,rfl⟩:=ln2 hus;refine⟨rfl,(by show 2<=sizeLine;decide),I1.bk _ _ hC,?_⟩;obtain⟨hp,gg,dr,tk,os⟩:=s1;refine XS.xs_class (Wc:=R) (K:=X.W.K) (T.keeps I1.bk) I1.kIn (I1.bk _ _ hC) hi (I1.kIn _ _ lk) hfc (fun h' a hm' hle=>?_) (show 2<=sizeLine by decide);obtain⟨t,ht,_,_⟩:=hm'.there;have F:=I1.fp hm'.new;have I2:Inv X p sc b1 c1 ⟨h',gg,dr,tk,os⟩:=I1.kept hm'.keeps;have hKa:X.W.K.lookup a=none:=by
  cases z:X.W.K.lookup a with
  |none=>rfl
  |some o=>
   have:=I1.kIn _ _ z;rw[hm'.new]at this;cases this
 refine gy (VE (k:=0) lk hcd S loc hb hbd ((hr.mono (by decide:2<=3)).make (X.W.cl C) [u1,u2] []) I2.kIn (I2.ok.mo.lim.keeps I2.bk) e ht hKa fun h2 tk2 dct k2 e2=>⟨rfl,?_⟩);have I3:Inv X p sc b1 c1 { (⟨h',gg,dr,tk,os⟩:Shared)with heap:=h2,toks:=tk2 }:=I2.turn (ch:=[a]) (fun z hz=>by rw[aD.mp hz];exact F) fun z o hz q=>k2 z o (fun y=>hz (by rw[y];exact aD.mpr rfl)) q
 exact⟨a,t,dct,rfl,I3.bk _ _ hC,e2,q1 a _ c1 I3 .refl (.inr ⟨F,_,_,e2,rfl,rfl,⟨rfl,hdk _⟩,rfl⟩)⟩
noncomputable def argsAt:Stmt->Arguments
 |.FunctionDef _ a _ _ _ _ _ _ _ _=>a
 |_=>⟨[],[],none,[],[],none,[]⟩
noncomputable def xk:Stmt->List Stmt
 |.FunctionDef _ _ b _ _ _ _ _ _ _=>b
 |_=>[]
noncomputable def zR:Stmt->Scope
 |.FunctionDef _ _ _ _ _ _ sc _ _ _=>sc
 |_=>{ kind:=.function,names:=[],isGenerator:=false,isCoroutine:=false }
structure Row where
 i:Nat
 j:Option Nat
 q:Str
 f:Addr
 c:Addr
noncomputable def Row.st(p:Program)(r:Row):Stmt:=match r.j with
 |none=>XF p r.i
 |some j=>clsAt (XF p r.i) j
noncomputable def rowG(g:Addr->Option Obj)(r:Row):Option (FuncData×Bool):=match g r.f with
 |some ⟨_,_,.func fd,_⟩=>some (Xu fd,qdw g fd.code r.q)
 |_=>none
noncomputable def rowX(p:Program)(r:Row):Option (FuncData×Bool):=some (fnOf (defName (r.st p)) r.q (argsAt (r.st p)) (xk (r.st p)) (zR (r.st p)) .none .none .none .none none (.ref r.c) .none,true)
theorem V3{K:Frag}{p:Program}{r:Row}(h:rowG (lkF K) r=rowX p r):∃oc od kV doc pm an ct osl,K.lookup r.f=some ⟨oc,od,.func (fnOf (defName (r.st p)) r.q (argsAt (r.st p)) (xk (r.st p)) (zR (r.st p)) .none kV doc pm an (.ref r.c) ct),osl⟩/\codeIn K (.ref r.c) r.q=true/\keepIn K (.ref r.f)=true:=by
 unfold rowG rowX at h
 split at h
 ·rename_i oc od fd sl hl
  obtain⟨h2,h3⟩:_/\_:=by simpa only[dt,ij] using h
  obtain⟨n,q',ps,b,sc,gl,cl,df,kV,dc,pm,an,cd,ct,bi⟩:=fd;simp only[Xu,fnOf,FuncData.mk.injEq]at h2;obtain⟨rfl,rfl,rfl,rfl,rfl,rfl,rfl,rfl,_,_,_,_,rfl,_,rfl⟩:=h2;have hl':K.lookup r.f=_:=hl;exact⟨oc,od,kV,dc,pm,an,ct,sl,hl',h3,by simp only[keepIn,hl']⟩
 ·cases h
inductive Fct where
 |cls (C:Addr)|na (C:Addr) (x:Str)|me (C:Addr) (m:Str) (f:Addr)|mk (C f:Addr)|root (C:Addr)|sub (C R:Addr)|brk (C R f:Addr)|sys|kds (l:iG)
deriving DecidableEq
noncomputable def sysB(K:Frag):Bool:=match K.lookup sysModules with
 |some ⟨_,_,.dict _ _,_⟩=>true
 |_=>false
noncomputable def exkB(K:Frag)(D:Addr):Bool:=(findIn K (.ref D) "__getattribute__" == some (some (.builtin "BaseException.__getattribute__"))) && (findIn K (.ref D) "__getattr__" == some none) && (clsIn K D).isSome && (findIn K (.ref D) "__class__" == some (some (.builtin "object.__class__"))) &&
 (specialIn K (.builtin "object.__class__") "__get__" == some (some (.builtin "getset_descriptor.__get__"))) && (takesIn K (.builtin "object.__class__") == some true) && (mroIn K D (.type "object") == some true) && (mroIn K D (.type "BaseException") == some true)
theorem uN{K:Frag}{D:Addr}(h:exkB K D=true):UH.ExcK K D:=by
 unfold exkB at h;simp only[aq,cC]at h;obtain⟨⟨⟨⟨⟨⟨⟨h1,h2⟩,h3⟩,h4⟩,h5⟩,h6⟩,h7⟩,h8⟩:=h;exact⟨h1,h2,h3,h4,h5,h6,h7,h8⟩
noncomputable def kdsB(K:Frag)(cs:iG):Bool:=cs.all (exkB K) && (cs.zipIdx.all fun p=>cs.zipIdx.all fun q=>kitOne K (.ref p.1) (.ref q.1) == some (decide (p.2=q.2)))
noncomputable def fctB(K:Frag):Fct->Bool
 |.cls C=>clsB K C
 |.na C x=>naB K C x
 |.me C m f=>meB K C m f
 |.mk C f=>mkB K C f
 |.root C=>excB K C bmVE
 |.sub C R=>excB K C (.ref R::bmVE)
 |.brk C R f=>brkB K C R f
 |.sys=>sysB K
 |.kds l=>kdsB K l
inductive Nv where
 |no|int (i:Int) (t:Tok)|str (x:Str) (t:Tok)|ref (a:Addr)
deriving DecidableEq
noncomputable def Nv.v:Nv->Option (Option Value)
 |.no=>some none
 |.int i t=>some (some (.int i t))
 |.str x t=>some (some (.str x t))
 |.ref a=>some (some (.ref a))
structure Lw where
 p:Program
 rows:List Row
 cds:List (Addr×Addr)
 fs:List Fct
 nv:List (Str×Nv)
 dw:List (Addr×List (Str×Int))
 clA:iG
 R:Addr
 tb:List (Addr×Pos×Str)
 G:Gs
noncomputable abbrev ObT:Type:=List (Option (FuncData×Bool))×List Bool×List Bool×List (Option (Option Value))×List WdT
noncomputable def Lw.obs(L:Lw)(K:Frag):ObT:=(L.rows.map (rowG (lkF K)),L.cds.map (fun x=>y9 (lkF K) x.1 x.2),L.fs.map (fctB K),L.nv.map (fun x=>nsG (lkF K) mainGlobals x.1),L.dw.map fun x=>wdG K x.1)
noncomputable def Lw.val(L:Lw)(w:World):ObT:=(L.rows.map (rowX L.p),L.cds.map (fun _=>true),L.fs.map (fun _=>true),L.nv.map (fun x=>x.2.v),L.dw.map fun x=>wdV w x.2)
noncomputable def Lw.cl(L:Lw)(i:Nat):Addr:=L.clA.getD i L.R
noncomputable def psOf(st:Stmt):iK:=(xK (argsAt st)).getD []
noncomputable def nsOf(st:Stmt):iK:=psOf st++((zR st).names.filter fun p=>(decide (p.2=.local) || decide (p.2=.cell)) && !(psOf st).contains p.1).map (·.1)
structure Df where
 r:Nat
 n:Nat
 form:ISs
 T:List FnE
 ix:List Nat
 lam:Option Nat
 bad:Bool
 e:FnE
 hF:e.F=bif bad then fun _ _=>.bad else bif e.kd == 4 then Kw n (evSs T form)else qs n (evSs T form)
noncomputable def scB(N ps:iK)(sc:Scope):Bool:=decide (sc.kind=.function) && !sc.isCoroutine && !sc.isGenerator && decide N.Nodup && decide (N.take ps.length=ps) && ps.all (fun x=>decide (sc.names.lookup x=some .local) || decide (sc.names.lookup x=some .cell)) && sc.names.all fun y=>decide (y.2≠.free)
theorem K5{N ps:iK}{sc:Scope}(h:scB N ps sc=true):FnScope N ps sc:=by
 unfold scB at h;simp only[aq,aF,dB,aP,bX]at h;obtain⟨⟨⟨⟨⟨⟨h1,h2⟩,h3⟩,h4⟩,h5⟩,h6⟩,h7⟩:=h;exact⟨h1,h2,h3,h4,h5,h6,h7⟩
noncomputable def Lw.exB(L:Lw)(a:Addr):Bool:=decide (a=L.R) || L.fs.contains (.sub a L.R)
noncomputable def iniS(x:Str)(st:Stmt):Bool:=asg1 st fun t e=>xQ t fun o m _=>isName o fun a=>isName e fun c=>decide (a="self") && decide (m=x) && decide (c=x)
theorem JB{x:Str}{st:Stmt}{P:Stmt->Prop}(h:iniS x st=true)(H:∀p q r t,P (.Assign [.Attribute (.Name "self" p) x q] (.Name x r) t)):P st:=k9 h fun t e p h=>ju (P:=fun t=>P (.Assign [t] e p)) h fun o m q h=>qB (P:=fun o=>P (.Assign [.Attribute o m q] e p)) h fun a r h=>qB (P:=fun e=>P (.Assign [.Attribute (.Name a r) m q] e p)) h fun c t h=>by
 cases de (an (an h).1).1;cases de (an (an h).1).2;cases de (an h).2;exact H _ _ _ _
noncomputable def uk(st:Stmt):Bool:=(isC (xk st) fun s r=>iniS "at" s && is1 r (iniS "word")) && scB nsI nsI (zR st) && nsI.all (fun x=>decide ((zR st).names.lookup x=some .local)) && decide (xK (argsAt st)=some nsI)
theorem VF{l:List Stmt}(h:(isC l fun s r=>iniS "at" s && is1 r (iniS "word"))=true):∃p1 p2 p3 p4 q1 q2 q3 q4,l=[.Assign [.Attribute (.Name "self" p1) "at" p2] (.Name "at" p3) p4,.Assign [.Attribute (.Name "self" q1) "word" q2] (.Name "word" q3) q4]:=by
 refine jt h fun s r h=>?_
 refine JB (P:=fun s=>∃p1 p2 p3 p4 q1 q2 q3 q4,s::r=[.Assign [.Attribute (.Name "self" p1) "at" p2] (.Name "at" p3) p4,.Assign [.Attribute (.Name "self" q1) "word" q2] (.Name "word" q3) q4]) (an h).1 fun _ _ _ _=>?_
 refine zO (an h).2 fun s h=>?_
 exact JB (P:=fun s=>∃p1 p2 p3 p4 q1 q2 q3 q4,[_,s]=[.Assign [.Attribute (.Name "self" p1) "at" p2] (.Name "at" p3) p4,.Assign [.Attribute (.Name "self" q1) "word" q2] (.Name "word" q3) q4]) h fun _ _ _ _=>⟨_,_,_,_,_,_,_,_,rfl⟩
noncomputable def Lw.gokB(L:Lw):Bool:=
 (L.G.cs.all fun p=>L.nv.any fun q=>decide (p.1=q.1) && match p.2,q.2 with
  |.int i,.int j _=>decide (i=j)
  |.str x,.str y _=>decide (x=y)
  |_,_=>false) &&
 (L.G.bn.all fun x=>L.nv.contains (x,.no)) &&
 (flds.all fun p=>L.fs.contains (.cls (L.cl p.1)) && L.fs.contains (.na (L.cl p.1) (nmF L.G.nm p.2))) &&
 (L.G.ex.all fun p=>L.nv.contains (p.1,.ref (L.cl p.2)) && L.exB (L.cl p.2)) &&
 (L.nv.contains ("WayError",.ref L.R) && L.fs.contains (.root L.R)) &&
 ((List.range L.clA.length).all fun i=>decide (i<2) || L.exB (L.cl i) || L.rows.any fun r=>L.fs.contains (.brk (L.cl i) L.R r.f)) &&
 decide (L.tb.map (·.1)).Nodup &&
 (L.G.gd.all fun p=>L.dw.any fun q=>L.nv.contains (p.1,.ref q.1) && decide (p.2=q.2) && !(q.1 == sysModules) && decide (q.2.map (·.1)).Nodup) &&
 (L.G.rb.all fun p=>u8 && L.nv.contains (p.1,.ref (L.cl p.2)) && L.rows.any fun r=>L.fs.contains (.brk (L.cl p.2) L.R r.f) && uk (r.st L.p)) &&
 (L.G.kd.all fun p=>L.nv.contains (p.1,.ref (L.cl p.2)) && decide (3<=p.2) && decide (p.2<22) && L.fs.contains (.kds ((List.range 19).map fun i=>L.cl (i+3))))
section
variable{L:Lw}{K:Frag}{w:World}{mg:iF}{base:Heap}{nmi:∀i j,nmF L.G.nm i=nmF L.G.nm j->i=j}
noncomputable abbrev Lw.wd(L:Lw)(w:World)(K:Frag)(mg:iF)(nmi:∀i j,nmF L.G.nm i=nmF L.G.nm j->i=j)(base:Heap):Wd:=wdOf L.p w K mg L.cl (nmF L.G.nm) nmi L.tb base
theorem Lw.row(o:L.obs K=L.val w){r:Row}(h:r∈L.rows):rowG (lkF K) r=rowX L.p r:=cV.mp (bQ o).1 r h
theorem Lw.cd(o:L.obs K=L.val w){x:Addr×Addr}(h:x∈L.cds):codeHdIn K x.1 x.2=true:=qae (cV.mp (bQ (bQ o).2).1 x h)
theorem Lw.f(o:L.obs K=L.val w){x:Fct}(h:x∈L.fs):fctB K x=true:=cV.mp (bQ (bQ (bQ o).2).2).1 x h
theorem Lw.n(o:L.obs K=L.val w){x:Str}{v:Nv}(h:(x,v)∈L.nv):nsIn K mainGlobals x=v.v:=cV.mp (bQ (bQ (bQ (bQ o).2).2).2).1 (x,v) h
theorem Lw.d(o:L.obs K=L.val w){x:Addr×List (Str×Int)}(h:x∈L.dw):wdG K x.1=wdV w x.2:=cV.mp (bQ (bQ (bQ (bQ o).2).2).2).2 x h
theorem mem_of{α:Type}[BEq α][LawfulBEq α]{x:α}{l:List α}(h:l.contains x=true):x∈l:=eE.mp h
theorem Lw.exs(o:L.obs K=L.val w)(KB:K.In base)(hR:Fct.root L.R∈L.fs){a:Addr}(h:L.exB a=true):jc base a L.R:=by
 unfold Lw.exB at h;rw[bX,aF]at h;rcases h with rfl|h
 ·exact x_ KB (Lw.f o hR)
 ·exact yE KB (Lw.f o (mem_of h))
theorem Lw.gok(o:L.obs K=L.val w)(KB:K.In base)(GB:base.Ns mainGlobals mg)(BM:BmOk base mg)(g:L.gokB=true):Gok (L.wd w K mg nmi base) L.G:=by
 unfold Lw.gokB at g;simp only[aq,aP,aF]at g;obtain⟨⟨⟨⟨⟨⟨⟨⟨⟨g1,g2⟩,g3⟩,g4⟩,g5⟩,g6⟩,g7⟩,g8⟩,g9⟩,g10⟩:=g;have mgR:∀{x:Str}{a:Addr},(x,Nv.ref a)∈L.nv->mg x=some (.ref a):=fun h=>mg_of KB GB (Lw.n o h)
 have root:Fct.root L.R∈L.fs:=mem_of g5.2;refine⟨fun x c h=>?_,fun x h=>mg_none_of KB GB (Lw.n o (mem_of (g2 x h))),fun k x h=>YR h,fun C k h=>?_,rfl,fun x C h=>?_,⟨L.R,mgR (mem_of g5.1),x_ KB (Lw.f o root),fun C h=>?_⟩,fun x hx y hy e=>?_,fun _=>BM,fun x kvs h=>?_,fun x C h=>?_,fun x C h=>?_⟩
 ·have h:=g1 _ (yQ h)
  obtain⟨⟨y,v⟩,hq,hy⟩:=cE.mp h;rw[aq,aF]at hy;obtain⟨rfl,hy⟩:=hy;cases c with
  |int i=>
   cases v with
   |int j t=>
    have e:i=j:=by simpa using hy
    exact⟨.int j t,mg_of KB GB (Lw.n o hq),fun _=>⟨t,by rw[e]⟩⟩
   |_=>cases hy
  |str y=>
   cases v with
   |str z t=>
    have e:y=z:=by simpa using hy
    exact⟨.str z t,mg_of KB GB (Lw.n o hq),fun _=>⟨t,by rw[e]⟩⟩
   |_=>cases hy
  |_=>cases v <;> cases hy
 ·have h:=g3 _ h
  exact⟨Xn (Lw.f o (mem_of h.1)),qce (Lw.f o (mem_of h.2))⟩
 ·obtain⟨h1,h2⟩:=g4 _ h
  unfold Lw.exB at h2;rw[bX,aF]at h2;rcases h2 with e|h2
  ·exact Vb KB (mgR (mem_of h1)) (by show excB K (L.cl C) bmVE=true;rw[show L.cl C=L.R from e];exact Lw.f o root)
  ·exact yK KB (mgR (mem_of h1)) (Lw.f o (mem_of h2)) (Lw.f o root)
 ·refine wayC (P:=fun z=>jc base z L.R) (L:=L.clA) (d:=L.R) (fun i h1 h2=>?_) (x_ KB (Lw.f o root)) C h
  have h:=g6 i (dX.mpr h2);rw[bX,bX,aF]at h;rcases h with(h|h)|h
  ·omega
  ·exact Lw.exs o KB root h
  ·obtain⟨r,_,h⟩:=cE.mp h
   exact XH KB (Lw.f o (mem_of h))
 ·have inj:∀{l:List (Addr×Pos×Str)},(l.map (·.1)).Nodup->∀x∈l,∀y∈l,x.1=y.1->x=y:=fun{l}=>by
   induction l with
   |nil=>intro _ x hx;cases hx
   |cons a l ih=>
    intro nd x hx y hy e;have nd':=bq.mp nd;rcases aw.mp hx with rfl|hx'
    ·rcases aw.mp hy with rfl|hy'
     ·rfl
     ·exact absurd (show x.1∈l.map (·.1)from aQ.mpr ⟨y,hy',e.symm⟩) nd'.1
    ·rcases aw.mp hy with rfl|hy'
     ·exact absurd (show y.1∈l.map (·.1)from aQ.mpr ⟨x,hx',e⟩) nd'.1
     ·exact ih nd'.2 x hx' y hy' e
  exact inj g7 x hx y hy e
 ·have h:=g8 _ (yQ h)
  obtain⟨⟨a,l⟩,hq,hy⟩:=cE.mp h;simp only[aq,aF,dB]at hy;obtain⟨⟨⟨h1,rfl⟩,h3⟩,h4⟩:=hy;exact KO KB (mgR (mem_of h1)) h3 (Lw.d o hq) h4
 ·obtain⟨⟨h0,h1⟩,h2⟩:=g9 _ h
  obtain⟨r,hr,h2⟩:=cE.mp h2;rw[aq]at h2;obtain⟨h2,h3⟩:=h2;obtain⟨oc,od,kV,doc,pm,an,ct,osl,k1,k2,k3⟩:=V3 (Lw.row o hr);unfold uk at h3;simp only[aq,aP,aF]at h3;obtain⟨⟨⟨h3,h4⟩,h5⟩,h6⟩:=h3;obtain⟨_,_,_,_,_,_,_,_,hb⟩:=VF h3;exact qb1 (u7 h0) KB (mgR (mem_of h1)) (Lw.f o (mem_of h2)) (Lw.f o root) k1 k2 (K5 h4) h5 hb (xY h6 (K5 h4).nd)
 ·obtain⟨⟨⟨h1,h2⟩,h3⟩,h4⟩:=g10 _ h
  have hk:kdsB K _=true:=Lw.f o (mem_of h4);have at_:∀i,3<=i->i<22->(L.cl i,i - 3)∈((List.range 19).map fun i=>L.cl (i+3)).zipIdx:=fun i h1 h2=>List.mem_zipIdx_iff_getElem?.mpr (by
   show((List.range 19).map fun i=>L.cl (i+3))[i - 3]?=some (L.cl i);rw[aW,List.getElem?_range (by omega)];show some (L.cl (i - 3+3))=_;rw[Nat.sub_add_cancel h1])
  refine⟨mgR (mem_of h1),h2,h3,fun i a b=>uN (aP.mp (an hk).1 _ (aQ.mpr ⟨i - 3,dX.mpr (by omega),bY L.cl (Nat.sub_add_cancel a)⟩)),fun i j a b a' b'=>?_⟩;have:=cC.mp (aP.mp (aP.mp (an hk).2 _ (at_ i a b)) _ (at_ j a' b'));refine(show kitOne K (.ref (L.cl i)) (.ref (L.cl j))=_ from this).trans (bY some ?_);exact iq.mpr (by omega)
noncomputable def Lw.dfB(L:Lw)(i:Nat)(d:Df):Bool:=match L.rows[d.r]? with
 |none=>false
 |some r=>(xK (argsAt (r.st L.p))).isSome && decide (psOf (r.st L.p)).Nodup && decide ((psOf (r.st L.p)).length=d.e.n) &&
  ((decide (d.e.kd=0) || decide (d.e.kd=4)) && L.nv.contains (d.e.x,.ref r.f) || decide (d.e.kd=1) && L.fs.contains (.cls (L.cl d.e.C)) && L.fs.contains (.me (L.cl d.e.C) (nmF L.G.nm d.e.j) r.f) || decide (d.e.kd=2) && L.fs.contains (.mk (L.cl d.e.C) r.f) && L.nv.contains (d.e.x,.ref (L.cl d.e.C))) &&
  (d.bad || (decide (0<d.e.k) && decide ((nsOf (r.st L.p)).length=d.n) && scB (nsOf (r.st L.p)) (psOf (r.st L.p)) (zR (r.st L.p)) && (match d.lam with
   |none=>true
   |some j=>match L.tb[j]? with
    |some (P,pos,q)=>L.cds.contains (r.c,P) && decide (L.G.lm[j]?=some (pos,q))
    |none=>false) && d.ix.all (fun j=>decide (j<i)) && chSs L.G d.T d.form ⟨nsOf (r.st L.p),zR (r.st L.p),true,d.e.k - 1,r.q++".<locals>.",d.lam,d.e.kd == 4⟩ (xk (r.st L.p))))
noncomputable def Lw.allB(L:Lw)(Ds:List Df):Bool:=(List.range Ds.length).all fun i=>match Ds[i]? with
 |some d=>L.dfB i d
 |none=>false
noncomputable def noE:FnE:=⟨0,⟨#[]⟩,0,0,0,0,fun _ _=>.bad⟩
noncomputable def pick(es:List FnE)(ix:List Nat):List FnE:=ix.map fun j=>es.getD j noE
theorem uJ{W:Wd}{k f fd ps}:FnOk W k f fd ps fun _ _=>.bad:=⟨fun A outer s c b args us ds Q hr e0 hb r hl q=>q.elim⟩
theorem WH{W:Wd}{k f fd ps}:FnOkH W k f fd ps fun _ _=>.bad:=⟨fun A outer s c b args us ds Q hr e0 hb r hl q=>q.elim⟩
theorem Lw.all_ok{Ds:List Df}(o:L.obs K=L.val w)(KB:K.In base)(GB:base.Ns mainGlobals mg)(BM:BmOk base mg)(g:L.gokB=true)(hT:Ds.map (·.T)=Ds.map fun d=>pick (Ds.map (·.e)) d.ix)(h:L.allB Ds=true):∀(n i:Nat)(d:Df),i<n->Ds[i]?=some d->Fok (L.wd w K mg nmi base) d.e
 |0,_,_,hn,_=>absurd hn (dq _)
 |n+1,i,d,hn,hd=>by
  have ih:=Lw.all_ok o KB GB BM g hT h n;have hlt:i<Ds.length:=(ag.mp hd).1;have hc:=aP.mp h i (dX.mpr hlt);rw[hd]at hc;have hc:L.dfB i d=true:=hc;have gk:Gok (L.wd w K mg nmi base) L.G:=Lw.gok o KB GB BM g;have eT:d.T=pick (Ds.map (·.e)) d.ix:=cV.mp hT d (aB hd);unfold Lw.dfB at hc
  split at hc
  ·cases hc
  ·rename_i r hr
   simp only[aq,aF]at hc;obtain⟨⟨⟨⟨h1,h2⟩,h3⟩,h4⟩,h5⟩:=hc;obtain⟨oc,od,kV,doc,pm,an,ct,osl,k1,k2,k3⟩:=V3 (Lw.row o (aB hr));have FN:(d.e.kd≠4->FnOk (L.wd w K mg nmi base) d.e.k r.f (fnOf (defName (r.st L.p)) r.q (argsAt (r.st L.p)) (xk (r.st L.p)) (zR (r.st L.p)) .none kV doc pm an (.ref r.c) ct) (psOf (r.st L.p)) d.e.F)/\(d.e.kd=4->FnOkH (L.wd w K mg nmi base) d.e.k r.f (fnOf (defName (r.st L.p)) r.q (argsAt (r.st L.p)) (xk (r.st L.p)) (zR (r.st L.p)) .none kV doc pm an (.ref r.c) ct) (psOf (r.st L.p)) d.e.F):=by
    rw[d.hF];rw[bX]at h5;cases hb:d.bad with
    |true=>exact⟨fun _=>uJ,fun _=>WH⟩
    |false=>
     rcases h5 with h5|h5
     ·rw[hb]at h5;cases h5
     simp only[aq,aF]at h5;obtain⟨⟨⟨⟨⟨q1,q0⟩,q2⟩,q3⟩,q4⟩,q5⟩:=h5;obtain⟨k,hk⟩:∃k,d.e.k=k+1:=⟨d.e.k - 1,by omega⟩;rw[hk];rw[hk,Nat.add_sub_cancel]at q5;rw[<- q0];have t1:∀fe∈d.T,Fok (L.wd w K mg nmi base) fe:=fun fe hfe=>by
      rw[eT]at hfe;obtain⟨j,hj,rfl⟩:=aQ.mp hfe;have lt:j<i:=by simpa using aP.mp q4 j hj
      have hl:j<Ds.length:=eB lt hlt;have e:Ds[j]?=some Ds[j]:=ak hl;have:=ih j Ds[j] (by omega) e;rw[cG,aW,e];exact this
     have t2:∀j,d.lam=some j->∃cd P pos q,Value.ref r.c=.ref cd/\PySem.W.codeHdIn K cd P=true/\L.tb[j]?=some (P,pos,q)/\L.G.lm[j]?=some (pos,q):=fun j hj=>by
      rw[hj]at q3;dsimp only at q3
      split at q3
      ·rename_i P pos q hq
       rw[aq,aF]at q3;exact⟨r.c,P,pos,q,rfl,Lw.cd o (mem_of q3.1),hq,q3.2⟩
      ·cases q3
     refine⟨fun z=>?_,fun z=>?_⟩
     ·have z':(d.e.kd == 4)=false:=by simpa using z
      rw[z']at q5 ⊢;exact u9 k1 k2 (K5 q2) gk t1 t2 q5
     ·have z':(d.e.kd == 4)=true:=by simpa using z
      rw[z']at q5 ⊢;exact WY k1 k2 (K5 q2) gk t1 t2 q5
   refine⟨r.f,_,psOf (r.st L.p),h3,xY (name:=defName (r.st L.p)) (qual:=r.q) (body:=xk (r.st L.p)) (scope:=zR (r.st L.p)) (kV:=kV) (doc:=doc) (pm:=pm) (cdv:=.ref r.c) (ct:=ct) (an:=an) (by unfold psOf;cases q:xK (argsAt (r.st L.p))with
    |none=>rw[q]at h1;cases h1
    |some _=>rfl) h2,?_⟩
   simp only[bX,aq,aF]at h4;rcases h4 with(⟨z|z,m⟩|⟨⟨z,m⟩,m'⟩)|⟨⟨z,m⟩,m'⟩ <;> rw[z]at FN ⊢
   ·exact⟨FN.1 (by decide),mg_of KB GB (Lw.n o (mem_of m)),k3⟩
   ·exact⟨FN.2 rfl,mg_of KB GB (Lw.n o (mem_of m)),k3⟩
   ·exact⟨FN.1 (by decide),Xn (Lw.f o (mem_of m)),qch (Lw.f o (mem_of m'))⟩
   ·exact⟨FN.1 (by decide),qcf (Lw.f o (mem_of m)),mg_of KB GB (Lw.n o (mem_of m'))⟩
theorem Lw.law{Ds:List Df}(o:L.obs K=L.val w)(KB:K.In base)(GB:base.Ns mainGlobals mg)(BM:BmOk base mg)(g:L.gokB=true)(hT:Ds.map (·.T)=Ds.map fun d=>pick (Ds.map (·.e)) d.ix)(h:L.allB Ds=true){i:Nat}{d:Df}(hi:Ds[i]?=some d)(kd:d.e.kd=0)(n1:d.e.n=1){fa:Addr}(hm:mg d.e.x=some (.ref fa)):∃fd ps,FnOk (L.wd w K mg nmi base) d.e.k fa fd ps d.e.F/\ps.length=1/\Bnd fd ps:=by
 obtain⟨f,fd,ps,h2,h3,h4⟩:=Lw.all_ok (nmi:=nmi) o KB GB BM g hT h (i+1) i d (bu i) hi;rw[kd]at h4;have e:=h4.2.1.symm.trans hm;cases e;exact⟨fd,ps,h4.1,h2.trans n1,h3⟩
theorem Lw.tabs(o:L.obs K=L.val w)(h:(L.fs.contains .sys && L.tb.all fun x=>L.cds.any fun y=>decide (y.2=x.1))=true):(∃o es ep,K.lookup sysModules=some o/\o.data=.dict es ep)/\∀x∈L.tb,∃c,codeHdIn K c x.1=true:=by
 rw[aq]at h;refine⟨?_,fun x hx=>?_⟩
 ·have hs:sysB K=true:=Lw.f o (mem_of h.1)
  unfold sysB at hs
  split at hs
  ·rename_i a b es ep sl hl
   exact⟨_,es,ep,hl,rfl⟩
  ·cases hs
 ·obtain⟨y,hy,e⟩:=cE.mp (aP.mp h.2 x hx)
  exact⟨y.1,by rw[<- cI e];exact Lw.cd o hy⟩
end
end E
namespace E
open PySem PySem.Spec PyProof PyProof.Rows L2
noncomputable def asgL(ts:Tgs)(b:Hb)(d:D)(s:Sc):Option Sc:=(qG b d).bind fun l=>asgs ts l s
theorem Yy{X:Cx}{es:iL}{k:Nat}{ts:Tgs}{e:Expr}{fa:EvD}{pos p1:Pos}(hc:X.calm=true)(he:EV X e fa)(h:EGs X es ts)(hst:(assignEach es X.env).findIdx? (·.1)=none)(hn:(assignEach es X.env).length=es.length)(hl:∀sc sc' l,asgs ts l sc=some sc'->l.length=es.length)
  (hw:swappedStores [.Tuple es k p1] e X.env=pure none):ES X (.Assign [.Tuple es k p1] e pos) fun s b=>eO (fa s b) s fun d b=>nxO (asgL ts b d s) b:=⟨fun p sc b c s Q Z I q=>
 wpAny_Assign_stores (he.runS I q fun d b u s c I l r q=>by
  rw[show(assignEach [.Tuple es k p1] X.env).map (·.2)=[assign (.Tuple es k p1) X.env] from rfl];cases ea:asgL ts b d sc with
  |none=>rw[ea]at q;exact q.elim
  |some sc'=>
   rw[ea]at q;obtain⟨l',e1,e2⟩:=ai.mp (show(qG b d).bind _=_ from ea);obtain⟨a,o,us,rfl,ho,hL,rs⟩:=I.st.lst r e1;have il:s.heap.IsList a us.toArray:=by
    obtain⟨_,k,rfl⟩:=hL;exact⟨_,ho,rfl,_,rfl⟩
   show wpAny X.M X.A (assign (.Tuple es k p1) X.env (.ref a)) _ Z s;rw[assign_Tuple];refine aa (cm ?_);unfold unpack;rw[show(assignEach es X.env).length=us.toArray.size by rw[hn,au,rs.len];exact(hl _ _ _ e2).symm,hst];refine aa (aK (PySem.W.kun_itemsOf (I.ok.hd hc) il fun h' hx=>?_));exact h.h _ _ _ _ _ _ _ _ _ _ (I.kept (t':=s.toks) fun b o e=>hx b o (aH (aA e)) e) (by simpa using rs) e2 fun _ I=>q.nx I) Qq hw⟩
noncomputable def IS.tupL(ts:Tgs)(v:IV):IS where
 ch Γ T I st:=asg1 st fun tg e=>xP tg fun es=>!I.q && chGs I ts es && Ja e && v.ch Γ T I e
 ev T s b:=eO (v.ev T s b) s fun d b=>nxO (asgL ts b d s) b
 ok {Γ T I X st} A h:=k9 h fun tg e p h=>kB (P:=fun tg=>ES X (.Assign [tg] e p) _) h fun es j p h=>by
  have h1:=(an h).1;have h2:=(an h1).1;obtain⟨h3,h4⟩:=Qd (an h2).2;obtain⟨q1,q2⟩:=vS (X:=X) h3;exact Yy (A.calm (nt (an h2).1)) (v.ok A (an h).2) (sGs A ts _ (an h2).2) q1 q2 (fun _ _ _ e=>(vQ e).trans h4.symm) (wV (an h1).2)
end E
set_option maxHeartbeats 0
namespace E
open PySem PySem.W PySem.Spec PyProof PyProof.Rows L2
noncomputable def vM:ISs:=
 (.cons (.set 3 (.kp false (.bin .add (.kp false (.bin .mul (.cst (.int 7)) (.var 1))) (.cst (.int 1)))))
 (.cons (.iff (.cmp .lt (.var 1) (.kp false (.bf .len (.cons (.var 0) .nil))))
 (.cons (.set 3 (.ix (.var 0) (.var 1)))
 .nil)
 (.cons (.iff (.cmp .gt (.kp false (.bf .len (.cons (.var 0) .nil))) (.cst (.int 0)))
 (.cons (.set 3 (.kp false (.bin .add (.kp false (.bin .add (.kp false (.bin .mod (.ix (.var 0) (.kp false (.bin .mod (.var 1) (.kp false (.bf .len (.cons (.var 0) .nil)))))) (.cst (.int 999983)))) (.kp false (.bin .mul (.kp false (.bin .mul (.var 1) (.var 1))) (.cst (.int 97)))))) (.cst (.int 1)))))
 .nil)
 .nil)
 .nil))
 (.cons (.set 4 (.kp false (.bin .add (.kp false (.bin .add (.kp false (.bin .mod (.var 3) (.cst (.int 999983)))) (.kp false (.bin .mul (.cst (.int 31)) (.var 1))))) (.cst (.int 5)))))
 (.cons (.set 5 (.kp true (.lst .nil)))
 (.cons (.iff (.cmp .ge (.var 3) (.kp false (.bin .pow (.cst (.int 10)) (.cst (.int 18)))))
 (.cons (.whl 100 (.and (.cons (.cmp .gt (.var 3) (.cst (.int 0))) (.cons (.cmp .lt (.kp false (.bf .len (.cons (.var 5) .nil))) (.var 2)) .nil)))
 (.cons (.expr (.bm .app (.var 5) (.cons (.kp false (.bin .mod (.var 3) (.cst (.int 1013)))) .nil)))
 (.cons (.set 3 (.kp false (.bin .div (.var 3) (.cst (.int 1013)))))
 .nil)))
 .nil)
 .nil)
 (.cons (.whl 100 (.cmp .lt (.kp false (.bf .len (.cons (.var 5) .nil))) (.var 2))
 (.cons (.set 6 (.kp false (.bin .add (.kp false (.bf .len (.cons (.var 5) .nil))) (.cst (.int 1)))))
 (.cons (.set 4 (.kp false (.bin .mod (.kp false (.bin .add (.kp false (.bin .add (.kp false (.bin .mul (.var 4) (.cst (.int 48271)))) (.kp false (.bin .mul (.kp false (.bin .mul (.var 6) (.var 6))) (.cst (.int 6133)))))) (.cst (.int 17)))) (.cst (.int 2147483647)))))
 (.cons (.expr (.bm .app (.var 5) (.cons (.kp false (.bin .mod (.kp false (.bin .mod (.kp false (.bin .mul (.kp false (.bin .mod (.var 4) (.cst (.int 65521)))) (.kp false (.bin .add (.kp false (.bin .mod (.kp false (.bin .div (.var 4) (.cst (.int 65521)))) (.cst (.int 32749)))) (.cst (.int 1)))))) (.cst (.int 1000003)))) (.cst (.int 1013)))) .nil)))
 .nil))))
 (.cons (.ret (.val (.var 5)))
 .nil)))))))
noncomputable def qe:List FnE:=[]
noncomputable def kP:List D->Hb->R Res:=qs 7 (evSs qe vM)
noncomputable def wI:FnE:=⟨0,"_law_draws",0,0,3,1,kP⟩
noncomputable def zX:ISs:=
 (.cons (.fld 1 (.var 0) (.kp true .dnew))
 (.cons (.fld 2 (.var 0) (.kp true (.lst .nil)))
 (.cons (.fld 3 (.var 0) (.kp true (.lst .nil)))
 .nil)))
noncomputable def z_:List FnE:=[]
noncomputable def vf:List D->Hb->R Res:=qs 1 (evSs z_ zX)
noncomputable def z5:FnE:=⟨2,"Ledger",1,0,1,1,vf⟩
noncomputable def jy:ISs:=
 (.cons (.fld 0 (.var 0) (.kp true (.make 0)))
 .nil)
noncomputable def jK:List FnE:=[z5]
noncomputable def xy:List D->Hb->R Res:=qs 1 (evSs jK jy)
noncomputable def jG:FnE:=⟨2,"Book",0,0,1,3,xy⟩
noncomputable def QU:ISs:=
 (.cons (.ret (.val (.tup (.cons (.kp false .dnew) (.cons (.kp false (.lst .nil)) (.cons (.kp false .dnew) (.cons (.kp false .dnew) (.cons (.kp false (.lst .nil)) (.cons (.kp false .dnew) .nil)))))))))
 .nil)
noncomputable def Ze:List FnE:=[]
noncomputable def VT:List D->Hb->R Res:=qs 0 (evSs Ze QU)
noncomputable def Q2:FnE:=⟨0,"_law_begin",0,0,0,1,VT⟩
noncomputable def zT:ISs:=
 (.cons (.ret (.bm .get (.fld 1 (.var 0)) (.cons (.var 1) (.cons (.kp false .dnew) .nil))))
 .nil)
noncomputable def jS:List FnE:=[]
noncomputable def zv:List D->Hb->R Res:=qs 2 (evSs jS zT)
noncomputable def qa:FnE:=⟨1,"table",1,4,2,1,zv⟩
noncomputable def v_:ISs:=
 (.cons (.ret (.val (.andv (.cons (.chn (.cst (.int 1)) [.le,.le] (.cons (.kp false (.bf .len (.cons (.var 0) .nil))) (.cons (.cst (.int 12)) .nil))) (.cons (.kp false (.bf .all (.cons (.kp false (.lc 2 [] .any (.cons (.var 0) .nil) (.nm 1) .tt (.kp false (.cmp .inn (.var 1) (.cst (.str "abcdefghijklmnopqrstuvwxyz0123456789")))))) .nil))) .nil)))))
 .nil)
noncomputable def xp:List FnE:=[]
noncomputable def Qj:List D->Hb->R Res:=qs 1 (evSs xp v_)
noncomputable def j4:FnE:=⟨0,"good_name",0,0,1,1,Qj⟩
noncomputable def zA:ISs:=
 (.cons (.set 4 (.kp true (.bm .sdf (.fld 1 (.var 0)) (.cons (.var 1) (.cons (.kp true .dnew) .nil)))))
 (.cons (.iff (.cmp .is (.var 3) (.cst .non))
 (.cons (.expr (.bm .dpp (.var 4) (.cons (.var 2) (.cons (.cst .non) .nil))))
 .nil)
 (.cons (.put (.var 4) (.var 2) (.var 3))
 .nil))
 .nil))
noncomputable def vE:List FnE:=[]
noncomputable def qX:List D->Hb->R Res:=qs 5 (evSs vE zA)
noncomputable def jB:FnE:=⟨1,"put",1,5,4,1,qX⟩
noncomputable def zp:ISs:=
 (.cons (.set 6 (.kp false (.lc 4 [0] .any (.cons (.var 2) .nil) (.tp (.cons (.nm 1) (.cons (.nm 2) (.cons (.nm 3) .nil)))) .tt (.tup (.cons (.var 1) (.cons (.var 2) (.cons (.kp false (.bm .get (.kp false (.meth 0 (.var 4) (.cons (.var 1) .nil))) (.cons (.var 2) .nil))) (.cons (.var 3) .nil))))))))
 (.cons (.each .any (.cons (.var 2) .nil) (.tp (.cons (.nm 3) (.cons (.nm 4) (.cons (.nm 5) .nil))))
 (.cons (.expr (.meth 1 (.var 0) (.cons (.var 3) (.cons (.var 4) (.cons (.var 5) .nil)))))
 .nil))
 (.cons (.expr (.bm .app (.fld 2 (.var 0)) (.cons (.tup (.cons (.var 1) (.cons (.kp false (.bf .tup (.cons (.var 6) .nil))) .nil))) .nil)))
 (.cons (.fld 3 (.var 0) (.kp true (.lst .nil)))
 .nil))))
noncomputable def qf:List FnE:=[qa,jB]
noncomputable def qz:List D->Hb->R Res:=qs 7 (evSs qf zp)
noncomputable def qx:FnE:=⟨1,"enter",1,6,3,2,qz⟩
noncomputable def vr:ISs:=
 (.cons (.set 4 (.kp false (.meth 0 (.fld 0 (.var 0)) (.cons (.cst (.str "place")) .nil))))
 (.cons (.iff (.nt (.val (.kp false (.call 1 (.cons (.var 1) .nil)))))
 (.cons .no
 .nil)
 .nil)
 (.cons (.iff (.cmp .inn (.var 1) (.var 4))
 (.cons .no
 .nil)
 .nil)
 (.cons (.iff (.nt (.and (.cons (.chn (.neg (.cst (.int 900))) [.le,.le] (.cons (.var 2) (.cons (.cst (.int 900)) .nil))) (.cons (.chn (.cst (.int 0)) [.le,.le] (.cons (.var 3) (.cons (.cst (.int 1000)) .nil))) .nil))))
 (.cons .no
 .nil)
 .nil)
 (.cons (.iff (.cmp .ge (.kp false (.bf .len (.cons (.var 4) .nil))) (.cst (.int 12)))
 (.cons .no
 .nil)
 .nil)
 (.cons (.expr (.meth 2 (.fld 0 (.var 0)) (.cons (.tup (.cons (.cst (.str "place")) (.cons (.var 1) (.cons (.var 2) (.cons (.var 3) .nil))))) (.cons (.kp false (.lst (.cons (.tup (.cons (.cst (.str "place")) (.cons (.var 1) (.cons (.tup (.cons (.var 2) (.cons (.var 3) .nil))) .nil)))) .nil))) .nil))))
 .nil))))))
noncomputable def vH:List FnE:=[qa,j4,qx]
noncomputable def yw:List D->Hb->R Res:=qs 5 (evSs vH vr)
noncomputable def vC:FnE:=⟨1,"place",0,11,4,3,yw⟩
noncomputable def zd:ISs:=
 (.cons (.iff (.cmp .nin (.var 1) (.kp false (.meth 0 (.fld 0 (.var 0)) (.cons (.cst (.str "place")) .nil))))
 (.cons .no
 .nil)
 .nil)
 .nil)
noncomputable def zi:List FnE:=[qa]
noncomputable def zm:List D->Hb->R Res:=qs 2 (evSs zi zd)
noncomputable def qI:FnE:=⟨1,"need_place",0,38,2,2,zm⟩
noncomputable def j1:ISs:=
 (.cons (.ret (.bf .len (.cons (.kp false (.meth 0 (.fld 0 (.var 0)) (.cons (.cst (.str "run")) .nil))) .nil)))
 .nil)
noncomputable def j8:List FnE:=[qa]
noncomputable def kf:List D->Hb->R Res:=qs 1 (evSs j8 j1)
noncomputable def je:FnE:=⟨1,"many",0,25,1,2,kf⟩
noncomputable def xR:ISs:=
 (.cons (.expr (.meth 0 (.var 0) (.cons (.var 1) .nil)))
 (.cons (.expr (.meth 0 (.var 0) (.cons (.var 2) .nil)))
 (.cons (.iff (.cmp .eq (.var 1) (.var 2))
 (.cons .no
 .nil)
 .nil)
 (.cons (.iff (.nt (.chn (.neg (.cst (.int 40000))) [.le,.lt,.le] (.cons (.var 3) (.cons (.var 4) (.cons (.cst (.int 40000)) .nil)))))
 (.cons .no
 .nil)
 .nil)
 (.cons (.iff (.cmp .lt (.var 5) (.cst (.int 1)))
 (.cons .no
 .nil)
 .nil)
 (.cons (.set 6 (.kp false (.meth 1 (.var 0) .nil)))
 (.cons (.iff (.cmp .ge (.var 6) (.cst (.int 40)))
 (.cons .no
 .nil)
 .nil)
 (.cons (.set 7 (.tup (.cons (.var 1) (.cons (.var 2) (.cons (.var 3) (.cons (.var 4) (.cons (.var 5) .nil)))))))
 (.cons (.expr (.meth 2 (.fld 0 (.var 0)) (.cons (.tup (.cons (.cst (.str "run")) (.cons (.var 1) (.cons (.var 2) (.cons (.var 3) (.cons (.var 4) (.cons (.var 5) .nil))))))) (.cons (.kp false (.lst (.cons (.tup (.cons (.cst (.str "run")) (.cons (.var 6) (.cons (.var 7) .nil)))) .nil))) .nil))))
 (.cons (.ret (.val (.var 6)))
 .nil))))))))))
noncomputable def xZ:List FnE:=[qI,je,qx]
noncomputable def ZB:List D->Hb->R Res:=qs 8 (evSs xZ xR)
noncomputable def xV:FnE:=⟨1,"run",0,12,6,3,ZB⟩
noncomputable def q9:ISs:=
 (.cons (.iff (.cmp .nin (.var 1) (.kp false (.meth 0 (.fld 0 (.var 0)) (.cons (.cst (.str "run")) .nil))))
 (.cons (.rse 10)
 .nil)
 .nil)
 .nil)
noncomputable def zb:List FnE:=[qa]
noncomputable def zc:List D->Hb->R Res:=qs 2 (evSs zb q9)
noncomputable def qh:FnE:=⟨1,"need_run",0,39,2,2,zc⟩
noncomputable def jZ:ISs:=
 (.cons (.expr (.meth 0 (.var 0) (.cons (.var 1) .nil)))
 (.cons (.ret (.val (.ix (.kp false (.meth 1 (.fld 0 (.var 0)) (.cons (.cst (.str "run")) .nil))) (.var 1))))
 .nil))
noncomputable def j7:List FnE:=[qh,qa]
noncomputable def kb:List D->Hb->R Res:=qs 2 (evSs j7 jZ)
noncomputable def zg:FnE:=⟨1,"told",0,26,2,3,kb⟩
noncomputable def JD:ISs:=
 (.cons (.set 3 (.var 0))
 (.cons (.each .any (.cons (.var 2) .nil) (.tp (.cons (.nm 4) (.cons (.nm 5) .nil)))
 (.cons (.iff (.cmp .ne (.var 4) (.var 3))
 (.cons (.ret (.val (.cst (.bl false))))
 .nil)
 .nil)
 (.cons (.set 3 (.var 5))
 .nil)))
 (.cons (.ret (.cmp .eq (.var 3) (.var 1)))
 .nil)))
noncomputable def KG:List FnE:=[]
noncomputable def Yg:List D->Hb->R Res:=qs 6 (evSs KG JD)
noncomputable def J_:FnE:=⟨0,"leads",0,0,3,1,Yg⟩
noncomputable def jw:ISs:=
 (.cons (.set 4 (.kp false (.lc 2 [0] .any (.cons (.var 3) .nil) (.nm 1) .tt (.kp false (.sl (.kp false (.meth 0 (.var 2) (.cons (.var 1) .nil))) .nil (.cons (.cst (.int 2)) .nil))))))
 (.cons (.iff (.nt (.val (.kp false (.call 1 (.cons (.var 1) (.cons (.var 2) (.cons (.var 4) .nil)))))))
 (.cons .no
 .nil)
 .nil)
 .nil))
noncomputable def jJ:List FnE:=[zg,J_]
noncomputable def xx:List D->Hb->R Res:=qs 5 (evSs jJ jw)
noncomputable def jF:FnE:=⟨1,"need_way",0,41,4,4,xx⟩
noncomputable def zI:ISs:=
 (.cons (.iff (.nt (.val (.kp false (.call 0 (.cons (.var 1) .nil)))))
 (.cons .no
 .nil)
 .nil)
 (.cons (.iff (.cmp .inn (.var 1) (.kp false (.meth 1 (.fld 0 (.var 0)) (.cons (.cst (.str "journey")) .nil))))
 (.cons .no
 .nil)
 .nil)
 (.cons (.expr (.meth 2 (.var 0) (.cons (.var 2) .nil)))
 (.cons (.expr (.meth 2 (.var 0) (.cons (.var 3) .nil)))
 (.cons (.expr (.meth 3 (.var 0) (.cons (.var 2) (.cons (.var 3) (.cons (.var 4) .nil)))))
 .nil)))))
noncomputable def zK:List FnE:=[j4,qa,qI,jF]
noncomputable def kc:List D->Hb->R Res:=qs 5 (evSs zK zI)
noncomputable def zJ:FnE:=⟨1,"need_new_way",0,40,5,5,kc⟩
noncomputable def jv:ISs:=
 (.cons (.ret (.bin .sub (.kp false (.bin .sub (.ix (.var 1) (.cst (.int 3))) (.ix (.var 0) (.cst (.int 4))))) (.ix (.var 2) (.ix (.var 0) (.cst (.int 2))))))
 .nil)
noncomputable def jI:List FnE:=[]
noncomputable def xv:List D->Hb->R Res:=qs 3 (evSs jI jv)
noncomputable def jA:FnE:=⟨0,"spare_between",0,0,3,1,xv⟩
noncomputable def JE:ISs:=
 (.cons (.ret (.val (.andv (.cons (.kp false (.cmp .eq (.ix (.var 1) (.cst (.int 1))) (.ix (.var 0) (.cst (.int 2))))) (.cons (.kp false (.cmp .ge (.kp false (.call 0 (.cons (.var 0) (.cons (.var 1) (.cons (.var 2) .nil))))) (.cst (.int 0)))) .nil)))))
 .nil)
noncomputable def KH:List FnE:=[jA]
noncomputable def Yi:List D->Hb->R Res:=qs 3 (evSs KH JE)
noncomputable def Ka:FnE:=⟨0,"hangs",0,0,3,2,Yi⟩
noncomputable def kC:ISs:=
 (.cons (.each .enm (.cons (.var 0) .nil) (.tp (.cons (.nm 2) (.cons (.nm 3) .nil)))
 (.cons (.iff (.cmp .is (.var 3) (.cst .non))
 (.cons .no
 .nil)
 .nil)
 (.cons (.iff (.and (.cons (.cmp .gt (.var 2) (.cst (.int 0))) (.cons (.nt (.val (.kp false (.call 0 (.cons (.ix (.var 0) (.kp false (.bin .sub (.var 2) (.cst (.int 1))))) (.cons (.var 3) (.cons (.var 1) .nil))))))) .nil)))
 (.cons .no
 .nil)
 .nil)
 .nil)))
 (.cons (.ret (.val (.cst .non)))
 .nil))
noncomputable def kO:List FnE:=[Ka]
noncomputable def wS:List D->Hb->R Res:=qs 4 (evSs kO kC)
noncomputable def kI:FnE:=⟨0,"first_fault",0,0,2,3,wS⟩
noncomputable def jO:ISs:=
 (.cons (.tup (.tp (.cons (.nm 3) (.cons (.nm 4) (.cons (.nm 5) (.cons (.nm 6) (.cons (.nm 7) .nil)))))) (.kp false (.meth 0 (.var 0) (.cons (.var 1) .nil))))
 (.cons (.set 8 (.tup (.cons (.var 1) (.cons (.var 3) (.cons (.var 4) (.cons (.var 5) (.cons (.var 6) .nil)))))))
 (.cons (.iff (.nt (.val (.var 2)))
 (.cons (.ret (.val (.var 8)))
 .nil)
 .nil)
 (.cons .no
 (.cons .no
 (.cons .no
 .nil))))))
noncomputable def jT:List FnE:=[zg]
noncomputable def xB:List D->Hb->R Res:=qs 12 (evSs jT jO)
noncomputable def jQ:FnE:=⟨1,"ride_by",0,50,3,4,xB⟩
noncomputable def zr:ISs:=
 (.cons (.expr (.meth 0 (.var 0) (.cons (.var 1) .nil)))
 (.cons (.set 2 (.kp false (.meth 1 (.fld 0 (.var 0)) (.cons (.tup (.cons (.cst (.str "news")) (.cons (.var 1) .nil))) .nil))))
 (.cons (.ret (.bf .srt (.cons (.kp false (.lc 4 [] .items (.cons (.var 2) .nil) (.tp (.cons (.nm 1) (.cons (.tp (.cons (.nm 2) (.cons (.nm 3) .nil))) .nil))) .tt (.tup (.cons (.var 1) (.cons (.var 2) (.cons (.var 3) .nil)))))) .nil)))
 .nil)))
noncomputable def qP:List FnE:=[qh,qa]
noncomputable def jV:List D->Hb->R Res:=qs 3 (evSs qP zr)
noncomputable def zt:FnE:=⟨1,"reports",0,28,2,3,jV⟩
noncomputable def xa:ISs:=
 (.cons (.ret (.meth 0 (.var 0) (.cons (.var 1) (.cons (.kp false (.meth 1 (.var 0) (.cons (.var 1) .nil))) .nil))))
 .nil)
noncomputable def xr:List FnE:=[jQ,zt]
noncomputable def Qm:List D->Hb->R Res:=qs 2 (evSs xr xa)
noncomputable def xf:FnE:=⟨1,"goes",0,27,2,5,Qm⟩
noncomputable def ji:ISs:=
 (.cons (.ret (.lc 2 [0] .any (.cons (.var 1) .nil) (.nm 1) .tt (.kp false (.meth 0 (.var 2) (.cons (.var 1) .nil)))))
 .nil)
noncomputable def jm:List FnE:=[xf]
noncomputable def vK:List D->Hb->R Res:=qs 2 (evSs jm ji)
noncomputable def jk:FnE:=⟨1,"rides_now",0,51,2,6,vK⟩
noncomputable def vq:ISs:=
 (.cons (.ret (.dc 4 [] .items (.cons (.kp false (.meth 0 (.fld 0 (.var 0)) (.cons (.cst (.str "place")) .nil))) .nil) (.tp (.cons (.nm 1) (.cons (.tp (.cons (.nm 2) (.cons (.nm 3) .nil))) .nil))) .tt (.var 1) (.var 3)))
 .nil)
noncomputable def vG:List FnE:=[qa]
noncomputable def yv:List D->Hb->R Res:=qs 1 (evSs vG vq)
noncomputable def vB:FnE:=⟨1,"spans",0,31,1,2,yv⟩
noncomputable def zY:ISs:=
 (.cons (.set 2 (.kp false (.call 0 (.cons (.kp false (.meth 1 (.var 0) (.cons (.var 1) .nil))) (.cons (.kp false (.meth 2 (.var 0) .nil)) .nil)))))
 (.cons (.iff (.cmp .isn (.var 2) (.cst .non))
 (.cons .no
 .nil)
 .nil)
 .nil))
noncomputable def ja:List FnE:=[kI,jk,vB]
noncomputable def vg:List D->Hb->R Res:=qs 3 (evSs ja zY)
noncomputable def z6:FnE:=⟨1,"need_whole",0,42,2,7,vg⟩
noncomputable def xb:ISs:=
 (.cons (.set 2 (.ix (.kp false (.meth 0 (.var 0) (.cons (.var 1) .nil))) (.cst (.int 4))))
 (.cons (.ret (.bin .sub (.var 2) (.kp false (.bf .len (.cons (.kp false (.lc 4 [1] .vals (.cons (.kp false (.meth 1 (.fld 0 (.var 0)) (.cons (.cst (.str "journey")) .nil))) .nil) (.tp (.cons (.nm 1) (.cons (.nm 2) (.cons (.nm 3) .nil)))) (.cmp .inn (.var 4) (.var 3)) (.cst (.bl true)))) .nil)))))
 .nil))
noncomputable def xu:List FnE:=[zg,qa]
noncomputable def Qn:List D->Hb->R Res:=qs 3 (evSs xu xb)
noncomputable def xg:FnE:=⟨1,"free",0,30,2,4,Qn⟩
noncomputable def zZ:ISs:=
 (.cons (.each .any (.cons (.var 1) .nil) (.nm 3)
 (.cons (.iff (.and (.cons (.cmp .nin (.var 3) (.var 2)) (.cons (.cmp .lt (.kp false (.meth 0 (.var 0) (.cons (.var 3) .nil))) (.cst (.int 1))) .nil)))
 (.cons .no
 .nil)
 .nil)
 .nil))
 .nil)
noncomputable def jb:List FnE:=[xg]
noncomputable def vh:List D->Hb->R Res:=qs 4 (evSs jb zZ)
noncomputable def z7:FnE:=⟨1,"need_seats",0,43,3,5,vh⟩
noncomputable def zD:ISs:=
 (.cons (.expr (.meth 0 (.var 0) (.cons (.var 4) (.cons (.kp false (.lst .nil)) .nil))))
 (.cons (.iff (.cmp .ge (.kp false (.bf .len (.cons (.kp false (.meth 1 (.fld 0 (.var 0)) (.cons (.cst (.str "journey")) .nil))) .nil))) (.cst (.int 12)))
 (.cons .no
 .nil)
 .nil)
 (.cons (.set 5 (.kp false (.bf .tup (.cons (.var 4) .nil))))
 (.cons (.expr (.meth 2 (.fld 0 (.var 0)) (.cons (.tup (.cons (.cst (.str "journey")) (.cons (.var 1) (.cons (.var 2) (.cons (.var 3) (.cons (.var 5) .nil)))))) (.cons (.kp false (.lst (.cons (.tup (.cons (.cst (.str "journey")) (.cons (.var 1) (.cons (.tup (.cons (.var 2) (.cons (.var 3) (.cons (.var 5) .nil)))) .nil)))) .nil))) .nil))))
 .nil))))
noncomputable def zF:List FnE:=[z7,qa,qx]
noncomputable def jN:List D->Hb->R Res:=qs 6 (evSs zF zD)
noncomputable def zE:FnE:=⟨1,"enter_journey",0,44,5,6,jN⟩
noncomputable def jP:ISs:=
 (.cons (.expr (.meth 0 (.var 0) (.cons (.var 1) (.cons (.var 2) (.cons (.var 3) (.cons (.var 4) .nil))))))
 (.cons (.expr (.meth 1 (.var 0) (.cons (.var 4) .nil)))
 (.cons (.expr (.meth 2 (.var 0) (.cons (.var 1) (.cons (.var 2) (.cons (.var 3) (.cons (.var 4) .nil))))))
 .nil)))
noncomputable def jU:List FnE:=[zJ,z6,zE]
noncomputable def xC:List D->Hb->R Res:=qs 5 (evSs jU jP)
noncomputable def jR:FnE:=⟨1,"journey",0,14,5,8,xC⟩
noncomputable def qK:ISs:=
 (.cons (.set 2 (.kp false (.meth 0 (.fld 0 (.var 0)) (.cons (.cst (.str "journey")) .nil))))
 (.cons (.iff (.cmp .nin (.var 1) (.var 2))
 (.cons (.rse 11)
 .nil)
 .nil)
 (.cons (.ret (.val (.ix (.var 2) (.var 1))))
 .nil)))
noncomputable def qN:List FnE:=[qa]
noncomputable def qu:List D->Hb->R Res:=qs 3 (evSs qN qK)
noncomputable def e_Book_kept_journey:FnE:=⟨1,"kept_journey",0,47,2,2,qu⟩
noncomputable def jY:ISs:=
 (.cons (.ret (.val (.tup (.cons (.kp false (.bf .min (.cons (.var 0) (.cons (.var 1) .nil)))) (.cons (.kp false (.bf .max (.cons (.var 0) (.cons (.var 1) .nil)))) (.cons (.var 2) .nil))))))
 .nil)
noncomputable def xo:List FnE:=[]
noncomputable def j_:List D->Hb->R Res:=qs 3 (evSs xo jY)
noncomputable def qW:FnE:=⟨0,"share_key",0,0,3,1,j_⟩
noncomputable def qw:ISs:=
 (.cons (.set 4 (.ix (.kp false (.meth 0 (.var 0) (.cons (.var 1) .nil))) (.cst (.int 2))))
 (.cons (.set 5 (.ix (.kp false (.meth 0 (.var 0) (.cons (.var 2) .nil))) (.cst (.int 2))))
 (.cons (.expr (.meth 1 (.var 0) (.cons (.var 3) .nil)))
 (.cons (.iff (.or (.cons (.cmp .eq (.var 1) (.var 2)) (.cons (.cmp .nin (.var 3) (.var 4)) (.cons (.cmp .nin (.var 3) (.var 5)) .nil))))
 (.cons (.rse 12)
 .nil)
 .nil)
 (.cons (.set 6 (.kp false (.call 2 (.cons (.var 1) (.cons (.var 2) (.cons (.var 3) .nil))))))
 (.cons (.iff (.cmp .inn (.var 6) (.kp false (.meth 3 (.fld 0 (.var 0)) (.cons (.cst (.str "share")) .nil))))
 (.cons (.rse 16)
 .nil)
 .nil)
 (.cons (.expr (.meth 4 (.fld 0 (.var 0)) (.cons (.tup (.cons (.cst (.str "share")) (.cons (.var 1) (.cons (.var 2) (.cons (.var 3) .nil))))) (.cons (.kp false (.lst (.cons (.tup (.cons (.cst (.str "share")) (.cons (.var 6) (.cons (.cst (.bl true)) .nil)))) .nil))) .nil))))
 .nil)))))))
noncomputable def qy:List FnE:=[e_Book_kept_journey,qh,qW,qa,qx]
noncomputable def qg:List D->Hb->R Res:=qs 7 (evSs qy qw)
noncomputable def jE:FnE:=⟨1,"share",0,17,4,3,qg⟩
noncomputable def zq:ISs:=
 (.cons (.set 4 (.kp false (.call 0 (.cons (.var 1) (.cons (.var 2) (.cons (.var 3) .nil))))))
 (.cons (.iff (.cmp .nin (.var 4) (.kp false (.meth 1 (.fld 0 (.var 0)) (.cons (.cst (.str "share")) .nil))))
 (.cons (.rse 14)
 .nil)
 .nil)
 (.cons (.expr (.meth 2 (.fld 0 (.var 0)) (.cons (.tup (.cons (.cst (.str "unshare")) (.cons (.var 1) (.cons (.var 2) (.cons (.var 3) .nil))))) (.cons (.kp false (.lst (.cons (.tup (.cons (.cst (.str "share")) (.cons (.var 4) (.cons (.cst .non) .nil)))) .nil))) .nil))))
 .nil)))
noncomputable def zu:List FnE:=[qW,qa,qx]
noncomputable def qD:List D->Hb->R Res:=qs 5 (evSs zu zq)
noncomputable def zU:FnE:=⟨1,"unshare",0,18,4,3,qD⟩
noncomputable def kX:ISs:=
 (.cons (.iff (.cmp .eq (.ix (.var 1) (.cst (.int 0))) (.cst (.str "place")))
 (.cons (.ret (.meth 0 (.var 0) (.cons (.ix (.var 1) (.cst (.int 1))) (.cons (.ix (.var 1) (.cst (.int 2))) (.cons (.ix (.var 1) (.cst (.int 3))) .nil)))))
 .nil)
 .nil)
 (.cons (.iff (.cmp .eq (.ix (.var 1) (.cst (.int 0))) (.cst (.str "run")))
 (.cons (.ret (.meth 1 (.var 0) (.cons (.ix (.var 1) (.cst (.int 1))) (.cons (.ix (.var 1) (.cst (.int 2))) (.cons (.ix (.var 1) (.cst (.int 3))) (.cons (.ix (.var 1) (.cst (.int 4))) (.cons (.ix (.var 1) (.cst (.int 5))) .nil)))))))
 .nil)
 .nil)
 (.cons (.iff (.cmp .eq (.ix (.var 1) (.cst (.int 0))) (.cst (.str "news")))
 (.cons .no
 .nil)
 .nil)
 (.cons (.iff (.cmp .eq (.ix (.var 1) (.cst (.int 0))) (.cst (.str "journey")))
 (.cons (.ret (.meth 2 (.var 0) (.cons (.ix (.var 1) (.cst (.int 1))) (.cons (.ix (.var 1) (.cst (.int 2))) (.cons (.ix (.var 1) (.cst (.int 3))) (.cons (.kp false (.bf .list (.cons (.ix (.var 1) (.cst (.int 4))) .nil))) .nil))))))
 .nil)
 .nil)
 (.cons (.iff (.cmp .eq (.ix (.var 1) (.cst (.int 0))) (.cst (.str "turn")))
 (.cons .no
 .nil)
 .nil)
 (.cons (.iff (.cmp .eq (.ix (.var 1) (.cst (.int 0))) (.cst (.str "share")))
 (.cons (.ret (.meth 3 (.var 0) (.cons (.ix (.var 1) (.cst (.int 1))) (.cons (.ix (.var 1) (.cst (.int 2))) (.cons (.ix (.var 1) (.cst (.int 3))) .nil)))))
 .nil)
 .nil)
 (.cons (.iff (.cmp .eq (.ix (.var 1) (.cst (.int 0))) (.cst (.str "unshare")))
 (.cons (.ret (.meth 4 (.var 0) (.cons (.ix (.var 1) (.cst (.int 1))) (.cons (.ix (.var 1) (.cst (.int 2))) (.cons (.ix (.var 1) (.cst (.int 3))) .nil)))))
 .nil)
 .nil)
 (.cons (.iff (.cmp .eq (.ix (.var 1) (.cst (.int 0))) (.cst (.str "bed")))
 (.cons .no
 .nil)
 .nil)
 (.cons (.iff (.cmp .eq (.ix (.var 1) (.cst (.int 0))) (.cst (.str "unbed")))
 (.cons .no
 .nil)
 .nil)
 (.cons (.iff (.cmp .eq (.ix (.var 1) (.cst (.int 0))) (.cst (.str "mend")))
 (.cons .no
 .nil)
 .nil)
 (.cons .no
 .nil)))))))))))
noncomputable def wQ:List FnE:=[vC,xV,jR,jE,zU]
noncomputable def ka:List D->Hb->R Res:=qs 2 (evSs wQ kX)
noncomputable def y7:FnE:=⟨0,"_law_call",0,0,2,9,ka⟩
noncomputable def i_Lafter_two:ISs:=
 (.cons (.tupL (.cons (.nm 2) (.cons (.nm 3) (.cons (.nm 4) (.cons (.nm 5) (.cons (.nm 6) (.cons (.nm 7) .nil)))))) (.kp false (.lc 2 [] .any (.cons (.var 0) .nil) (.nm 1) .tt (.kp true (.alt (.bm .cpy (.var 1) .nil) (.bm .cpd (.var 1) .nil))))))
 (.cons (.iff (.cmp .eq (.ix (.var 1) (.cst (.int 0))) (.cst (.str "journey")))
 (.cons (.put (.var 5) (.ix (.var 1) (.cst (.int 1))) (.kp false (.sl (.var 1) (.cons (.cst (.int 2)) .nil) .nil)))
 (.cons (.put (.var 7) (.ix (.var 1) (.cst (.int 1))) (.kp false (.lst .nil)))
 (.cons (.ret (.val (.tup (.cons (.var 2) (.cons (.var 3) (.cons (.var 4) (.cons (.var 5) (.cons (.var 6) (.cons (.var 7) .nil)))))))))
 .nil)))
 .nil)
 (.cons (.iff (.cmp .eq (.ix (.var 1) (.cst (.int 0))) (.cst (.str "share")))
 (.cons (.ret (.val (.tup (.cons (.var 2) (.cons (.var 3) (.cons (.var 4) (.cons (.var 5) (.cons (.kp false (.bf .srt (.cons (.kp false (.bin .add (.var 6) (.kp false (.lst (.cons (.tup (.cons (.kp false (.bf .min (.cons (.kp false (.sl (.var 1) (.cons (.cst (.int 1)) .nil) (.cons (.cst (.int 3)) .nil))) .nil))) (.cons (.kp false (.bf .max (.cons (.kp false (.sl (.var 1) (.cons (.cst (.int 1)) .nil) (.cons (.cst (.int 3)) .nil))) .nil))) (.cons (.ix (.var 1) (.cst (.int 3))) .nil)))) .nil))))) .nil))) (.cons (.var 7) .nil)))))))))
 .nil)
 .nil)
 (.cons (.iff (.cmp .eq (.ix (.var 1) (.cst (.int 0))) (.cst (.str "unshare")))
 (.cons (.expr (.bm .rem (.var 6) (.cons (.tup (.cons (.kp false (.bf .min (.cons (.kp false (.sl (.var 1) (.cons (.cst (.int 1)) .nil) (.cons (.cst (.int 3)) .nil))) .nil))) (.cons (.kp false (.bf .max (.cons (.kp false (.sl (.var 1) (.cons (.cst (.int 1)) .nil) (.cons (.cst (.int 3)) .nil))) .nil))) (.cons (.ix (.var 1) (.cst (.int 3))) .nil)))) .nil)))
 (.cons (.ret (.val (.tup (.cons (.var 2) (.cons (.var 3) (.cons (.var 4) (.cons (.var 5) (.cons (.var 6) (.cons (.var 7) .nil)))))))))
 .nil))
 .nil)
 (.cons .no
 (.cons .no
 (.cons .no
 (.cons .no
 (.cons .no
 (.cons (.ret (.val (.tup (.cons (.var 2) (.cons (.var 3) (.cons (.var 4) (.cons (.var 5) (.cons (.var 6) (.cons (.var 7) .nil)))))))))
 .nil))))))))))
noncomputable def qj:List FnE:=[]
noncomputable def qR:List D->Hb->R Res:=qs 9 (evSs qj i_Lafter_two)
noncomputable def jC:FnE:=⟨0,"_law_after_two",0,0,2,1,qR⟩
noncomputable def vp:ISs:=
 (.cons (.tupL (.cons (.nm 2) (.cons (.nm 3) (.cons (.nm 4) (.cons (.nm 5) (.cons (.nm 6) (.cons (.nm 7) .nil)))))) (.kp false (.lc 2 [] .any (.cons (.var 0) .nil) (.nm 1) .tt (.kp true (.alt (.bm .cpy (.var 1) .nil) (.bm .cpd (.var 1) .nil))))))
 (.cons (.iff (.cmp .eq (.ix (.var 1) (.cst (.int 0))) (.cst (.str "place")))
 (.cons (.put (.var 2) (.ix (.var 1) (.cst (.int 1))) (.kp false (.sl (.var 1) (.cons (.cst (.int 2)) .nil) .nil)))
 .nil)
 (.cons (.iff (.cmp .eq (.ix (.var 1) (.cst (.int 0))) (.cst (.str "run")))
 (.cons (.expr (.bm .app (.var 3) (.cons (.kp false (.sl (.var 1) (.cons (.cst (.int 1)) .nil) .nil)) .nil)))
 .nil)
 (.cons .no
 .nil))
 .nil))
 (.cons (.ret (.val (.tup (.cons (.var 2) (.cons (.var 3) (.cons (.var 4) (.cons (.var 5) (.cons (.var 6) (.cons (.var 7) .nil)))))))))
 .nil)))
noncomputable def vF:List FnE:=[]
noncomputable def yu:List D->Hb->R Res:=qs 8 (evSs vF vp)
noncomputable def vA:FnE:=⟨0,"_law_after_one",0,0,2,1,yu⟩
noncomputable def i_Lword_two:ISs:=
 (.cons (.tup (.tp (.cons (.nm 2) (.cons (.nm 3) (.cons (.nm 4) (.cons (.nm 5) (.cons (.nm 6) (.cons (.nm 7) .nil))))))) (.var 0))
 (.cons (.iff (.cmp .eq (.ix (.var 1) (.cst (.int 0))) (.cst (.str "journey")))
 (.cons .no
 (.cons .no
 (.cons .no
 (.cons .no
 (.cons .no
 .nil)))))
 .nil)
 (.cons (.iff (.cmp .eq (.ix (.var 1) (.cst (.int 0))) (.cst (.str "unshare")))
 (.cons (.ret (.val (.ix (.kp false (.lst (.cons (.cst (.str "share")) (.cons (.cst (.str "let")) .nil)))) (.kp false (.bf .int (.cons (.kp false (.cmp .inn (.tup (.cons (.kp false (.bf .min (.cons (.kp false (.sl (.var 1) (.cons (.cst (.int 1)) .nil) (.cons (.cst (.int 3)) .nil))) .nil))) (.cons (.kp false (.bf .max (.cons (.kp false (.sl (.var 1) (.cons (.cst (.int 1)) .nil) (.cons (.cst (.int 3)) .nil))) .nil))) (.cons (.ix (.var 1) (.cst (.int 3))) .nil)))) (.var 6))) .nil))))))
 .nil)
 .nil)
 (.cons (.iff (.or (.cons (.cmp .nin (.ix (.var 1) (.cst (.int 1))) (.var 5)) (.cons (.and (.cons (.cmp .eq (.ix (.var 1) (.cst (.int 0))) (.cst (.str "share"))) (.cons (.cmp .nin (.ix (.var 1) (.cst (.int 2))) (.var 5)) .nil))) .nil)))
 (.cons (.ret (.val (.cst (.str "journey"))))
 .nil)
 .nil)
 (.cons (.iff (.cmp .eq (.ix (.var 1) (.cst (.int 0))) (.cst (.str "turn")))
 (.cons .no
 .nil)
 .nil)
 (.cons (.iff (.cmp .eq (.ix (.var 1) (.cst (.int 0))) (.cst (.str "drop")))
 (.cons .no
 .nil)
 .nil)
 (.cons (.iff (.or (.cons (.cmp .lt (.ix (.var 1) (.cst (.int 3))) (.cst (.int 0))) (.cons (.cmp .ge (.ix (.var 1) (.cst (.int 3))) (.kp false (.bf .len (.cons (.var 3) .nil)))) .nil)))
 (.cons (.ret (.val (.cst (.str "run"))))
 .nil)
 .nil)
 (.cons (.iff (.or (.cons (.cmp .eq (.ix (.var 1) (.cst (.int 1))) (.ix (.var 1) (.cst (.int 2)))) (.cons (.cmp .nin (.ix (.var 1) (.cst (.int 3))) (.ix (.ix (.var 5) (.ix (.var 1) (.cst (.int 1)))) (.cst (.int 2)))) (.cons (.cmp .nin (.ix (.var 1) (.cst (.int 3))) (.ix (.ix (.var 5) (.ix (.var 1) (.cst (.int 2)))) (.cst (.int 2)))) .nil))))
 (.cons (.ret (.val (.cst (.str "leg"))))
 .nil)
 .nil)
 (.cons (.ret (.val (.ix (.kp false (.lst (.cons (.cst (.str "let")) (.cons (.cst (.str "twice")) .nil)))) (.kp false (.bf .int (.cons (.kp false (.cmp .inn (.tup (.cons (.kp false (.bf .min (.cons (.kp false (.sl (.var 1) (.cons (.cst (.int 1)) .nil) (.cons (.cst (.int 3)) .nil))) .nil))) (.cons (.kp false (.bf .max (.cons (.kp false (.sl (.var 1) (.cons (.cst (.int 1)) .nil) (.cons (.cst (.int 3)) .nil))) .nil))) (.cons (.ix (.var 1) (.cst (.int 3))) .nil)))) (.var 6))) .nil))))))
 .nil)))))))))
noncomputable def qd:List FnE:=[]
noncomputable def zk:List D->Hb->R Res:=qs 9 (evSs qd i_Lword_two)
noncomputable def j5:FnE:=⟨0,"_law_word_two",0,0,2,1,zk⟩
noncomputable def q7:ISs:=
 (.cons (.iff (.val (.isiTL (.var 1)))
 (.cons (.iff (.or (.cons (.cmp .ne (.isi .tup (.var 1)) (.isi .tup (.var 0))) (.cons (.cmp .ne (.isi .list (.var 1)) (.isi .list (.var 0))) .nil)))
 (.cons (.ret (.val (.cst (.bl false))))
 .nil)
 .nil)
 (.cons (.iff (.cmp .ne (.kp false (.bf .len (.cons (.var 0) .nil))) (.kp false (.bf .len (.cons (.var 1) .nil))))
 (.cons (.ret (.val (.cst (.bl false))))
 .nil)
 .nil)
 (.cons (.each .rng (.cons (.kp false (.bf .len (.cons (.var 1) .nil))) .nil) (.nm 2)
 (.cons (.iff (.nt (.val (.kp false (.call 0 (.cons (.ix (.var 0) (.var 2)) (.cons (.ix (.var 1) (.var 2)) .nil))))))
 (.cons (.ret (.val (.cst (.bl false))))
 .nil)
 .nil)
 .nil))
 (.cons (.ret (.val (.cst (.bl true))))
 .nil))))
 .nil)
 (.cons (.iff (.cmp .is (.var 1) (.cst .non))
 (.cons (.ret (.cmp .is (.var 0) (.cst .non)))
 .nil)
 .nil)
 (.cons (.iff (.or (.cons (.val (.isi .len (.var 1))) (.cons (.val (.isi .len (.var 0))) .nil)))
 (.cons (.ret (.val (.andv (.cons (.isi .len (.var 1)) (.cons (.isi .len (.var 0)) (.cons (.kp false (.cmp .eq (.var 0) (.var 1))) .nil))))))
 .nil)
 .nil)
 (.cons (.iff (.val (.isi .int (.var 1)))
 (.cons (.ret (.val (.andv (.cons (.isi .int (.var 0)) (.cons (.kp false (.cmp .eq (.var 0) (.var 1))) .nil)))))
 .nil)
 .nil)
 (.cons (.ret (.val (.andv (.cons (.isi .str (.var 0)) (.cons (.kp false (.cmp .eq (.var 0) (.var 1))) .nil)))))
 .nil)))))
noncomputable def qT:Nat->List D->Hb->R Res
 |0=>fun _ _=>.bad
 |n+1=>qs 3 (evSs [⟨0,"_law_same",0,0,2,n,qT n⟩] q7)
noncomputable def qS(n:Nat):FnE:=⟨0,"_law_same",0,0,2,n,qT n⟩
noncomputable def y6:FnE:=⟨0,"_law_same",0,0,2,8,qT 8⟩
noncomputable def QT:ISs:=
 (.cons (.set 1 (.kp false (.lst (.cons (.isx 3 (.var 0)) (.cons (.isx 4 (.var 0)) (.cons (.isx 5 (.var 0)) (.cons (.isx 6 (.var 0)) .nil)))))))
 (.cons (.set 1 (.kp false (.bin .add (.var 1) (.kp false (.lst (.cons (.isx 7 (.var 0)) (.cons (.isx 8 (.var 0)) (.cons (.isx 9 (.var 0)) (.cons (.isx 10 (.var 0)) .nil)))))))))
 (.cons (.set 1 (.kp false (.bin .add (.var 1) (.kp false (.lst (.cons (.isx 11 (.var 0)) (.cons (.isx 12 (.var 0)) (.cons (.isx 13 (.var 0)) (.cons (.isx 14 (.var 0)) .nil)))))))))
 (.cons (.set 1 (.kp false (.bin .add (.var 1) (.kp false (.lst (.cons (.isx 15 (.var 0)) (.cons (.isx 16 (.var 0)) (.cons (.isx 17 (.var 0)) (.cons (.isx 18 (.var 0)) .nil)))))))))
 (.cons (.set 1 (.kp false (.bin .add (.var 1) (.kp false (.lst (.cons (.isx 19 (.var 0)) (.cons (.isx 20 (.var 0)) (.cons (.isx 21 (.var 0)) .nil))))))))
 (.cons (.set 2 (.kp false (.lst (.cons (.cst (.str "name")) (.cons (.cst (.str "clock")) (.cons (.cst (.str "times")) (.cons (.cst (.str "seats")) (.cons (.cst (.str "news")) (.cons (.cst (.str "taken")) (.cons (.cst (.str "place")) (.cons (.cst (.str "run")) (.cons (.cst (.str "journey")) (.cons (.cst (.str "leg")) .nil)))))))))))))
 (.cons (.set 2 (.kp false (.bin .add (.var 2) (.kp false (.lst (.cons (.cst (.str "bed")) (.cons (.cst (.str "share")) (.cons (.cst (.str "way")) (.cons (.cst (.str "twice")) (.cons (.cst (.str "astray")) (.cons (.cst (.str "full")) (.cons (.cst (.str "broken")) (.cons (.cst (.str "deed")) (.cons (.cst (.str "text")) .nil))))))))))))))
 (.cons (.ret (.bm .join (.cst (.str " ")) (.cons (.kp false (.lc 3 [] .zip (.cons (.var 2) (.cons (.var 1) .nil)) (.tp (.cons (.nm 1) (.cons (.nm 2) .nil))) (.val (.var 2)) (.var 1))) .nil)))
 .nil))))))))
noncomputable def Zd:List FnE:=[]
noncomputable def zQ:List D->Hb->R Res:=Kw 3 (evSs Zd QT)
noncomputable def Q1:FnE:=⟨4,"_law_kinds",0,0,1,1,zQ⟩
noncomputable def Zr:ISs:=
 (.cons (.set 2 (.cst (.str "none")))
 (.cons (.tryN 3
 (.cons (.set 2 (.kp false (.call 0 (.cons (.var 0) (.cons (.var 1) .nil)))))
 .nil)
 (.cons (.set 2 (.tup (.cons (.cst (.str "barred")) (.cons (.kp false (.callH 1 (.cons (.var 3) .nil))) .nil))))
 .nil))
 (.cons (.ret (.val (.var 2)))
 .nil)))
noncomputable def xq:List FnE:=[y7,Q1]
noncomputable def xw:List D->Hb->R Res:=qs 4 (evSs xq Zr)
noncomputable def WT:FnE:=⟨0,"_law_do",0,0,2,10,xw⟩
noncomputable def zG:ISs:=
 (.cons (.expr (.meth 0 (.var 0) (.cons (.var 1) .nil)))
 (.cons (.set 2 (.kp false (.meth 1 (.fld 0 (.var 0)) (.cons (.cst (.str "share")) .nil))))
 (.cons (.set 3 (.kp false (.lc 4 [1] .any (.cons (.var 2) .nil) (.tp (.cons (.nm 1) (.cons (.nm 2) (.cons (.nm 3) .nil)))) (.cmp .eq (.var 2) (.var 4)) (.tup (.cons (.var 1) (.cons (.var 3) .nil))))))
 (.cons (.set 4 (.kp false (.lc 4 [1] .any (.cons (.var 2) .nil) (.tp (.cons (.nm 1) (.cons (.nm 2) (.cons (.nm 3) .nil)))) (.cmp .eq (.var 1) (.var 4)) (.tup (.cons (.var 2) (.cons (.var 3) .nil))))))
 (.cons (.ret (.bf .srt (.cons (.kp false (.bin .add (.var 3) (.var 4))) .nil)))
 .nil)))))
noncomputable def qM:List FnE:=[e_Book_kept_journey,qa]
noncomputable def jf:List D->Hb->R Res:=qs 5 (evSs qM zG)
noncomputable def e_Book_shared:FnE:=⟨1,"shared",0,32,2,3,jf⟩
noncomputable def wy:ISs:=
 (.cons (.ret (.bf .srt (.cons (.kp false (.meth 0 (.fld 0 (.var 0)) (.cons (.cst (.str "place")) .nil))) .nil)))
 .nil)
noncomputable def wP:List FnE:=[qa]
noncomputable def wR:List D->Hb->R Res:=qs 1 (evSs wP wy)
noncomputable def wH:FnE:=⟨0,"places",0,0,1,2,wR⟩
noncomputable def ze:ISs:=
 (.cons (.expr (.meth 0 (.var 0) (.cons (.var 1) .nil)))
 (.cons (.ret (.val (.ix (.kp false (.meth 1 (.fld 0 (.var 0)) (.cons (.cst (.str "place")) .nil))) (.var 1))))
 .nil))
noncomputable def zj:List FnE:=[qI,qa]
noncomputable def zo:List D->Hb->R Res:=qs 2 (evSs zj ze)
noncomputable def zh:FnE:=⟨1,"kept_place",0,46,2,3,zo⟩
noncomputable def yW:ISs:=
 (.cons (.ret (.meth 0 (.var 0) (.cons (.var 1) .nil)))
 .nil)
noncomputable def Qi:List FnE:=[zh]
noncomputable def Qk:List D->Hb->R Res:=qs 2 (evSs Qi yW)
noncomputable def yZ:FnE:=⟨0,"clock",0,0,2,4,Qk⟩
noncomputable def kW:ISs:=
 (.cons (.ret (.bf .srt (.cons (.kp false (.meth 0 (.fld 0 (.var 0)) (.cons (.cst (.str "journey")) .nil))) .nil)))
 .nil)
noncomputable def k_:List FnE:=[qa]
noncomputable def vd:List D->Hb->R Res:=qs 1 (evSs k_ kW)
noncomputable def k7:FnE:=⟨0,"journeys",0,0,1,2,vd⟩
noncomputable def QS:ISs:=
 (.cons (.tup (.tp (.cons (.nm 2) (.cons (.nm 3) (.cons (.nm 4) .nil)))) (.kp false (.meth 0 (.var 0) (.cons (.var 1) .nil))))
 (.cons (.ret (.val (.tup (.cons (.var 2) (.cons (.var 3) .nil)))))
 .nil))
noncomputable def KI:List FnE:=[e_Book_kept_journey]
noncomputable def Xz:List D->Hb->R Res:=qs 5 (evSs KI QS)
noncomputable def Kb:FnE:=⟨0,"ends",0,0,2,3,Xz⟩
noncomputable def QR:ISs:=
 (.cons (.tup (.tp (.cons (.nm 2) (.cons (.nm 3) (.cons (.nm 4) .nil)))) (.kp false (.meth 0 (.var 0) (.cons (.var 1) .nil))))
 (.cons (.ret (.bf .list (.cons (.var 4) .nil)))
 .nil))
noncomputable def KF:List FnE:=[e_Book_kept_journey]
noncomputable def Xy:List D->Hb->R Res:=qs 5 (evSs KF QR)
noncomputable def J9:FnE:=⟨0,"legs",0,0,2,3,Xy⟩
noncomputable def j2:ISs:=
 (.cons (.expr (.meth 0 (.var 0) (.cons (.var 1) .nil)))
 (.cons (.ret (.bf .srt (.cons (.kp false (.meth 1 (.fld 0 (.var 0)) (.cons (.tup (.cons (.cst (.str "bed")) (.cons (.var 1) .nil))) .nil))) .nil)))
 .nil))
noncomputable def j9:List FnE:=[e_Book_kept_journey,qa]
noncomputable def kg:List D->Hb->R Res:=qs 2 (evSs j9 j2)
noncomputable def j6:FnE:=⟨1,"beds",0,33,2,3,kg⟩
noncomputable def wz:ISs:=
 (.cons (.set 2 (.kp false (.bf .dct (.cons (.kp false (.lc 2 [0] .any (.cons (.kp false (.call 0 (.cons (.var 0) .nil))) .nil) (.nm 1) .tt (.tup (.cons (.var 1) (.cons (.kp false (.call 1 (.cons (.var 2) (.cons (.var 1) .nil)))) .nil))))) .nil))))
 (.cons (.set 4 (.kp false (.lc 2 [0] .rng (.cons (.kp false (.meth 2 (.var 0) .nil)) .nil) (.nm 1) .tt (.kp false (.meth 3 (.var 2) (.cons (.var 1) .nil))))))
 (.cons (.set 5 (.kp true .dnew))
 (.cons (.each .rng (.cons (.kp false (.meth 2 (.var 0) .nil)) .nil) (.nm 3)
 (.cons (.each .any (.cons (.kp false (.meth 4 (.var 0) (.cons (.var 3) .nil))) .nil) (.tp (.cons (.nm 6) (.cons (.nm 7) (.cons (.nm 8) .nil))))
 (.cons .no
 .nil))
 .nil))
 (.cons (.set 9 (.kp true .dnew))
 (.cons (.set 10 (.kp true .dnew))
 (.cons (.set 11 (.kp false (.lst .nil)))
 (.cons (.each .any (.cons (.kp false (.call 5 (.cons (.var 0) .nil))) .nil) (.nm 1)
 (.cons (.put (.var 9) (.var 1) (.kp false (.bin .add (.kp false (.call 6 (.cons (.var 0) (.cons (.var 1) .nil)))) (.tup (.cons (.kp false (.bf .tup (.cons (.kp false (.call 7 (.cons (.var 0) (.cons (.var 1) .nil)))) .nil))) .nil)))))
 (.cons (.put (.var 10) (.var 1) (.kp false (.meth 8 (.var 0) (.cons (.var 1) .nil))))
 (.cons (.set 11 (.kp false (.bin .add (.var 11) (.kp false (.lc 3 [1] .any (.cons (.kp false (.meth 9 (.var 0) (.cons (.var 1) .nil))) .nil) (.tp (.cons (.nm 1) (.cons (.nm 2) .nil))) (.cmp .lt (.var 3) (.var 1)) (.tup (.cons (.var 3) (.cons (.var 1) (.cons (.var 2) .nil)))))))))
 .nil))))
 (.cons (.ret (.val (.tup (.cons (.var 2) (.cons (.var 4) (.cons (.var 5) (.cons (.var 9) (.cons (.var 11) (.cons (.var 10) .nil)))))))))
 .nil)))))))))
noncomputable def qi:List FnE:=[wH,yZ,je,zg,zt,k7,Kb,J9,j6,e_Book_shared]
noncomputable def Ql:List D->Hb->R Res:=qs 12 (evSs qi wz)
noncomputable def y0:FnE:=⟨0,"_law_seen",0,0,1,5,Ql⟩
noncomputable def i_law:ISs:=
 (.cons (.set 1 (.kp false (.call 0 (.cons (.var 0) (.cons (.cst (.int 0)) (.cons (.cst (.int 10)) .nil))))))
 (.cons (.set 2 (.kp false (.make 1)))
 (.cons (.set 3 (.kp false (.call 2 .nil)))
 (.cons (.set 4 (.kp true (.lst (.cons (.tup (.cons (.cst (.str "place")) (.cons (.cst (.str "a")) (.cons (.cst (.int 0)) (.cons (.cst (.int 0)) .nil))))) (.cons (.tup (.cons (.cst (.str "place")) (.cons (.cst (.str "b")) (.cons (.cst (.int 60)) (.cons (.cst (.int 20)) .nil))))) .nil)))))
 (.cons (.each .rng (.cons (.cst (.int 3)) .nil) (.nm 5)
 (.cons (.expr (.bm .app (.var 4) (.cons (.tup (.cons (.cst (.str "run")) (.cons (.ix (.cst (.str "ab")) (.kp false (.bin .mod (.var 5) (.cst (.int 2))))) (.cons (.ix (.cst (.str "ab")) (.kp false (.bin .sub (.cst (.int 1)) (.kp false (.bin .mod (.var 5) (.cst (.int 2))))))) (.cons (.kp false (.bin .mul (.cst (.int 500)) (.var 5))) (.cons (.kp false (.bin .add (.kp false (.bin .mul (.cst (.int 500)) (.var 5))) (.cst (.int 100)))) (.cons (.cst (.int 3)) .nil))))))) .nil)))
 .nil))
 (.cons (.expr (.bm .app (.var 4) (.cons (.tup (.cons (.cst (.str "journey")) (.cons (.cst (.str "t")) (.cons (.cst (.str "a")) (.cons (.cst (.str "b")) (.cons (.tup (.cons (.cst (.int 0)) (.cons (.cst (.int 1)) (.cons (.cst (.int 2)) .nil)))) .nil)))))) .nil)))
 (.cons (.expr (.bm .app (.var 4) (.cons (.tup (.cons (.cst (.str "journey")) (.cons (.cst (.str "twelvesigns9")) (.cons (.cst (.str "a")) (.cons (.cst (.str "b")) (.cons (.ix (.kp false (.lst (.cons (.tup (.cons (.cst (.int 0)) (.cons (.cst (.int 1)) (.cons (.cst (.int 2)) .nil)))) (.cons (.tup (.cons (.cst (.int 0)) .nil)) (.cons (.tup (.cons (.cst (.int 2)) .nil)) .nil))))) (.kp false (.bin .mod (.ix (.var 1) (.cst (.int 0))) (.cst (.int 3))))) .nil)))))) .nil)))
 (.cons (.expr (.bm .app (.var 4) (.cons (.tup (.cons (.cst (.str "journey")) (.cons (.cst (.str "m")) (.cons (.cst (.str "a")) (.cons (.cst (.str "b")) (.cons (.ix (.kp false (.lst (.cons (.tup (.cons (.cst (.int 0)) (.cons (.cst (.int 1)) (.cons (.cst (.int 2)) .nil)))) (.cons (.tup (.cons (.cst (.int 2)) .nil)) .nil)))) (.kp false (.bin .mod (.ix (.var 1) (.cst (.int 1))) (.cst (.int 2))))) .nil)))))) .nil)))
 (.cons (.each .any (.cons (.var 4) .nil) (.nm 6)
 (.cons (.expr (.call 3 (.cons (.var 2) (.cons (.var 6) .nil))))
 (.cons (.iff (.cmp .eq (.ix (.var 6) (.cst (.int 0))) (.cst (.str "journey")))
 (.cons (.set 3 (.kp false (.call 4 (.cons (.var 3) (.cons (.var 6) .nil)))))
 .nil)
 (.cons (.set 3 (.kp false (.call 5 (.cons (.var 3) (.cons (.var 6) .nil)))))
 .nil))
 .nil)))
 (.cons (.set 7 (.kp false (.lst (.cons (.cst (.str "t")) (.cons (.cst (.str "twelvesigns9")) (.cons (.cst (.str "m")) (.cons (.cst (.str "t")) (.cons (.cst (.str "twelvesigns9")) (.cons (.cst (.str "m")) (.cons (.cst (.str "nobody")) .nil))))))))))
 (.cons (.each .rng (.cons (.kp false (.bin .mod (.ix (.var 1) (.cst (.int 2))) (.cst (.int 31)))) .nil) (.nm 5)
 (.cons (.set 8 (.kp false (.call 0 (.cons (.var 0) (.cons (.kp false (.bin .add (.cst (.int 1)) (.var 5))) (.cons (.cst (.int 5)) .nil))))))
 (.cons (.set 9 (.ix (.kp false (.lst (.cons (.cst (.int 0)) (.cons (.cst (.int 1)) (.cons (.cst (.int 2)) (.cons (.cst (.int 0)) (.cons (.cst (.int 1)) (.cons (.cst (.int 2)) (.cons (.cst (.int 3)) (.cons (.kp false (.bin .sub (.cst (.int 0)) (.cst (.int 1)))) .nil)))))))))) (.kp false (.bin .mod (.ix (.var 8) (.cst (.int 3))) (.cst (.int 8))))))
 (.cons (.set 6 (.tup (.cons (.ix (.kp false (.lst (.cons (.cst (.str "share")) (.cons (.cst (.str "share")) (.cons (.cst (.str "unshare")) .nil))))) (.kp false (.bin .mod (.ix (.var 8) (.cst (.int 0))) (.cst (.int 3))))) (.cons (.ix (.var 7) (.kp false (.bin .mod (.ix (.var 8) (.cst (.int 1))) (.cst (.int 7))))) (.cons (.ix (.var 7) (.kp false (.bin .mod (.ix (.var 8) (.cst (.int 2))) (.cst (.int 7))))) (.cons (.var 9) .nil))))))
 (.cons (.set 10 (.kp false (.call 6 (.cons (.var 3) (.cons (.var 6) .nil)))))
 (.cons (.set 11 (.tup (.cons (.cst (.str "barred")) (.cons (.var 10) .nil))))
 (.cons (.iff (.cmp .eq (.var 10) (.cst (.str "let")))
 (.cons (.set 11 (.cst .non))
 (.cons (.set 3 (.kp false (.call 4 (.cons (.var 3) (.cons (.var 6) .nil)))))
 .nil))
 .nil)
 (.cons (.iff (.nt (.val (.kp false (.call 7 (.cons (.kp false (.call 8 (.cons (.var 2) (.cons (.var 6) .nil)))) (.cons (.var 11) .nil))))))
 (.cons (.ret (.val (.cst (.bl false))))
 .nil)
 .nil)
 (.cons (.each .any (.cons (.kp false (.sl (.var 7) .nil (.cons (.cst (.int 3)) .nil))) .nil) (.nm 12)
 (.cons (.set 13 (.kp true (.meth 9 (.var 2) (.cons (.var 12) .nil))))
 (.cons (.set 14 (.kp false (.lc 2 [12] .any (.cons (.ix (.var 3) (.cst (.int 4))) .nil) (.nm 1) (.cmp .inn (.var 2) (.kp false (.sl (.var 1) .nil (.cons (.cst (.int 2)) .nil)))) (.tup (.cons (.ix (.var 1) (.kp false (.bin .sub (.cst (.int 1)) (.kp false (.bm .tix (.var 1) (.cons (.var 2) .nil)))))) (.cons (.ix (.var 1) (.cst (.int 2))) .nil))))))
 (.cons (.iff (.nt (.val (.kp false (.call 7 (.cons (.var 13) (.cons (.kp false (.bf .srt (.cons (.var 14) .nil))) .nil))))))
 (.cons (.ret (.val (.cst (.bl false))))
 .nil)
 .nil)
 (.cons (.expr (.bm .app (.var 13) (.cons (.cst (.int 0)) .nil)))
 .nil)))))
 .nil)))))))))
 (.cons (.ret (.cmp .eq (.kp false (.call 10 (.cons (.var 2) .nil))) (.var 3)))
 .nil))))))))))))
noncomputable def ql:List FnE:=[wI,jG,Q2,y7,jC,vA,j5,y6,WT,e_Book_shared,y0]
noncomputable def Yh:List D->Hb->R Res:=qs 15 (evSs ql i_law)
noncomputable def qdh:FnE:=⟨0,"law",0,0,1,11,Yh⟩
end E
set_option maxHeartbeats 0
namespace E
open PySem PySem.W PySem.Spec PyProof PyProof.Rows L2
noncomputable def hA:iG:=[1,3,44,45,57,58,69,70,81,82,93,94,105,106,117,118,129,130,141,142,153,154,165,166,177,178,189,190,201,202,213,214,225,226,237,238,253,254,256,257,268,269,284,285,287,288,303,304,310,311,317,318,322,323,353,354,371,372,378,379,385,386,428,432,433,439,440,446,447,460,461,467,468,474,475,488,489,507,508,514,515,561,562,568,569,575,576,580,581,592,593,597,598,602,603,609,610,640,641,647,648,654,655,659,660,666,667,673,674,680,681,694,695,701,702,720,721,725,726,740,741,751,752,758,759,765,766,772,773,779,780,786,787,793,794,798,799,853,854,860,861,874,875,879,880,884,885,889,890,896,897,901,902]
noncomputable def hP:Program:=PySem.Challenge.pw_wayhold_k18_shared_runs
noncomputable def nm0:iK:=(["ledger","tables","done","undone","table","put","enter","take_back","do_again","forget","copied","place","run","news","journey","turn","drop","share","unshare","bed","unbed","settle","mend","undo","redo","many","told","goes","reports","known"]:iK)++(["free","spans","shared","beds","wanted","mended","log","twin","need_place","need_run","need_new_way","need_way","need_whole","need_seats","enter_journey","journey_as_read","kept_place","kept_journey","changes_to_legs","changes_to_shares","ride_by","rides_now","goes_on","rides_open_to"]:iK)
noncomputable def Γ0:Gs:=⟨[("DAY",.int 1440),("NUMBER",.int 0),("START",.int 1),("GOAL",.int 2),("LEAVES",.int 3),("COMES",.int 4),("NUMBERS",.int 4),("LONGEST_NAME",.int 12),("MOST_PLACES",.int 12),("MOST_RUNS",.int 40),("MOST_JOURNEYS",.int 12),("FARTHEST_AHEAD",.int 900),("LONGEST_SPAN",.int 1000),("FARTHEST_MOMENT",.int 40000),("SIGNS",.str "abcdefghijklmnopqrstuvwxyz0123456789")],["len","int","str","divmod","list","tuple","all","max","min","sorted","range","enumerate","zip","isinstance","bool","dict"],nm0,[("WayError",2),("BadName",3),("BadClock",4),("BadTimes",5),("BadSeats",6),("BadNews",7),("Taken",8),("NoPlace",9),("NoRun",10),("NoJourney",11),("NoLeg",12),("NoBed",13),("NoShare",14),("NoWay",15),("Twice",16),("Astray",17),("Full",18),("NoDeed",20)],[("WORDS",[("slip",20000),("gone",0),("on",0)])],[],[],[("BadName",3),("BadClock",4),("BadTimes",5),("BadSeats",6),("BadNews",7),("Taken",8),("NoPlace",9),("NoRun",10),("NoJourney",11),("NoLeg",12),("NoBed",13),("NoShare",14),("NoWay",15),("Twice",16),("Astray",17),("Full",18),("Broken",19),("NoDeed",20),("BadText",21)]⟩
noncomputable def hRs:List Row:=([⟨68,none,"_law_draws",787,786⟩,⟨27,some 0,"Ledger.__init__",304,303⟩,⟨60,some 0,"Book.__init__",461,460⟩,⟨79,none,"_law_begin",854,853⟩,⟨27,some 1,"Ledger.table",311,310⟩,⟨57,none,"good_name",433,432⟩,⟨27,some 2,"Ledger.put",318,317⟩,⟨27,some 3,"Ledger.enter",323,322⟩,⟨60,some 1,"Book.place",468,467⟩,⟨60,some 28,"Book.need_place",641,640⟩,⟨60,some 15,"Book.many",562,561⟩,⟨60,some 2,"Book.run",475,474⟩,⟨60,some 29,"Book.need_run",648,647⟩,⟨60,some 16,"Book.told",569,568⟩,⟨58,none,"leads",440,439⟩,⟨60,some 31,"Book.need_way",660,659⟩,⟨60,some 30,"Book.need_new_way",655,654⟩,⟨35,none,"spare_between",372,371⟩,⟨36,none,"hangs",379,378⟩,⟨37,none,"first_fault",386,385⟩,⟨60,some 40,"Book.ride_by",721,720⟩,⟨60,some 18,"Book.reports",581,580⟩,⟨60,some 17,"Book.goes",576,575⟩,⟨60,some 41,"Book.rides_now",726,725⟩,⟨60,some 21,"Book.spans",598,597⟩,⟨60,some 32,"Book.need_whole",667,666⟩,⟨60,some 20,"Book.free",593,592⟩,⟨60,some 33,"Book.need_seats",674,673⟩,⟨60,some 34,"Book.enter_journey",681,680⟩,⟨60,some 4,"Book.journey",489,488⟩]:List Row)++([⟨60,some 37,"Book.kept_journey",702,701⟩,⟨59,none,"share_key",447,446⟩,⟨60,some 7,"Book.share",508,507⟩,⟨60,some 8,"Book.unshare",515,514⟩,⟨80,none,"_law_call",861,860⟩,⟨85,none,"_law_after_two",890,889⟩,⟨84,none,"_law_after_one",885,884⟩,⟨86,none,"_law_word_two",897,896⟩,⟨69,none,"_law_same",794,793⟩,⟨70,none,"_law_kinds",799,798⟩,⟨82,none,"_law_do",875,874⟩,⟨60,some 22,"Book.shared",603,602⟩,⟨62,none,"places",752,751⟩,⟨60,some 36,"Book.kept_place",695,694⟩,⟨64,none,"clock",766,765⟩,⟨63,none,"journeys",759,758⟩,⟨65,none,"ends",773,772⟩,⟨66,none,"legs",780,779⟩,⟨60,some 23,"Book.beds",610,609⟩,⟨83,none,"_law_seen",880,879⟩,⟨87,none,"law",902,901⟩,⟨23,some 0,"Broken.__init__",254,253⟩,⟨25,some 0,"BadText.__init__",285,284⟩]:List Row)
noncomputable def hFs:List Fct:=([.sys,.root 45,.cls 741,.cls 354,.na 741 "ledger",.na 354 "tables",.na 354 "done",.na 354 "undone",.mk 354 304,.mk 741 461,.me 354 "table" 311,.me 354 "put" 318,.me 354 "enter" 323,.me 741 "place" 468,.me 741 "need_place" 641,.me 741 "many" 562,.me 741 "run" 475,.me 741 "need_run" 648,.me 741 "told" 569,.me 741 "need_way" 660,.me 741 "need_new_way" 655,.me 741 "ride_by" 721,.me 741 "reports" 581,.me 741 "goes" 576,.me 741 "rides_now" 726,.me 741 "spans" 598,.me 741 "need_whole" 667,.me 741 "free" 593,.me 741 "need_seats" 674,.me 741 "enter_journey" 681]:List Fct)++([.me 741 "journey" 489,.me 741 "kept_journey" 702,.me 741 "share" 508,.me 741 "unshare" 515,.me 741 "shared" 603,.me 741 "kept_place" 695,.me 741 "beds" 610,.sub 58 45,.sub 70 45,.sub 82 45,.sub 94 45,.sub 106 45,.sub 118 45,.sub 130 45,.sub 142 45,.sub 154 45,.sub 166 45,.sub 178 45,.sub 190 45,.sub 202 45,.sub 214 45,.sub 226 45,.sub 238 45,.sub 269 45,.kds [58,70,82,94,106,118,130,142,154,166,178,190,202,214,226,238,257,269,288],.brk 257 45 254,.brk 288 45 285]:List Fct)
noncomputable def hNv:List (Str×Nv):=([("len",.no),("int",.no),("str",.no),("divmod",.no),("list",.no),("tuple",.no),("all",.no),("max",.no),("min",.no),("sorted",.no),("range",.no),("enumerate",.no),("zip",.no),("isinstance",.no),("bool",.no),("dict",.no),("DAY",.int 1440 196),("NUMBER",.int 0 658),("START",.int 1 660),("GOAL",.int 2 662),("LEAVES",.int 3 664),("COMES",.int 4 666),("NUMBERS",.int 4 732),("LONGEST_NAME",.int 12 772),("MOST_PLACES",.int 12 774),("MOST_RUNS",.int 40 776),("MOST_JOURNEYS",.int 12 778),("FARTHEST_AHEAD",.int 900 780),("LONGEST_SPAN",.int 1000 782),("FARTHEST_MOMENT",.int 40000 784)]:List (Str×Nv))++([("SIGNS",.str "abcdefghijklmnopqrstuvwxyz0123456789" 770),("Book",.ref 741),("Ledger",.ref 354),("WayError",.ref 45),("BadName",.ref 58),("BadClock",.ref 70),("BadTimes",.ref 82),("BadSeats",.ref 94),("BadNews",.ref 106),("Taken",.ref 118),("NoPlace",.ref 130),("NoRun",.ref 142),("NoJourney",.ref 154),("NoLeg",.ref 166),("NoBed",.ref 178),("NoShare",.ref 190),("NoWay",.ref 202),("Twice",.ref 214),("Astray",.ref 226),("Full",.ref 238),("Broken",.ref 257),("NoDeed",.ref 269),("BadText",.ref 288),("WORDS",.ref 428),("_law_draws",.ref 787),("_law_begin",.ref 854),("good_name",.ref 433),("leads",.ref 440),("spare_between",.ref 372),("hangs",.ref 379)]:List (Str×Nv))++([("first_fault",.ref 386),("share_key",.ref 447),("_law_call",.ref 861),("_law_after_two",.ref 890),("_law_after_one",.ref 885),("_law_word_two",.ref 897),("_law_same",.ref 794),("_law_kinds",.ref 799),("_law_do",.ref 875),("places",.ref 752),("clock",.ref 766),("journeys",.ref 759),("ends",.ref 773),("legs",.ref 780),("_law_seen",.ref 880),("law",.ref 902)]:List (Str×Nv))
noncomputable def hL:Lw:=⟨hP,hRs,[],hFs,hNv,[(428,[("slip",20000),("gone",0),("on",0)])],[741,354,45,58,70,82,94,106,118,130,142,154,166,178,190,202,214,226,238,257,269,288],45,[],Γ0⟩
noncomputable def hT:iG:=[]
noncomputable def hK:Hook:=uA hA hL.obs hL.val hT rfl
noncomputable def hQ:Program:={ hP with main:={ hP.main with body:=[XF hP 87] } }
noncomputable def hB:iK:=hP.boundNames
noncomputable def hX(s:Shared):Bool:=xlAt hQ [] s && recOk (RowW.records PySem.Challenge.rw_wayhold_k18_shared_runs.row.toRowW) s
noncomputable def hOs(s:Shared):ObT×List (Option Obj):=(hL.obs (Zt hA s.heap),hT.map s.heap.get?)
noncomputable def hEs(w:World):ObT×List (Option Obj):=(hL.val w,hT.map fun _=>some (tabObj #[]))
noncomputable def hTq:{q:Program // PySem.Challenge.pw_wayhold_k18_shared_runs=q}:=⟨_,by conv=>lhs;reduce⟩
noncomputable def _root_.PySem.W.Fast.tw987067021788073066:Program:=hTq.1
theorem _root_.PySem.W.Fast.te987067021788073066:PySem.Challenge.pw_wayhold_k18_shared_runs=PySem.W.Fast.tw987067021788073066:=hTq.2
noncomputable def hR(b:Bool)(w:World)(os:OsState):=yz hP hQ hB hX hOs 20000 (w.withFollow "special-get-raises" b) os
noncomputable def hG(w:World):=some (true,openGood hQ hB,hEs w)
theorem uD:(fun(_:type_of% hR)(_:type_of% hG)=>true) hR hG=true:=by k_qdec
theorem qcs:∀w os,hR false w os=hG (w.withFollow "special-get-raises" false):=fun w os=>by
 have _:=uD;rw[PySem.W.Fast.te237325767969161598,PySem.W.Fast.te8251116115893111338]
 kernel_rfl
theorem qcr:∀w os,hR true w os=hG (w.withFollow "special-get-raises" true):=fun w os=>by
 have _:=uD;rw[PySem.W.Fast.te237325767969161598,PySem.W.Fast.te8251116115893111338]
 kernel_rfl
theorem qct:LeftO hP hQ hB hX hK.obs hK.val 20000:=yd (by kernel_rfl) (by decide) (fun s=>by kernel_rfl) fun w=>byRow2 "special-get-raises" (P:=fun w=>∀os,yz hP hQ hB hX hK.obs 20000 w os=some (true,openGood hQ hB,hK.val w)) qcs qcr w
end E
namespace E
open PySem PySem.Spec PyProof PyProof.Rows L2
section
variable{α β:Type}{a:α}{b:Hb}{x:Nat}{k:α->Hb->R β}{ko:α->Hb->Out}{ks:Sc->Hb->Out}{s:Sc}{d:D}{o:Ob}{l:List D}{r:List (KK×D)}{T:List FnE}{fs:List EvD}{f:EvD}{re:Res}
@[simp] theorem R.bind_ok:(R.ok a b).bind k=k a b:=rfl
@[simp] theorem R.bind_exc:(R.exc x b:R α).bind k=.exc x b:=rfl
@[simp] theorem R.bind_bad:(R.bad:R α).bind k=.bad:=rfl
@[simp] theorem Kc:eO (R.ok a b) s ko=ko a b:=rfl
@[simp] theorem qem:eO (R.exc x b:R α) s ko=.ex x s b:=rfl
@[simp] theorem qen:eO (R.bad:R α) s ko=.bad:=rfl
@[simp] theorem xz:sq (.nx s b) ks=ks s b:=rfl
@[simp] theorem qev:sq (.rt re b) ks=.rt re b:=rfl
@[simp] theorem qew:sq (.ex x s b) ks=.ex x s b:=rfl
@[simp] theorem qed:sq .bad ks=.bad:=rfl
@[simp] theorem QC:opt (some a) b=.ok a b:=rfl
@[simp] theorem qbe:opt (none:Option α) b=.bad:=rfl
@[simp] theorem qb3:outR (.rt re b)=.ok re b:=rfl
@[simp] theorem qb4:outR (.nx s b)=.ok (.v .non) b:=rfl
@[simp] theorem qb5:outR (.ex x s b)=.exc x b:=rfl
@[simp] theorem qbd:outR .bad=.bad:=rfl
@[simp] theorem qbf:opR (some (re,b))=.ok re b:=rfl
@[simp] theorem qbg:opR none=.bad:=rfl
@[simp] theorem qbi:nxB s (some b)=.nx s b:=rfl
@[simp] theorem qbh:nxO (some s) b=.nx s b:=rfl
@[simp] theorem kp_v{m:Bool}:kp m (.ok (.v d) b)=.ok d b:=rfl
@[simp] theorem qee{m:Bool}:kp m (.exc x b)=.exc x b:=rfl
@[simp] theorem qef{m:Bool}:kp m .bad=.bad:=rfl
@[simp] theorem qex:kp true (.ok (.n (.lst false l)) b)=.ok (.obj b.length) (b++[.lst false l]):=rfl
@[simp] theorem qey:kp true (.ok (.n (.dic false r)) b)=.ok (.obj b.length) (b++[.dic false r]):=rfl
@[simp] theorem qez:kp false (.ok (.n (.lst false l)) b)=.ok (.lst l) b:=rfl
@[simp] theorem qe0:kp false (.ok (.n (.dic false r)) b)=.ok (.dic r) b:=rfl
@[simp] theorem qo:evL T []=[]:=rfl
@[simp] theorem qc{v:IV}{as:IA}:evL T (v::as)=v.ev T::evL T as:=rfl
@[simp] theorem qbj:evTs T []=[]:=rfl
@[simp] theorem uS{v:IT}{as:ITs}:evTs T (v::as)=v.ev T::evTs T as:=rfl
@[simp] theorem qE:seqA [] s b=.ok [] b:=rfl
@[simp] theorem qb:seqA (f::fs) s b=(f s b).bind fun d b=>(seqA fs s b).bind fun l b=>.ok (d::l) b:=rfl
@[simp] theorem qbk:evSs T [] s b=.nx s b:=rfl
@[simp] theorem qm{i:IS}{is:ISs}:evSs T (i::is) s b=sq (i.ev T s b) (evSs T is):=rfl
@[simp] theorem qc6:evO [] s b=.ok none b:=rfl
@[simp] theorem qbl:evO (f::fs) s b=(f s b).bind asI:=rfl
@[simp] theorem qd6{i:Int}:asI (.int i) b=.ok (some i) b:=rfl
variable{i j n m C:Nat}{u v w z:IV}{as:IA}{e:IE}{e2:IE}{t:IT}{ts:ITs}{c:C0}{mb:Bool}{ops:List Cop}
@[simp] theorem kH:(IV.var i).ev T s b=opt (s[i]?).join b:=rfl
@[simp] theorem Xh:(IV.cst c).ev T s b=.ok c.d b:=rfl
@[simp] theorem qeb:C0.non.d=.non:=rfl
@[simp] theorem qeu{q:Bool}:(C0.bl q).d=.bl q:=rfl
@[simp] theorem qec{q:Int}:(C0.int q).d=.int q:=rfl
@[simp] theorem qea{q:Str}:(C0.str q).d=.str q:=rfl
@[simp] theorem VM:(IV.andv [v]).ev T s b=v.ev T s b:=rfl
@[simp] theorem VL{v2:IV}:(IV.andv (v::v2::as)).ev T s b=andV (v.ev T) ((IV.andv (v2::as)).ev T) s b:=rfl
@[simp] theorem qeh:(IV.neg v).ev T s b=kp false ((v.ev T s b).bind fun d b=>opR (negG [d] b)):=rfl
@[simp] theorem qc4:(IV.ix v w).ev T s b=(v.ev T s b).bind fun x b=>(w.ev T s b).bind fun y b=>opt (ixD b x y) b:=rfl
@[simp] theorem vy:(IV.tup as).ev T s b=tupF (seqA (evL T as)) s b:=rfl
@[simp] theorem qej:(IV.fld i v).ev T s b=(v.ev T s b).bind fun d b=>opt (fldD flds i b d) b:=rfl
@[simp] theorem qek:(IV.chn v ops as).ev T s b=(v.ev T s b).bind fun x b=>(E.chn s (zipC ops (evL T as)) x b).bind fun k b=>.ok (.bl k) b:=rfl
@[simp] theorem uR{t:Bf}:(IV.isi t v).ev T s b=(v.ev T s b).bind fun d b=>opt (E.isi (isiS · t.ty) b d) b:=rfl
@[simp] theorem VJ:(IV.isiTL v).ev T s b=(v.ev T s b).bind fun d b=>opt (E.isi (fun n=>isiS n "tuple" || isiS n "list") b d) b:=rfl
@[simp] theorem qei:(IV.isx j v).ev T s b=(v.ev T s b).bind fun d b=>opt (isX j d) b:=rfl
@[simp] theorem qO:(IV.kp mb e).ev T s b=kp mb (e.ev T s b):=rfl
@[simp] theorem uO:(IE.val v).ev T s b=(v.ev T s b).bind fun d b=>.ok (.v d) b:=rfl
@[simp] theorem QZ{o:Bop}:(IE.bin o v w).ev T s b=(v.ev T s b).bind fun x b=>(w.ev T s b).bind fun y b=>opR (o.g [x,y] b):=rfl
@[simp] theorem JY{o:Cop}:(IE.cmp o v w).ev T s b=(v.ev T s b).bind fun x b=>(w.ev T s b).bind fun y b=>opR (o.g [x,y] b):=rfl
@[simp] theorem qc0{lo hi:IA}:(IE.sl v lo hi).ev T s b=(v.ev T s b).bind fun x b=>(evO (evL T lo) s b).bind fun l b=>(evO (evL T hi) s b).bind fun h b=>opt (slD b l h x) b:=rfl
@[simp] theorem uQ:(IE.lst as).ev T s b=lstF (seqA (evL T as)) s b:=rfl
@[simp] theorem qc5:IE.dnew.ev T s b=.ok (.n (.dic false [])) b:=rfl
@[simp] theorem jz:(IE.call j as).ev T s b=xj T[j]? (evL T as) s b:=rfl
@[simp] theorem VK:(IE.callH j as).ev T s b=xj T[j]? (evL T as) s b:=rfl
@[simp] theorem xe:(IE.meth j v as).ev T s b=Jg T[j]? (v.ev T) (evL T as) s b:=rfl
@[simp] theorem qc3:(IE.make j).ev T s b=Vj T[j]? b:=rfl
@[simp] theorem wD{f:Bf}:(IE.bf f as).ev T s b=(seqA (evL T as) s b).bind fun l b=>opR (f.g l b):=rfl
@[simp] theorem Zu{m:Bm}:(IE.bm m v as).ev T s b=bmN m.T m.g (v.ev T) (seqA (evL T as)) s b:=rfl
@[simp] theorem z9{fe:FnE}:xj (some fe) fs s b=(seqA fs s b).bind (cl fe.n fe.F):=rfl
@[simp] theorem zW{fe:FnE}:Jg (some fe) f fs s b=(f s b).bind fun d b=>if recv fe.C fe.j b d=true then(seqA fs s b).bind fun l b=>cl fe.n fe.F (d::l) b else .bad:=rfl
@[simp] theorem Yj{fe:FnE}:Vj (some fe) b=Zo fe.C fe.n fe.F b:=rfl
@[simp] theorem xX{Ty:Ty}{g:G}{h:Sc->Hb->R (List D)}:bmN Ty g f h s b=(f s b).bind fun d b=>if isTy b Ty d=true then(h s b).bind fun l b=>opR (g (d::l) b)else .bad:=rfl
@[simp] theorem qfb:IT.tt.ev T s b=.ok true b:=rfl
@[simp] theorem JU:(IT.val v).ev T s b=(v.ev T s b).bind fun d b=>opt (truD b d) b:=rfl
@[simp] theorem WL:(IT.nt t).ev T s b=(t.ev T s b).bind fun k b=>.ok (!k) b:=rfl
@[simp] theorem yY:(IT.and [t]).ev T s b=t.ev T s b:=rfl
@[simp] theorem yX{t2:IT}:(IT.and (t::t2::ts)).ev T s b=andT (t.ev T) ((IT.and (t2::ts)).ev T) s b:=rfl
@[simp] theorem xU:(IT.or [t]).ev T s b=t.ev T s b:=rfl
@[simp] theorem vz{t2:IT}:(IT.or (t::t2::ts)).ev T s b=orT (t.ev T) ((IT.or (t2::ts)).ev T) s b:=rfl
@[simp] theorem WJ{o:Cop}:(IT.cmp o v w).ev T s b=(v.ev T s b).bind fun x b=>(w.ev T s b).bind fun y b=>(cmpB o.g x y b).bind .ok:=rfl
@[simp] theorem qcz:(IT.chn v ops as).ev T s b=(v.ev T s b).bind fun x b=>E.chn s (zipC ops (evL T as)) x b:=rfl
variable{a1 a2:ISs}{iv:IV}{tg:Tg}{ik:Ik}
@[simp] theorem JX:(IS.expr e).ev T s b=eO (e.ev T s b) s fun _ b=>.nx s b:=rfl
@[simp] theorem JV:(IS.ret e).ev T s b=eO (e.ev T s b) s .rt:=rfl
@[simp] theorem JW:(IS.iff t a1 a2).ev T s b=eO (t.ev T s b) s fun k b=>if k=true then evSs T a1 s b else evSs T a2 s b:=rfl
@[simp] theorem Xg:(IS.set i v).ev T s b=eO (v.ev T s b) s fun d b=>.nx (s.set i (some d)) b:=rfl
@[simp] theorem WK:(IS.tup tg v).ev T s b=eO (v.ev T s b) s fun d b=>nxO (asg tg d s) b:=rfl
@[simp] theorem qc1:(IS.fld i u v).ev T s b=eO (v.ev T s b) s fun d b=>eO (u.ev T s b) s fun z b=>nxB s (setF flds i d b z):=rfl
@[simp] theorem uP:(IS.put u v w).ev T s b=eO (w.ev T s b) s fun d b=>eO (u.ev T s b) s fun z b=>eO (v.ev T s b) s fun y b=>nxB s (setI b d y z):=rfl
@[simp] theorem qeg:(IS.rse C).ev T s b=.ex C s b:=rfl
@[simp] theorem WM:(IS.each ik as tg a1).ev T s b=eO (ik.ev (evL T as) s b) s fun r b=>finO r.2 (forD (za tg (evSs T a1)) r.1 s (qY r.2 true b)):=rfl
@[simp] theorem qbn{F:Sc->Hb->Out}:qs n F l b=outR (F (zL n l) b):=rfl
@[simp] theorem Qa{F:List D->Hb->R Res}:cl n F l b=if l.length=n then F l b else .bad:=rfl
@[simp] theorem Yu:zL n l=l.map some++List.replicate (n - l.length) none:=rfl
variable{x y:D}{p q:Int}{g h:Str}{k1 k2:Bool}{l1 l2:List D}
@[simp] theorem JN{f:Hb->D->D->Option Bool}:g2 f [x,y] b=bv (f b x y) b:=rfl
@[simp] theorem qdy:bv (some k1) b=some (.v (.bl k1),b):=rfl
@[simp] theorem VP{f:Hb->D->D->Option Bool}:cmpB (g2 f) x y b=opt (f b x y) b:=by
 unfold cmpB;rw[JN];cases f b x y <;> rfl
@[simp] theorem qab:Cop.eq.g=g2 fun b=>eqN b 8:=rfl
@[simp] theorem qeo:Cop.ne.g=g2 (scD not):=rfl
@[simp] theorem qep:Cop.lt.g=g2 ltD:=rfl
@[simp] theorem qeq:Cop.le.g=g2 (cmpI fun i j=>decide (i<=j)):=rfl
@[simp] theorem qes:Cop.gt.g=g2 (cmpI fun i j=>decide (j<i)):=rfl
@[simp] theorem qet:Cop.ge.g=g2 (cmpI fun i j=>decide (j<=i)):=rfl
@[simp] theorem qer:Cop.is.g=g2 (isN id):=rfl
@[simp] theorem qdu:Cop.isn.g=g2 (isN not):=rfl
@[simp] theorem qdv:Cop.inn.g=g2 (inD id):=rfl
@[simp] theorem qdt:Cop.nin.g=g2 (inD not):=rfl
@[simp] theorem Wt{f:Bool->Bool}:isN f b x .non=some (f x.isN):=rfl
@[simp] theorem qfa:D.non.isN=true:=rfl
@[simp] theorem qe9:(D.bl k1).isN=false:=rfl
@[simp] theorem qe8:(D.int p).isN=false:=rfl
@[simp] theorem qe7:(D.str g).isN=false:=rfl
@[simp] theorem qe6:(D.tup l).isN=false:=rfl
@[simp] theorem qe5:(D.lst l).isN=false:=rfl
@[simp] theorem qe4:(D.dic r).isN=false:=rfl
@[simp] theorem qe3:(D.obj n).isN=false:=rfl
@[simp] theorem qe2:(D.scr l).isN=false:=rfl
@[simp] theorem qe1:(D.exn n).isN=false:=rfl
@[simp] theorem yC{n:Nat}(h:n<=100):n<=sizeLine:=ba h (by decide)
@[simp] theorem yB{n:Nat}(h:n<=100):n<sizeLine:=fF h (by decide)
@[simp] theorem J1{n:Nat}:eqN b (n+1) (.int p) (.int q)=some (p == q):=rfl
@[simp] theorem wE{n:Nat}:eqN b (n+1) (.str g) (.str h)=some (g == h):=rfl
@[simp] theorem qel{n:Nat}:eqN b (n+1) (.bl k1) (.bl k2)=some (k1 == k2):=rfl
@[simp] theorem qbm{f:Int->Int->Bool}:cmpI f b (.int p) (.int q)=some (f p q):=rfl
@[simp] theorem qck:ltD b (.int p) (.int q)=some (decide (p<q)):=rfl
@[simp] theorem qcj:ltD b (.str g) (.str h)=some (decide (g.cps.toList<h.cps.toList)):=rfl
@[simp] theorem XR{f:Bool->Bool}:scD f b (.int p) (.int q)=some (f (p == q)):=rfl
@[simp] theorem qbu{f:Bool->Bool}:scD f b (.str g) (.str h)=some (f (g == h)):=rfl
@[simp] theorem Yx{f:Bool->Bool}:scD f b (.bl k1) (.bl k2)=some (f (k1 == k2)):=rfl
@[simp] theorem qbp:truD b (.bl k1)=some k1:=rfl
@[simp] theorem qba:truD b .non=some false:=rfl
@[simp] theorem qbc:truD b (.int p)=some (p != 0):=rfl
@[simp] theorem qa9:truD b (.tup l)=some (!l.isEmpty):=rfl
@[simp] theorem qbb:truD b (.lst l)=some (!l.isEmpty):=rfl
@[simp] theorem Qg{f h:EvB}:andT f h s b=(f s b).bind fun k b=>if k=true then h s b else .ok false b:=rfl
@[simp] theorem vm{f h:EvB}:orT f h s b=(f s b).bind fun k b=>if k=true then .ok true b else h s b:=rfl
@[simp] theorem Yc{f h:EvD}:andV f h s b=(f s b).bind fun d b=>(asB d b).bind fun k b=>if k=true then h s b else .ok (.bl false) b:=rfl
@[simp] theorem qa1:asB (.bl k1) b=.ok k1 b:=rfl
@[simp] theorem qd4:Bop.add.g=gR addD:=rfl
@[simp] theorem qdz:Bop.sub.g=gR subD:=rfl
@[simp] theorem qd1:Bop.mul.g=gR mulD:=rfl
@[simp] theorem qd2:Bop.mod.g=gR modD:=rfl
@[simp] theorem qd3:Bop.div.g=gR divD:=rfl
@[simp] theorem qd0:Bop.pow.g=gR powD:=rfl
@[simp] theorem zM{fs:List EvD}:tupF (seqA fs) s b=(seqA fs s b).bind fun l b=>if l.length<=sizeLine then .ok (.tup l) b else .bad:=rfl
@[simp] theorem K3{fs:List EvD}:lstF (seqA fs) s b=(seqA fs s b).bind fun l b=>if l.length<=sizeLine then .ok (.n (.lst false l)) b else .bad:=rfl
end
section
variable{kvs:List (KK×D)}{k k':KK}{d:D}
theorem V8:lk [] k=none:=rfl
theorem jp{p:KK×D}:lk (p::kvs) k=if p.1=k then some p.2 else lk kvs k:=by
 unfold lk;rw[gA]
 by_cases h:p.1=k
 ·simp[h]
 ·simp[h]
theorem X7(h:lk kvs k=none):k∉kvs.map (·.1):=fun z=>by
 obtain⟨p,h1,h2⟩:=aQ.mp z;unfold lk at h;rw[Option.map_eq_none_iff,dZ]at h;exact h p h1 (by simpa using h2)
theorem X_:(putD kvs k d).length=if(lk kvs k).isSome then kvs.length else kvs.length+1:=by
 unfold putD
 split
 ·rw[aM]
 ·rw[az];rfl
theorem Vm:(xA kvs k).length<=kvs.length:=gq _ _
theorem len_sub{α:Type}[DecidableEq α]:∀{l m:List α},l.Nodup->l ⊆ m->l.length<=m.length
 |[],_,_,_=>bz _
 |a::l,m,nd,h=>by
  rw[bq]at nd;have ha:=h aC;have:=len_sub (l:=l) (m:=m.erase a) nd.2 fun x hx=>(List.mem_erase_of_ne fun e=>nd.1 (by rw[<- e];exact hx)).mpr (h (ay _ hx))
  rw[List.length_erase_of_mem ha]at this;have hp:0<m.length:=List.length_pos_of_mem ha;rw[bO];omega
end
noncomputable abbrev TB:=List (KK×List (KK×D))
noncomputable def fT(tb:TB)(w:KK):Option (KK×List (KK×D)):=tb.find? fun p=>decide (p.1=w)
noncomputable def rows(tb:TB)(w:KK):List (KK×D):=((fT tb w).map (·.2)).getD []
noncomputable def setT(tb:TB)(w:KK)(r:List (KK×D)):TB:=if(fT tb w).isSome then tb.map (fun p=>if p.1=w then(p.1,r)else p)else tb++[(w,r)]
noncomputable def putR(r:List (KK×D))(k:KK)(row:D):List (KK×D):=match row with
 |.non=>xA r k
 |_=>putD r k row
noncomputable def putT(tb:TB)(w k:KK)(row:D):TB:=setT tb w (putR (rows tb w) k row)
section
variable{tb:TB}{w w' k k':KK}{r:List (KK×D)}{row:D}
theorem zf{p:KK×List (KK×D)}:fT (p::tb) w=if p.1=w then some p else fT tb w:=by
 unfold fT;rw[gA]
 by_cases h:p.1=w
 ·simp[h]
 ·simp[h]
theorem uM:fT (setT tb w r) w'=if w'=w then some (w,r)else fT tb w':=by
 unfold setT;cases h:fT tb w with
 |some p0=>
  rw[aE (show(some p0).isSome=true from rfl)]
  induction tb with
  |nil=>cases h
  |cons p t ih=>
   rw[zf]at h;rw[av,zf,zf]
   by_cases hp:p.1=w
   ·by_cases e:w'=w
    ·subst e
     simp[hp]
    ·have hn:¬ p.1=w':=fun z=>e (by rw[<- z,hp])
     rw[aE hp,ax hn,ax hn,ax e];clear ih h
     induction t with
     |nil=>rfl
     |cons q t ih2=>
      rw[av,zf,zf,ih2]
      by_cases hq:q.1=w
      ·have hq':¬ q.1=w':=fun z=>e (by rw[<- z,hq])
       rw[aE hq,ax hq',ax hq']
      ·rw[ax hq]
   ·rw[ax hp]at h
    have ih:=ih h;rw[ax hp]
    by_cases e:p.1=w'
    ·rw[aE e,ax (fun z=>hp (by rw[e,z])),aE e]
    ·rw[ax e,ax e]
     exact ih
 |none=>
  rw[ax (by decide)]
  induction tb with
  |nil=>
   rw[cX,zf]
   by_cases e:w=w'
   ·subst e;simp
   ·rw[ax e,ax (bN e)]
  |cons p t ih=>
   rw[zf]at h
   split at h
   ·cases h
   ·rename_i hp
    rw[bI,zf,zf,ih h]
    by_cases e:p.1=w'
    ·rw[aE e,aE e,ax fun z=>hp (by rw[e,z])]
    ·rw[ax e,ax e]
theorem K8:rows (setT tb w r) w'=if w'=w then r else rows tb w':=by
 unfold rows;rw[uM]
 split <;> rfl
theorem Qu:rows (putT tb w k row) w'=if w'=w then putR (rows tb w) k row else rows tb w':=K8
theorem v7:(setT tb w r).map (·.1)=if(fT tb w).isSome then tb.map (·.1)else tb.map (·.1)++[w]:=by
 unfold setT
 split
 ·rw[dE]
  apply cq;intro p _;show(if p.1=w then(p.1,r)else p).1=p.1
  split <;> rfl
 ·rw[cz]
  rfl
theorem Vl:(putR r k row).length<=r.length+1:=by
 unfold putR
 split
 ·exact Nat.le_succ_of_le Vm
 ·rw[X_];split <;> omega
end
noncomputable def tbD(tb:TB)(ids:List Nat):List (KK×D):=List.zipWith (fun p i=>(p.1,.obj i)) tb ids
structure BkAt(q:Nat)(b:Hb)(tb:TB)(dn un:List D)(u:Nat)(ids:List Nat):Prop where
 bk:b[q]?=some (.ins 0 [(0,.obj (q+1))])
 lg:b[q+1]?=some (.ins 1 [(1,.obj (q+2)),(2,.obj (q+3)),(3,.obj u)])
 ts:b[q+2]?=some (.dic false (tbD tb ids))
 dn:b[q+3]?=some (.lst false dn)
 un:b[u]?=some (.lst false un)
 len:ids.length=tb.length
 at_:∀(j:Nat) p i,tb[j]?=some p->ids[j]?=some i->b[i]?=some (.dic false p.2)
 nd:(u::ids).Nodup
 lo:∀i∈u::ids,q+4<=i
 kn:(tb.map (·.1)).Nodup
section
variable{q:Nat}{b:Hb}{tb:TB}{dn un:List D}{u:Nat}{ids:List Nat}{w:KK}{r:List (KK×D)}{o:Ob}
theorem yc:∀{tb:TB}{ids:List Nat},ids.length=tb.length->(fT tb w=none/\lk (tbD tb ids) w=none)\/∃(j:Nat)(p:KK×List (KK×D))(i:Nat),tb[j]?=some p/\p.1=w/\ids[j]?=some i/\fT tb w=some p/\lk (tbD tb ids) w=some (.obj i)
 |[],ids,_=>.inl ⟨rfl,by cases ids <;> rfl⟩
 |p::tb,[],h=>by simp at h
 |p::tb,i::ids,h=>by
  rw[zf];show _\/_;have e:tbD (p::tb) (i::ids)=(p.1,.obj i)::tbD tb ids:=rfl;rw[e,jp]
  by_cases hp:p.1=w
  ·exact .inr ⟨0,p,i,rfl,hp,rfl,aE hp,aE hp⟩
  ·rw[ax hp,ax hp]
   rcases yc (tb:=tb) (ids:=ids) (by simpa using h)with h|⟨j,q,n,h1,h2,h3,h4⟩
   ·exact .inl h
   ·exact .inr ⟨j+1,q,n,by simpa using h1,h2,by simpa using h3,h4⟩
noncomputable def tabD(tb:TB)(ids:List Nat)(w:KK):D:=(lk (tbD tb ids) w).getD (.dic [])
theorem BkAt.tab(B:BkAt q b tb dn un u ids)(w:KK):qv b (tabD tb ids w)=some (rows tb w):=by
 unfold tabD rows;rcases yc (w:=w) B.len with⟨h1,h2⟩|⟨j,p,i,h1,h2,h3,h4,h5⟩
 ·rw[h1,h2];rfl
 ·rw[h4,h5]
  show(b[i]?).bind Ob.k=_;rw[B.at_ j p i h1 h3];rfl
theorem BkAt.more(B:BkAt q b tb dn un u ids)(e:List Ob):BkAt q (b++e) tb dn un u ids:=by
 have g:∀{i o},b[i]?=some o->(b++e)[i]?=some o:=fun{i o} h=>by
  rw[aU (ag.mp h).1];exact h
 exact⟨g B.bk,g B.lg,g B.ts,g B.dn,g B.un,B.len,fun j p i h1 h2=>g (B.at_ j p i h1 h2),B.nd,B.lo,B.kn⟩
theorem ZT{j:Nat}{p:KK×List (KK×D)}(nd:(tb.map (·.1)).Nodup)(h:tb[j]?=some p):setT tb p.1 r=tb.set j (p.1,r):=by
 unfold setT;have hs:(fT tb p.1).isSome=true:=by
  unfold fT;rw[hZ];exact⟨p,aB h,by simp⟩
 rw[aE hs];clear hs
 induction tb generalizing j with
 |nil=>simp at h
 |cons q t ih=>
  rw[av,bq]at nd;rw[av];cases j with
  |zero=>
   simp only[dI,dt]at h;subst h;rw[aE rfl,List.set_cons_zero];congr 1;rw[cq (g:=id),List.map_id];intro x hx;rw[ax fun e=>nd.1 (by rw[<- e];exact aQ.mpr ⟨x,hx,rfl⟩)];rfl
  |succ j=>
   simp only[fg]at h;have:¬ q.1=p.1:=fun e=>nd.1 (by rw[e];exact aQ.mpr ⟨p,aB h,rfl⟩)
   rw[ax this,List.set_cons_succ,ih nd.2 h]
theorem ZK{p:KK×List (KK×D)}:∀{tb:TB}{ids:List Nat}{j:Nat},tb[j]?=some p->tbD (tb.set j (p.1,r)) ids=tbD tb ids
 |[],_,_,h=>by simp at h
 |q::tb,[],j,h=>by cases j <;> rfl
 |q::tb,i::ids,0,h=>by
  simp only[dI,dt]at h;subst h;rfl
 |q::tb,i::ids,j+1,h=>by
  show(q.1,D.obj i)::tbD (tb.set j (p.1,r)) ids=(q.1,D.obj i)::tbD tb ids;rw[ZK (by simpa using h)]
theorem BkAt.setRow{j i:Nat}{p:KK×List (KK×D)}(B:BkAt q b tb dn un u ids)(hj:tb[j]?=some p)(hi:ids[j]?=some i):BkAt q (b.set i (.dic false r)) (setT tb p.1 r) dn un u ids:=by
 have mi:i∈ids:=aB hi;have li:q+4<=i:=B.lo i (ay _ mi);have nu:i≠u:=fun e=>(bq.mp B.nd).1 (by rw[<- e];exact mi)
 have bi:=B.at_ j p i hj hi;have il:i<b.length:=(ag.mp bi).1;have g:∀{z o},z≠i->b[z]?=some o->(b.set i (.dic false r))[z]?=some o:=fun{z o} hz h=>by rw[aO (bN hz)];exact h
 rw[ZT B.kn hj];refine⟨g (by omega) B.bk,g (by omega) B.lg,?_,g (by omega) B.dn,g nu.symm B.un,by rw[cW];exact B.len,fun j' p' i' h1 h2=>?_,B.nd,B.lo,?_⟩
 ·rw[ZK hj];exact g (by omega) B.ts
 ·by_cases hjj:j'=j
  ·subst hjj
   have jl:j'<tb.length:=(ag.mp hj).1;rw[aV jl]at h1;cases h1;rw[hi]at h2;cases h2;exact aV il
  ·rw[aO (bN hjj)]at h1
   have:i'≠i:=fun e=>hjj ((hV (ag.mp h2).1 (bq.mp B.nd).2).mp (h2.trans (by rw[e];exact hi.symm)))
   exact g this (B.at_ j' p' i' h1 h2)
 ·rw[<- ZT (r:=r) B.kn hj,v7]
  split
  ·exact B.kn
  ·rename_i hn
   exact absurd (by unfold fT;rw[hZ];exact⟨p,aB hj,by simp⟩) hn
theorem Qo:∀{tb:TB}{ids:List Nat}{p:KK×List (KK×D)}{n:Nat},ids.length=tb.length->tbD (tb++[p]) (ids++[n])=tbD tb ids++[(p.1,.obj n)]
 |[],[],_,_,_=>rfl
 |[],_::_,_,_,h=>by simp at h
 |_::_,[],_,_,h=>by simp at h
 |q::tb,i::ids,p,n,h=>by
  show(q.1,D.obj i)::tbD (tb++[p]) (ids++[n])=_;rw[Qo (by simpa using h)];rfl
theorem BkAt.newT(B:BkAt q b tb dn un u ids)(hn:fT tb w=none):BkAt q ((b++[Ob.dic false []]).set (q+2) (Ob.dic false (tbD tb ids++[(w,D.obj b.length)]))) (tb++[(w,[])]) dn un u (ids++[b.length]):=by
 have l2:q+2<b.length:=(ag.mp B.ts).1;have g:∀{z o},z≠q+2->b[z]?=some o->((b++[Ob.dic false []]).set (q+2) (Ob.dic false (tbD tb ids++[(w,D.obj b.length)])))[z]?=some o:=fun{z o} hz h=>by
  rw[aO (bN hz),aU (ag.mp h).1];exact h
 have lt:∀i∈u::ids,i<b.length:=fun i hi=>by
  rcases aw.mp hi with rfl|hi
  ·exact(ag.mp B.un).1
  ·obtain⟨j,hj⟩:=cM.mp hi
   have jl:j<tb.length:=by rw[<- B.len];exact(ag.mp hj).1
   exact(ag.mp (B.at_ j _ i (ak jl) hj)).1
 refine⟨g (by omega) B.bk,g (by omega) B.lg,?_,g (by omega) B.dn,g (by have:=B.lo u aC;omega) B.un,by simp[B.len],fun j p i h1 h2=>?_,?_,fun i hi=>?_,?_⟩
 ·rw[aV (by rw[az];omega),Qo B.len]
 ·by_cases hj:j<tb.length
  ·rw[aU hj]at h1
   rw[aU (by rw[B.len];exact hj)]at h2;exact g (by have:=B.lo i (ay _ (aB h2));omega) (B.at_ j p i h1 h2)
  ·have e:j=tb.length:=by
    have:=(ag.mp h1).1;simp at this;omega
   subst e;rw[aJ (aI _),di]at h1;rw[<- B.len,aJ (aI _),di]at h2;cases h1;cases h2;rw[aO (by omega),aJ (aI _),di];rfl
 ·rw[<- bI]
  exact du.mpr ⟨B.nd,by simp,fun a ha c hc e=>by rw[aD.mp hc]at e;exact absurd (lt a ha) (by rw[e];exact cL _)⟩
 ·rw[<- bI]at hi
  rcases b9.mp hi with hi|hi
  ·exact B.lo i hi
  ·rw[aD.mp hi]
   have:=B.lo u aC;have:=lt u aC;omega
 ·rw[cz]
  refine du.mpr ⟨B.kn,by simp,fun a ha c hc e=>?_⟩;rw[List.map_singleton,aD]at hc;subst hc;obtain⟨p,hp,e2⟩:=aQ.mp ha;unfold fT at hn;rw[dZ]at hn;exact hn p hp (by simpa using e2.trans e)
end
section
variable{q:Nat}{b:Hb}{tb:TB}{dn un:List D}{u:Nat}{ids:List Nat}{w key row d e:D}{kw kk:KK}
theorem w0{b:Hb}{q j:Nat}{t dd u:D}(h:b[q]?=some (.ins 1 [(1,t),(2,dd),(3,u)]))(hj:4<=j):recv 1 j b (.obj q)=true:=by
 unfold recv;simp only[h];have h1:(j == 1)=false:=by simp;omega
 have h2:(j == 2)=false:=by simp;omega
 have h3:(j == 3)=false:=by simp;omega
 simp[List.lookup,h1,h2,h3]
theorem wi{b:Hb}{q j:Nat}{l:D}(h:b[q]?=some (.ins 0 [(0,l)]))(hj:1<=j):recv 0 j b (.obj q)=true:=by
 unfold recv;simp only[h];have h1:(j == 0)=false:=by simp;omega
 simp[List.lookup,h1]
theorem fld0(B:BkAt q b tb dn un u ids):fldD flds 0 b (.obj q)=some (.obj (q+1)):=by
 unfold fldD;simp only[B.bk];rfl
theorem fld1(B:BkAt q b tb dn un u ids):fldD flds 1 b (.obj (q+1))=some (.obj (q+2)):=by
 unfold fldD;simp only[B.lg];rfl
theorem fld2(B:BkAt q b tb dn un u ids):fldD flds 2 b (.obj (q+1))=some (.obj (q+3)):=by
 unfold fldD;simp only[B.lg];rfl
theorem qp{n:Nat}{r:List (KK×D)}{h:Bool}(e:b[n]?=some (.dic h r)):qv b (.obj n)=some r:=by
 show(b[n]?).bind Ob.k=_;rw[e];rfl
theorem zx{n:Nat}{r:List D}{h:Bool}(e:b[n]?=some (.lst h r)):qG b (.obj n)=some r:=by
 show(b[n]?).bind Ob.l=_;rw[e];rfl
theorem zH(B:BkAt q b tb dn un u ids)(hk:dKK w=some kw):zv [.obj (q+1),w] b=.ok (.v (tabD tb ids kw)) b:=by
 have hd:=qp B.ts;simp[zv,zT,fld1 B,isTy,hd,Bm.get,gN,iGet,hk,tabD]
noncomputable def Kp(own:Nat->Prop)(b b':Hb):Prop:=∀(i:Nat) o,b[i]?=some o->¬ own i->b'[i]?=some o
theorem Kp.refl{own:Nat->Prop}:Kp own b b:=fun _ _ h _=>h
theorem Kp.trans{own own':Nat->Prop}{b b' b'':Hb}(h:Kp own b b')(k:Kp own' b' b'')(hh:∀i,i<b.length->own' i->own i):Kp own b b'':=fun i o e n=>k i o (h i o e n) fun z=>n (hh i (ag.mp e).1 z)
theorem Kp.set{own:Nat->Prop}{b b':Hb}{n:Nat}{o:Ob}(h:Kp own b b')(hn:n<b.length->own n):Kp own b (b'.set n o):=fun i x e ni=>by
 have hne:n≠i:=fun z=>ni (by rw[<- z];exact hn (by rw[z];exact(ag.mp e).1))
 rw[aO hne];exact h i x e ni
theorem Kp.app{own:Nat->Prop}{b b':Hb}{l:Hb}(h:Kp own b b'):Kp own b (b'++l):=fun i x e ni=>by
 have:=h i x e ni;rw[aU (ag.mp this).1];exact this
theorem vL{b:Hb}{n:Nat}{o:Ob}(h:b[n]?=some o):b.set n o=b:=by
 apply List.ext_getElem?;intro z
 by_cases hz:n=z
 ·subst hz
  rw[aV (ag.mp h).1,h]
 ·rw[aO hz]
noncomputable def Bo(q:Nat)(ids:List Nat)(i:Nat):Prop:=i=q+1\/i=q+2\/i=q+3\/i∈ids
structure Grow(q:Nat)(ids ids':List Nat)(b b':Hb):Prop where
 kp:Kp (Bo q ids) b b'
 le:b.length<=b'.length
 ids:∀i∈ids',i∈ids\/b.length<=i
theorem Grow.refl:Grow q ids ids b b:=⟨.refl,aI _,fun _ h=>.inl h⟩
theorem Grow.trans{ids' ids'':List Nat}{b' b'':Hb}(h:Grow q ids ids' b b')(k:Grow q ids' ids'' b' b''):Grow q ids ids'' b b'':=
 ⟨h.kp.trans k.kp fun i hi z=>by
  rcases z with z|z|z|z
  ·exact .inl z
  ·exact .inr (.inl z)
  ·exact .inr (.inr (.inl z))
  ·exact .inr (.inr (.inr ((h.ids i z).elim id fun y=>absurd hi (eP y)))),ba h.le k.le,fun i hi=>(k.ids i hi).elim (h.ids i) fun y=>.inr (ba h.le y)⟩
theorem Kd{r:List (KK×D)}{k:KK}(h:lk r k=none):xA r k=r:=by
 unfold xA;rw[eS];intro p hp;have:=X7 h;simp only[ne_eq,aF];exact fun e=>this (by rw[<- e];exact aQ.mpr ⟨p,hp,rfl⟩)
theorem XX(B:BkAt q b tb dn un u ids)(hw:dKK w=some kw)(hk:dKK key=some kk)(h1:tb.length<sizeLine)(h2:(rows tb kw).length<sizeLine):∃b' ids',qX [.obj (q+1),w,key,row] b=.ok (.v .non) b'/\BkAt q b' (putT tb kw kk row) dn un u ids'/\Grow q ids ids' b b':=by
 have B1:=B.more [.dic false []];have lt:(tbD tb ids).length=tb.length:=by unfold tbD;rw[List.length_zipWith,B.len];omega
 have il:=fun i(hi:i∈ids)=>(show i<b.length from by
  obtain⟨j,hj⟩:=cM.mp hi;have jl:j<tb.length:=by rw[<- B.len];exact(ag.mp hj).1
  exact(ag.mp (B.at_ j _ i (ak jl) hj)).1)
 have pre:∀(b1:Hb)(i:Nat)(r:List (KK×D)),iSdf [.obj (q+2),w,.obj b.length] (b++[.dic false []])=some (.v (.obj i),b1)->b1[i]?=some (.dic false r)->r.length<sizeLine->qX [.obj (q+1),w,key,row] b=.ok (.v .non) (b1.set i (.dic false (putR r kk row))):=fun b1 i r h hr hl=>by
  have f1:=fld1 B1;have f0:=fld1 B;have ob:obj b1 (.obj i)=some (i,.dic false r):=by show b1[i]?.map _=_;rw[hr];rfl
  have ty:(qv b1 (.obj i)).isSome=true:=by rw[qp hr];rfl
  have ty2:(qv (b++[.dic false []]) (.obj (q+2))).isSome=true:=by rw[qp B1.ts];rfl
  have ty3:(qv b (.obj (q+2))).isSome=true:=by rw[qp B.ts];rfl
  cases row with
  |non=>
   cases hf:lk r kk with
   |none=>simp[qX,zA,f0,f1,isTy,ty,ty2,ty3,Bm.sdf,h,Cop.is,cmpB,g2,isN,Bm.dpp,iDpp,obK,ob,hk,hf,putR,Kd hf,vL hr]
   |some v0=>simp[qX,zA,f0,f1,isTy,ty,ty2,ty3,Bm.sdf,h,Cop.is,cmpB,g2,isN,Bm.dpp,iDpp,obK,ob,hk,hf,putR]
  |_=>simp[qX,zA,f0,f1,isTy,ty,ty2,ty3,Bm.sdf,h,Cop.is,cmpB,g2,isN,setI,ob,hk,hl,putR]
 rcases yc (w:=kw) B.len with⟨f1,f2⟩|⟨j,p,i,f1,f2,f3,f4,f5⟩
 ·have ob:obj (b++[.dic false []]) (.obj (q+2))=some (q+2,.dic false (tbD tb ids)):=by show(b++[Ob.dic false []])[q+2]?.map _=_;rw[B1.ts];rfl
  have hs:iSdf [.obj (q+2),w,.obj b.length] (b++[.dic false []])=some (.v (.obj b.length),(b++[Ob.dic false []]).set (q+2) (.dic false (tbD tb ids++[(kw,.obj b.length)]))):=by
   simp[iSdf,obK,ob,hw,lt,h1,f2,putD]
  have BN:=B.newT f1;have l2:q+2<b.length:=(ag.mp B.ts).1;have gi:((b++[Ob.dic false []]).set (q+2) (.dic false (tbD tb ids++[(kw,D.obj b.length)])))[b.length]?=some (.dic false []):=by
   rw[aO (by omega),aJ (aI _),di];rfl
  refine⟨_,ids++[b.length],pre _ _ _ hs gi (by decide),?_,?_,?_,?_⟩
  ·have hr:rows tb kw=[]:=by unfold rows;rw[f1];rfl
   have BS:BkAt q _ _ dn un u _:=BN.setRow (j:=tb.length) (i:=b.length) (p:=(kw,[])) (r:=putR [] kk row) (by simp) (by rw[<- B.len];simp);have e3:putT tb kw kk row=setT (tb++[(kw,[])]) kw (putR [] kk row):=by
    unfold putT setT;rw[hr,f1,ax (by decide),aE (by unfold fT;rw[hZ];exact⟨(kw,[]),by simp,by simp⟩),cz];congr 1
    ·rw[cq (g:=id),List.map_id]
     intro x hx;have:=f1;unfold fT at this;rw[dZ]at this;rw[ax (by simpa using this x hx)];rfl
    ·simp
   rw[e3];exact BS
  ·exact((Kp.refl.app).set fun _=>.inr (.inl rfl)).set fun h=>absurd h (cL _)
  ·rw[cW,cW,az];omega
  ·intro i hi
   rcases b9.mp hi with hi|hi
   ·exact .inl hi
   ·rw[aD.mp hi];exact .inr (aI _)
 ·have ob:obj (b++[.dic false []]) (.obj (q+2))=some (q+2,.dic false (tbD tb ids)):=by show(b++[Ob.dic false []])[q+2]?.map _=_;rw[B1.ts];rfl
  have hs:iSdf [.obj (q+2),w,.obj b.length] (b++[.dic false []])=some (.v (.obj i),b++[.dic false []]):=by
   simp[iSdf,obK,ob,hw,lt,h1,f5]
  have hr:rows tb kw=p.2:=by unfold rows;rw[f4];rfl
  have gi:=B1.at_ j p i f1 f3;refine⟨_,ids,pre _ _ _ hs gi (by rw[<- hr];exact h2),?_,?_,?_,fun i hi=>.inl hi⟩
  ·have BS:=B1.setRow (r:=putR p.2 kk row) f1 f3
   unfold putT;rw[hr,<- f2];exact BS
  ·exact(Kp.refl.app).set fun _=>.inr (.inr (.inr (aB f3)))
  ·rw[cW,az];omega
end
section
variable{T:List FnE}{s s1:Sc}{b b1 b2:Hb}{v w:IV}{i j:Int}{x y:Str}{d d2 r:D}{n k:Nat}{ss a c:ISs}{tt:IT}{e:IE}{ds:List D}{o:Ob}
theorem iC:(IV.cst (.int i)).ev T s b=.ok (.int i) b:=rfl
theorem Qe{p:Bop}{z:Int}(hp:p.g [.int i,.int j] b=some (.v (.int z),b))(h1:v.ev T s b=.ok (.int i) b)(h2:w.ev T s b=.ok (.int j) b):(IV.kp false (.bin p v w)).ev T s b=.ok (.int z) b:=by
 rw[qO,QZ,h1,R.bind_ok,h2,R.bind_ok,hp];rfl
theorem iAdd(h1:v.ev T s b=.ok (.int i) b)(h2:w.ev T s b=.ok (.int j) b):(IV.kp false (.bin .add v w)).ev T s b=.ok (.int (i+j)) b:=Qe rfl h1 h2
theorem iSub(h1:v.ev T s b=.ok (.int i) b)(h2:w.ev T s b=.ok (.int j) b):(IV.kp false (.bin .sub v w)).ev T s b=.ok (.int (i - j)) b:=Qe rfl h1 h2
theorem iMod(h1:v.ev T s b=.ok (.int i) b)(h2:w.ev T s b=.ok (.int j) b)(hj:0<j):(IV.kp false (.bin .mod v w)).ev T s b=.ok (.int (i % j)) b:=Qe (by simp[gR,ar,hj]) h1 h2
theorem iDiv(h1:v.ev T s b=.ok (.int i) b)(h2:w.ev T s b=.ok (.int j) b)(hj:0<j)(hk:j<1073741824):(IV.kp false (.bin .div v w)).ev T s b=.ok (.int (i / j)) b:=Qe (by simp[gR,ar,divC,hj,hk]) h1 h2
theorem JF(h1:v.ev T s b=.ok (.int i) b)(h2:w.ev T s b=.ok (.int j) b)(ha:-(2 ^ 64)<i)(hb:i<2 ^ 64):(IV.kp false (.bin .mul v w)).ev T s b=.ok (.int (i * j)) b:=Qe (by
 have:mulC i j=true:=by unfold mulC in64;simp only[bX,aq,aF];exact .inl ⟨ha,hb⟩
 simp[gR,ar,this]) h1 h2
theorem WB(h1:v.ev T s b=.ok (.int i) b)(h2:w.ev T s b=.ok (.int j) b)(ha:-(2 ^ 64)<j)(hb:j<2 ^ 64):(IV.kp false (.bin .mul v w)).ev T s b=.ok (.int (i * j)) b:=Qe (by
 have:mulC i j=true:=by unfold mulC in64;simp only[bX,aq,aF];exact .inr ⟨ha,hb⟩
 simp[gR,ar,this]) h1 h2
theorem iPw:(IV.kp false (.bin .pow (.cst (.int 10)) (.cst (.int 18)))).ev T s b=.ok (.int (10 ^ 18)) b:=Qe (by simp[gR,ar,powC]) iC iC
theorem Kx{α:Type}{ds:List α}{n:Nat}:atI ds (n:Int)=ds[n]?:=by
 unfold atI ixN
 by_cases h:n<ds.length
 ·rw[aE (Int.natCast_nonneg n),aE (Int.ofNat_lt.mpr h)];rfl
 ·rw[aE (Int.natCast_nonneg n),ax (fun z=>h (Int.ofNat_lt.mp z)),List.getElem?_eq_none (by omega)];rfl
theorem iLn{l:List D}(h:v.ev T s b=.ok d b)(hd:iLen b d=some (.v (.int l.length))):(IV.kp false (.bf .len [v])).ev T s b=.ok (.int l.length) b:=by
 simp[h,Bf.len,gN,g1,hd]
theorem wo{l:List D}(h:qG b d=some l):iLen b d=some (.v (.int l.length)):=by
 cases d <;> first|cases h|skip
 ·rfl
 ·simp[iLen,kQ,h]
theorem tCmp{f:Hb->D->D->Option Bool}{z:Bool}{p:Cop}(hp:p.g=g2 f)(hf:f b d d2=some z)(h1:v.ev T s b=.ok d b)(h2:w.ev T s b=.ok d2 b):(IT.cmp p v w).ev T s b=.ok z b:=by
 rw[WJ,h1,R.bind_ok,h2,R.bind_ok,hp,VP,hf];rfl
theorem tLt(h1:v.ev T s b=.ok (.int i) b)(h2:w.ev T s b=.ok (.int j) b):(IT.cmp .lt v w).ev T s b=.ok (decide (i<j)) b:=tCmp rfl rfl h1 h2
theorem tGt(h1:v.ev T s b=.ok (.int i) b)(h2:w.ev T s b=.ok (.int j) b):(IT.cmp .gt v w).ev T s b=.ok (decide (j<i)) b:=tCmp rfl rfl h1 h2
theorem tGe(h1:v.ev T s b=.ok (.int i) b)(h2:w.ev T s b=.ok (.int j) b):(IT.cmp .ge v w).ev T s b=.ok (decide (j<=i)) b:=tCmp rfl rfl h1 h2
theorem tEqS(h1:v.ev T s b=.ok (.str x) b)(h2:w.ev T s b=.ok (.str y) b):(IT.cmp .eq v w).ev T s b=.ok (x == y) b:=tCmp rfl rfl h1 h2
theorem if_t(h:tt.ev T s b=.ok true b):evSs T (.iff tt a c::ss) s b=sq (evSs T a s b) (evSs T ss):=by rw[qm,JW,h];rfl
theorem if_f(h:tt.ev T s b=.ok false b):evSs T (.iff tt a c::ss) s b=sq (evSs T c s b) (evSs T ss):=by rw[qm,JW,h];rfl
theorem if_n(h:tt.ev T s b=.ok false b):evSs T (.iff tt a []::ss) s b=evSs T ss s b:=by rw[if_f h];rfl
theorem if_r{r:Res}(h:tt.ev T s b=.ok true b)(h2:evSs T a s b=.rt r b1):evSs T (.iff tt a c::ss) s b=.rt r b1:=by rw[if_t h,h2];rfl
theorem if_x(h:tt.ev T s b=.ok true b)(h2:evSs T a s b=.nx s1 b1):evSs T (.iff tt a c::ss) s b=evSs T ss s1 b1:=by rw[if_t h,h2];rfl
theorem if_y(h:tt.ev T s b=.ok false b)(h2:evSs T c s b=.nx s1 b1):evSs T (.iff tt a c::ss) s b=evSs T ss s1 b1:=by rw[if_f h,h2];rfl
theorem tYes{p:Prop}[Decidable p](h:tt.ev T s b=.ok (decide p) b)(hp:p):tt.ev T s b=.ok true b:=by rw[h,br hp]
theorem tNo{p:Prop}[Decidable p](h:tt.ev T s b=.ok (decide p) b)(hp:¬ p):tt.ev T s b=.ok false b:=by rw[h,aZ hp]
theorem qA(h:v.ev T s b=.ok d b1):evSs T (.set n v::ss) s b=evSs T ss (s.set n (some d)) b1:=by rw[qm,Xg,h];rfl
theorem zV{r:Res}(h:e.ev T s b=.ok r b1):evSs T (.ret e::ss) s b=.rt r b1:=by rw[qm,JV,h];rfl
theorem wa{r:Res}(h:e.ev T s b=.ok r b1):evSs T (.expr e::ss) s b=evSs T ss s b1:=by rw[qm,JX,h];rfl
theorem XQ{C:Nat}(h:v.ev T s b=.exc C b1):evSs T (.set n v::ss) s b=.ex C s b1:=by rw[qm,Xg,h];rfl
theorem valE(h:v.ev T s b=.ok d b1):(IE.val v).ev T s b=.ok (.v d) b1:=by rw[uO,h];rfl
theorem jq(h1:v.ev T s b=.ok d b1)(h2:w.ev T s b1=.ok d2 b2)(h:ixD b2 d d2=some r):(IV.ix v w).ev T s b=.ok r b2:=by rw[qc4,h1,R.bind_ok,h2,R.bind_ok,h];rfl
theorem VV{ft:Sc->Hb->R Bool}{fs:Sc->Hb->Out}(ht:ft s b=.ok true b)(hs:fs s b=.nx s1 b1):whl ft fs (n+1) s b=whl ft fs n s1 b1:=by
 show eO (ft s b) s _=_;rw[ht];show(match fs s b with
  |.nx s b=>whl ft fs n s b
  |.ct s b=>whl ft fs n s b
  |.bk s b=>.nx s b
  |o=>o)=_
 rw[hs]
theorem ZC{ft:Sc->Hb->R Bool}{fs:Sc->Hb->Out}(ht:ft s b=.ok false b):whl ft fs (n+1) s b=.nx s b:=by
 show eO (ft s b) s _=_;rw[ht];rfl
theorem VY{body:ISs}(h:whl (tt.ev T) (evSs T body) n s b=.nx s1 b1):evSs T (.whl n tt body::ss) s b=evSs T ss s1 b1:=by
 show sq (whl (tt.ev T) (evSs T body) n s b) _=_;rw[h];rfl
theorem V5(h:b[k]?=some (.lst false ds)):obL b (.obj k)=some (k,ds):=by
 unfold obL;rw[show obj b (.obj k)=some (k,.lst false ds) by show b[k]?.map _=_;rw[h];rfl]
theorem qa3(hv:v.ev T s b=.ok (.obj k) b)(hk:b[k]?=some (.lst false ds))(ha:w.ev T s b=.ok d b)(hl:ds.length<sizeLine):(IE.bm .app v [w]).ev T s b=.ok (.v .non) (b.set k (.lst false (ds++[d]))):=by
 simp[hv,ha,isTy,Bm.app,zx hk,gL,V5 hk,iApp,hl]
theorem Zb(hv:v.ev T s b=.ok (.obj k) b)(hk:b[k]?=some (.lst false ds))(ha:w.ev T s b=.ok d b)(hl:ds.length<sizeLine):evSs T (.expr (.bm .app v [w])::ss) s b=evSs T ss s (b.set k (.lst false (ds++[d]))):=wa (qa3 hv hk ha hl)
theorem Yv:evSs T (.set k (.kp true (.lst []))::ss) s b=evSs T ss (s.set k (some (.obj b.length))) (b++[.lst false []]):=rfl
theorem ZQ{o':Ob}(h:b[k]?=some o'):(b.set k o)[k]?=some o:=aV (ag.mp h).1
theorem yt:(b++[o])[b.length]?=some o:=by rw[aJ (aI _),di];rfl
theorem ZR{o':Ob}:(b++[o]).set b.length o'=b++[o']:=by rw[gr _ _ (aI _),di];rfl
theorem Kz(h:b[k]?=some o){l:Hb}:(b++l)[k]?=some o:=by rw[aU (ag.mp h).1];exact h
end
noncomputable def Dr(vs:iM):Prop:=∀v∈vs,0<=v/\v<1013
theorem Dr.snoc{vs:iM}(h:Dr vs)(x:Int):Dr (vs++[x % 1013]):=fun v hv=>by
 rcases b9.mp hv with z|z
 ·exact h v z
 ·rw[aD.mp z]
  exact⟨fH _ (by decide),fJ _ (by decide)⟩
theorem ints_snoc{vs:iM}{x:Int}:vs.map D.int++[.int x]=(vs++[x]).map D.int:=by simp
noncomputable def dB1:ISs:=.cons (.expr (.bm .app (.var 5) (.cons (.kp false (.bin .mod (.var 3) (.cst (.int 1013)))) .nil)))
 (.cons (.set 3 (.kp false (.bin .div (.var 3) (.cst (.int 1013)))))
 .nil)
noncomputable def dT1:IT:=.and (.cons (.cmp .gt (.var 3) (.cst (.int 0))) (.cons (.cmp .lt (.kp false (.bf .len (.cons (.var 5) .nil))) (.var 2)) .nil))
noncomputable def dT2:IT:=.cmp .lt (.kp false (.bf .len (.cons (.var 5) .nil))) (.var 2)
noncomputable def dB2:ISs:=.cons (.set 6 (.kp false (.bin .add (.kp false (.bf .len (.cons (.var 5) .nil))) (.cst (.int 1)))))
 (.cons (.set 4 (.kp false (.bin .mod (.kp false (.bin .add (.kp false (.bin .add (.kp false (.bin .mul (.var 4) (.cst (.int 48271)))) (.kp false (.bin .mul (.kp false (.bin .mul (.var 6) (.var 6))) (.cst (.int 6133)))))) (.cst (.int 17)))) (.cst (.int 2147483647)))))
 (.cons (.expr (.bm .app (.var 5) (.cons (.kp false (.bin .mod (.kp false (.bin .mod (.kp false (.bin .mul (.kp false (.bin .mod (.var 4) (.cst (.int 65521)))) (.kp false (.bin .add (.kp false (.bin .mod (.kp false (.bin .div (.var 4) (.cst (.int 65521)))) (.cst (.int 32749)))) (.cst (.int 1)))))) (.cst (.int 1000003)))) (.cst (.int 1013)))) .nil)))
 .nil))
section
variable{b:Hb}{ins:iM}{at_ many:Nat}{k:Nat}
noncomputable def dS(ins:iM)(at_ many:Nat)(c sd:Int)(k:Nat)(mk:Option D):Sc:=[some (.lst (ins.map .int)),some (.int at_),some (.int many),some (.int c),some (.int sd),some (.obj k),mk]
theorem Kf{c sd:Int}{mk:Option D}{vs:iM}(hk:b[k]?=some (.lst false (vs.map .int))):IV.ev (.kp false (.bf .len (.cons (.var 5) .nil))) qe (dS ins at_ many c sd k mk) b=.ok (.int vs.length) b:=by
 have:=iLn (T:=qe) (v:=.var 5) (s:=dS ins at_ many c sd k mk) (b:=b) (d:=.obj k) (l:=vs.map .int) rfl (wo (zx hk));rw[aM]at this;exact this
theorem u4{sd:Int}:∀(n:Nat){b:Hb}{vs:iM}{c:Int},b[k]?=some (.lst false (vs.map .int))->Dr vs->vs.length<=many->many<=1000->many - vs.length<n->∃(vs':iM)(c':Int),whl (IT.ev dT1 qe) (evSs qe dB1) n (dS ins at_ many c sd k none) b=.nx (dS ins at_ many c' sd k none) (b.set k (.lst false (vs'.map .int)))/\Dr vs'/\vs'.length<=many
 |0,b,vs,c,_,_,_,_,h=>by omega
 |n+1,b,vs,c,hk,hd,hl,hm,hn=>by
  have t1:IT.ev (.cmp .gt (.var 3) (.cst (.int 0))) qe (dS ins at_ many c sd k none) b=.ok (decide (0<c)) b:=tGt (v:=.var 3) rfl iC;have t2:IT.ev (.cmp .lt (.kp false (.bf .len (.cons (.var 5) .nil))) (.var 2)) qe (dS ins at_ many c sd k none) b=.ok (decide ((vs.length:Int)<many)) b:=tLt (w:=.var 2) (Kf hk) rfl;have tt:IT.ev dT1 qe (dS ins at_ many c sd k none) b=.ok (decide (0<c) && decide ((vs.length:Int)<many)) b:=by
   unfold dT1;show(IT.and [_,_]).ev _ _ _=_;rw[yX,Qg,t1,R.bind_ok,yY,t2];cases decide (0<c) <;> rfl
  by_cases h:0<c/\(vs.length:Int)<many
  ·rw[br h.1,br h.2]at tt
   have e1:evSs qe dB1 (dS ins at_ many c sd k none) b=.nx (dS ins at_ many (c / 1013) sd k none) (b.set k (.lst false ((vs++[c % 1013]).map .int))):=by
    unfold dB1;rw[Zb (T:=qe) (v:=.var 5) (k:=k) (d:=.int (c % 1013)) rfl hk (iMod (v:=.var 3) rfl iC (by decide)) (by rw[aM];exact fF (show vs.length<=1000 by omega) (by decide)),ints_snoc];exact(qA (T:=qe) (n:=3) (d:=.int (c / 1013)) (iDiv (v:=.var 3) rfl iC (by decide) (by decide))).trans rfl
   obtain⟨vs',c',h1,h2,h3⟩:=u4 (sd:=sd) n (vs:=vs++[c % 1013]) (c:=c / 1013) (ZQ (o:=.lst false ((vs++[c % 1013]).map .int)) hk) (hd.snoc c) (by rw[az,bx];omega) hm (by rw[az,bx];omega);refine⟨vs',c',?_,h2,h3⟩;rw[VV tt e1,h1,i5]
  ·refine⟨vs,c,?_,hd,hl⟩
   have:(decide (0<c) && decide ((vs.length:Int)<many))=false:=by
    rw[<- Bool.not_eq_true,aq,fK,fK];exact h
   rw[this]at tt;rw[ZC tt,vL hk]
theorem uZ{c:Int}:∀(n:Nat){b:Hb}{vs:iM}{sd:Int}{mk:Option D},b[k]?=some (.lst false (vs.map .int))->Dr vs->vs.length<=many->many<=1000->many - vs.length<n->∃(vs':iM)(sd':Int)(mk':Option D),whl (IT.ev dT2 qe) (evSs qe dB2) n (dS ins at_ many c sd k mk) b=.nx (dS ins at_ many c sd' k mk') (b.set k (.lst false (vs'.map .int)))/\Dr vs'/\vs'.length=many
 |0,b,vs,sd,mk,_,_,_,_,h=>by omega
 |n+1,b,vs,sd,mk,hk,hd,hl,hm,hn=>by
  have t2:IT.ev dT2 qe (dS ins at_ many c sd k mk) b=.ok (decide ((vs.length:Int)<many)) b:=tLt (w:=.var 2) (Kf hk) rfl
  by_cases h:(vs.length:Int)<many
  ·obtain⟨l,hl1⟩:∃l:Int,(vs.length:Int)+1=l:=⟨_,rfl⟩
   have k1:-(2 ^ 64)<l:=by omega
   have k2:l<2 ^ 64:=by omega
   have p1:IV.ev (.kp false (.bin .add (.kp false (.bf .len (.cons (.var 5) .nil))) (.cst (.int 1)))) qe (dS ins at_ many c sd k mk) b=.ok (.int l) b:=by
    rw[<- hl1];exact iAdd (Kf hk) iC
   obtain⟨sd2,p2⟩:∃sd2:Int,IV.ev (.kp false (.bin .mod (.kp false (.bin .add (.kp false (.bin .add (.kp false (.bin .mul (.var 4) (.cst (.int 48271)))) (.kp false (.bin .mul (.kp false (.bin .mul (.var 6) (.var 6))) (.cst (.int 6133)))))) (.cst (.int 17)))) (.cst (.int 2147483647)))) qe (dS ins at_ many c sd k (some (.int l))) b=.ok (.int sd2) b:=
    ⟨_,iMod (iAdd (iAdd (WB (v:=.var 4) rfl iC (by decide) (by decide)) (WB (JF (v:=.var 6) (w:=.var 6) (i:=l) (j:=l) rfl rfl k1 k2) iC (by decide) (by decide))) iC) iC (by decide)⟩
   have a8:∀x:Int,-(2 ^ 64)<x % 65521/\x % 65521<2 ^ 64:=fun x=>⟨by have:=fH x (show(65521:Int)≠0 by decide);omega,by have:=fJ x (show(0:Int)<65521 by decide);omega⟩
   obtain⟨x,p3⟩:∃x:Int,IV.ev (.kp false (.bin .mod (.kp false (.bin .mod (.kp false (.bin .mul (.kp false (.bin .mod (.var 4) (.cst (.int 65521)))) (.kp false (.bin .add (.kp false (.bin .mod (.kp false (.bin .div (.var 4) (.cst (.int 65521)))) (.cst (.int 32749)))) (.cst (.int 1)))))) (.cst (.int 1000003)))) (.cst (.int 1013)))) qe (dS ins at_ many c sd2 k (some (.int l))) b=.ok (.int (x % 1013)) b:=
    ⟨_,iMod (iMod (JF (iMod (v:=.var 4) (i:=sd2) rfl iC (by decide)) (iAdd (iMod (iDiv (v:=.var 4) (i:=sd2) rfl iC (by decide) (by decide)) iC (by decide)) iC) (a8 _).1 (a8 _).2) iC (by decide)) iC (by decide)⟩
   have e1:evSs qe dB2 (dS ins at_ many c sd k mk) b=.nx (dS ins at_ many c sd2 k (some (.int l))) (b.set k (.lst false ((vs++[x % 1013]).map .int))):=by
    unfold dB2;rw[qA p1];rw[show(dS ins at_ many c sd k mk).set 6 (some (.int l))=dS ins at_ many c sd k (some (.int l))from rfl,qA p2];rw[show(dS ins at_ many c sd k (some (.int l))).set 4 (some (.int sd2))=dS ins at_ many c sd2 k (some (.int l))from rfl];rw[Zb (T:=qe) (v:=.var 5) (k:=k) rfl hk p3 (by rw[aM];exact fF (show vs.length<=1000 by omega) (by decide)),ints_snoc];rfl
   obtain⟨vs',sd',mk',h1,h2,h3⟩:=uZ n (sd:=sd2) (mk:=some (.int l)) (vs:=vs++[x % 1013]) (ZQ (o:=.lst false ((vs++[x % 1013]).map .int)) hk) (hd.snoc x) (by rw[az,bx];omega) hm (by rw[az,bx];omega);refine⟨vs',sd',mk',?_,h2,h3⟩;rw[VV (tYes t2 h) e1,h1,i5]
  ·refine⟨vs,sd,mk,?_,hd,by omega⟩
   rw[ZC (tNo t2 h),vL hk]
theorem ixSc{ds:List D}(n:Nat):ixD b (.lst ds) (.int (n:Int))=ds[n]?:=by
 show((some ds).bind fun l=>ixI l _).or none=_;rw[Option.or_none];exact Kx
noncomputable def dC:IS:=.iff (.cmp .lt (.var 1) (.kp false (.bf .len (.cons (.var 0) .nil))))
 (.cons (.set 3 (.ix (.var 0) (.var 1)))
 .nil)
 (.cons (.iff (.cmp .gt (.kp false (.bf .len (.cons (.var 0) .nil))) (.cst (.int 0)))
 (.cons (.set 3 (.kp false (.bin .add (.kp false (.bin .add (.kp false (.bin .mod (.ix (.var 0) (.kp false (.bin .mod (.var 1) (.kp false (.bf .len (.cons (.var 0) .nil)))))) (.cst (.int 999983)))) (.kp false (.bin .mul (.kp false (.bin .mul (.var 1) (.var 1))) (.cst (.int 97)))))) (.cst (.int 1)))))
 .nil)
 .nil)
 .nil)
noncomputable def dR:ISs:=.cons (.set 4 (.kp false (.bin .add (.kp false (.bin .add (.kp false (.bin .mod (.var 3) (.cst (.int 999983)))) (.kp false (.bin .mul (.cst (.int 31)) (.var 1))))) (.cst (.int 5)))))
 (.cons (.set 5 (.kp true (.lst .nil)))
 (.cons (.iff (.cmp .ge (.var 3) (.kp false (.bin .pow (.cst (.int 10)) (.cst (.int 18)))))
 (.cons (.whl 100 dT1 dB1)
 .nil)
 .nil)
 (.cons (.whl 100 dT2 dB2)
 (.cons (.ret (.val (.var 5)))
 .nil))))
theorem qdr:vM=.cons (.set 3 (.kp false (.bin .add (.kp false (.bin .mul (.cst (.int 7)) (.var 1))) (.cst (.int 1))))) (.cons dC dR):=rfl
theorem WV(c0:Int)(ha:at_<100000)(ss:ISs):∃c:Int,evSs qe (.cons dC ss) [some (.lst (ins.map .int)),some (.int at_),some (.int many),some (.int c0),none,none,none] b=evSs qe ss [some (.lst (ins.map .int)),some (.int at_),some (.int many),some (.int c),none,none,none] b:=by
 have hl0:IV.ev (.kp false (.bf .len (.cons (.var 0) .nil))) qe [some (.lst (ins.map .int)),some (.int at_),some (.int many),some (.int c0),none,none,none] b=.ok (.int ins.length) b:=by
  have:=iLn (T:=qe) (v:=.var 0) (s:=[some (.lst (ins.map .int)),some (.int at_),some (.int many),some (.int c0),none,none,none]) (b:=b) (d:=.lst (ins.map .int)) (l:=ins.map .int) rfl rfl;rw[aM]at this;exact this
 have t1:=tLt (T:=qe) (v:=.var 1) (i:=at_) rfl hl0;unfold dC
 by_cases h1:(at_:Int)<ins.length
 ·have hh:at_<ins.length:=by omega
  have e2:IV.ev (.ix (.var 0) (.var 1)) qe [some (.lst (ins.map .int)),some (.int at_),some (.int many),some (.int c0),none,none,none] b=.ok (.int ins[at_]) b:=jq (b1:=b) (b2:=b) (d:=.lst (ins.map .int)) (d2:=.int at_) rfl rfl ((ixSc at_).trans (by rw[aW,ak hh];rfl));exact⟨ins[at_],if_x (tYes t1 h1) (qA e2)⟩
 ·have t2:=tGt (T:=qe) hl0 (iC (i:=0))
  by_cases h2:(0:Int)<ins.length
  ·have hm:at_ % ins.length<ins.length:=Nat.mod_lt _ (by omega)
   have e1:=iMod (T:=qe) (v:=.var 1) (i:=at_) rfl hl0 h2;rw[show(at_:Int) % (ins.length:Int)=((at_ % ins.length:Nat):Int)from rfl]at e1;have e2:=jq (T:=qe) (v:=.var 0) (b1:=b) (d:=.lst (ins.map .int)) (r:=.int ins[at_ % ins.length]) rfl e1 ((ixSc _).trans (by rw[aW,ak hm];rfl));have e3:=WB (JF (T:=qe) (s:=[some (.lst (ins.map .int)),some (.int at_),some (.int many),some (.int c0),none,none,none]) (b:=b) (v:=.var 1) (w:=.var 1) (i:=at_) (j:=at_) rfl rfl (by omega) (by omega)) (iC (i:=97)) (by decide) (by decide);exact⟨_,if_y (tNo t1 h1) (if_x (tYes t2 h2) (qA (iAdd (iAdd (iMod e2 (iC (i:=999983)) (by decide)) e3) (iC (i:=1)))))⟩
  ·exact⟨c0,if_y (tNo t1 h1) (if_n (tNo t2 h2))⟩
theorem yj(ha:at_<100000)(hm:many<=60):∃vs:iM,kP [.lst (ins.map .int),.int at_,.int many] b=.ok (.v (.obj b.length)) (b++[.lst false (vs.map .int)])/\Dr vs/\vs.length=many:=by
 have e0:kP [.lst (ins.map .int),.int at_,.int many] b=outR (evSs qe vM [some (.lst (ins.map .int)),some (.int at_),some (.int many),none,none,none,none] b):=rfl;obtain⟨c0,hc0⟩:∃c0:Int,IV.ev (.kp false (.bin .add (.kp false (.bin .mul (.cst (.int 7)) (.var 1))) (.cst (.int 1)))) qe [some (.lst (ins.map .int)),some (.int at_),some (.int many),none,none,none,none] b=.ok (.int c0) b:=⟨_,iAdd (JF (w:=.var 1) (j:=at_) iC rfl (by decide) (by decide)) iC⟩;obtain⟨c,hc⟩:=WV (b:=b) (ins:=ins) (many:=many) c0 ha dR;obtain⟨sd,hsd⟩:∃sd:Int,IV.ev (.kp false (.bin .add (.kp false (.bin .add (.kp false (.bin .mod (.var 3) (.cst (.int 999983)))) (.kp false (.bin .mul (.cst (.int 31)) (.var 1))))) (.cst (.int 5)))) qe [some (.lst (ins.map .int)),some (.int at_),some (.int many),some (.int c),none,none,none] b=.ok (.int sd) b:=⟨_,iAdd (iAdd (iMod (v:=.var 3) (i:=c) rfl iC (by decide)) (JF (w:=.var 1) (j:=at_) iC rfl (by decide) (by decide))) iC⟩;rw[e0,qdr,qA hc0];show ∃vs:iM,outR (evSs qe (.cons dC dR) [some (.lst (ins.map .int)),some (.int at_),some (.int many),some (.int c0),none,none,none] b)=_/\_;rw[hc];unfold dR;rw[qA hsd,Yv];show ∃vs:iM,outR (evSs qe _ (dS ins at_ many c sd b.length none) (b++[.lst false []]))=_/\_;have hk0:(b++[Ob.lst false []])[b.length]?=some (.lst false (([]:iM).map .int)):=yt;have t3:IT.ev (.cmp .ge (.var 3) (.kp false (.bin .pow (.cst (.int 10)) (.cst (.int 18))))) qe (dS ins at_ many c sd b.length none) (b++[.lst false []])=.ok (decide ((10 ^ 18:Int)<=c)) (b++[.lst false []]):=tGe (v:=.var 3) rfl iPw;have fin:∀(vs1:iM)(c1:Int),Dr vs1->vs1.length<=many->∃vs:iM,outR (evSs qe (.cons (.whl 100 dT2 dB2) (.cons (.ret (.val (.var 5))) .nil)) (dS ins at_ many c1 sd b.length none) (b++[.lst false (vs1.map .int)]))=.ok (.v (.obj b.length)) (b++[.lst false (vs.map .int)])/\Dr vs/\vs.length=many:=fun vs1 c1 hd hl=>by
  obtain⟨vs,sd',mk',h1,h2,h3⟩:=uZ (ins:=ins) (at_:=at_) (c:=c1) 100 (sd:=sd) (mk:=none) (vs:=vs1) (k:=b.length) (b:=b++[.lst false (vs1.map .int)]) yt hd hl (by omega) (by omega);refine⟨vs,?_,h2,h3⟩;rw[VY h1,ZR,zV (valE (v:=.var 5) (d:=.obj b.length) rfl)];rfl
 by_cases h:(10 ^ 18:Int)<=c
 ·obtain⟨vs1,c1,h1,h2,h3⟩:=u4 (ins:=ins) (at_:=at_) (sd:=sd) 100 (c:=c) hk0 (fun v hv=>by cases hv) (bz _) (show many<=1000 by omega) (by simp;omega)
  rw[if_x (tYes t3 h) ((VY h1).trans rfl),ZR];exact fin vs1 c1 h2 h3
 ·rw[if_n (tNo t3 h)]
  exact fin [] c (fun v hv=>by cases hv) (bz _)
end
section
variable{T:List FnE}{k C:Nat}{ix:List Nat}{ik:Ik}{as:IA}{t:Tg}{ts:IT}{e:IV}{s s1:Sc}{b b1 b2:Hb}{ds out:List D}{body ss:ISs}{f:EvD}{d:D}{o:Ob}{ft:EvB}{fe:EvD}
theorem jH(h:f s b=.ok (.lst ds) b1):Ik.any.ev [f] s b=.ok (ds,none) b1:=by
 show(f s b).bind _=_;rw[h];rfl
theorem W9(h:f s b=.ok (.tup ds) b1):Ik.any.ev [f] s b=.ok (ds,none) b1:=by
 show(f s b).bind _=_;rw[h];rfl
theorem Yb{r:List (KK×D)}(h:f s b=.ok (.dic r) b1):Ik.any.ev [f] s b=.ok (r.map fun y=>kkD y.1,none) b1:=by
 show(f s b).bind _=_;rw[h];rfl
theorem W_{n:Nat}{r:List (KK×D)}(h:f s b=.ok (.obj n) b1)(hn:b1[n]?=some (.dic false r)):Ik.any.ev [f] s b=.ok (r.map fun y=>kkD y.1,some n) b1:=by
 show(f s b).bind _=_;rw[h,R.bind_ok];simp[srcA,lsrc,dsrc,hn]
theorem VS{n:Nat}{r:List D}(h:f s b=.ok (.obj n) b1)(hn:b1[n]?=some (.lst false r)):Ik.any.ev [f] s b=.ok (r,some n) b1:=by
 show(f s b).bind _=_;rw[h,R.bind_ok];simp[srcA,lsrc,hn]
theorem JS{o:Out}:finO none o=o:=by cases o <;> rfl
theorem jd(hi:ik.ev (evL T as) s b=.ok (ds,none) b1):evSs T (.each ik as t body::ss) s b=sq (forD (za t (evSs T body)) ds s b1) (evSs T ss):=by
 rw[qm,WM,hi,Kc];show sq (finO none _) _=_;rw[JS];rfl
theorem vn(hi:ik.ev (evL T as) s b=.ok (ds,none) b1)(hgo:cmpD t (ts.ev T) (fxL (e.ev T)) ds (blk k ix s) (.lst false []) b1=.ok (.lst false out) b2):(IE.lc k ix ik as t ts e).ev T s b=.ok (.n (.lst false out)) b2:=by
 show cmpR _ _ _ _ _ _ _ s b=_;unfold cmpR;rw[hi,R.bind_ok];show(cmpD _ _ _ ds _ _ b1).bind _=_;rw[hgo];rfl
theorem yS{n:Nat}(hi:ik.ev (evL T as) s b=.ok (ds,some n) b1)(hn:b1[n]?=some o)(h0:o.set false=o)(hgo:cmpD t (ts.ev T) (fxL (e.ev T)) ds (blk k ix s) (.lst false []) (b1.set n (o.set true))=.ok (.lst false out) (b1.set n (o.set true))):(IE.lc k ix ik as t ts e).ev T s b=.ok (.n (.lst false out)) b1:=by
 show cmpR _ _ _ _ _ _ _ s b=_;unfold cmpR;rw[hi,R.bind_ok];have e1:qY (some n) true b1=b1.set n (o.set true):=by unfold qY;dsimp only;rw[hn]
 have e2:qY (some n) false (b1.set n (o.set true))=b1:=by
  unfold qY;dsimp only;rw[ZQ hn];dsimp only;show(b1.set n _).set n ((o.set true).set false)=_;rw[i5,show(o.set true).set false=o from by rw[<- h0];cases o <;> rfl,vL hn]
 show(cmpD _ _ _ ds _ _ (qY (some n) true b1)).bind (fun o b=>R.ok (Res.n o) (qY (some n) false b))=_;rw[e1,hgo,R.bind_ok,e2]
theorem ym(S:Sc->Prop)(p:D->Bool)(f:D->D):∀{ds:List D}{s:Sc}{acc:List D},(∀d∈ds,∀s,S s->∃s1,asg t d s=some s1/\S s1/\ft s1 b=.ok (p d) b/\(p d=true->fe s1 b=.ok (f d) b))->S s->acc.length+ds.length<=sizeLine->
  cmpD t ft (fxL fe) ds s (.lst false acc) b=.ok (.lst false (acc++(ds.filter p).map f)) b
 |[],s,acc,_,_,_=>by simp[cmpD]
 |d::ds,s,acc,h,hs,hl=>by
  obtain⟨s1,h1,h2,h3,h4⟩:=h d aC s hs;have ih:=fun acc hl=>ym (ds:=ds) (s:=s1) (acc:=acc) S p f (fun d hd=>h d (ay _ hd)) h2 hl
  rw[bO]at hl;unfold cmpD;rw[h1];dsimp only;rw[h3,R.bind_ok];cases hp:p d with
  |true=>
   rw[aE rfl];unfold fxL;dsimp only;rw[h4 hp,R.bind_ok,aE (by omega),R.bind_ok];have:=ih (acc++[f d]) (by rw[az,bx];omega);unfold fxL at this;rw[this,dK hp,av,fY];rfl
  |false=>
   rw[ax (by decide),ih acc (by omega),dJ (by rw[hp];decide)]
end
section
variable{q:Nat}{b:Hb}{tb:TB}{dn un:List D}{u:Nat}{ids:List Nat}
theorem BkAt.ulen(B:BkAt q b tb dn un u ids):u<b.length:=(ag.mp B.un).1
theorem BkAt.setDn(B:BkAt q b tb dn un u ids)(dn':List D):BkAt q (b.set (q+3) (.lst false dn')) tb dn' un u ids:=by
 have l3:q+3<b.length:=(ag.mp B.dn).1;have g:∀{z o},z≠q+3->b[z]?=some o->(b.set (q+3) (Ob.lst false dn'))[z]?=some o:=fun{z o} hz h=>by rw[aO (bN hz)];exact h
 exact⟨g (by omega) B.bk,g (by omega) B.lg,g (by omega) B.ts,aV l3,g (by have:=B.lo u aC;omega) B.un,B.len,fun j p i h1 h2=>g (by have:=B.lo i (ay _ (aB h2));omega) (B.at_ j p i h1 h2),B.nd,B.lo,B.kn⟩
theorem BkAt.ilen(B:BkAt q b tb dn un u ids){i:Nat}(hi:i∈ids):i<b.length:=by
 obtain⟨j,hj⟩:=cM.mp hi;have jl:j<tb.length:=by rw[<- B.len];exact(ag.mp hj).1
 exact(ag.mp (B.at_ j _ i (ak jl) hj)).1
theorem BkAt.newUn(B:BkAt q b tb dn un u ids):BkAt q ((b++[Ob.lst false []]).set (q+1) (.ins 1 [(1,.obj (q+2)),(2,.obj (q+3)),(3,.obj b.length)])) tb dn [] b.length ids:=by
 have lu:=B.lo u aC;have ul:=B.ulen;have g:∀{z o},z≠q+1->b[z]?=some o->((b++[Ob.lst false []]).set (q+1) (.ins 1 [(1,.obj (q+2)),(2,.obj (q+3)),(3,.obj b.length)]))[z]?=some o:=fun{z o} hz h=>by
  rw[aO (bN hz),aU (ag.mp h).1];exact h
 refine⟨g (by omega) B.bk,?_,g (by omega) B.ts,g (by omega) B.dn,?_,B.len,fun j p i h1 h2=>g (by have:=B.lo i (ay _ (aB h2));omega) (B.at_ j p i h1 h2),?_,fun i hi=>?_,B.kn⟩
 ·rw[aV (by rw[az];omega)]
 ·rw[aO (by omega),aJ (aI _),di];rfl
 ·exact bq.mpr ⟨fun h=>cL _ (B.ilen h),(bq.mp B.nd).2⟩
 ·rcases aw.mp hi with rfl|hi
  ·omega
  ·exact B.lo i (ay _ hi)
structure Chg where
 w:D
 k:D
 row:D
 kw:KK
 kk:KK
 hw:dKK w=some kw
 hk:dKK k=some kk
noncomputable def Chg.d(c:Chg):D:=.tup [c.w,c.k,c.row]
noncomputable def Chg.put(tb:TB)(c:Chg):TB:=putT tb c.kw c.kk c.row
noncomputable def Chg.old(tb:TB)(c:Chg):D:=(lk (rows tb c.kw) c.kk).getD .non
noncomputable def Chg.stp(tb:TB)(c:Chg):D:=.tup [c.w,c.k,c.old tb,c.row]
noncomputable def YL(tb:TB)(cs:List Chg):TB:=cs.foldl Chg.put tb
noncomputable def Small(tb:TB)(n:Nat):Prop:=tb.length+n<sizeLine/\∀w,(rows tb w).length+n<sizeLine
theorem Small.put{tb:TB}{n:Nat}(h:Small tb (n+1))(c:Chg):Small (c.put tb) n:=by
 refine⟨?_,fun w=>?_⟩
 ·have:=bY List.length (v7 (tb:=tb) (w:=c.kw) (r:=putR (rows tb c.kw) c.kk c.row))
  rw[aM]at this;show(setT _ _ _).length+n<_;rw[this];have:=h.1
  split
  ·rw[aM];omega
  ·rw[az,aM,bx];omega
 ·show(rows (putT _ _ _ _) w).length+n<_
  rw[Qu]
  split
  ·have:=Vl (r:=rows tb c.kw) (k:=c.kk) (row:=c.row)
   have:=h.2 c.kw;omega
  ·have:=h.2 w;omega
theorem Small.mono{tb:TB}{n m:Nat}(h:Small tb n)(hm:m<=n):Small tb m:=⟨by have:=h.1;omega,fun w=>by have:=h.2 w;omega⟩
noncomputable def enB:ISs:=[.expr (.meth 1 (.var 0) [.var 3,.var 4,.var 5])]
noncomputable def enT:Tg:=.tp (.cons (.nm 3) (.cons (.nm 4) (.cons (.nm 5) .nil)))
theorem Qz:∀{cs:List Chg}{tb:TB}{b:Hb}{ids:List Nat}{x3 x4 x5 dd ch st:Option D},BkAt q b tb dn un u ids->Small tb (cs.length+1)->∃b' ids' y3 y4 y5,forD (za enT (evSs qf enB)) (cs.map Chg.d) [some (.obj (q+1)),dd,ch,x3,x4,x5,st] b=.nx [some (.obj (q+1)),dd,ch,y3,y4,y5,st] b'/\BkAt q b' (YL tb cs) dn un u ids'/\Grow q ids ids' b b'
 |[],tb,b,ids,x3,x4,x5,dd,ch,st,B,_=>⟨b,ids,x3,x4,x5,rfl,B,.refl⟩
 |c::cs,tb,b,ids,x3,x4,x5,dd,ch,st,B,hs=>by
  have hs':=hs.mono (m:=cs.length+1) (by simp);obtain⟨b1,ids1,h1,B1,g1⟩:=XX (row:=c.row) B c.hw c.hk (by have:=hs.1;omega) (by have:=hs.2 c.kw;omega);obtain⟨b2,ids2,y3,y4,y5,h2,B2,g2⟩:=Qz (cs:=cs) (x3:=some c.w) (x4:=some c.k) (x5:=some c.row) (dd:=dd) (ch:=ch) (st:=st) B1 (Small.put (by simpa using hs) c);refine⟨b2,ids2,y3,y4,y5,?_,B2,g1.trans g2⟩;have e1:za enT (evSs qf enB) c.d [some (.obj (q+1)),dd,ch,x3,x4,x5,st] b=.nx [some (.obj (q+1)),dd,ch,some c.w,some c.k,some c.row,st] b1:=by
   have hr:=w0 (j:=5) B.lg (by omega);simp[za,enT,enB,Chg.d,asg,asgs,qf,jB,hr,h1]
  rw[av];show(match za _ _ c.d _ b with|.nx s b=>forD _ _ s b|.ct s b=>forD _ _ s b|.bk s b=>.nx s b|o=>o)=_;rw[e1];exact h2
noncomputable def stpD(tb:TB)(d:D):D:=match d with
 |.tup [w,k,r]=>match dKK w,dKK k with
  |some kw,some kk=>.tup [w,k,(lk (rows tb kw) kk).getD .non,r]
  |_,_=>.non
 |_=>.non
theorem VX(tb:TB)(c:Chg):stpD tb c.d=c.stp tb:=by
 unfold stpD Chg.d;simp only[c.hw,c.hk];rfl
theorem J6{deed:D}{cs:List Chg}(B:BkAt q b tb dn un u ids)(hs:Small tb (cs.length+1))(hd:dn.length<sizeLine):∃b' u' ids',qz [.obj (q+1),deed,.lst (cs.map Chg.d)] b=.ok (.v .non) b'/\BkAt q b' (YL tb cs) (dn++[.tup [deed,.tup (cs.map (Chg.stp tb))]]) [] u' ids'/\Grow q ids ids' b b':=by
 have hl:cs.length<=sizeLine:=by have:=hs.1;omega
 have hr4:=w0 (j:=4) B.lg (by omega);have hgo:cmpD (.tp (.cons (.nm 1) (.cons (.nm 2) (.cons (.nm 3) .nil)))) (IT.tt.ev qf) (fxL ((IV.tup [.var 1,.var 2,.kp false (.bm .get (.kp false (.meth 0 (.var 4) [.var 1])) [.var 2]),.var 3]).ev qf)) (cs.map Chg.d) (blk 4 [0] [some (.obj (q+1)),some deed,some (.lst (cs.map Chg.d)),none,none,none,none]) (.lst false []) b=.ok (.lst false (cs.map (Chg.stp tb))) b:=by
  have:=ym (t:=.tp (.cons (.nm 1) (.cons (.nm 2) (.cons (.nm 3) .nil)))) (ft:=IT.tt.ev qf) (fe:=(IV.tup [.var 1,.var 2,.kp false (.bm .get (.kp false (.meth 0 (.var 4) [.var 1])) [.var 2]),.var 3]).ev qf) (b:=b) (fun s=>∃a0 a1 a2 a3,s=[a0,a1,a2,a3,some (.obj (q+1))]) (fun _=>true) (stpD tb) (ds:=cs.map Chg.d) (s:=blk 4 [0] [some (.obj (q+1)),some deed,some (.lst (cs.map Chg.d)),none,none,none,none]) (acc:=[]) (fun d hd s hs=>?_) ⟨none,none,none,none,rfl⟩ (by simpa using hl)
  ·rw[this,eS.mpr (fun _ _=>rfl),dE,cX]
   congr 2;exact cq fun c _=>VX tb c
  ·obtain⟨a0,a1,a2,a3,rfl⟩:=hs
   obtain⟨c,hc,rfl⟩:=aQ.mp hd;refine⟨[a0,some c.w,some c.k,some c.row,some (.obj (q+1))],rfl,⟨_,_,_,_,rfl⟩,rfl,fun _=>?_⟩;rw[VX];have ht:=zH (w:=c.w) B c.hw;have hdc:=B.tab c.kw;have hty:isTy b .dict (tabD tb ids c.kw)=true:=by
    show(qv b _).isSome=true;rw[hdc];rfl
   simp[qf,qa,hr4,ht,Bm.get,hty,gN,iGet,hdc,c.hk,Chg.stp,Chg.old]
 obtain⟨b2,ids2,y3,y4,y5,h2,B2,g2⟩:=Qz (cs:=cs) (x3:=none) (x4:=none) (x5:=none) (dd:=some deed) (ch:=some (.lst (cs.map Chg.d))) (st:=some (.lst (cs.map (Chg.stp tb)))) B hs;have B3:=B2.setDn (dn++[.tup [deed,.tup (cs.map (Chg.stp tb))]]);have l3:q+3<b2.length:=(ag.mp B2.dn).1;refine⟨_,_,_,?_,B3.newUn,g2.trans ⟨?_,?_,fun i h=>.inl h⟩⟩
 ·show outR (evSs qf zp [some (.obj (q+1)),some deed,some (.lst (cs.map Chg.d)),none,none,none,none] b)=_
  unfold zp;rw[qA (d:=.lst (cs.map (Chg.stp tb))) (b1:=b) (by rw[qO,vn (jH (f:=(IV.var 2).ev qf) rfl) hgo];rfl)];rw[jd (jH (f:=(IV.var 2).ev qf) (b1:=b) (ds:=cs.map Chg.d) rfl)];show outR (sq (forD (za enT (evSs qf enB)) (cs.map Chg.d) [some (.obj (q+1)),some deed,some (.lst (cs.map Chg.d)),none,none,none,some (.lst (cs.map (Chg.stp tb)))] b) _)=_;rw[h2,xz];have ap:=Zb (T:=qf) (v:=.fld 2 (.var 0)) (w:=.tup [.var 1,.kp false (.bf .tup [.var 6])]) (k:=q+3) (s:=[some (.obj (q+1)),some deed,some (.lst (cs.map Chg.d)),y3,y4,y5,some (.lst (cs.map (Chg.stp tb)))]) (b:=b2) (d:=.tup [deed,.tup (cs.map (Chg.stp tb))]) (ss:=[.fld 3 (.var 0) (.kp true (.lst .nil))]) (by simp[fld2 B2]) B2.dn (by simp[Bf.tup,gN,g1,iTup,qG]) hd;rw[ap];have lg:=(B3.more [Ob.lst false []]).lg;simp[setF,flds,lg,jX]
 ·exact((Kp.refl.set fun _=>.inr (.inr (.inl rfl))).app).set fun _=>.inl rfl
 ·simp
end
noncomputable def IV.lit(d:D):IV:=⟨fun _ _ _ _=>false,fun _ _ b=>.ok d b,fun _ h=>ff h,fun _ _ _ _=>false,fun _ h=>ff h⟩
noncomputable def iD(l:iM):D:=.tup (l.map .int)
noncomputable def lgT(i:Nat):iM:=match i with|0=>[0,1,2]|1=>[0]|_=>[2]
noncomputable def lgM(j:Nat):iM:=match j with|0=>[0,1,2]|_=>[2]
noncomputable def mk7(v:IV):IS:=.expr (.bm .app (.var 4) [.tup [.cst (.str "journey"),.cst (.str "twelvesigns9"),.cst (.str "a"),.cst (.str "b"),v]])
noncomputable def mk8(v:IV):IS:=.expr (.bm .app (.var 4) [.tup [.cst (.str "journey"),.cst (.str "m"),.cst (.str "a"),.cst (.str "b"),v]])
noncomputable def mid(i j:Nat):ISs:=(((i_law.drop 1).take 9).set 5 (mk7 (.lit (iD (lgT i))))).set 6 (mk8 (.lit (iD (lgM j))))
noncomputable def midO(i j:Nat)(ns dl:List D):Out:=evSs ql (mid i j) [some (.lst ns),some (.obj 0),none,none,none,none,none,none,none,none,none,none,none,none,none] [.lst false dl]
section
variable{q:Nat}{b:Hb}{tb:TB}{dn un:List D}{u:Nat}{ids:List Nat}{d y:D}{l:List (KK×D)}{k:KK}{f:Bool->Bool}{n r:Int}{x:Str}{ls:iM}{n1 n2:Str}
theorem kR(h:qv b y=some l):qG b y=none:=by
 cases y <;> first|cases h|skip
 ·rfl
 ·rename_i n
  obtain⟨o,h1,h2⟩:=ai.mp (show(b[n]?).bind Ob.k=some l from h);show(b[n]?).bind Ob.l=none;rw[h1];cases o <;> first|rfl|cases h2
theorem ZV(h:qv b y=some l):kQ b y=none:=by
 have:=kR h;cases y <;> first|exact this|cases h
theorem kU(h:qv b y=some l)(hk:dKK d=some k):inD f b d y=some (f (lk l k).isSome):=by
 have e:inT d y=none:=by cases d <;> first|rfl|(cases y <;> first|rfl|cases h)
 unfold inD;rw[e,ZV h,h];simp[hk]
theorem any_ints:anyE (fun z=>eqN b 5 z (.int r)) (ls.map .int)=some (decide (r∈ls)):=by
 induction ls with
 |nil=>simp[anyE]
 |cons a ls ih=>
  rw[av];unfold anyE;rw[ih,J1]
  by_cases h:a=r
  ·subst h;simp
  ·have:¬ r=a:=fun z=>h z.symm
   simp[h,this]
theorem wx:inD f b (.int r) (.tup (ls.map .int))=some (f (decide (r∈ls))):=by
 have e:kQ b (.tup (ls.map .int))=some (ls.map .int):=rfl;unfold inD;rw[e,bb,any_ints];simp[inT]
theorem qZ(B:BkAt q b tb dn un u ids):qu [.obj q,.str x] b=match lk (rows tb (.inl (.inr "journey"))) (.inl (.inr x))with
  |some d=>.ok (.v d) b
  |none=>.exc 11 b:=by
 have ht:=zH (w:=.str "journey") B rfl;have hr:=w0 (j:=4) B.lg (by omega);have hd:=B.tab (.inl (.inr "journey"));have hi:=kU (f:=not) hd (show dKK (.str x)=some (.inl (.inr x))from rfl);have hx:ixD b (tabD tb ids (.inl (.inr "journey"))) (.str x)=lk (rows tb (.inl (.inr "journey"))) (.inl (.inr x)):=by
  have h1:=kR hd;have:∀y,qv b y=some (rows tb (.inl (.inr "journey")))->ixD b y (.str x)=((qG b y).bind fun l=>ixI l (.str x)).or ((qv b y).bind fun l=>(dKK (.str x)).bind fun k=>lk l k):=fun y hy=>by
   cases y <;> first|rfl|cases hy
  rw[this _ hd,h1,hd];rfl
 cases z:lk (rows tb (.inl (.inr "journey"))) (.inl (.inr x))with
 |none=>simp[qu,qK,qN,qa,fld0 B,hr,ht,hi,z]
 |some d=>simp[qu,qK,qN,qa,fld0 B,hr,ht,hi,z,hx]
theorem ku(B:BkAt q b tb dn un u ids):zc [.obj q,.int r] b=if(lk (rows tb (.inl (.inr "run"))) (.inl (.inl r))).isSome then .ok (.v .non) b else .exc 10 b:=by
 have ht:=zH (w:=.str "run") B rfl;have hr:=w0 (j:=4) B.lg (by omega);have hd:=B.tab (.inl (.inr "run"));have hi:=kU (f:=not) hd (show dKK (.int r)=some (.inl (.inl r))from rfl);cases z:lk (rows tb (.inl (.inr "run"))) (.inl (.inl r))with
 |none=>simp[zc,q9,zb,qa,fld0 B,hr,ht,hi,z]
 |some d=>simp[zc,q9,zb,qa,fld0 B,hr,ht,hi,z]
noncomputable def mn(x y:Str):Str:=if y.cps.toList<x.cps.toList then y else x
noncomputable def mx(x y:Str):Str:=if x.cps.toList<y.cps.toList then y else x
noncomputable def kD(x y:Str)(r:Int):D:=.tup [.str (mn x y),.str (mx x y),.int r]
noncomputable def kK(x y:Str)(r:Int):KK:=.inr [.inr (mn x y),.inr (mx x y),.inl r]
theorem dkK{x y:Str}:dKK (kD x y r)=some (kK x y r):=rfl
theorem wq{x y:Str}:j_ [.str x,.str y,.int r] b=.ok (.v (kD x y r)) b:=by
 have e1:Bf.min.g [.str x,.str y] b=some (.v (.str (mn x y)),b):=rfl;have e2:Bf.max.g [.str x,.str y] b=some (.v (.str (mx x y)),b):=rfl;simp[j_,jY,e1,e2,kD]
theorem KZ{l1 l2:iM}{s1 g1 s2 g2:D}(B:BkAt q b tb dn un u ids)(h1:lk (rows tb (.inl (.inr "journey"))) (.inl (.inr n1))=some (.tup [s1,g1,.tup (l1.map .int)]))(h2:lk (rows tb (.inl (.inr "journey"))) (.inl (.inr n2))=some (.tup [s2,g2,.tup (l2.map .int)]))(h3:(lk (rows tb (.inl (.inr "run"))) (.inl (.inl r))).isSome=true) :
  qg [.obj q,.str n1,.str n2,.int r] b=if n1=n2\/r∉l1\/r∉l2 then .exc 12 b else if(lk (rows tb (.inl (.inr "share"))) (kK n1 n2 r)).isSome then .exc 16 b else
   (qz [.obj (q+1),.tup [.str "share",.str n1,.str n2,.int r],.lst [.tup [.str "share",kD n1 n2 r,.bl true]]] b).bind fun _ b=>.ok (.v .non) b:=by
 have k1:=qZ (x:=n1) B;have k2:=qZ (x:=n2) B;have k3:=ku (r:=r) B;rw[h1]at k1;rw[h2]at k2;rw[aE h3]at k3;have r0:=fun j(hj:1<=j)=>wi (j:=j) B.bk hj
 have r1:=fun j(hj:4<=j)=>w0 (j:=j) B.lg hj
 have ht:=zH (w:=.str "share") B rfl;have hi:=kU (f:=id) (B.tab (.inl (.inr "share"))) (dkK (x:=n1) (y:=n2) (r:=r));have i1:=fun ls=>wx (f:=not) (b:=b) (r:=r) (ls:=ls)
 have x1:ixD b (.tup [s1,g1,.tup (l1.map .int)]) (.int 2)=some (.tup (l1.map .int)):=rfl;have x2:ixD b (.tup [s2,g2,.tup (l2.map .int)]) (.int 2)=some (.tup (l2.map .int)):=rfl
 by_cases a1:n1=n2
 ·simp[qg,qw,qy,e_Book_kept_journey,qh,r0,k1,k2,k3,x1,x2,a1]
 by_cases a2:r∈l1
 ·by_cases a3:r∈l2
  ·cases a4:(lk (rows tb (.inl (.inr "share"))) (kK n1 n2 r)).isSome with
   |true=>
    rw[a4]at hi;simp[qg,qw,qy,e_Book_kept_journey,qh,qW,qa,r0,r1,k1,k2,k3,x1,x2,a1,a2,a3,i1,wq,fld0 B,ht,hi]
   |false=>
    rw[a4]at hi;simp[qg,qw,qy,e_Book_kept_journey,qh,qW,qa,qx,r0,r1,k1,k2,k3,x1,x2,a1,a2,a3,i1,wq,fld0 B,ht,hi];cases qz [.obj (q+1),.tup [.str "share",.str n1,.str n2,.int r],.lst [.tup [.str "share",kD n1 n2 r,.bl true]]] b <;> rfl
  ·simp[qg,qw,qy,e_Book_kept_journey,qh,r0,k1,k2,k3,x1,x2,a1,a2,a3,i1]
 ·simp[qg,qw,qy,e_Book_kept_journey,qh,r0,k1,k2,k3,x1,x2,a1,a2,i1]
theorem K2(B:BkAt q b tb dn un u ids)(h1:lk (rows tb (.inl (.inr "journey"))) (.inl (.inr n1))=none):qg [.obj q,.str n1,.str n2,.int r] b=.exc 11 b:=by
 have k1:=qZ (x:=n1) B;rw[h1]at k1;have r0:=fun j(hj:1<=j)=>wi (j:=j) B.bk hj
 simp[qg,qw,qy,e_Book_kept_journey,r0,k1]
theorem K0{l1:iM}{s1 g1:D}(B:BkAt q b tb dn un u ids)(h1:lk (rows tb (.inl (.inr "journey"))) (.inl (.inr n1))=some (.tup [s1,g1,.tup (l1.map .int)]))(h2:lk (rows tb (.inl (.inr "journey"))) (.inl (.inr n2))=none):qg [.obj q,.str n1,.str n2,.int r] b=.exc 11 b:=by
 have k1:=qZ (x:=n1) B;have k2:=qZ (x:=n2) B;rw[h1]at k1;rw[h2]at k2;have r0:=fun j(hj:1<=j)=>wi (j:=j) B.bk hj
 have x1:ixD b (.tup [s1,g1,.tup (l1.map .int)]) (.int 2)=some (.tup (l1.map .int)):=rfl;simp[qg,qw,qy,e_Book_kept_journey,r0,k1,k2,x1]
theorem XM{l1 l2:iM}{s1 g1 s2 g2:D}(B:BkAt q b tb dn un u ids)(h1:lk (rows tb (.inl (.inr "journey"))) (.inl (.inr n1))=some (.tup [s1,g1,.tup (l1.map .int)]))(h2:lk (rows tb (.inl (.inr "journey"))) (.inl (.inr n2))=some (.tup [s2,g2,.tup (l2.map .int)]))(h3:(lk (rows tb (.inl (.inr "run"))) (.inl (.inl r))).isSome=false):qg [.obj q,.str n1,.str n2,.int r] b=.exc 10 b:=by
 have k1:=qZ (x:=n1) B;have k2:=qZ (x:=n2) B;have k3:=ku (r:=r) B;rw[h1]at k1;rw[h2]at k2;rw[ax (by rw[h3];decide)]at k3;have r0:=fun j(hj:1<=j)=>wi (j:=j) B.bk hj
 have x1:ixD b (.tup [s1,g1,.tup (l1.map .int)]) (.int 2)=some (.tup (l1.map .int)):=rfl;have x2:ixD b (.tup [s2,g2,.tup (l2.map .int)]) (.int 2)=some (.tup (l2.map .int)):=rfl;simp[qg,qw,qy,e_Book_kept_journey,qh,r0,k1,k2,k3,x1,x2]
theorem yy(B:BkAt q b tb dn un u ids):qD [.obj q,.str n1,.str n2,.int r] b=if(lk (rows tb (.inl (.inr "share"))) (kK n1 n2 r)).isSome then
   (qz [.obj (q+1),.tup [.str "unshare",.str n1,.str n2,.int r],.lst [.tup [.str "share",kD n1 n2 r,.non]]] b).bind fun _ b=>.ok (.v .non) b else .exc 14 b:=by
 have r1:=fun j(hj:4<=j)=>w0 (j:=j) B.lg hj
 have ht:=zH (w:=.str "share") B rfl;have hi:=kU (f:=not) (B.tab (.inl (.inr "share"))) (dkK (x:=n1) (y:=n2) (r:=r));cases a4:(lk (rows tb (.inl (.inr "share"))) (kK n1 n2 r)).isSome with
 |false=>
  rw[a4]at hi;simp[qD,zq,zu,qW,qa,r1,wq,fld0 B,ht,hi]
 |true=>
  rw[a4]at hi;simp[qD,zq,zu,qW,qa,qx,r1,wq,fld0 B,ht,hi];cases qz [.obj (q+1),.tup [.str "unshare",.str n1,.str n2,.int r],.lst [.tup [.str "share",kD n1 n2 r,.non]]] b <;> rfl
theorem uT{deed k row:D}{kw kk:KK}{w:D}(B:BkAt q b tb dn un u ids)(hw:dKK w=some kw)(hk:dKK k=some kk)(hs:Small tb 2)(hd:dn.length<sizeLine):∃b' u' ids' dn',qz [.obj (q+1),deed,.lst [.tup [w,k,row]]] b=.ok (.v .non) b'/\BkAt q b' (putT tb kw kk row) dn' [] u' ids'/\dn'.length=dn.length+1/\Grow q ids ids' b b':=by
 obtain⟨b',u',ids',h1,h2,h3⟩:=J6 (deed:=deed) (cs:=[⟨w,k,row,kw,kk,hw,hk⟩]) B hs hd;exact⟨b',u',ids',_,h1,h2,by simp,h3⟩
noncomputable def oth(x:Str):KK->Option KK
 |.inr [.inr a,.inr c,.inl r]=>if a=x then some (.inr [.inr c,.inl r])else if c=x then some (.inr [.inr a,.inl r])else none
 |_=>none
noncomputable def les(x:Str):KK->Option KK
 |.inr [.inr a,.inr c,.inl r]=>if c=x then some (.inr [.inr a,.inl r])else none
 |_=>none
noncomputable def gre(x:Str):KK->Option KK
 |.inr [.inr a,.inr c,.inl r]=>if a=x then some (.inr [.inr c,.inl r])else none
 |_=>none
noncomputable def IsSh(k:KK):Prop:=∃a c r,k=.inr [.inr a,.inr c,.inl r]/\a≠c
theorem QA{x:Str}:∀{K:List KK},(∀k∈K,IsSh k)->(K.filterMap (les x)++K.filterMap (gre x)).Perm (K.filterMap (oth x))
 |[],_=>.nil
 |k::K,h=>by
  have ih:=QA (x:=x) (K:=K) fun k hk=>h k (ay _ hk)
  obtain⟨a,c,r,rfl,hn⟩:=h k aC;have eL:les x (.inr [.inr a,.inr c,.inl r])=if c=x then some (.inr [.inr a,.inl r])else none:=rfl
  have eG:gre x (.inr [.inr a,.inr c,.inl r])=if a=x then some (.inr [.inr c,.inl r])else none:=rfl
  have eO:oth x (.inr [.inr a,.inr c,.inl r])=if a=x then some (.inr [.inr c,.inl r])else if c=x then some (.inr [.inr a,.inl r])else none:=rfl
  by_cases h1:a=x
  ·have h2:¬ c=x:=fun z=>hn (h1.trans z.symm)
   rw[ax h2]at eL;rw[aE h1]at eG eO;rw[cy eL,cQ eG,cQ eO];exact List.perm_middle.trans (ih.cons _)
  ·by_cases h2:c=x
   ·rw[aE h2]at eL
    rw[ax h1]at eG;rw[ax h1,aE h2]at eO;rw[cQ eL,cy eG,cQ eO];exact ih.cons _
   ·rw[ax h2]at eL
    rw[ax h1]at eG;rw[ax h1,ax h2]at eO;rw[cy eL,cy eG,cy eO];exact ih
theorem Zc:∀{ks:List KK},allK (ks.map kkD)=some ks
 |[]=>rfl
 |k::ks=>by
  have e:dKK (kkD k)=some k:=by
   cases k with
   |inl k=>cases k <;> rfl
   |inr l=>
    show(y8 (l.map keyD)).map _=_;have:∀l:List Key,y8 (l.map keyD)=some l:=fun l=>by
     induction l with
     |nil=>rfl
     |cons a l ih=>rw[av];unfold y8;rw[ih];cases a <;> rfl
    rw[this];rfl
  rw[av];unfold allK;rw[e,Zc];rfl
theorem KW{ks:List KK}(h:ks.length<64)(hs:sortable ks=true):srtR (ks.map kkD) ks=some (.n (.lst false ((srtK ks).map kkD))):=by
 unfold srtR srtK;rw[aE ⟨h,hs⟩,dE];congr 3;refine cq fun i hi=>?_
 have hi:i<ks.length:=dX.mp ((ki ks).mem_iff.mp hi);simp[hi]
theorem wA{ks:List KK}{d:D}(hd:qG b d=some (ks.map kkD))(h:ks.length<64)(hs:sortable ks=true):iSrt b d=some (.n (.lst false ((srtK ks).map kkD))):=by
 unfold iSrt;rw[hd,bb,Zc,bb,KW h hs];rfl
theorem jW{ks:List KK}{z:Bool ⊕ List Bool}(hz:z=.inr [true,false]\/z=.inr [true,true,false])(h:∀k∈ks,shK k=z):sortable ks=true:=by
 match ks,h with
 |[],_=>rfl
 |[_],_=>rfl
 |k::l::r,h=>
  have h0:=h k aC;unfold sortable;rw[aq,aP];refine⟨?_,fun x hx=>by rw[h x (ay _ hx),h0];simp⟩;have:kindS k=kindS (if z=.inr [true,false] then .inr [.inr "",.inl 0] else .inr [.inr "",.inr "",.inl 0]):=QJ (by rcases hz with rfl|rfl <;> rw[h0] <;> rfl);rw[this]
  split <;> rfl
theorem KU{U ks ls:List KK}(hU:∀a∈U,∀c∈U,encK a=encK c->a=c)(hk:∀k∈ks,k∈U)(hp:ks.Perm ls):srtK ks=srtK ls:=by
 refine ia (le:=fun a c=>¬ encK c<encK a) (fun a c ha hc h1 h2=>?_) (wb ks) (wb ls) ((qF ks).trans (hp.trans (qF ls).symm));exact hU a (hk a ((qF ks).mem_iff.mp ha)) c (hk c (hp.mem_iff.mpr ((qF ls).mem_iff.mp hc))) (tot h2 h1)
end
section
variable{n:Nat}{b:Hb}{x:Str}{r:Int}{d d':D}{l:List D}{tq:String}{T:List FnE}{s:Sc}{v:IV}{f:Bf}
noncomputable def smT(n:Nat):List FnE:=[⟨0,"_law_same",0,0,2,n,qT n⟩]
theorem XJ:qT (n+1) [d,d'] b=outR (evSs (smT n) q7 [some d,some d',none] b):=rfl
theorem vo(hv:v.ev T s b=.ok d b)(h:tyD b d=some tq):(IV.isi f v).ev T s b=.ok (.bl (isiS tq f.ty)) b:=by
 rw[uR,hv,R.bind_ok];unfold E.isi;rw[h];rfl
theorem QL(hv:v.ev T s b=.ok d b)(h:tyD b d=some tq):(IV.isiTL v).ev T s b=.ok (.bl (isiS tq "tuple" || isiS tq "list")) b:=by
 rw[VJ,hv,R.bind_ok];unfold E.isi;rw[h];rfl
theorem valT{k:Bool}(h:v.ev T s b=.ok (.bl k) b):(IT.val v).ev T s b=.ok k b:=by rw[JU,h];rfl
theorem Y0(h:tyD b d'=some tq)(hn:(isiS tq "tuple" || isiS tq "list")=false):(IT.val (.isiTL (.var 1))).ev (smT n) [some d,some d',none] b=.ok false b:=by
 have:=valT (QL (v:=.var 1) (T:=smT n) (s:=[some d,some d',none]) (b:=b) (d:=d') rfl h);rw[hn]at this;exact this
theorem YZ(h1:tyD b d=some tq)(h2:tyD b d'=some tq)(hb:isiS tq "bool"=false):(IT.or [.val (.isi .len (.var 1)),.val (.isi .len (.var 0))]).ev (smT n) [some d,some d',none] b=.ok false b:=by
 have a1:=valT (vo (f:=.len) (v:=.var 1) (T:=smT n) (s:=[some d,some d',none]) (b:=b) (d:=d') rfl h2);have a0:=valT (vo (f:=.len) (v:=.var 0) (T:=smT n) (s:=[some d,some d',none]) (b:=b) (d:=d) rfl h1);rw[show isiS tq Bf.len.ty=false from hb]at a1 a0;rw[vz,vm,a1,R.bind_ok,ax (by decide),xU,a0]
theorem Q0(h:eqN b 8 d d=some true):(IV.kp false (.cmp .eq (.var 0) (.var 1))).ev (smT n) [some d,some d,none] b=.ok (.bl true) b:=by
 rw[qO,JY];show kp false (opR (bv (eqN b 8 d d) b))=_;rw[h];rfl
theorem qa4{a c:IV}(h:a.ev T s b=.ok (.bl true) b):(IV.andv [a,c]).ev T s b=c.ev T s b:=by
 rw[VL,Yc,h,R.bind_ok,qa1,R.bind_ok,aE rfl,VM]
theorem tIsN(hn:d'.isN=false):(IT.cmp .is (.var 1) (.cst .non)).ev (smT n) [some d,some d',none] b=.ok false b:=tCmp (T:=smT n) (d:=d') (d2:=.non) rfl (by rw[Wt,hn];rfl) rfl rfl
theorem same_str:qT (n+1) [.str x,.str x] b=.ok (.v (.bl true)) b:=by
 have h:tyD b (.str x)=some "str":=rfl;have ti:(IT.val (.isi .int (.var 1))).ev (smT n) [some (.str x),some (.str x),none] b=.ok false b:=valT (vo (f:=.int) (v:=.var 1) (T:=smT n) (b:=b) (d:=.str x) rfl h);rw[XJ];unfold q7;rw[if_n (Y0 h rfl),if_n (tIsN rfl),if_n (YZ h h rfl),if_n ti,zV (valE (d:=.bl true) (b1:=b) ?_)]
 ·rfl
 ·rw[qa4 (show(IV.isi .str (.var 0)).ev (smT n) _ b=.ok (.bl true) b from vo (f:=.str) (v:=.var 0) (T:=smT n) (b:=b) (d:=.str x) rfl h)]
  exact Q0 (by rw[wE];simp)
theorem same_int:qT (n+1) [.int r,.int r] b=.ok (.v (.bl true)) b:=by
 have h:tyD b (.int r)=some "int":=rfl;have ti:(IT.val (.isi .int (.var 1))).ev (smT n) [some (.int r),some (.int r),none] b=.ok true b:=valT (vo (f:=.int) (v:=.var 1) (T:=smT n) (b:=b) (d:=.int r) rfl h);rw[XJ];unfold q7;rw[if_n (Y0 h rfl),if_n (tIsN rfl),if_n (YZ h h rfl),if_r ti (zV (valE (d:=.bl true) (b1:=b) ?_))]
 ·rfl
 ·rw[qa4 (show(IV.isi .int (.var 0)).ev (smT n) _ b=.ok (.bl true) b from vo (f:=.int) (v:=.var 0) (T:=smT n) (b:=b) (d:=.int r) rfl h)]
  exact Q0 (by rw[J1];simp)
theorem Qs:qT (n+1) [.non,.non] b=.ok (.v (.bl true)) b:=rfl
theorem JP{body:D->Sc->Hb->Out}(P:Sc->Prop):∀{ds:List D}{s:Sc},(∀d∈ds,∀s,P s->∃s',body d s b=.nx s' b/\P s')->P s->∃s',forD body ds s b=.nx s' b/\P s'
 |[],s,_,h=>⟨s,rfl,h⟩
 |d::ds,s,h,hs=>by
  obtain⟨s1,h1,h2⟩:=h d aC s hs;obtain⟨s2,h3,h4⟩:=JP P (fun d hd=>h d (ay _ hd)) h2;refine⟨s2,?_,h4⟩;show(match body d s b with|.nx s b=>forD _ _ s b|.ct s b=>forD _ _ s b|.bk s b=>.nx s b|o=>o)=_;rw[h1];exact h3
theorem we{m:Nat}(hm:m<=1000)(hv:v.ev T s b=.ok (.int m) b):Ik.rng.ev [v.ev T] s b=.ok (rng 0 m,none) b:=by
 have h0:inR (m:Int)=true:=by
  unfold inR;rw[aq,aF,aF];omega
 have hr:srcR [.int (m:Int)]=some (rng 0 m,none):=by
  unfold srcR;dsimp only;rw[aE h0]
 show(seqA [v.ev T] s b).bind (fun l b=>opt (srcR l) b)=_;rw[qb,hv,R.bind_ok,qE,R.bind_ok,R.bind_ok,hr,QC]
theorem XW{m:Nat}{z:D}(hz:z∈rng 0 m):∃i:Nat,i<m/\z=.int i:=by
 unfold rng at hz;obtain⟨i,hi,rfl⟩:=aQ.mp hz;exact⟨i,by simpa using dX.mp hi,by simp⟩
noncomputable def smB:ISs:=[.iff (.nt (.val (.kp false (.call 0 [.ix (.var 0) (.var 2),.ix (.var 1) (.var 2)])))) [.ret (.val (.cst (.bl false)))] []]
theorem yG{m:Nat}(hty:tq="tuple"\/tq="list")(h1:tyD b d=some tq)(h2:tyD b d'=some tq)(l1:iLen b d=some (.v (.int m)))(l2:iLen b d'=some (.v (.int m)))(hm:m<=1000)(h:∀i:Nat,i<m->∃e e',ixD b d (.int i)=some e/\ixD b d' (.int i)=some e'/\qT n [e,e'] b=.ok (.v (.bl true)) b):qT (n+1) [d,d'] b=.ok (.v (.bl true)) b:=by
 have tl:(isiS tq "tuple" || isiS tq "list")=true:=by rcases hty with rfl|rfl <;> rfl
 have t0:=valT (QL (v:=.var 1) (T:=smT n) (s:=[some d,some d',none]) (b:=b) (d:=d') rfl h2);rw[tl]at t0;have ii:∀f:Bf,(IT.cmp .ne (.isi f (.var 1)) (.isi f (.var 0))).ev (smT n) [some d,some d',none] b=.ok false b:=fun f=>
  tCmp (T:=smT n) rfl (by rw[Yx];simp) (vo (f:=f) (v:=.var 1) (T:=smT n) (b:=b) (d:=d') rfl h2) (vo (f:=f) (v:=.var 0) (T:=smT n) (b:=b) (d:=d) rfl h1)
 have t1:(IT.or [.cmp .ne (.isi .tup (.var 1)) (.isi .tup (.var 0)),.cmp .ne (.isi .list (.var 1)) (.isi .list (.var 0))]).ev (smT n) [some d,some d',none] b=.ok false b:=by
  rw[vz,vm,ii,R.bind_ok,ax (by decide),xU,ii]
 have ln:∀{i:Nat}{z:D}{a2:Option D}{y:Option D},(IV.var i).ev (smT n) [some d,some d',y] b=.ok z b->iLen b z=some (.v (.int m))->(IV.kp false (.bf .len [.var i])).ev (smT n) [some d,some d',y] b=.ok (.int m) b:=fun{i z a2 y} hv hl=>by
  rw[qO,wD,qc,qo,qb,hv,R.bind_ok,qE,R.bind_ok,R.bind_ok];show kp false (opR (gN (g1 iLen) [z] b))=_;unfold gN g1;dsimp only;rw[hl];rfl
 have t2:(IT.cmp .ne (.kp false (.bf .len [.var 0])) (.kp false (.bf .len [.var 1]))).ev (smT n) [some d,some d',none] b=.ok false b:=
  tCmp (T:=smT n) rfl (by rw[XR];simp) (ln (a2:=none) rfl l1) (ln (a2:=none) rfl l2)
 obtain⟨s',e1,y,rfl⟩:=JP (b:=b) (body:=za (.nm 2) (evSs (smT n) smB)) (fun s=>∃z,s=[some d,some d',z]) (ds:=rng 0 m) (s:=[some d,some d',none]) (fun z hz s hs=>by
  obtain⟨y,rfl⟩:=hs;obtain⟨i,hi,rfl⟩:=XW hz;obtain⟨e,e',q1,q2,q3⟩:=h i hi;refine⟨[some d,some d',some (.int i)],?_,_,rfl⟩;show evSs (smT n) smB [some d,some d',some (.int i)] b=_;have x0:(IV.ix (.var 0) (.var 2)).ev (smT n) [some d,some d',some (.int i)] b=.ok e b:=jq (v:=.var 0) (w:=.var 2) (d:=d) (d2:=.int i) rfl rfl q1;have x1:(IV.ix (.var 1) (.var 2)).ev (smT n) [some d,some d',some (.int i)] b=.ok e' b:=jq (v:=.var 1) (w:=.var 2) (d:=d') (d2:=.int i) rfl rfl q2;have c1:(IE.call 0 [.ix (.var 0) (.var 2),.ix (.var 1) (.var 2)]).ev (smT n) [some d,some d',some (.int i)] b=.ok (.v (.bl true)) b:=by
   rw[jz];show xj (some _) _ _ _=_;rw[z9,qc,qc,qo,qb,x0,R.bind_ok,qb,x1,R.bind_ok,qE,R.bind_ok,R.bind_ok,R.bind_ok];exact q3
  have c2:(IT.nt (.val (.kp false (.call 0 [.ix (.var 0) (.var 2),.ix (.var 1) (.var 2)])))).ev (smT n) [some d,some d',some (.int i)] b=.ok false b:=by
   rw[WL,valT (k:=true) (by rw[qO,c1];rfl)];rfl
  unfold smB;rw[if_n c2];rfl) ⟨none,rfl⟩
 rw[XJ];unfold q7;rw[if_t t0,if_n t1,if_n t2,jd (we hm (ln (a2:=none) rfl l2))];show outR (sq (sq (forD (za (.nm 2) (evSs (smT n) smB)) (rng 0 m) [some d,some d',none] b) _) _)=_;rw[e1];rfl
theorem ZY:qT (n+2) [.tup [.str x,.int r],.tup [.str x,.int r]] b=.ok (.v (.bl true)) b:=by
 refine yG (m:=2) (.inl rfl) rfl rfl rfl rfl (by decide) fun i hi=>?_
 match i,hi with
 |0,_=>exact⟨_,_,rfl,rfl,same_str⟩
 |1,_=>exact⟨_,_,rfl,rfl,same_int⟩
noncomputable def LsV(b:Hb)(d:D)(l:List D):Prop:=d=.lst l\/∃n:Nat,d=.obj n/\b[n]?=some (.lst false l)
theorem LsV.ls(h:LsV b d l):qG b d=some l:=by
 rcases h with rfl|⟨n,rfl,h⟩
 ·rfl
 ·exact zx h
theorem LsV.ty(h:LsV b d l):tyD b d=some "list":=by
 rcases h with rfl|⟨n,rfl,h⟩
 ·rfl
 ·show(if(qG b (.obj n)).isSome=true then _ else _)=_
  rw[zx h];rfl
theorem LsV.ix(h:LsV b d l)(i:Nat):ixD b d (.int i)=l[i]?:=by
 rcases h with rfl|⟨n,rfl,h⟩
 ·exact ixSc i
 ·show((qG b (.obj n)).bind fun l=>ixI l _).or ((qv b (.obj n)).bind _)=_
  have hd:qv b (.obj n)=none:=by show(b[n]?).bind Ob.k=none;rw[h];rfl
  rw[zx h,hd];show(ixI l (.int i)).or none=_;rw[Option.or_none];exact Kx
theorem K6(h1:LsV b d l)(h2:LsV b d' l)(hl:l.length<=1000)(h:∀e∈l,qT n [e,e] b=.ok (.v (.bl true)) b):qT (n+1) [d,d'] b=.ok (.v (.bl true)) b:=by
 refine yG (m:=l.length) (.inr rfl) h1.ty h2.ty (wo h1.ls) (wo h2.ls) hl fun i hi=>⟨l[i],l[i],?_,?_,h _ (dg hi)⟩
 ·rw[h1.ix,ak hi]
 ·rw[h2.ix,ak hi]
end
section
variable{q k:Nat}{b:Hb}{tb:TB}{dn un:List D}{u:Nat}{ids ix:List Nat}{T:List FnE}{t:Tg}{ts:IT}{e v:IV}{s:Sc}{out l:List D}{w:KK}{d:D}{x:Str}
theorem V9(B:BkAt q b tb dn un u ids)(hv:v.ev T s b=.ok (tabD tb ids w) b)(h:∀b',cmpD t (ts.ev T) (fxL (e.ev T)) ((rows tb w).map fun y=>kkD y.1) (blk k ix s) (.lst false []) b'=.ok (.lst false out) b'):(IE.lc k ix .any [v] t ts e).ev T s b=.ok (.n (.lst false out)) b:=by
 unfold tabD at hv;rcases yc (w:=w) B.len with⟨h1,h2⟩|⟨j,p,i,h1,h2,h3,h4,h5⟩
 ·rw[h2]at hv
  have hr:rows tb w=[]:=by unfold rows;rw[h1];rfl
  rw[hr]at h;exact vn (Yb (r:=[]) hv) (h b)
 ·rw[h5]at hv
  have hr:rows tb w=p.2:=by unfold rows;rw[h4];rfl
  rw[hr]at h;have bi:=B.at_ j p i h1 h3;exact yS (W_ hv bi) bi rfl (h _)
theorem qcm(h0:LsV b d l)(hv:v.ev T s b=.ok d b)(h:∀b',cmpD t (ts.ev T) (fxL (e.ev T)) l (blk k ix s) (.lst false []) b'=.ok (.lst false out) b'):(IE.lc k ix .any [v] t ts e).ev T s b=.ok (.n (.lst false out)) b:=by
 rcases h0 with rfl|⟨n,rfl,hn⟩
 ·exact vn (jH hv) (h b)
 ·exact yS (VS hv hn) hn rfl (h _)
theorem kM{g:KK->Option KK}(S:Sc->Prop):∀{K:List KK}{s:Sc}{acc:List D},(∀k∈K,∀s,S s->∃s1,asg t (kkD k) s=some s1/\S s1/\match g k with
   |some y=>ts.ev T s1 b=.ok true b/\e.ev T s1 b=.ok (kkD y) b
   |none=>ts.ev T s1 b=.ok false b)->S s->acc.length+K.length<=sizeLine->cmpD t (ts.ev T) (fxL (e.ev T)) (K.map kkD) s (.lst false acc) b=.ok (.lst false (acc++(K.filterMap g).map kkD)) b
 |[],s,acc,_,_,_=>by simp[cmpD]
 |k::K,s,acc,h,hs,hl=>by
  obtain⟨s1,h1,h2,h3⟩:=h k aC s hs;have ih:=fun acc hl=>kM (g:=g) S (K:=K) (s:=s1) (acc:=acc) (fun d hd=>h d (ay _ hd)) h2 hl
  rw[bO]at hl;rw[av];unfold cmpD;rw[h1];dsimp only;cases hg:g k with
  |some y=>
   rw[hg]at h3;rw[h3.1,R.bind_ok,aE rfl];unfold fxL;dsimp only;rw[h3.2,R.bind_ok,aE (by omega),R.bind_ok];have:=ih (acc++[kkD y]) (by rw[az,bx];omega);unfold fxL at this;rw[this,cQ hg,av,fY];rfl
  |none=>
   rw[hg]at h3;rw[h3,R.bind_ok,ax (by decide),ih acc (by omega),cy hg]
noncomputable def Shs(K:List KK):Prop:=∀k∈K,IsSh k
theorem X9{K:List KK}(hK:Shs K)(hl:K.length<=100)(b':Hb):cmpD (.tp (.cons (.nm 1) (.cons (.nm 2) (.cons (.nm 3) .nil)))) ((IT.cmp .eq (.var 2) (.var 4)).ev T) (fxL ((IV.tup [.var 1,.var 3]).ev T)) (K.map kkD) [none,none,none,none,some (.str x)] (.lst false []) b'=.ok (.lst false ((K.filterMap (les x)).map kkD)) b':=by
 have:=kM (b:=b') (T:=T) (t:=.tp (.cons (.nm 1) (.cons (.nm 2) (.cons (.nm 3) .nil)))) (ts:=.cmp .eq (.var 2) (.var 4)) (e:=.tup [.var 1,.var 3]) (g:=les x) (fun s=>∃a0 a1 a2 a3,s=[a0,a1,a2,a3,some (.str x)]) (K:=K) (s:=[none,none,none,none,some (.str x)]) (acc:=[]) (fun k hk s hs=>by
  obtain⟨a0,a1,a2,a3,rfl⟩:=hs;obtain⟨a,c,r,rfl,hn⟩:=hK k hk;refine⟨[a0,some (.str a),some (.str c),some (.int r),some (.str x)],rfl,⟨_,_,_,_,rfl⟩,?_⟩;have eL:les x (.inr [.inr a,.inr c,.inl r])=if c=x then some (.inr [.inr a,.inl r])else none:=rfl
  rw[eL]
  by_cases h:c=x
  ·rw[aE h];subst h;simp[kkD,keyD]
  ·rw[ax h];simp[h]) ⟨_,_,_,_,rfl⟩ (yC (by simpa using hl))
 simpa using this
theorem WF{K:List KK}(hK:Shs K)(hl:K.length<=100)(b':Hb):cmpD (.tp (.cons (.nm 1) (.cons (.nm 2) (.cons (.nm 3) .nil)))) ((IT.cmp .eq (.var 1) (.var 4)).ev T) (fxL ((IV.tup [.var 2,.var 3]).ev T)) (K.map kkD) [none,none,none,none,some (.str x)] (.lst false []) b'=.ok (.lst false ((K.filterMap (gre x)).map kkD)) b':=by
 have:=kM (b:=b') (T:=T) (t:=.tp (.cons (.nm 1) (.cons (.nm 2) (.cons (.nm 3) .nil)))) (ts:=.cmp .eq (.var 1) (.var 4)) (e:=.tup [.var 2,.var 3]) (g:=gre x) (fun s=>∃a0 a1 a2 a3,s=[a0,a1,a2,a3,some (.str x)]) (K:=K) (s:=[none,none,none,none,some (.str x)]) (acc:=[]) (fun k hk s hs=>by
  obtain⟨a0,a1,a2,a3,rfl⟩:=hs;obtain⟨a,c,r,rfl,hn⟩:=hK k hk;refine⟨[a0,some (.str a),some (.str c),some (.int r),some (.str x)],rfl,⟨_,_,_,_,rfl⟩,?_⟩;have eL:gre x (.inr [.inr a,.inr c,.inl r])=if a=x then some (.inr [.inr c,.inl r])else none:=rfl
  rw[eL]
  by_cases h:a=x
  ·rw[aE h];subst h;simp[kkD,keyD]
  ·rw[ax h];simp[h]) ⟨_,_,_,_,rfl⟩ (yC (by simpa using hl))
 simpa using this
theorem Yw{K:List KK}(hK:Shs K):∀k∈K.filterMap (les x)++K.filterMap (gre x),shK k=.inr [true,false]:=fun k hk=>by
 rcases b9.mp hk with h|h <;> obtain⟨k0,h1,h2⟩:=cj.mp h <;> obtain⟨a,c,r,rfl,hn⟩:=hK k0 h1
 ·have eL:les x (.inr [.inr a,.inr c,.inl r])=if c=x then some (.inr [.inr a,.inl r])else none:=rfl
  rw[eL]at h2
  split at h2 <;> cases h2
  rfl
 ·have eL:gre x (.inr [.inr a,.inr c,.inl r])=if a=x then some (.inr [.inr c,.inl r])else none:=rfl
  rw[eL]at h2
  split at h2 <;> cases h2
  rfl
noncomputable def shr(K:List KK)(x:Str):List KK:=srtK (K.filterMap (les x)++K.filterMap (gre x))
theorem xH{K:List KK}(B:BkAt q b tb dn un u ids)(hj:(lk (rows tb (.inl (.inr "journey"))) (.inl (.inr x))).isSome=true)(hr:rows tb (.inl (.inr "share"))=K.map fun k=>(k,.bl true))(hK:Shs K)(hl:K.length<32):jf [.obj q,.str x] b=.ok (.n (.lst false ((shr K x).map kkD))) b:=by
 have k1:=qZ (x:=x) B;obtain⟨d0,hd0⟩:=bA.mp hj;rw[hd0]at k1;have r0:=fun j(hj:1<=j)=>wi (j:=j) B.bk hj
 have r1:=fun j(hj:4<=j)=>w0 (j:=j) B.lg hj
 have ht:=zH (w:=.str "share") B rfl;have hrow:(rows tb (.inl (.inr "share"))).map (fun y=>kkD y.1)=K.map kkD:=by rw[hr,dE];rfl
 show outR (evSs qM zG [some (.obj q),some (.str x),none,none,none] b)=_;unfold zG;rw[wa (r:=.v d0) (b1:=b) (by simp[qM,e_Book_kept_journey,r0,k1])];rw[qA (d:=tabD tb ids (.inl (.inr "share"))) (b1:=b) (by simp[qM,qa,r1,fld0 B,ht])];have h1:=V9 (T:=qM) (k:=4) (ix:=[1]) (t:=.tp (.cons (.nm 1) (.cons (.nm 2) (.cons (.nm 3) .nil)))) (ts:=.cmp .eq (.var 2) (.var 4)) (e:=.tup [.var 1,.var 3]) (s:=[some (.obj q),some (.str x),some (tabD tb ids (.inl (.inr "share"))),none,none]) (v:=.var 2) B rfl (fun b'=>by rw[hrow];exact X9 (x:=x) hK (by omega) b');rw[show(List.set [some (D.obj q),some (.str x),none,none,none] 2 (some (tabD tb ids (.inl (.inr "share")))))=[some (.obj q),some (.str x),some (tabD tb ids (.inl (.inr "share"))),none,none] from rfl];rw[qA (d:=.lst ((K.filterMap (les x)).map kkD)) (b1:=b) (by rw[qO];exact(bY (kp false) h1).trans rfl)];have h2:=V9 (T:=qM) (k:=4) (ix:=[1]) (t:=.tp (.cons (.nm 1) (.cons (.nm 2) (.cons (.nm 3) .nil)))) (ts:=.cmp .eq (.var 1) (.var 4)) (e:=.tup [.var 2,.var 3]) (s:=[some (.obj q),some (.str x),some (tabD tb ids (.inl (.inr "share"))),some (.lst ((K.filterMap (les x)).map kkD)),none]) (v:=.var 2) B rfl (fun b'=>by rw[hrow];exact WF (x:=x) hK (by omega) b');rw[show(List.set [some (D.obj q),some (.str x),some (tabD tb ids (.inl (.inr "share"))),none,none] 3 (some (.lst ((K.filterMap (les x)).map kkD))))=[some (.obj q),some (.str x),some (tabD tb ids (.inl (.inr "share"))),some (.lst ((K.filterMap (les x)).map kkD)),none] from rfl];rw[qA (d:=.lst ((K.filterMap (gre x)).map kkD)) (b1:=b) (by rw[qO];exact(bY (kp false) h2).trans rfl)];have l1:(K.filterMap (les x)).length<=K.length:=bV _ _;have l2:(K.filterMap (gre x)).length<=K.length:=bV _ _;have hs:iSrt b (.lst ((K.filterMap (les x)).map kkD++(K.filterMap (gre x)).map kkD))=some (.n (.lst false ((shr K x).map kkD))):=by
  rw[<- cz];exact wA (b:=b) rfl (by rw[az];omega) (jW (.inl rfl) (Yw hK))
 have ha:addD b (.lst ((K.filterMap (les x)).map kkD)) (.lst ((K.filterMap (gre x)).map kkD))=some (.n (.lst false ((K.filterMap (les x)).map kkD++(K.filterMap (gre x)).map kkD))):=by
  show(if _ then _ else _)=_;rw[aE];rw[aM,aM];exact yC (by omega)
 simp[gR,ha,Bf.srt,gN,g1,hs]
end
end E
namespace E
open PySem PySem.W PySem.Spec PyProof PyProof.Rows L2
noncomputable def jD(l:iM):D:=.tup [.str "a",.str "b",iD l]
noncomputable def RJ(i j:Nat):List (KK×D):=[(.inl (.inr "t"),jD [0,1,2]),(.inl (.inr "twelvesigns9"),jD (lgT i)),(.inl (.inr "m"),jD (lgM j))]
noncomputable def RP:List (KK×D):=[(.inl (.inr "a"),.tup [.int 0,.int 0]),(.inl (.inr "b"),.tup [.int 60,.int 20])]
noncomputable def cR(k:Nat):D:=match k with
 |0=>.tup [.str "a",.str "b",.int 0,.int 100,.int 3]
 |1=>.tup [.str "b",.str "a",.int 500,.int 600,.int 3]
 |_=>.tup [.str "a",.str "b",.int 1000,.int 1100,.int 3]
noncomputable def CR:List D:=[cR 0,cR 1,cR 2]
noncomputable def RU:List (KK×D):=[(.inl (.inl 0),cR 0),(.inl (.inl 1),cR 1),(.inl (.inl 2),cR 2)]
noncomputable def RM:List (KK×D):=[(.inl (.inr "t"),.lst []),(.inl (.inr "twelvesigns9"),.lst []),(.inl (.inr "m"),.lst [])]
noncomputable def nmL:List D:=[.str "t",.str "twelvesigns9",.str "m",.str "t",.str "twelvesigns9",.str "m",.str "nobody"]
noncomputable def tb0(i j:Nat):TB:=[(.inl (.inr "place"),RP),(.inl (.inr "run"),RU),(.inl (.inr "journey"),RJ i j)]
noncomputable def dnF:Option Ob->Option Nat
 |some (.lst false l)=>some l.length
 |_=>none
noncomputable def fxO:Out->Option (Sc×Nat×Option Nat×List (Option Ob))
 |.nx s b=>some (s,b.length,dnF b[4]?,[0,1,2,3,64,7,23,47,65,66,67,68,69,70].map fun(k:Nat)=>b[k]?)
 |_=>none
noncomputable def stO:D:=.tup [.obj 65,.obj 66,.obj 67,.obj 68,.obj 69,.obj 70]
noncomputable def scO(j:Nat)(ns:List D):Sc:=[some (.lst ns),some (.obj 0),some (.obj 1),some stO,some (.obj 6),some (.int 2),some (.tup [.str "journey",.str "m",.str "a",.str "b",iD (lgM j)]),some (.lst nmL),none,none,none,none,none,none,none]
noncomputable def fxR(i j:Nat)(ns dl:List D):Option (Sc×Nat×Option Nat×List (Option Ob)):=some (scO j ns,71,some 8,[some (.lst false dl),some (.ins 0 [(0,.obj 2)]),some (.ins 1 [(1,.obj 3),(2,.obj 4),(3,.obj 64)]),some (.dic false [(.inl (.inr "place"),.obj 7),(.inl (.inr "run"),.obj 23),(.inl (.inr "journey"),.obj 47)]),some (.lst false []),some (.dic false RP),some (.dic false RU),some (.dic false (RJ i j)),some (.dic false RP),some (.lst false CR),some (.dic false []),some (.dic false (RJ i j)),some (.lst false []),some (.dic false RM)])
theorem su00(ns dl:List D):fxO (midO 0 0 ns dl)=fxR 0 0 ns dl:=by kernel_rfl
theorem su01(ns dl:List D):fxO (midO 0 1 ns dl)=fxR 0 1 ns dl:=by kernel_rfl
theorem su10(ns dl:List D):fxO (midO 1 0 ns dl)=fxR 1 0 ns dl:=by kernel_rfl
theorem su11(ns dl:List D):fxO (midO 1 1 ns dl)=fxR 1 1 ns dl:=by kernel_rfl
theorem su20(ns dl:List D):fxO (midO 2 0 ns dl)=fxR 2 0 ns dl:=by kernel_rfl
theorem su21(ns dl:List D):fxO (midO 2 1 ns dl)=fxR 2 1 ns dl:=by kernel_rfl
theorem su(i j:Nat)(hi:i<3)(hj:j<2)(ns dl:List D):fxO (midO i j ns dl)=fxR i j ns dl:=by
 match i,j,hi,hj with
 |0,0,_,_=>exact su00 ns dl
 |0,1,_,_=>exact su01 ns dl
 |1,0,_,_=>exact su10 ns dl
 |1,1,_,_=>exact su11 ns dl
 |2,0,_,_=>exact su20 ns dl
 |2,1,_,_=>exact su21 ns dl
theorem qbt(i j:Nat)(hi:i<3)(hj:j<2)(ns dl:List D):∃(H:Hb)(dn:List D),midO i j ns dl=.nx (scO j ns) H/\H.length=71/\dn.length=8/\H[0]?=some (.lst false dl)/\BkAt 1 H (tb0 i j) dn [] 64 [7,23,47]/\H[65]?=some (.dic false RP)/\H[66]?=some (.lst false CR)/\H[67]?=some (.dic false [])/\H[68]?=some (.dic false (RJ i j))/\H[69]?=some (.lst false [])/\H[70]?=some (.dic false RM):=by
 have h:=su i j hi hj ns dl;generalize midO i j ns dl=o at h ⊢
 cases o with
 |nx s b=>
  unfold fxO fxR at h;simp only[dt,ij,av,i4,ew]at h;obtain⟨hs,hl,hd,h0,h1,h2,h3,h64,h7,h23,h47,h65,h66,h67,h68,h69,h70,_⟩:=h;have h4:∃dn,b[4]?=some (.lst false dn)/\dn.length=8:=by
   cases z:b[4]? with
   |none=>rw[z]at hd;cases hd
   |some o=>
    rw[z]at hd;cases o with
    |lst h l=>
     cases h with
     |false=>exact⟨l,rfl,bM hd⟩
     |true=>cases hd
    |_=>cases hd
  obtain⟨dn,h4,hn⟩:=h4;refine⟨b,dn,by rw[hs],hl,hn,h0,⟨h1,h2,h3,h4,h64,rfl,fun j p i a c=>?_,by decide,by decide,show([.inl (.inr "place"),.inl (.inr "run"),.inl (.inr "journey")]:List KK).Nodup by decide⟩,h65,h66,h67,h68,h69,h70⟩
  match j,a,c with
  |0,a,c=>cases a;cases c;exact h7
  |1,a,c=>cases a;cases c;exact h23
  |2,a,c=>cases a;cases c;exact h47
  |j+3,a,c=>cases a
 |_=>cases h
noncomputable def wrd:Nat->Str
 |10=>"run"
 |11=>"journey"
 |12=>"leg"
 |14=>"share"
 |16=>"twice"
 |_=>"let"
section
variable{b:Hb}
theorem Wl:zQ [.exn 10] b=.ok (.v (.str "run")) b:=by kernel_rfl
theorem Wj:zQ [.exn 11] b=.ok (.v (.str "journey")) b:=by kernel_rfl
theorem Wi:zQ [.exn 12] b=.ok (.v (.str "leg")) b:=by kernel_rfl
theorem Wh:zQ [.exn 14] b=.ok (.v (.str "share")) b:=by kernel_rfl
theorem Wg:zQ [.exn 16] b=.ok (.v (.str "twice")) b:=by kernel_rfl
noncomputable def Cd(C:Nat):Prop:=C=10\/C=11\/C=12\/C=14\/C=16
theorem Jp{C:Nat}(h:Cd C):zQ [.exn C] b=.ok (.v (.str (wrd C))) b:=by
 rcases h with rfl|rfl|rfl|rfl|rfl
 ·exact Wl
 ·exact Wj
 ·exact Wi
 ·exact Wh
 ·exact Wg
theorem Ym{C:Nat}(h:Cd C):yg C=true:=by rcases h with rfl|rfl|rfl|rfl|rfl <;> rfl
theorem u5{q:Nat}{deed d:D}{b1:Hb}(h:ka [.obj q,deed] b=.ok (.v d) b1):xw [.obj q,deed] b=.ok (.v d) b1:=by
 show outR (evSs xq Zr [some (.obj q),some deed,none,none] b)=_;have e1:evSs xq [.set 2 (.kp false (.call 0 [.var 0,.var 1]))] [some (.obj q),some deed,some (.str "none"),none] b=.nx [some (.obj q),some deed,some d,none] b1:=by
  rw[qA (d:=d) (b1:=b1)]
  ·rfl
  ·rw[qO,jz]
   show kp false (ka [.obj q,deed] b)=_;rw[h];rfl
 unfold Zr;rw[qA (d:=.str "none") (b1:=b) rfl];show outR (sq (catN 3 _ (evSs xq [.set 2 (.kp false (.call 0 [.var 0,.var 1]))] [some (.obj q),some deed,some (.str "none"),none] b)) _)=_;rw[e1];rfl
theorem Xk{q C:Nat}{deed:D}{b1:Hb}(hC:Cd C)(h:ka [.obj q,deed] b=.exc C b1):xw [.obj q,deed] b=.ok (.v (.tup [.str "barred",.str (wrd C)])) b1:=by
 show outR (evSs xq Zr [some (.obj q),some deed,none,none] b)=_;have e1:evSs xq [.set 2 (.kp false (.call 0 [.var 0,.var 1]))] [some (.obj q),some deed,some (.str "none"),none] b=.ex C [some (.obj q),some deed,some (.str "none"),none] b1:=by
  refine XQ ?_;rw[qO,jz];show kp false (ka [.obj q,deed] b)=_;rw[h];rfl
 unfold Zr;rw[qA (d:=.str "none") (b1:=b) rfl];show outR (sq (catN 3 _ (evSs xq [.set 2 (.kp false (.call 0 [.var 0,.var 1]))] [some (.obj q),some deed,some (.str "none"),none] b)) _)=_;rw[e1];show outR (sq (if yg C=true then unO 3 (evSs xq _ [some (.obj q),some deed,some (.str "none"),some (.exn C)] b1)else .bad) _)=_;rw[aE (Ym hC),qA (d:=.tup [.str "barred",.str (wrd C)]) (b1:=b1)]
 ·rfl
 ·have k:=Jp (b:=b1) hC
  rw[vy,zM,qc,qc,qo,qb,Xh,R.bind_ok,qb,qO,VK];have:xj xq[1]? (evL xq [.var 3]) [some (.obj q),some deed,some (.str "none"),some (.exn C)] b1=zQ [.exn C] b1:=rfl;rw[this,k];rfl
theorem tS{T:List FnE}{w1 w2:Str}{z:Bool}{B:Option D}{x y r:D}{sc:Sc}(h:(w1 == w2)=z):(IT.cmp .eq (.ix (.var 1) (.cst (.int 0))) (.cst (.str w2))).ev T (B::some (.tup [.str w1,x,y,r])::sc) b=.ok z b:=by
 subst h;exact tEqS (v:=.ix (.var 1) (.cst (.int 0))) rfl rfl
theorem Q8{T:List FnE}{fe:FnE}{j q:Nat}{deed x y r:D}{s:Sc}(hT:T[j]?=some fe)(hs:s=[some (.obj q),some (.tup [deed,x,y,r])])(hn:fe.n=4)(hr:recv fe.C fe.j b (.obj q)=true):(IE.meth j (.var 0) [.ix (.var 1) (.cst (.int 1)),.ix (.var 1) (.cst (.int 2)),.ix (.var 1) (.cst (.int 3))]).ev T s b=fe.F [.obj q,x,y,r] b:=by
 subst hs;rw[xe,hT,zW];show R.bind (R.ok (D.obj q) b) _=_;rw[R.bind_ok,aE hr];show R.bind (R.ok [x,y,r] b) _=_;rw[R.bind_ok,hn,Qa];rfl
theorem Zz{q:Nat}{x y r:D}(hr:recv 0 17 b (.obj q)=true):ka [.obj q,.tup [.str "share",x,y,r]] b=outR (eO (qg [.obj q,x,y,r] b) [some (.obj q),some (.tup [.str "share",x,y,r])] .rt):=by
 show outR (evSs wQ kX [some (.obj q),some (.tup [.str "share",x,y,r])] b)=_;unfold kX;rw[if_n (tS (by decide)),if_n (tS (by decide)),if_n (tS (by decide)),if_n (tS (by decide)),if_n (tS (by decide)),if_t (tS (by decide)),qm,JV,Q8 (fe:=jE) rfl rfl rfl hr];show outR (sq (sq (eO (qg [.obj q,x,y,r] b) _ .rt) _) _)=_;cases qg [.obj q,x,y,r] b <;> rfl
theorem yo{q:Nat}{x y r:D}(hr:recv 0 18 b (.obj q)=true):ka [.obj q,.tup [.str "unshare",x,y,r]] b=outR (eO (qD [.obj q,x,y,r] b) [some (.obj q),some (.tup [.str "unshare",x,y,r])] .rt):=by
 show outR (evSs wQ kX [some (.obj q),some (.tup [.str "unshare",x,y,r])] b)=_;unfold kX;rw[if_n (tS (by decide)),if_n (tS (by decide)),if_n (tS (by decide)),if_n (tS (by decide)),if_n (tS (by decide)),if_n (tS (by decide)),if_t (tS (by decide)),qm,JV,Q8 (fe:=zU) rfl rfl rfl hr];show outR (sq (sq (eO (qD [.obj q,x,y,r] b) _ .rt) _) _)=_;cases qD [.obj q,x,y,r] b <;> rfl
structure Ls(b:Hb)(i j:Nat)(BL:List KK)(x0 x1 x2 x3 x4 x5:D):Prop where
 h0:qv b x0=some RP
 h1:LsV b x1 CR
 h2:qv b x2=some []
 h3:qv b x3=some (RJ i j)
 h4:LsV b x4 (BL.map kkD)
 h5:qv b x5=some RM
noncomputable def inK(k:KK)(K:List KK):Bool:=K.any fun z=>decide (z=k)
theorem inK_iff{k:KK}{K:List KK}:inK k K=true↔k∈K:=by
 unfold inK;rw[cE];exact⟨fun⟨z,h1,h2⟩=>by rw[<- cI h2];exact h1,fun h=>⟨k,h,br rfl⟩⟩
theorem any_keys{k:KK}{d:D}(hd:d=kkD k)(hk:∃a c r,k=.inr [.inr a,.inr c,.inl r]):∀{K:List KK},Shs K->anyE (fun z=>eqN b 5 z d) (K.map kkD)=some (inK k K)
 |[],_=>rfl
 |k0::K,h=>by
  have ih:=any_keys hd hk (K:=K) fun k hk=>h k (ay _ hk)
  obtain⟨a,c,r,rfl,_⟩:=h k0 aC;obtain⟨a',c',r',rfl⟩:=hk;rw[av];unfold anyE;rw[ih];subst hd;have e:eqN b 5 (kkD (.inr [.inr a,.inr c,.inl r])) (kkD (.inr [.inr a',.inr c',.inl r']))=some ((a == a') && ((c == c') && ((r == r') && true))):=rfl;rw[e];have e2:inK (.inr [.inr a',.inr c',.inl r']) (.inr [.inr a,.inr c,.inl r]::K)=(decide ((.inr [.inr a,.inr c,.inl r]:KK)=.inr [.inr a',.inr c',.inl r']) || inK (.inr [.inr a',.inr c',.inl r']) K):=rfl;have e3:decide ((.inr [.inr a,.inr c,.inl r]:KK)=.inr [.inr a',.inr c',.inl r'])=((a == a') && ((c == c') && ((r == r') && true))):=by
   rw[fE,fK];simp
  rw[e2,e3]
theorem Wy{f:Bool->Bool}{x y:Str}{r:Int}{x4:D}{BL:List KK}(h4:LsV b x4 (BL.map kkD))(hs:Shs BL):inD f b (kD x y r) x4=some (f (inK (kK x y r) BL)):=by
 have e:inT (kD x y r) x4=none:=by rcases h4 with rfl|⟨n,rfl,_⟩ <;> rfl
 have e2:kQ b x4=some (BL.map kkD):=by
  rcases h4 with rfl|⟨n,rfl,h⟩
  ·rfl
  ·exact zx h
 unfold inD;rw[e,e2,bb,any_keys (d:=kD x y r) rfl ⟨_,_,_,rfl⟩ hs];rfl
end
section
variable{b:Hb}{x y n1 n2 kd:Str}{r:Int}{g:Bool}{T:List FnE}{i j:Nat}{BL:List KK}{x0 x1 x2 x3 x4 x5:D}{B a2 a3 a4 a5 a6 a7 a8:Option D}
theorem wm:ordN b g 6 (.str x) (.str y)=some (if g then decide (x.cps.toList<y.cps.toList)else decide (y.cps.toList<x.cps.toList)):=rfl
theorem min2:iMM true b (.tup [.str x,.str y])=some (.v (.str (mn x y))):=by
 have hb:minD b true [.str x,.str y]=some (.str (mn x y)):=by
  unfold mn
  by_cases h:y.cps.toList<x.cps.toList
  ·rw[aE h];simp[minD,wN,wm,h]
  ·rw[ax h];simp[minD,wN,wm,h]
 unfold iMM;show((some [D.str x,D.str y]).bind _)=_;rw[bb,aE (by rfl),hb];rfl
theorem max2:iMM false b (.tup [.str x,.str y])=some (.v (.str (mx x y))):=by
 have hb:minD b false [.str x,.str y]=some (.str (mx x y)):=by
  unfold mx
  by_cases h:x.cps.toList<y.cps.toList
  ·rw[aE h];simp[minD,wN,wm,h]
  ·rw[ax h];simp[minD,wN,wm,h]
 unfold iMM;show((some [D.str x,D.str y]).bind _)=_;rw[bb,aE (by rfl),hb];rfl
theorem minG:Bf.min.g [.tup [.str x,.str y]] b=some (.v (.str (mn x y)),b):=by
 have e:Bf.min.g [.tup [.str x,.str y]] b=((iMM true b (.tup [.str x,.str y])).map fun r=>(r,b)):=rfl;rw[e,min2];rfl
theorem maxG:Bf.max.g [.tup [.str x,.str y]] b=some (.v (.str (mx x y)),b):=by
 have e:Bf.max.g [.tup [.str x,.str y]] b=((iMM false b (.tup [.str x,.str y])).map fun r=>(r,b)):=rfl;rw[e,max2];rfl
noncomputable abbrev kyV:IV:=.tup [.kp false (.bf .min [.kp false (.sl (.var 1) [.cst (.int 1)] [.cst (.int 3)])]),.kp false (.bf .max [.kp false (.sl (.var 1) [.cst (.int 1)] [.cst (.int 3)])]),.ix (.var 1) (.cst (.int 3))]
noncomputable abbrev dD(kd x y:Str)(r:Int):D:=.tup [.str kd,.str x,.str y,.int r]
theorem We{s:Sc}(hs:s[1]?=some (some (dD kd x y r))):kyV.ev T s b=.ok (kD x y r) b:=by
 have v1:(IV.var 1).ev T s b=.ok (dD kd x y r) b:=by rw[kH,hs];rfl
 have sl:(IV.kp false (.sl (.var 1) [.cst (.int 1)] [.cst (.int 3)])).ev T s b=.ok (.tup [.str x,.str y]) b:=by
  rw[qO,qc0,v1];rfl
 have e1:(IV.kp false (.bf .min [.kp false (.sl (.var 1) [.cst (.int 1)] [.cst (.int 3)])])).ev T s b=.ok (.str (mn x y)) b:=by
  rw[qO,wD,qc,qo,qb,sl,R.bind_ok,qE,R.bind_ok,R.bind_ok,minG];rfl
 have e2:(IV.kp false (.bf .max [.kp false (.sl (.var 1) [.cst (.int 1)] [.cst (.int 3)])])).ev T s b=.ok (.str (mx x y)) b:=by
  rw[qO,wD,qc,qo,qb,sl,R.bind_ok,qE,R.bind_ok,R.bind_ok,maxG];rfl
 have e3:(IV.ix (.var 1) (.cst (.int 3))).ev T s b=.ok (.int r) b:=jq v1 rfl rfl;rw[vy,zM,qc,qc,qc,qo,qb,e1,R.bind_ok,qb,e2,R.bind_ok,qb,e3];rfl
theorem Xa{s:Sc}{k:Nat}{f:Bool->Bool}{p:Cop}(hp:p.g=g2 (inD f))(hs:s[1]?=some (some (dD kd x y r)))(h6:s[k]?=some (some x4))(h4:LsV b x4 (BL.map kkD))(hB:Shs BL):(IV.kp false (.bf .int [.kp false (.cmp p kyV (.var k))])).ev T s b=.ok (.int (if f (inK (kK x y r) BL)then 1 else 0)) b:=by
 have v6:(IV.var k).ev T s b=.ok x4 b:=by rw[kH,h6];rfl
 have e:(IV.kp false (.cmp p kyV (.var k))).ev T s b=.ok (.bl (f (inK (kK x y r) BL))) b:=by
  rw[qO,JY,We hs,R.bind_ok,v6,R.bind_ok,hp,JN,Wy h4 hB];rfl
 rw[qO,wD,qc,qo,qb,e];rfl
noncomputable def jl(i j:Nat)(x:Str):Option (iM):=if x="t" then some [0,1,2] else if x="twelvesigns9" then some (lgT i)else if x="m" then some (lgM j)else none
theorem lkJ:lk (RJ i j) (.inl (.inr x))=(jl i j x).map jD:=by
 unfold RJ jl;rw[jp,jp,jp,V8];have e:∀y:Str,((.inl (.inr y):KK)=.inl (.inr x))↔x=y:=fun y=>⟨fun h=>by cases h;rfl,fun h=>by rw[h]⟩
 simp only[e]
 split
 ·rfl
 ·split
  ·rfl
  ·split <;> rfl
theorem ixJ{l:iM}(h:qv b x3=some (RJ i j))(hl:jl i j x=some l):ixD b x3 (.str x)=some (jD l):=by
 have h1:=kR h;have:∀y,qv b y=some (RJ i j)->ixD b y (.str x)=((qG b y).bind fun l=>ixI l (.str x)).or ((qv b y).bind fun l=>(dKK (.str x)).bind fun k=>lk l k):=fun y hy=>by
  cases y <;> first|rfl|cases hy
 rw[this _ h,h1,h];show(none:Option D).or (lk (RJ i j) (.inl (.inr x)))=_;rw[lkJ,hl];rfl
noncomputable def code(i j:Nat)(BL:List KK)(sh:Bool)(x y:Str)(r:Int):Nat:=if sh=true then(match jl i j x,jl i j y with
  |some l1,some l2=>if r<0\/3<=r then 10 else if x=y\/r∉l1\/r∉l2 then 12 else if inK (kK x y r) BL=true then 16 else 0
  |_,_=>11)else if inK (kK x y r) BL=true then 0 else 14
theorem XB(L:Ls b i j BL x0 x1 x2 x3 x4 x5)(hB:Shs BL):zk [.tup [x0,x1,x2,x3,x4,x5],dD "unshare" x y r] b=.ok (.v (.str (wrd (code i j BL false x y r)))) b:=by
 show outR (evSs qd i_Lword_two [some (.tup [x0,x1,x2,x3,x4,x5]),some (dD "unshare" x y r),none,none,none,none,none,none,none] b)=_;have e0:evSs qd i_Lword_two [some (.tup [x0,x1,x2,x3,x4,x5]),some (dD "unshare" x y r),none,none,none,none,none,none,none] b=evSs qd i_Lword_two.tail [some (.tup [x0,x1,x2,x3,x4,x5]),some (dD "unshare" x y r),some x0,some x1,some x2,some x3,some x4,some x5,none] b:=rfl;rw[e0];unfold i_Lword_two;rw[gU,if_n (tS (by decide))];have e1:=Xa (T:=qd) (p:=.inn) (k:=6) (s:=[some (.tup [x0,x1,x2,x3,x4,x5]),some (dD "unshare" x y r),some x0,some x1,some x2,some x3,some x4,some x5,none]) rfl rfl rfl L.h4 hB;have hr:∀z:Bool,ixD b (.lst [.str "share",.str "let"]) (.int (if z then 1 else 0))=some (.str (wrd (if z=true then 0 else 14))):=fun z=>by cases z <;> rfl
 have e2:=jq (v:=.kp false (.lst [.cst (.str "share"),.cst (.str "let")])) (d:=.lst [.str "share",.str "let"]) (b1:=b) (b2:=b) rfl e1 (hr _);rw[if_r (tS (by decide)) (zV (valE e2))];rfl
theorem XC(L:Ls b i j BL x0 x1 x2 x3 x4 x5)(hB:Shs BL):zk [.tup [x0,x1,x2,x3,x4,x5],dD "share" x y r] b=.ok (.v (.str (wrd (code i j BL true x y r)))) b:=by
 let S:Sc:=[some (.tup [x0,x1,x2,x3,x4,x5]),some (dD "share" x y r),some x0,some x1,some x2,some x3,some x4,some x5,none];have e0:zk [.tup [x0,x1,x2,x3,x4,x5],dD "share" x y r] b=outR (evSs qd i_Lword_two.tail S b):=rfl;rw[e0];unfold i_Lword_two;rw[gU];have d1:(IV.ix (.var 1) (.cst (.int 1))).ev qd S b=.ok (.str x) b:=rfl;have d2:(IV.ix (.var 1) (.cst (.int 2))).ev qd S b=.ok (.str y) b:=rfl;have d3:(IV.ix (.var 1) (.cst (.int 3))).ev qd S b=.ok (.int r) b:=rfl;have v5:(IV.var 5).ev qd S b=.ok x3 b:=rfl;have nj:∀{v:IV}{z:Str},v.ev qd S b=.ok (.str z) b->(IT.cmp .nin v (.var 5)).ev qd S b=.ok (!(jl i j z).isSome) b:=fun{v z} hv=>tCmp rfl (by
  rw[kU L.h3 (show dKK (.str z)=some (.inl (.inr z))from rfl),lkJ];cases jl i j z <;> rfl) hv v5
 have sh:(IT.cmp .eq (.ix (.var 1) (.cst (.int 0))) (.cst (.str "share"))).ev qd S b=.ok true b:=tS (by decide);rw[if_n (tS (by decide)),if_n (tS (by decide))];cases h1:jl i j x with
 |none=>
  have t3:(IT.or [.cmp .nin (.ix (.var 1) (.cst (.int 1))) (.var 5),.and [.cmp .eq (.ix (.var 1) (.cst (.int 0))) (.cst (.str "share")),.cmp .nin (.ix (.var 1) (.cst (.int 2))) (.var 5)]]).ev qd S b=.ok true b:=by
   rw[vz,vm,nj d1,h1];rfl
  rw[if_r t3 (zV (valE (d:=.str "journey") (b1:=b) rfl))];unfold code;rw[h1];rfl
 |some l1=>
  cases h2:jl i j y with
  |none=>
   have t3:(IT.or [.cmp .nin (.ix (.var 1) (.cst (.int 1))) (.var 5),.and [.cmp .eq (.ix (.var 1) (.cst (.int 0))) (.cst (.str "share")),.cmp .nin (.ix (.var 1) (.cst (.int 2))) (.var 5)]]).ev qd S b=.ok true b:=by
    rw[vz,vm,nj d1,h1,R.bind_ok];show(if false=true then _ else _)=_;rw[ax (by decide),xU,yX,Qg,sh,R.bind_ok,aE rfl,yY,nj d2,h2];rfl
   rw[if_r t3 (zV (valE (d:=.str "journey") (b1:=b) rfl))];unfold code;rw[h1,h2];rfl
  |some l2=>
   have t3:(IT.or [.cmp .nin (.ix (.var 1) (.cst (.int 1))) (.var 5),.and [.cmp .eq (.ix (.var 1) (.cst (.int 0))) (.cst (.str "share")),.cmp .nin (.ix (.var 1) (.cst (.int 2))) (.var 5)]]).ev qd S b=.ok false b:=by
    rw[vz,vm,nj d1,h1,R.bind_ok];show(if false=true then _ else _)=_;rw[ax (by decide),xU,yX,Qg,sh,R.bind_ok,aE rfl,yY,nj d2,h2];rfl
   rw[if_n t3,if_n (tS (by decide)),if_n (tS (by decide))];have ec:code i j BL true x y r=if r<0\/3<=r then 10 else if x=y\/r∉l1\/r∉l2 then 12 else if inK (kK x y r) BL=true then 16 else 0:=by
    unfold code;rw[aE rfl,h1,h2]
   have ln:(IV.kp false (.bf .len [.var 3])).ev qd S b=.ok (.int (CR.length:Nat)) b:=iLn (v:=.var 3) (d:=x1) (l:=CR) rfl (wo L.h1.ls);have ta:=tLt d3 (iC (i:=0));have tb:=tGe d3 ln;have t6:(IT.or [.cmp .lt (.ix (.var 1) (.cst (.int 3))) (.cst (.int 0)),.cmp .ge (.ix (.var 1) (.cst (.int 3))) (.kp false (.bf .len [.var 3]))]).ev qd S b=.ok (decide (r<0\/3<=r)) b:=by
    rw[vz,vm,ta,R.bind_ok,xU,tb];show(if decide (r<0)=true then _ else R.ok (decide ((3:Int)<=r)) b)=_
    by_cases q1:r<0
    ·simp[q1]
    ·simp[q1]
   by_cases c6:r<0\/3<=r
   ·rw[if_r (tYes t6 c6) (zV (valE (d:=.str "run") (b1:=b) rfl)),ec,aE c6];rfl
   ·rw[if_n (tNo t6 c6)]
    have g1:(IV.ix (.ix (.var 5) (.ix (.var 1) (.cst (.int 1)))) (.cst (.int 2))).ev qd S b=.ok (iD l1) b:=jq (jq v5 d1 (ixJ L.h3 h1)) rfl rfl;have g2:(IV.ix (.ix (.var 5) (.ix (.var 1) (.cst (.int 2)))) (.cst (.int 2))).ev qd S b=.ok (iD l2) b:=jq (jq v5 d2 (ixJ L.h3 h2)) rfl rfl;have t7:(IT.or [.cmp .eq (.ix (.var 1) (.cst (.int 1))) (.ix (.var 1) (.cst (.int 2))),.cmp .nin (.ix (.var 1) (.cst (.int 3))) (.ix (.ix (.var 5) (.ix (.var 1) (.cst (.int 1)))) (.cst (.int 2))),.cmp .nin (.ix (.var 1) (.cst (.int 3))) (.ix (.ix (.var 5) (.ix (.var 1) (.cst (.int 2)))) (.cst (.int 2)))]).ev qd S b=.ok (decide (x=y\/r∉l1\/r∉l2)) b:=by
     rw[vz,vm,tEqS d1 d2,R.bind_ok,vz,vm,tCmp (z:=!decide (r∈l1)) rfl wx d3 g1,R.bind_ok,xU,tCmp (z:=!decide (r∈l2)) rfl wx d3 g2]
     by_cases q1:x=y
     ·simp[q1]
     ·by_cases q2:r∈l1
      ·simp[q1,q2]
      ·simp[q1,q2]
    by_cases c7:x=y\/r∉l1\/r∉l2
    ·rw[if_r (tYes t7 c7) (zV (valE (d:=.str "leg") (b1:=b) rfl)),ec,ax c6,aE c7];rfl
    ·rw[if_n (tNo t7 c7),ec,ax c6,ax c7]
     have e1:=Xa (T:=qd) (p:=.inn) (k:=6) (s:=S) rfl rfl rfl L.h4 hB;have hr:∀z:Bool,ixD b (.lst [.str "let",.str "twice"]) (.int (if z then 1 else 0))=some (.str (wrd (if z=true then 16 else 0))):=fun z=>by cases z <;> rfl
     have e2:=jq (v:=.kp false (.lst [.cst (.str "let"),.cst (.str "twice")])) (d:=.lst [.str "let",.str "twice"]) (b1:=b) (b2:=b) rfl e1 (hr _);rw[zV (valE e2)];rfl
end
section
variable{b b1 t:Hb}{x d y:D}{l:List D}{r:List (KK×D)}{T:List FnE}{s s1:Sc}{i j:Nat}{BL K:List KK}{x0 x1 x2 x3 x4 x5:D}{k:KK}{q u:Nat}{ids ids':List Nat}{tb:TB}{dn un:List D}
theorem kJ(h:qv b x=some r):qv (b++t) x=some r:=by
 cases x <;> first|exact h|skip
 rename_i n;obtain⟨o,h1,h2⟩:=ai.mp (show(b[n]?).bind Ob.k=some r from h);show((b++t)[n]?).bind Ob.k=some r;rw[Kz h1];exact h2
theorem LsV.app(h:LsV b x l):LsV (b++t) x l:=h.imp id fun⟨n,e,h⟩=>⟨n,e,Kz h⟩
theorem Ls.app(L:Ls b i j BL x0 x1 x2 x3 x4 x5):Ls (b++t) i j BL x0 x1 x2 x3 x4 x5:=⟨kJ L.h0,L.h1.app,kJ L.h2,kJ L.h3,L.h4.app,kJ L.h5⟩
noncomputable def cpV:IV:=.kp true (.alt (.bm .cpy (.var 1) .nil) (.bm .cpd (.var 1) .nil))
theorem Q5(hs:s[1]?=some (some x))(h:qv b x=some r)(hp:r.all (fun x=>plK x.1)=true):cpV.ev T s b=.ok (.obj b.length) (b++[.dic false r]):=by
 have v:(IV.var 1).ev T s b=.ok x b:=by rw[kH,hs];rfl
 have e1:(IE.bm .cpy (.var 1) []).ev T s b=.bad:=by
  rw[Zu,xX,v,R.bind_ok];show(if(qG b x).isSome=true then _ else _)=_;rw[kR h];rfl
 have e2:(IE.bm .cpd (.var 1) []).ev T s b=.ok (.n (.dic false r)) b:=by
  rw[Zu,xX,v,R.bind_ok];show(if(qv b x).isSome=true then _ else _)=_;rw[h];show opR ((iCpd b x).map fun r=>(r,b))=_;unfold iCpd;rw[h,bb,aE hp];rfl
 show kp true (altF _ _ s b)=_;unfold altF;rw[e1];show kp true ((IE.bm .cpd (.var 1) []).ev T s b)=_;rw[e2];rfl
theorem Xm(hs:s[1]?=some (some x))(h:LsV b x l):cpV.ev T s b=.ok (.obj b.length) (b++[.lst false l]):=by
 have v:(IV.var 1).ev T s b=.ok x b:=by rw[kH,hs];rfl
 have e1:(IE.bm .cpy (.var 1) []).ev T s b=.ok (.n (.lst false l)) b:=by
  rw[Zu,xX,v,R.bind_ok];show(if(qG b x).isSome=true then _ else _)=_;rw[h.ls];show opR ((iCpy b x).map fun r=>(r,b))=_;unfold iCpy;rw[h.ls];rfl
 show kp true (altF _ _ s b)=_;unfold altF;rw[e1];rfl
theorem q_{tg:Tg}{ft:EvB}{fe:EvD}{ds acc:List D}(h1:asg tg d s=some s1)(h2:ft s1 b=.ok true b)(h3:fe s1 b=.ok y b1)(hl:acc.length<=100):cmpD tg ft (fxL fe) (d::ds) s (.lst false acc) b=cmpD tg ft (fxL fe) ds s1 (.lst false (acc++[y])) b1:=by
 rw[yn,h1];dsimp only;rw[h2,R.bind_ok,aE rfl];unfold fxL;dsimp only;rw[h3,R.bind_ok,aE (yB hl),R.bind_ok]
noncomputable def cps(i j:Nat)(BL:List KK):Hb:=[.dic false RP,.lst false CR,.dic false [],.dic false (RJ i j),.lst false (BL.map kkD),.dic false RM]
noncomputable def obs6(n:Nat):List D:=[.obj n,.obj (n+1),.obj (n+2),.obj (n+3),.obj (n+4),.obj (n+5)]
theorem qaa(L:Ls b i j BL x0 x1 x2 x3 x4 x5){z:Option D}:cmpD (.nm 1) (IT.tt.ev T) (fxL (cpV.ev T)) [x0,x1,x2,x3,x4,x5] [none,z] (.lst false []) b=.ok (.lst false (obs6 b.length)) (b++cps i j BL):=by
 have st:∀{z:Option D}{d:D},asg (.nm 1) d [none,z]=some [none,some d]:=rfl;have L1:=L.app (t:=[Ob.dic false RP]);have L2:=L1.app (t:=[Ob.lst false CR]);have L3:=L2.app (t:=[Ob.dic false []]);have L4:=L3.app (t:=[Ob.dic false (RJ i j)]);have L5:=L4.app (t:=[Ob.lst false (BL.map kkD)]);rw[q_ st rfl (Q5 rfl L.h0 rfl) (bz _),q_ st rfl (Xm rfl L1.h1) (by simp),q_ st rfl (Q5 rfl L2.h2 rfl) (by simp),q_ st rfl (Q5 rfl L3.h3 rfl) (by simp),q_ st rfl (Xm rfl L4.h4) (by simp),q_ st rfl (Q5 rfl L5.h5 rfl) (by simp)];simp[cmpD,obs6,cps]
noncomputable def sc2(st deed:D)(n:Nat):Sc:=[some st,some deed,some (.obj n),some (.obj (n+1)),some (.obj (n+2)),some (.obj (n+3)),some (.obj (n+4)),some (.obj (n+5)),none]
theorem KC{deed:D}{ss:ISs}(L:Ls b i j BL x0 x1 x2 x3 x4 x5):evSs T (.tupL (.cons (.nm 2) (.cons (.nm 3) (.cons (.nm 4) (.cons (.nm 5) (.cons (.nm 6) (.cons (.nm 7) .nil)))))) (.kp false (.lc 2 [] .any [.var 0] (.nm 1) .tt cpV))::ss) [some (.tup [x0,x1,x2,x3,x4,x5]),some deed,none,none,none,none,none,none,none] b=evSs T ss (sc2 (.tup [x0,x1,x2,x3,x4,x5]) deed b.length) (b++cps i j BL):=by
 have e1:(IV.kp false (.lc 2 [] .any [.var 0] (.nm 1) .tt cpV)).ev T [some (.tup [x0,x1,x2,x3,x4,x5]),some deed,none,none,none,none,none,none,none] b=.ok (.lst (obs6 b.length)) (b++cps i j BL):=by
  rw[qO,vn (W9 (f:=(IV.var 0).ev T) (ds:=[x0,x1,x2,x3,x4,x5]) (b1:=b) rfl) (qaa L)];rfl
 rw[qm];show sq (eO ((IV.kp false _).ev T _ b) _ _) _=_;rw[e1];rfl
noncomputable def rmK:List KK->KK->List KK
 |[],_=>[]
 |a::l,k=>if a=k then l else a::rmK l k
theorem rmK_sub:∀{l:List KK}{k:KK},(rmK l k).Sublist l
 |[],_=>.slnil
 |a::l,k=>by
  unfold rmK
  split
  ·exact List.sublist_cons_self a l
  ·exact rmK_sub.cons₂ a
theorem JZ{n:Nat}{a c a' c':Str}{r r':Int}:eqN b (n+2) (kkD (.inr [.inr a,.inr c,.inl r])) (kkD (.inr [.inr a',.inr c',.inl r']))=some (decide ((.inr [.inr a,.inr c,.inl r]:KK)=.inr [.inr a',.inr c',.inl r'])):=by
 have e:eqN b (n+2) (kkD (.inr [.inr a,.inr c,.inl r])) (kkD (.inr [.inr a',.inr c',.inl r']))=some ((a == a') && ((c == c') && ((r == r') && true))):=rfl;rw[e];congr 1;rw[fE,fK];simp
theorem ZZ{a' c':Str}{r':Int}:∀{BL:List KK},Shs BL->(.inr [.inr a',.inr c',.inl r']:KK)∈BL->∃j,idxE (fun z=>eqN b 5 z (kkD (.inr [.inr a',.inr c',.inl r']))) (BL.map kkD)=some j/\(BL.map kkD).eraseIdx j=(rmK BL (.inr [.inr a',.inr c',.inl r'])).map kkD
 |k0::BL,h,hm=>by
  obtain⟨a,c,r,rfl,_⟩:=h k0 aC;rw[av];unfold idxE rmK;rw[JZ,bb]
  by_cases e:(.inr [.inr a,.inr c,.inl r]:KK)=.inr [.inr a',.inr c',.inl r']
  ·exact⟨0,by rw[br e];rfl,by rw[aE e];rfl⟩
  ·have hm:(.inr [.inr a',.inr c',.inl r']:KK)∈BL:=(aw.mp hm).elim (fun z=>absurd z.symm e) id
   obtain⟨j,h1,h2⟩:=ZZ (fun k hk=>h k (ay _ hk)) hm;refine⟨j+1,?_,?_⟩
   ·rw[aZ e,ax (by decide),h1];rfl
   ·rw[ax e,List.eraseIdx_cons_succ,h2];rfl
theorem tS2{T:List FnE}{w1 w2:Str}{z:Bool}{st x y r:D}{n:Nat}{b:Hb}(h:(w1 == w2)=z):(IT.cmp .eq (.ix (.var 1) (.cst (.int 0))) (.cst (.str w2))).ev T (sc2 st (.tup [.str w1,x,y,r]) n) b=.ok z b:=tS h
theorem tup6{v1 v2 v3 v4 v5 v6:IV}{d1 d2 d3 d4 d5 d6:D}(h1:v1.ev T s b=.ok d1 b)(h2:v2.ev T s b=.ok d2 b)(h3:v3.ev T s b=.ok d3 b)(h4:v4.ev T s b=.ok d4 b)(h5:v5.ev T s b=.ok d5 b)(h6:v6.ev T s b=.ok d6 b):(IV.tup [v1,v2,v3,v4,v5,v6]).ev T s b=.ok (.tup [d1,d2,d3,d4,d5,d6]) b:=by
 rw[vy,zM,qc,qc,qc,qc,qc,qc,qo,qb,h1,R.bind_ok,qb,h2,R.bind_ok,qb,h3,R.bind_ok,qb,h4,R.bind_ok,qb,h5,R.bind_ok,qb,h6];rfl
theorem Qh{x y:Str}{r:Int}(L:Ls b i j BL x0 x1 x2 x3 x4 x5)(hB:Shs BL)(hx:x≠y)(hl:BL.length<60):qR [.tup [x0,x1,x2,x3,x4,x5],dD "share" x y r] b=.ok (.v (.tup [.obj b.length,.obj (b.length+1),.obj (b.length+2),.obj (b.length+3),.lst ((srtK (BL++[kK x y r])).map kkD),.obj (b.length+5)])) (b++cps i j BL):=by
 show outR (evSs qj i_Lafter_two [some (.tup [x0,x1,x2,x3,x4,x5]),some (dD "share" x y r),none,none,none,none,none,none,none] b)=_;have e0:evSs qj i_Lafter_two [some (.tup [x0,x1,x2,x3,x4,x5]),some (dD "share" x y r),none,none,none,none,none,none,none] b=evSs qj i_Lafter_two.tail (sc2 (.tup [x0,x1,x2,x3,x4,x5]) (dD "share" x y r) b.length) (b++cps i j BL):=KC L;rw[e0];unfold i_Lafter_two;rw[gU,if_n (tS2 (by decide))];have ky:=We (T:=qj) (b:=b++cps i j BL) (kd:="share") (x:=x) (y:=y) (r:=r) (s:=sc2 (.tup [x0,x1,x2,x3,x4,x5]) (dD "share" x y r) b.length) rfl;have v6:(IV.var 6).ev qj (sc2 (.tup [x0,x1,x2,x3,x4,x5]) (dD "share" x y r) b.length) (b++cps i j BL)=.ok (.obj (b.length+4)) (b++cps i j BL):=rfl;have hv:qG (b++cps i j BL) (.obj (b.length+4))=some (BL.map kkD):=zx (h:=false) (by rw[aJ (bD _ _),cb];rfl);have ad:addD (b++cps i j BL) (.obj (b.length+4)) (.lst [kD x y r])=some (.n (.lst false (BL.map kkD++[kD x y r]))):=by
  show addL _ _ _=_;unfold addL;rw[hv];show(if _ then _ else _)=_;rw[aE];rw[aM];exact yC (show BL.length+1<=100 by omega)
 have sr:iSrt (b++cps i j BL) (.lst (BL.map kkD++[kD x y r]))=some (.n (.lst false ((srtK (BL++[kK x y r])).map kkD))):=by
  refine wA (ks:=BL++[kK x y r]) (by rw[cz];rfl) (by rw[az,bx];omega) (jW (.inr rfl) fun k hk=>?_);rcases b9.mp hk with h|h
  ·obtain⟨a,c,r,rfl,_⟩:=hB k h;rfl
  ·rw[aD.mp h];rfl
 have e6:(IV.kp false (.bf .srt [.kp false (.bin .add (.var 6) (.kp false (.lst [kyV])))])).ev qj (sc2 (.tup [x0,x1,x2,x3,x4,x5]) (dD "share" x y r) b.length) (b++cps i j BL)=.ok (.lst ((srtK (BL++[kK x y r])).map kkD)) (b++cps i j BL):=by
  have e1:(IV.kp false (.lst [kyV])).ev qj (sc2 (.tup [x0,x1,x2,x3,x4,x5]) (dD "share" x y r) b.length) (b++cps i j BL)=.ok (.lst [kD x y r]) (b++cps i j BL):=by
   rw[qO,uQ,K3,qc,qo,qb,ky];rfl
  have e2:(IV.kp false (.bin .add (.var 6) (.kp false (.lst [kyV])))).ev qj (sc2 (.tup [x0,x1,x2,x3,x4,x5]) (dD "share" x y r) b.length) (b++cps i j BL)=.ok (.lst (BL.map kkD++[kD x y r])) (b++cps i j BL):=by
   rw[qO,QZ,v6,R.bind_ok,e1,R.bind_ok];show kp false (opR ((addD _ _ _).map _))=_;rw[ad];rfl
  rw[qO,wD,qc,qo,qb,e2,R.bind_ok,qE,R.bind_ok,R.bind_ok];show kp false (opR ((iSrt _ _).map _))=_;rw[sr];rfl
 rw[if_r (tS2 (by decide)) (zV (valE (d:=.tup [.obj b.length,.obj (b.length+1),.obj (b.length+2),.obj (b.length+3),.lst ((srtK (BL++[kK x y r])).map kkD),.obj (b.length+5)]) (b1:=b++cps i j BL) ?_))]
 ·rfl
 ·exact tup6 (v1:=.var 2) (v2:=.var 3) (v3:=.var 4) (v4:=.var 5) (v6:=.var 7) rfl rfl rfl rfl e6 rfl
theorem wO{x y:Str}{r:Int}(L:Ls b i j BL x0 x1 x2 x3 x4 x5)(hB:Shs BL)(hk:kK x y r∈BL):qR [.tup [x0,x1,x2,x3,x4,x5],dD "unshare" x y r] b=.ok (.v (.tup (obs6 b.length))) ((b++cps i j BL).set (b.length+4) (.lst false ((rmK BL (kK x y r)).map kkD))):=by
 show outR (evSs qj i_Lafter_two [some (.tup [x0,x1,x2,x3,x4,x5]),some (dD "unshare" x y r),none,none,none,none,none,none,none] b)=_;have e0:evSs qj i_Lafter_two [some (.tup [x0,x1,x2,x3,x4,x5]),some (dD "unshare" x y r),none,none,none,none,none,none,none] b=evSs qj i_Lafter_two.tail (sc2 (.tup [x0,x1,x2,x3,x4,x5]) (dD "unshare" x y r) b.length) (b++cps i j BL):=KC L;rw[e0];unfold i_Lafter_two;rw[gU,if_n (tS2 (by decide)),if_n (tS2 (by decide))];have ky:=We (T:=qj) (b:=b++cps i j BL) (kd:="unshare") (x:=x) (y:=y) (r:=r) (s:=sc2 (.tup [x0,x1,x2,x3,x4,x5]) (dD "unshare" x y r) b.length) rfl;have h4:(b++cps i j BL)[b.length+4]?=some (.lst false (BL.map kkD)):=by rw[aJ (bD _ _),cb];rfl
 obtain⟨jj,q1,q2⟩:=ZZ (b:=b++cps i j BL) hB hk;have er:(IE.bm .rem (.var 6) [kyV]).ev qj (sc2 (.tup [x0,x1,x2,x3,x4,x5]) (dD "unshare" x y r) b.length) (b++cps i j BL)=.ok (.v .non) ((b++cps i j BL).set (b.length+4) (.lst false ((rmK BL (kK x y r)).map kkD))):=by
  rw[Zu,xX];show R.bind (R.ok (D.obj (b.length+4)) (b++cps i j BL)) _=_;rw[R.bind_ok];show(if(qG (b++cps i j BL) (.obj (b.length+4))).isSome=true then _ else _)=_;rw[zx h4,aE (show(some (BL.map kkD)).isSome=true from rfl),qc,qo,qb,ky,R.bind_ok,qE,R.bind_ok,R.bind_ok];show opR ((obL _ _).bind _)=_;rw[V5 h4,bb];show opR (((idxE _ _).map _).map _)=_;have q1':idxE (fun z=>eqN (b++cps i j BL) 5 z (kD x y r)) (BL.map kkD)=some jj:=q1;rw[q1'];show R.ok _ (List.set _ _ (Ob.lst false ((BL.map kkD).eraseIdx jj)))=_;rw[q2];rfl
 rw[if_r (tS2 (by decide)) ((wa er).trans (zV (valE (d:=.tup (obs6 b.length)) rfl)))];rfl
end
section
variable{b b1 b':Hb}{x d y:D}{l:List D}{r:List (KK×D)}{i j n m:Nat}{BL K:List KK}{x0 x1 x2 x3 x4 x5:D}{k:KK}{q u u':Nat}{ids ids':List Nat}{tb:TB}{dn un:List D}{ds:List D}{st:D}{T:List FnE}{z:Str}
theorem Vd(hK:Shs BL)(hl:BL.length<=100)(b':Hb):cmpD (.nm 1) ((IT.cmp .inn (.var 2) (.kp false (.sl (.var 1) [] [.cst (.int 2)]))).ev T) (fxL ((IV.tup [.ix (.var 1) (.kp false (.bin .sub (.cst (.int 1)) (.kp false (.bm .tix (.var 1) [.var 2])))),.ix (.var 1) (.cst (.int 2))]).ev T)) (BL.map kkD) [none,none,some (.str z)] (.lst false []) b'=.ok (.lst false ((BL.filterMap (oth z)).map kkD)) b':=by
 have:=kM (b:=b') (T:=T) (t:=.nm 1) (ts:=.cmp .inn (.var 2) (.kp false (.sl (.var 1) [] [.cst (.int 2)]))) (e:=.tup [.ix (.var 1) (.kp false (.bin .sub (.cst (.int 1)) (.kp false (.bm .tix (.var 1) [.var 2])))),.ix (.var 1) (.cst (.int 2))]) (g:=oth z) (fun s=>∃a0 a1,s=[a0,a1,some (.str z)]) (K:=BL) (s:=[none,none,some (.str z)]) (acc:=[]) (fun k hk s hs=>by
  obtain⟨a0,a1,rfl⟩:=hs;obtain⟨a,c,r,rfl,hn⟩:=hK k hk;refine⟨[a0,some (kkD (.inr [.inr a,.inr c,.inl r])),some (.str z)],rfl,⟨_,_,rfl⟩,?_⟩;have eO:oth z (.inr [.inr a,.inr c,.inl r])=if a=z then some (.inr [.inr c,.inl r])else if c=z then some (.inr [.inr a,.inl r])else none:=rfl
  rw[eO];have v1:(IV.var 1).ev T [a0,some (kkD (.inr [.inr a,.inr c,.inl r])),some (.str z)] b'=.ok (.tup [.str a,.str c,.int r]) b':=rfl;have v2:(IV.var 2).ev T [a0,some (kkD (.inr [.inr a,.inr c,.inl r])),some (.str z)] b'=.ok (.str z) b':=rfl;have sl:(IV.kp false (.sl (.var 1) [] [.cst (.int 2)])).ev T [a0,some (kkD (.inr [.inr a,.inr c,.inl r])),some (.str z)] b'=.ok (.tup [.str a,.str c]) b':=rfl;have tt:(IT.cmp .inn (.var 2) (.kp false (.sl (.var 1) [] [.cst (.int 2)]))).ev T [a0,some (kkD (.inr [.inr a,.inr c,.inl r])),some (.str z)] b'=.ok ((a == z) || ((c == z) || false)) b':=tCmp rfl rfl v2 sl;have ti:∀jj:Nat,idxE (fun y=>eqN b' 5 y (.str z)) [.str a,.str c,.int r]=some jj->(IV.kp false (.bm .tix (.var 1) [.var 2])).ev T [a0,some (kkD (.inr [.inr a,.inr c,.inl r])),some (.str z)] b'=.ok (.int jj) b':=fun jj h=>by
   rw[qO,Zu,xX,v1,R.bind_ok];rw[aE (show isTy b' Bm.tix.T (.tup [.str a,.str c,.int r])=true from rfl),qc,qo,qb,v2,R.bind_ok,qE,R.bind_ok,R.bind_ok];show kp false (opR (((idxE (fun y=>eqN b' 5 y (.str z)) [.str a,.str c,.int r]).map fun(j:Nat)=>Res.v (.int j)).map fun r=>(r,b')))=_;rw[h];rfl
  have ix:∀(jj:Nat)(y:D),idxE (fun y=>eqN b' 5 y (.str z)) [.str a,.str c,.int r]=some jj->ixD b' (.tup [.str a,.str c,.int r]) (.int (1 - (jj:Int)))=some y->(IV.tup [.ix (.var 1) (.kp false (.bin .sub (.cst (.int 1)) (.kp false (.bm .tix (.var 1) [.var 2])))),.ix (.var 1) (.cst (.int 2))]).ev T [a0,some (kkD (.inr [.inr a,.inr c,.inl r])),some (.str z)] b'=.ok (.tup [y,.int r]) b':=fun jj y h1 h2=>by
   have e1:=jq v1 (iSub (iC (i:=1)) (ti jj h1)) h2;have e2:(IV.ix (.var 1) (.cst (.int 2))).ev T [a0,some (kkD (.inr [.inr a,.inr c,.inl r])),some (.str z)] b'=.ok (.int r) b':=rfl;rw[vy,zM,qc,qc,qo,qb,e1,R.bind_ok,qb,e2];rfl
  by_cases h1:a=z
  ·subst h1
   rw[aE rfl];exact⟨by rw[tt];simp,ix 0 (.str c) (by unfold idxE;rw[wE,bb];simp) rfl⟩
  ·rw[ax h1]
   have f1:(a == z)=false:=by simp[h1]
   by_cases h2:c=z
   ·subst h2
    rw[aE rfl];exact⟨by rw[tt];simp,ix 1 (.str a) (by unfold idxE idxE;rw[wE,wE,f1,bb,ax (by decide),bb];simp) rfl⟩
   ·rw[ax h2]
    show _=_;rw[tt];simp[h1,h2]) ⟨_,_,rfl⟩ (yC (by simpa using hl))
 simpa using this
noncomputable def Sf(ids:List Nat)(b:Hb)(x:D):Prop:=∀n,x=.obj n->n<b.length/\¬ Bo 1 ids n
theorem Sf.grow(G:Grow 1 ids ids' b b')(h:Sf ids b x):Sf ids' b' x:=fun n e=>by
 obtain⟨h1,h2⟩:=h n e;refine⟨bS h1 G.le,fun z=>?_⟩;rcases z with z|z|z|z
 ·exact h2 (.inl z)
 ·exact h2 (.inr (.inl z))
 ·exact h2 (.inr (.inr (.inl z)))
 ·exact(G.ids n z).elim (fun w=>h2 (.inr (.inr (.inr w)))) fun w=>absurd h1 (eP w)
theorem vO(G:Grow 1 ids ids' b b')(h:Sf ids b x)(hd:qv b x=some r):qv b' x=some r:=by
 cases x <;> first|exact hd|skip
 rename_i n;obtain⟨o,h1,h2⟩:=ai.mp (show(b[n]?).bind Ob.k=some r from hd);show(b'[n]?).bind Ob.k=some r;rw[G.kp n o h1 (h n rfl).2];exact h2
theorem Jh(G:Grow 1 ids ids' b b')(h:Sf ids b x)(hd:LsV b x l):LsV b' x l:=by
 rcases hd with hd|⟨n,rfl,hd⟩
 ·exact .inl hd
 ·exact .inr ⟨n,rfl,G.kp n _ hd (h n rfl).2⟩
theorem BkAt.same(B:BkAt q b tb dn un u ids)(h:∀i o,b[i]?=some o->i=q\/i=u\/Bo q ids i->b'[i]?=some o):BkAt q b' tb dn un u ids:=
 ⟨h _ _ B.bk (.inl rfl),h _ _ B.lg (.inr (.inr (.inl rfl))),h _ _ B.ts (.inr (.inr (.inr (.inl rfl)))),h _ _ B.dn (.inr (.inr (.inr (.inr (.inl rfl))))),h _ _ B.un (.inr (.inl rfl)),B.len,fun j p i h1 h2=>h _ _ (B.at_ j p i h1 h2) (.inr (.inr (.inr (.inr (.inr (aB h2)))))),B.nd,B.lo,B.kn⟩
end
noncomputable abbrev tkJ:KK:=.inl (.inr "journey")
noncomputable abbrev tkR:KK:=.inl (.inr "run")
noncomputable abbrev tkP:KK:=.inl (.inr "place")
noncomputable abbrev tkS:KK:=.inl (.inr "share")
structure Bq(i j:Nat)(K:List KK)(m:Nat)(b:Hb)(tb:TB)(dn:List D)(u:Nat)(ids:List Nat):Prop where
 B:BkAt 1 b tb dn [] u ids
 tJ:rows tb tkJ=RJ i j
 tR:rows tb tkR=RU
 tP:rows tb tkP=RP
 tS:rows tb tkS=K.map fun k=>(k,.bl true)
 tO:∀w,w≠tkJ->w≠tkR->w≠tkP->w≠tkS->rows tb w=[]
 tl:tb.length<=3+m
 dl:dn.length<=8+m
 mm:m<=40
 kl:K.length<=9
structure Xt(b b':Hb):Prop where
 at_:∀(i:Nat) o,b[i]?=some o->b'[i]?=some o
 le:b.length<=b'.length
theorem Xt.app{b t:Hb}:Xt b (b++t):=⟨fun i o h=>Kz h,by rw[az];exact bD _ _⟩
theorem Xt.trans{b b' b'':Hb}(h:Xt b b')(k:Xt b' b''):Xt b b'':=⟨fun i o e=>k.at_ i o (h.at_ i o e),ba h.le k.le⟩
theorem Xt.set{b b':Hb}{n:Nat}{o:Ob}(h:Xt b b')(hn:b.length<=n):Xt b (b'.set n o):=⟨fun i x e=>by
 have:n≠i:=fun z=>by have:=(ag.mp e).1;omega
 rw[aO this];exact h.at_ i x e,by rw[cW];exact h.le⟩
section
variable{b b' t:Hb}{x y:Str}{d:D}{r:Int}{i j m:Nat}{BL K:List KK}{k:KK}{u:Nat}{ids ids':List Nat}{tb:TB}{dn:List D}{st:D}{l:List D}{rr:List (KK×D)}
theorem Bq.xt(h:Bq i j K m b tb dn u ids)(X:Xt b b'):Bq i j K m b' tb dn u ids:={ h with B:=h.B.same fun i o e _=>X.at_ i o e }
theorem Q4{x:D}(X:Xt b b')(h:qv b x=some rr):qv b' x=some rr:=by
 cases x <;> first|exact h|skip
 rename_i n;obtain⟨o,h1,h2⟩:=ai.mp (show(b[n]?).bind Ob.k=some rr from h);show(b'[n]?).bind Ob.k=some rr;rw[X.at_ n o h1];exact h2
theorem LsV.xt{x:D}(X:Xt b b')(h:LsV b x l):LsV b' x l:=h.imp id fun⟨n,e,h⟩=>⟨n,e,X.at_ n _ h⟩
structure Lp(i j:Nat)(BL:List KK)(ids:List Nat)(b:Hb)(st:D):Prop where
 ex:∃x0 x1 x2 x3 x4 x5,st=.tup [x0,x1,x2,x3,x4,x5]/\Ls b i j BL x0 x1 x2 x3 x4 x5/\∀x∈[x0,x1,x2,x3,x4,x5],Sf ids b x
theorem Lp.xt(h:Lp i j BL ids b st)(X:Xt b b'):Lp i j BL ids b' st:=by
 obtain⟨x0,x1,x2,x3,x4,x5,e,L,S⟩:=h.ex;exact⟨x0,x1,x2,x3,x4,x5,e,⟨Q4 X L.h0,L.h1.xt X,Q4 X L.h2,Q4 X L.h3,L.h4.xt X,Q4 X L.h5⟩,fun x hx n e=>⟨bS (S x hx n e).1 X.le,(S x hx n e).2⟩⟩
theorem Lp.grow(h:Lp i j BL ids b st)(G:Grow 1 ids ids' b b'):Lp i j BL ids' b' st:=by
 obtain⟨x0,x1,x2,x3,x4,x5,e,L,S⟩:=h.ex;have s:=fun x hx=>S x hx
 exact⟨x0,x1,x2,x3,x4,x5,e,⟨vO G (S x0 (by simp)) L.h0,Jh G (S x1 (by simp)) L.h1,vO G (S x2 (by simp)) L.h2,vO G (S x3 (by simp)) L.h3,Jh G (S x4 (by simp)) L.h4,vO G (S x5 (by simp)) L.h5⟩,fun x hx=>(S x hx).grow G⟩
theorem xM(h:Bq i j K m b tb dn u ids){n:Nat}{c:Hb}(hn:b.length<=n)(hc:n<c.length):Sf ids c (.obj n):=fun n' e=>by
 cases e;have l3:=(ag.mp h.B.dn).1;refine⟨hc,fun z=>?_⟩;rcases z with z|z|z|z
 ·omega
 ·omega
 ·omega
 ·exact absurd (h.B.ilen z) (eP hn)
theorem xG{n:Nat}{o:Ob}(h:(cps i j BL)[n]?=some o):(b++cps i j BL)[b.length+n]?=some o:=by
 rw[aJ (bD _ _),cb];exact h
theorem Jn(h:Lp i j BL ids b st)(hb:Bq i j K m b tb dn u ids)(hB:Shs BL)(hx:x≠y)(hl:BL.length<=9):∃st' b',qR [st,dD "share" x y r] b=.ok (.v st') b'/\Xt b b'/\Lp i j (srtK (BL++[kK x y r])) ids b' st':=by
 obtain⟨x0,x1,x2,x3,x4,x5,rfl,L,S⟩:=h.ex;have len:(b++cps i j BL).length=b.length+6:=by rw[az];rfl
 refine⟨_,_,Qh L hB hx (by omega),.app,⟨_,_,_,_,_,_,rfl,⟨qp (h:=false) ((xG (n:=0) rfl:(b++cps i j BL)[b.length+0]?=_)),.inr ⟨_,rfl,xG rfl⟩,qp (h:=false) (xG rfl),qp (h:=false) (xG rfl),.inl rfl,qp (h:=false) (xG rfl)⟩,fun z hz=>?_⟩⟩;simp only[aw,aL,bZ]at hz;rcases hz with rfl|rfl|rfl|rfl|rfl|rfl
 ·exact xM hb (aI _) (by omega)
 ·exact xM hb (by omega) (by omega)
 ·exact xM hb (by omega) (by omega)
 ·exact xM hb (by omega) (by omega)
 ·exact fun n e=>by cases e
 ·exact xM hb (by omega) (by omega)
theorem yT(h:Lp i j BL ids b st)(hb:Bq i j K m b tb dn u ids)(hB:Shs BL)(hk:kK x y r∈BL):∃st' b',qR [st,dD "unshare" x y r] b=.ok (.v st') b'/\Xt b b'/\Lp i j (rmK BL (kK x y r)) ids b' st':=by
 obtain⟨x0,x1,x2,x3,x4,x5,rfl,L,S⟩:=h.ex;have len:((b++cps i j BL).set (b.length+4) (.lst false ((rmK BL (kK x y r)).map kkD))).length=b.length+6:=by rw[cW,az];rfl
 have at_:∀{n:Nat}{o:Ob},n≠4->(cps i j BL)[n]?=some o->((b++cps i j BL).set (b.length+4) (.lst false ((rmK BL (kK x y r)).map kkD)))[b.length+n]?=some o:=fun{n o} hn h=>by
  rw[aO (by omega)];exact xG h
 refine⟨_,_,wO L hB hk,Xt.app.set (bD _ _),⟨_,_,_,_,_,_,rfl,⟨qp (h:=false) (at_ (n:=0) (by decide) rfl),.inr ⟨_,rfl,at_ (by decide) rfl⟩,qp (h:=false) (at_ (by decide) rfl),qp (h:=false) (at_ (by decide) rfl),.inr ⟨_,rfl,aV (by rw[az];exact Nat.add_lt_add_left (show 4<6 by decide) _)⟩,qp (h:=false) (at_ (by decide) rfl)⟩,fun z hz=>?_⟩⟩;simp only[aw,aL,bZ]at hz;rcases hz with rfl|rfl|rfl|rfl|rfl|rfl <;> exact xM hb (by omega) (by omega)
theorem lkK{K:List KK}:(lk (K.map fun k=>(k,D.bl true)) k).isSome=inK k K:=by
 induction K with
 |nil=>rfl
 |cons a K ih=>
  rw[av,jp];show _=(decide (a=k) || inK k K)
  by_cases h:a=k
  ·rw[aE h,br h];rfl
  ·rw[ax h,aZ h,ih];rfl
theorem Bq.small(h:Bq i j K m b tb dn u ids):Small tb 2:=by
 refine⟨by have:=h.tl;have:=h.mm;exact yB (by omega),fun w=>?_⟩
 by_cases h1:w=tkJ
 ·subst h1;rw[h.tJ];exact(show 3+2<sizeLine by decide)
 by_cases h2:w=tkR
 ·subst h2;rw[h.tR];decide
 by_cases h3:w=tkP
 ·subst h3;rw[h.tP];decide
 by_cases h4:w=tkS
 ·subst h4;rw[h.tS,aM];have:=h.kl;exact yB (by omega)
 ·rw[h.tO w h1 h2 h3 h4];decide
theorem lkR:(lk RU (.inl (.inl r))).isSome=!decide (r<0\/3<=r):=by
 have e:∀z:Int,((.inl (.inl z):KK)=.inl (.inl r))↔r=z:=fun z=>⟨fun h=>by cases h;rfl,fun h=>by rw[h]⟩
 unfold RU;rw[jp,jp,jp,V8];simp only[e]
 by_cases h0:r=0
 ·subst h0;rfl
 ·by_cases h1:r=1
  ·subst h1;rfl
  ·by_cases h2:r=2
   ·subst h2;rfl
   ·rw[ax h0,ax h1,ax h2,br (show r<0\/3<=r by omega)];rfl
theorem K_{tb:TB}{w k:KK}{row:D}:(putT tb w k row).length<=tb.length+1:=by
 have:=bY List.length (v7 (tb:=tb) (w:=w) (r:=putR (rows tb w) k row));rw[aM]at this;show(setT _ _ _).length<=_;rw[this]
 split
 ·rw[aM];exact fX _
 ·rw[az,aM,bx];exact aI _
theorem Q9{deed row:D}{K':List KK}(h:Bq i j K m b tb dn u ids)(hm:m<40)(hk:putR (K.map fun k=>(k,D.bl true)) (kK x y r) row=K'.map fun k=>(k,.bl true))(hl:K'.length<=9):∃b' tb' dn' u' ids',qz [.obj 2,deed,.lst [.tup [.str "share",kD x y r,row]]] b=.ok (.v .non) b'/\Bq i j K' (m+1) b' tb' dn' u' ids'/\Grow 1 ids ids' b b':=by
 obtain⟨b',u',ids',dn',h1,h2,h3,h4⟩:=uT (deed:=deed) (w:=.str "share") (kw:=tkS) (k:=kD x y r) (kk:=kK x y r) (row:=row) h.B rfl dkK h.small (by have:=h.dl;have:=h.mm;exact yB (by omega));have rw_:∀w,rows (putT tb tkS (kK x y r) row) w=if w=tkS then K'.map (fun k=>(k,.bl true))else rows tb w:=fun w=>by
  rw[Qu,h.tS,hk]
 refine⟨b',_,dn',u',ids',h1,⟨h2,?_,?_,?_,?_,fun w w1 w2 w3 w4=>?_,?_,?_,by omega,hl⟩,h4⟩
 ·rw[rw_,ax (by decide),h.tJ]
 ·rw[rw_,ax (by decide),h.tR]
 ·rw[rw_,ax (by decide),h.tP]
 ·rw[rw_,aE rfl]
 ·rw[rw_,ax w4,h.tO w w1 w2 w3 w4]
 ·have:=K_ (tb:=tb) (w:=tkS) (k:=kK x y r) (row:=row)
  have:=h.tl;omega
 ·have:=h.dl;omega
theorem Q3(h:Bq i j K m b tb dn u ids)(hm:m<40)(hl:code i j K true x y r=0->K.length<9):(code i j K true x y r≠0/\xw [.obj 1,dD "share" x y r] b=.ok (.v (.tup [.str "barred",.str (wrd (code i j K true x y r))])) b)\/(code i j K true x y r=0/\x≠y/\inK (kK x y r) K=false/\∃b' tb' dn' u' ids',xw [.obj 1,dD "share" x y r] b=.ok (.v .non) b'/\Bq i j (K++[kK x y r]) (m+1) b' tb' dn' u' ids'/\Grow 1 ids ids' b b'):=by
 have hr:recv 0 17 b (.obj 1)=true:=wi (j:=17) h.B.bk (by decide);have cs:=Zz (b:=b) (q:=1) (x:=.str x) (y:=.str y) (r:=.int r) hr;have exc:∀C,Cd C->qg [.obj 1,.str x,.str y,.int r] b=.exc C b->xw [.obj 1,dD "share" x y r] b=.ok (.v (.tup [.str "barred",.str (wrd C)])) b:=fun C hC e=>Xk hC (by rw[cs,e];rfl)
 have jx:∀z:Str,lk (rows tb tkJ) (.inl (.inr z))=(jl i j z).map jD:=fun z=>by rw[h.tJ,lkJ]
 have lr:(lk (rows tb tkR) (.inl (.inl r))).isSome=!decide (r<0\/3<=r):=by rw[h.tR,lkR]
 have ls:(lk (rows tb tkS) (kK x y r)).isSome=inK (kK x y r) K:=by rw[h.tS,lkK]
 cases h1:jl i j x with
 |none=>
  have ec:code i j K true x y r=11:=by unfold code;rw[aE rfl,h1]
  refine .inl ⟨by rw[ec];decide,?_⟩;rw[ec];exact exc 11 (by unfold Cd;omega) (K2 h.B (by rw[jx,h1];rfl))
 |some l1=>
  have k1:lk (rows tb tkJ) (.inl (.inr x))=some (.tup [.str "a",.str "b",.tup (l1.map .int)]):=by rw[jx,h1];rfl
  cases h2:jl i j y with
  |none=>
   have ec:code i j K true x y r=11:=by unfold code;rw[aE rfl,h1,h2]
   refine .inl ⟨by rw[ec];decide,?_⟩;rw[ec];exact exc 11 (by unfold Cd;omega) (K0 h.B k1 (by rw[jx,h2];rfl))
  |some l2=>
   have k2:lk (rows tb tkJ) (.inl (.inr y))=some (.tup [.str "a",.str "b",.tup (l2.map .int)]):=by rw[jx,h2];rfl
   have ec:code i j K true x y r=if r<0\/3<=r then 10 else if x=y\/r∉l1\/r∉l2 then 12 else if inK (kK x y r) K=true then 16 else 0:=by
    unfold code;rw[aE rfl,h1,h2]
   by_cases c6:r<0\/3<=r
   ·rw[aE c6]at ec
    refine .inl ⟨by rw[ec];decide,?_⟩;rw[ec];exact exc 10 (by unfold Cd;omega) (XM h.B k1 k2 (by rw[lr,br c6];rfl))
   ·have so:=KZ h.B k1 k2 (by rw[lr,aZ c6];rfl)
    rw[ax c6]at ec
    by_cases c7:x=y\/r∉l1\/r∉l2
    ·rw[aE c7]at ec so
     refine .inl ⟨by rw[ec];decide,?_⟩;rw[ec];exact exc 12 (by unfold Cd;omega) so
    ·rw[ax c7]at ec so
     rw[ls]at so;cases c8:inK (kK x y r) K with
     |true=>
      rw[c8,aE rfl]at ec so;refine .inl ⟨by rw[ec];decide,?_⟩;rw[ec];exact exc 16 (by unfold Cd;omega) so
     |false=>
      rw[c8,ax (by decide)]at ec so;have hx:x≠y:=fun z=>c7 (.inl z)
      obtain⟨b',tb',dn',u',ids',e1,e2,e3⟩:=Q9 (deed:=.tup [.str "share",.str x,.str y,.int r]) (row:=.bl true) (K':=K++[kK x y r]) h hm (by
       show putD _ _ _=_;unfold putD;rw[lkK,c8,ax (by decide),cz];rfl) (by rw[az,bx];have:=hl ec;omega)
      refine .inr ⟨ec,hx,rfl,b',tb',dn',u',ids',u5 ?_,e2,e3⟩;rw[cs,so,e1];rfl
theorem xW(h:Bq i j K m b tb dn u ids)(hm:m<40):(code i j K false x y r≠0/\xw [.obj 1,dD "unshare" x y r] b=.ok (.v (.tup [.str "barred",.str (wrd (code i j K false x y r))])) b)\/(code i j K false x y r=0/\inK (kK x y r) K=true/\∃b' tb' dn' u' ids',xw [.obj 1,dD "unshare" x y r] b=.ok (.v .non) b'/\Bq i j (K.filter fun z=>decide (z≠kK x y r)) (m+1) b' tb' dn' u' ids'/\Grow 1 ids ids' b b'):=by
 have hr:recv 0 18 b (.obj 1)=true:=wi (j:=18) h.B.bk (by decide);have cs:=yo (b:=b) (q:=1) (x:=.str x) (y:=.str y) (r:=.int r) hr;have ls:(lk (rows tb tkS) (kK x y r)).isSome=inK (kK x y r) K:=by rw[h.tS,lkK]
 have so:=yy (n1:=x) (n2:=y) (r:=r) h.B;rw[ls]at so;have ec:code i j K false x y r=if inK (kK x y r) K=true then 0 else 14:=ax (by decide)
 cases c8:inK (kK x y r) K with
 |false=>
  rw[c8,ax (by decide)]at ec so;refine .inl ⟨by rw[ec];decide,?_⟩;rw[ec];exact Xk (by unfold Cd;omega) (by rw[cs,so];rfl)
 |true=>
  rw[c8,aE rfl]at ec so;obtain⟨b',tb',dn',u',ids',e1,e2,e3⟩:=Q9 (x:=x) (y:=y) (r:=r) (deed:=.tup [.str "unshare",.str x,.str y,.int r]) (row:=.non) (K':=K.filter fun z=>decide (z≠kK x y r)) h hm (by
   show xA _ _=_;unfold xA;rw[List.filter_map];rfl) (ba (gq _ _) h.kl)
  refine .inr ⟨ec,rfl,b',tb',dn',u',ids',u5 ?_,e2,e3⟩;rw[cs,so,e1];rfl
end
noncomputable def UU:List KK:=[kK "m" "t" 0,kK "m" "t" 1,kK "m" "t" 2,kK "m" "twelvesigns9" 0,kK "m" "twelvesigns9" 1,kK "m" "twelvesigns9" 2,kK "t" "twelvesigns9" 0,kK "t" "twelvesigns9" 1,kK "t" "twelvesigns9" 2]
noncomputable def pK(x:Str)(r:Int):KK:=.inr [.inr x,.inl r]
noncomputable def UP:List KK:=[pK "m" 0,pK "m" 1,pK "m" 2,pK "t" 0,pK "t" 1,pK "t" 2,pK "twelvesigns9" 0,pK "twelvesigns9" 1,pK "twelvesigns9" 2]
noncomputable def uB:KK->Bool
 |.inr [.inr a,.inr c,.inl r]=>decide (a≠c) && inK (pK a r) UP && inK (pK c r) UP
 |_=>false
theorem qa8:UU.all uB=true:=by decide +kernel
theorem qa7:(UU.all fun a=>UU.all fun c=>decide (encK a=encK c->a=c))=true:=by decide +kernel
theorem Xx:(UP.all fun a=>UP.all fun c=>decide (encK a=encK c->a=c))=true:=by decide +kernel
theorem JA{U:List KK}(h:(U.all fun a=>U.all fun c=>decide (encK a=encK c->a=c))=true):∀a∈U,∀c∈U,encK a=encK c->a=c:=fun a ha c hc=>
 cI (aP.mp (aP.mp h a ha) c hc)
theorem KD{k:KK}(h:k∈UU):∃a c r,k=.inr [.inr a,.inr c,.inl r]/\a≠c/\pK a r∈UP/\pK c r∈UP:=by
 have:=aP.mp qa8 k h;unfold uB at this
 split at this
 ·rename_i a c r
  rw[aq,aq]at this;exact⟨a,c,r,rfl,cI this.1.1,inK_iff.mp this.1.2,inK_iff.mp this.2⟩
 ·cases this
section
variable{K BL:List KK}{k:KK}{i j:Nat}{x y z:Str}{r:Int}
structure Pu(K BL:List KK):Prop where
 u:∀k∈K,k∈UU
 nd:K.Nodup
 p:BL.Perm K
 s:BL.Pairwise fun a c=>¬ encK c<encK a
theorem Pu.shK(h:Pu K BL):Shs K:=fun k hk=>let⟨a,c,r,e,n,_⟩:=KD (h.u k hk);⟨a,c,r,e,n⟩
theorem Pu.shB(h:Pu K BL):Shs BL:=fun k hk=>h.shK k (h.p.mem_iff.mp hk)
theorem Pu.len(h:Pu K BL):K.length<=9:=len_sub (m:=UU) h.nd h.u
theorem Pu.lenB(h:Pu K BL):BL.length<=9:=by rw[h.p.length_eq];exact h.len
theorem VG(h:BL.Perm K):inK k BL=inK k K:=by
 rw[fE,inK_iff,inK_iff];exact h.mem_iff
theorem yk(h:BL.Perm K){sh:Bool}:code i j BL sh x y r=code i j K sh x y r:=by unfold code;rw[VG h]
theorem Y9{l:iM}(h:jl i j x=some l):x="t"\/x="twelvesigns9"\/x="m":=by
 unfold jl at h
 split at h
 ·left;assumption
 ·split at h
  ·right;left;assumption
  ·split at h
   ·right;right;assumption
   ·cases h
theorem qad(h:code i j K true x y r=0):kK x y r∈UU/\x≠y/\k=k:=by
 unfold code at h;rw[aE rfl]at h
 split at h
 ·rename_i l1 l2 h1 h2
  split at h
  ·cases h
  ·rename_i c6
   split at h
   ·cases h
   ·rename_i c7
    have hx:x≠y:=fun z=>c7 (.inl z)
    refine⟨?_,hx,rfl⟩;have hr:r=0\/r=1\/r=2:=by omega
    rcases Y9 h1 with rfl|rfl|rfl <;> rcases Y9 h2 with rfl|rfl|rfl <;> first|exact absurd rfl hx|(rcases hr with rfl|rfl|rfl <;> exact inK_iff.mp (by decide +kernel))
 ·cases h
theorem Pu.add(h:Pu K BL)(hu:k∈UU)(hn:inK k K=false):Pu (K++[k]) (srtK (BL++[k])):=by
 refine⟨fun a ha=>(b9.mp ha).elim (h.u a) fun z=>by rw[aD.mp z];exact hu,du.mpr ⟨h.nd,by simp,fun a ha c hc e=>?_⟩,(qF _).trans (h.p.append_right _),wb _⟩;rw[aD.mp hc]at e;subst e;rw[inK_iff.mpr ha]at hn;cases hn
theorem xI:∀{l:List KK},l.Nodup->rmK l k=l.filter fun z=>decide (z≠k)
 |[],_=>rfl
 |a::l,h=>by
  rw[bq]at h;unfold rmK
  by_cases e:a=k
  ·subst e
   rw[aE rfl,dJ (by simp)];exact(eS.mpr fun z hz=>by simpa using fun q:z=a=>h.1 (q▸hz)).symm
  ·rw[ax e,dK (by simpa using e),xI h.2]
theorem Pu.rem(h:Pu K BL):Pu (K.filter fun z=>decide (z≠k)) (rmK BL k):=by
 have nb:BL.Nodup:=h.p.nodup_iff.mpr h.nd;refine⟨fun a ha=>h.u a (dv.mp ha).1,h.nd.filter _,?_,h.s.sublist rmK_sub⟩;rw[xI nb];exact h.p.filter _
theorem vk(h:Pu K BL):shr K z=srtK (BL.filterMap (oth z)):=by
 have hp:(K.filterMap (les z)++K.filterMap (gre z)).Perm (BL.filterMap (oth z)):=(QA h.shK).trans (h.p.symm.filterMap _);refine KU (JA Xx) (fun k hk=>?_) hp;obtain⟨k0,h1,h2⟩:=cj.mp (hp.mem_iff.mp hk);obtain⟨a,c,r,rfl,_,p1,p2⟩:=KD (h.u k0 (h.p.mem_iff.mp h1));have eO:oth z (.inr [.inr a,.inr c,.inl r])=if a=z then some (pK c r)else if c=z then some (pK a r)else none:=rfl
 rw[eO]at h2
 split at h2
 ·cases h2;exact p2
 ·split at h2
  ·cases h2;exact p1
  ·cases h2
theorem V1(h:Pu K BL):∀k∈BL.filterMap (oth z),shK k=.inr [true,false]:=fun k hk=>by
 obtain⟨k0,h1,h2⟩:=cj.mp hk;obtain⟨a,c,r,rfl,_,_⟩:=KD (h.u k0 (h.p.mem_iff.mp h1));have eO:oth z (.inr [.inr a,.inr c,.inl r])=if a=z then some (pK c r)else if c=z then some (pK a r)else none:=rfl
 rw[eO]at h2
 split at h2
 ·cases h2;rfl
 ·split at h2
  ·cases h2;rfl
  ·cases h2
end
section
variable{b:Hb}{T:List FnE}{s:Sc}{v w:IV}{d:D}{ds:List D}{z:Int}
theorem wk(hv:v.ev T s b=.ok (.lst ds) b)(hw:w.ev T s b=.ok (.int z) b)(h0:0<=z)(h1:z<ds.length):∃d∈ds,(IV.ix v w).ev T s b=.ok d b:=by
 obtain⟨n,rfl⟩:∃n:Nat,z=n:=⟨z.toNat,(gJ h0).symm⟩;have hl:n<ds.length:=by omega
 exact⟨ds[n],dg hl,jq hv hw (by rw[ixSc,ak hl])⟩
theorem JO{body:D->Sc->Hb->Out}(P:Nat->Sc->Hb->Prop):∀{ds:List D}{n:Nat}{s:Sc}{b:Hb},(∀(m:Nat) d s b,ds[m]?=some d->P (n+m) s b->∃s' b',body d s b=.nx s' b'/\P (n+m+1) s' b')->P n s b->∃s' b',forD body ds s b=.nx s' b'/\P (n+ds.length) s' b'
 |[],n,s,b,_,h=>⟨s,b,rfl,h⟩
 |d::ds,n,s,b,h,hp=>by
  obtain⟨s1,b1,h1,h2⟩:=h 0 d s b rfl hp;obtain⟨s2,b2,h3,h4⟩:=JO P (n:=n+1) (s:=s1) (b:=b1) (fun m d s b hd hp=>by
   have:=h (m+1) d s b hd (by rw[show n+(m+1)=n+1+m by omega];exact hp);rw[show n+(m+1)+1=n+1+m+1 by omega]at this;exact this) h2
  refine⟨s2,b2,?_,by rw[bO,show n+(ds.length+1)=n+1+ds.length by omega];exact h4⟩;show(match body d s b with|.nx s b=>forD _ _ s b|.ct s b=>forD _ _ s b|.bk s b=>.nx s b|o=>o)=_;rw[h1];exact h3
end
section
variable{b:Hb}{i j m k:Nat}{K BL:List KK}{st:D}{ns:iM}{x y:Str}{r:Int}{u:Nat}{ids:List Nat}{tb:TB}{dn:List D}
noncomputable def sT(ns:iM)(st:D)(e5 e6 e8 e9 e10 e11 e12 e13 e14:Option D):Sc:=[some (.lst (ns.map .int)),some (.obj 0),some (.obj 1),some st,some (.obj 6),e5,e6,some (.lst nmL),e8,e9,e10,e11,e12,e13,e14]
structure Trn(i j m:Nat)(K BL:List KK)(b:Hb)(st:D):Prop where
 ex:∃tb dn u ids,Bq i j K m b tb dn u ids/\Lp i j BL ids b st
 p:Pu K BL
theorem Trn.xt{b':Hb}(h:Trn i j m K BL b st)(X:Xt b b'):Trn i j m K BL b' st:=by
 obtain⟨tb,dn,u,ids,h1,h2⟩:=h.ex;exact⟨⟨tb,dn,u,ids,h1.xt X,h2.xt X⟩,h.p⟩
noncomputable def vD:ISs:=[.set 13 (.kp true (.meth 9 (.var 2) [.var 12])),.set 14 (.kp false (.lc 2 [12] .any [.ix (.var 3) (.cst (.int 4))] (.nm 1) (.cmp .inn (.var 2) (.kp false (.sl (.var 1) [] [.cst (.int 2)]))) (.tup [.ix (.var 1) (.kp false (.bin .sub (.cst (.int 1)) (.kp false (.bm .tix (.var 1) [.var 2])))),.ix (.var 1) (.cst (.int 2))]))),.iff (.nt (.val (.kp false (.call 7 [.var 13,.kp false (.bf .srt [.var 14])])))) [.ret (.val (.cst (.bl false)))] [],.expr (.bm .app (.var 13) [.cst (.int 0)])]
theorem vX{e5 e6 e8 e9 e10 e11 e12 e13 e14:Option D}(h:Trn i j m K BL b st)(hx:(jl i j x).isSome=true):∃b' f13 f14,za (.nm 12) (evSs ql vD) (.str x) (sT ns st e5 e6 e8 e9 e10 e11 e12 e13 e14) b=.nx (sT ns st e5 e6 e8 e9 e10 e11 (some (.str x)) f13 f14) b'/\Xt b b':=by
 obtain⟨tb,dn,u,ids,hb,hl⟩:=h.ex;obtain⟨x0,x1,x2,x3,x4,x5,rfl,L,S⟩:=hl.ex;have sr:=xH (x:=x) (K:=K) hb.B (by rw[hb.tJ,lkJ];cases z:jl i j x with
  |none=>rw[z]at hx;cases hx
  |some _=>rfl) hb.tS h.p.shK (by have:=h.p.len;omega)
 have hr:recv 0 32 b (.obj 1)=true:=wi (j:=32) hb.B.bk (by decide);let s0:Sc:=sT ns (.tup [x0,x1,x2,x3,x4,x5]) e5 e6 e8 e9 e10 e11 (some (.str x)) e13 e14;let b1:Hb:=b++[.lst false ((shr K x).map kkD)];have e1:(IV.kp true (.meth 9 (.var 2) [.var 12])).ev ql s0 b=.ok (.obj b.length) b1:=by
  rw[qO,xe];show kp true (Jg (some e_Book_shared) _ _ _ _)=_;rw[zW];show kp true (R.bind (R.ok (D.obj 1) b) _)=_;rw[R.bind_ok,aE (show recv e_Book_shared.C e_Book_shared.j b (.obj 1)=true from hr)];show kp true (R.bind (R.ok [D.str x] b) _)=_;rw[R.bind_ok,Qa];show kp true (jf [.obj 1,.str x] b)=_;rw[sr];rfl
 let s1:Sc:=sT ns (.tup [x0,x1,x2,x3,x4,x5]) e5 e6 e8 e9 e10 e11 (some (.str x)) (some (.obj b.length)) e14;have L1:LsV b1 x4 (BL.map kkD):=L.h4.app;have v4:(IV.ix (.var 3) (.cst (.int 4))).ev ql s1 b1=.ok x4 b1:=rfl;have e2:(IV.kp false (.lc 2 [12] .any [.ix (.var 3) (.cst (.int 4))] (.nm 1) (.cmp .inn (.var 2) (.kp false (.sl (.var 1) [] [.cst (.int 2)]))) (.tup [.ix (.var 1) (.kp false (.bin .sub (.cst (.int 1)) (.kp false (.bm .tix (.var 1) [.var 2])))),.ix (.var 1) (.cst (.int 2))]))).ev ql s1 b1=.ok (.lst ((BL.filterMap (oth x)).map kkD)) b1:=by
  have:=qcm (T:=ql) (k:=2) (ix:=[12]) (t:=.nm 1) (ts:=.cmp .inn (.var 2) (.kp false (.sl (.var 1) [] [.cst (.int 2)]))) (e:=.tup [.ix (.var 1) (.kp false (.bin .sub (.cst (.int 1)) (.kp false (.bm .tix (.var 1) [.var 2])))),.ix (.var 1) (.cst (.int 2))]) (s:=s1) L1 v4 (fun b'=>Vd (z:=x) h.p.shB (by have:=h.p.lenB;omega) b');rw[qO,this];rfl
 let s2:Sc:=sT ns (.tup [x0,x1,x2,x3,x4,x5]) e5 e6 e8 e9 e10 e11 (some (.str x)) (some (.obj b.length)) (some (.lst ((BL.filterMap (oth x)).map kkD)));have hlen:(BL.filterMap (oth x)).length<=9:=ba (bV _ _) h.p.lenB;have hs:iSrt b1 (.lst ((BL.filterMap (oth x)).map kkD))=some (.n (.lst false ((shr K x).map kkD))):=by
  rw[vk h.p];exact wA rfl (by omega) (jW (.inl rfl) (V1 h.p))
 have e3:(IV.kp false (.bf .srt [.var 14])).ev ql s2 b1=.ok (.lst ((shr K x).map kkD)) b1:=by
  rw[qO,wD,qc,qo,qb];show kp false (R.bind (R.bind (R.ok (D.lst _) b1) _) _)=_;rw[R.bind_ok,qE,R.bind_ok,R.bind_ok];show kp false (opR ((iSrt b1 _).map _))=_;rw[hs];rfl
 have sm:qT 8 [.obj b.length,.lst ((shr K x).map kkD)] b1=.ok (.v (.bl true)) b1:=by
  refine K6 (n:=7) (.inr ⟨_,rfl,yt⟩) (.inl rfl) ?_ fun e he=>?_
  ·rw[aM,vk h.p,(qF _).length_eq];omega
  ·obtain⟨k,hk,rfl⟩:=aQ.mp he
   rw[vk h.p]at hk;have:=V1 h.p k ((qF _).mem_iff.mp hk)
   match k,this with
   |.inr [.inr a,.inl r],_=>exact ZY (n:=5)
 have e4:(IT.nt (.val (.kp false (.call 7 [.var 13,.kp false (.bf .srt [.var 14])])))).ev ql s2 b1=.ok false b1:=by
  have c1:(IE.call 7 [.var 13,.kp false (.bf .srt [.var 14])]).ev ql s2 b1=.ok (.v (.bl true)) b1:=by
   rw[jz];show xj (some y6) _ _ _=_;rw[z9,qc,qc,qo,qb];show R.bind (R.bind (R.ok (D.obj b.length) b1) _) _=_;rw[R.bind_ok,qb,e3,R.bind_ok,qE,R.bind_ok,R.bind_ok,R.bind_ok,Qa];exact sm
  rw[WL,valT (k:=true) (by rw[qO,c1];rfl)];rfl
 refine⟨b1.set b.length (.lst false ((shr K x).map kkD++[.int 0])),some (.obj b.length),some (.lst ((BL.filterMap (oth x)).map kkD)),?_,Xt.app.set (aI _)⟩;show evSs ql vD s0 b=_;unfold vD;rw[qA e1];show evSs ql _ s1 b1=_;rw[qA e2];show evSs ql _ s2 b1=_;rw[if_n e4,Zb (v:=.var 13) (w:=.cst (.int 0)) (k:=b.length) (ds:=(shr K x).map kkD) (d:=.int 0) rfl yt rfl (by rw[aM,vk h.p,(qF _).length_eq];exact yB (by omega))];rfl
theorem yA{e5 e6 e8 e9 e10 e11 e12 e13 e14:Option D}(h:Trn i j m K BL b st):∃b' f12 f13 f14,forD (za (.nm 12) (evSs ql vD)) [.str "t",.str "twelvesigns9",.str "m"] (sT ns st e5 e6 e8 e9 e10 e11 e12 e13 e14) b=.nx (sT ns st e5 e6 e8 e9 e10 e11 f12 f13 f14) b'/\Xt b b':=by
 obtain⟨b1,p1,q1,h1,X1⟩:=vX (x:="t") (ns:=ns) (e5:=e5) (e6:=e6) (e8:=e8) (e9:=e9) (e10:=e10) (e11:=e11) (e12:=e12) (e13:=e13) (e14:=e14) h rfl;obtain⟨b2,p2,q2,h2,X2⟩:=vX (x:="twelvesigns9") (ns:=ns) (e5:=e5) (e6:=e6) (e8:=e8) (e9:=e9) (e10:=e10) (e11:=e11) (e12:=some (.str "t")) (e13:=p1) (e14:=q1) (h.xt X1) rfl;obtain⟨b3,p3,q3,h3,X3⟩:=vX (x:="m") (ns:=ns) (e5:=e5) (e6:=e6) (e8:=e8) (e9:=e9) (e10:=e10) (e11:=e11) (e12:=some (.str "twelvesigns9")) (e13:=p2) (e14:=q2) ((h.xt X1).xt X2) rfl;refine⟨b3,some (.str "m"),p3,q3,?_,(X1.trans X2).trans X3⟩;have st:∀{d:D}{ds:List D}{s s1:Sc}{b b1:Hb},za (.nm 12) (evSs ql vD) d s b=.nx s1 b1->forD (za (.nm 12) (evSs ql vD)) (d::ds) s b=forD (za (.nm 12) (evSs ql vD)) ds s1 b1:=fun{d ds s s1 b b1} h=>by
  show(match za _ _ d s b with|.nx s b=>forD _ _ s b|.ct s b=>forD _ _ s b|.bk s b=>.nx s b|o=>o)=_;rw[h]
 rw[st h1,st h2,st h3];rfl
end
noncomputable abbrev mdV(n q:Int):IV:=.kp false (.bin .mod (.ix (.var 8) (.cst (.int n))) (.cst (.int q)))
noncomputable def tb1:IS:=.set 8 (.kp false (.call 0 [.var 0,.kp false (.bin .add (.cst (.int 1)) (.var 5)),.cst (.int 5)]))
noncomputable def tb2:IS:=.set 9 (.ix (.kp false (.lst [.cst (.int 0),.cst (.int 1),.cst (.int 2),.cst (.int 0),.cst (.int 1),.cst (.int 2),.cst (.int 3),.kp false (.bin .sub (.cst (.int 0)) (.cst (.int 1)))])) (mdV 3 8))
noncomputable def tb3:IS:=.set 6 (.tup [.ix (.kp false (.lst [.cst (.str "share"),.cst (.str "share"),.cst (.str "unshare")])) (mdV 0 3),.ix (.var 7) (mdV 1 7),.ix (.var 7) (mdV 2 7),.var 9])
noncomputable def tb4:IS:=.set 10 (.kp false (.call 6 [.var 3,.var 6]))
noncomputable def tb5:IS:=.set 11 (.tup [.cst (.str "barred"),.var 10])
noncomputable def tb6:IS:=.iff (.cmp .eq (.var 10) (.cst (.str "let"))) [.set 11 (.cst .non),.set 3 (.kp false (.call 4 [.var 3,.var 6]))] []
noncomputable def tb7:IS:=.iff (.nt (.val (.kp false (.call 7 [.kp false (.call 8 [.var 2,.var 6]),.var 11])))) [.ret (.val (.cst (.bl false)))] []
noncomputable def tb8:IS:=.each .any [.kp false (.sl (.var 7) [] [.cst (.int 3)])] (.nm 12) vD
noncomputable def ZG:ISs:=[tb1,tb2,tb3,tb4,tb5,tb6,tb7,tb8]
section
variable{b:Hb}{i j m k:Nat}{K BL:List KK}{st:D}{ns:iM}{e6 e8 e9 e10 e11 e12 e13 e14:Option D}
theorem Qf{T:List FnE}{s:Sc}{v w:IV}{d d2:D}{n:Nat}{fe:FnE}{b1:Hb}(hT:T[n]?=some fe)(hn:fe.n=2)(h1:v.ev T s b=.ok d b1){b2:Hb}(h2:w.ev T s b1=.ok d2 b2):(IE.call n [v,w]).ev T s b=fe.F [d,d2] b2:=by
 rw[jz,hT,z9,qc,qc,qo,qb,h1,R.bind_ok,qb,h2,R.bind_ok,qE,R.bind_ok,R.bind_ok,R.bind_ok,hn,Qa];rfl
theorem tup4{T:List FnE}{s:Sc}{v1 v2 v3 v4:IV}{d1 d2 d3 d4:D}(h1:v1.ev T s b=.ok d1 b)(h2:v2.ev T s b=.ok d2 b)(h3:v3.ev T s b=.ok d3 b)(h4:v4.ev T s b=.ok d4 b):(IV.tup [v1,v2,v3,v4]).ev T s b=.ok (.tup [d1,d2,d3,d4]) b:=by
 rw[vy,zM,qc,qc,qc,qc,qo,qb,h1,R.bind_ok,qb,h2,R.bind_ok,qb,h3,R.bind_ok,qb,h4];rfl
theorem yH{w:Str}:qT 8 [.tup [.str "barred",.str w],.tup [.str "barred",.str w]] b=.ok (.v (.bl true)) b:=by
 refine yG (n:=7) (m:=2) (.inl rfl) rfl rfl rfl rfl (by decide) fun i hi=>?_
 match i,hi with
 |0,_=>exact⟨_,_,rfl,rfl,same_str⟩
 |1,_=>exact⟨_,_,rfl,rfl,same_str⟩
theorem wrd_let{c:Nat}:(wrd c == ("let":Str))=false↔(c=10\/c=11\/c=12\/c=14\/c=16):=by
 constructor
 ·intro h
  apply eK;intro n;have:wrd c="let":=by
   unfold wrd
   split <;> first|rfl|(exfalso;apply n;omega)
  rw[this]at h;exact absurd h (by decide)
 ·intro h
  rcases h with rfl|rfl|rfl|rfl|rfl <;> decide
theorem Zx{sh:Bool}{x y:Str}{r:Int}:code i j K sh x y r=0\/Cd (code i j K sh x y r):=by
 unfold code Cd
 split
 ·split
  ·split
   ·right;left;rfl
   ·split
    ·right;right;right;left;rfl
    ·split
     ·right;right;right;right;right;rfl
     ·left;rfl
  ·right;right;left;rfl
 ·split
  ·left;rfl
  ·right;right;right;right;left;rfl
theorem Kj{kd x y:Str}{r:Int}(hkd:kd="share"\/kd="unshare")(h:Trn i j m K BL b st)(hm:m<=k)(hk:k<31):∃b' st' K' BL' m' f10 f11,evSs ql [tb4,tb5,tb6,tb7,tb8] (sT ns st (some (.int k)) (some (dD kd x y r)) e8 e9 e10 e11 e12 e13 e14) b=evSs ql [tb8] (sT ns st' (some (.int k)) (some (dD kd x y r)) e8 e9 f10 f11 e12 e13 e14) b'/\Trn i j m' K' BL' b' st'/\m'<=k+1:=by
 obtain⟨tb,dn,u,ids,hb,hl⟩:=h.ex;have hp:=h.p;have hw:∃sh,zk [st,dD kd x y r] b=.ok (.v (.str (wrd (code i j K sh x y r)))) b/\(sh=true/\kd="share"\/sh=false/\kd="unshare"):=by
  obtain⟨x0,x1,x2,x3,x4,x5,rfl,L,S⟩:=hl.ex;rcases hkd with rfl|rfl
  ·exact⟨true,by rw[<- yk hp.p];exact XC L hp.shB,.inl ⟨rfl,rfl⟩⟩
  ·exact⟨false,by rw[<- yk hp.p];exact XB L hp.shB,.inr ⟨rfl,rfl⟩⟩
 obtain⟨sh,hw,hsh⟩:=hw;have e4:(IV.kp false (.call 6 [.var 3,.var 6])).ev ql (sT ns st (some (.int k)) (some (dD kd x y r)) e8 e9 e10 e11 e12 e13 e14) b=.ok (.str (wrd (code i j K sh x y r))) b:=by
  rw[qO,Qf (fe:=j5) (d:=st) (d2:=dD kd x y r) (b1:=b) (b2:=b) rfl rfl rfl rfl];show kp false (zk [st,dD kd x y r] b)=_;rw[hw];rfl
 unfold tb4;rw[qA e4];show ∃b' st' K' BL' m' f10 f11,evSs ql [tb5,tb6,tb7,tb8] (sT ns st (some (.int k)) (some (dD kd x y r)) e8 e9 (some (.str (wrd (code i j K sh x y r)))) e11 e12 e13 e14) b=_/\_;unfold tb5;rw[qA (d:=.tup [.str "barred",.str (wrd (code i j K sh x y r))]) (b1:=b) rfl];show ∃b' st' K' BL' m' f10 f11,evSs ql [tb6,tb7,tb8] (sT ns st (some (.int k)) (some (dD kd x y r)) e8 e9 (some (.str (wrd (code i j K sh x y r)))) (some (.tup [.str "barred",.str (wrd (code i j K sh x y r))])) e12 e13 e14) b=_/\_;have tl:∀{e3 f11:Option D}{z:Bool},(wrd (code i j K sh x y r) == ("let":Str))=z->(IT.cmp .eq (.var 10) (.cst (.str "let"))).ev ql (sT ns st (some (.int k)) (some (dD kd x y r)) e8 e9 (some (.str (wrd (code i j K sh x y r)))) f11 e12 e13 e14) b=.ok z b:=fun{e3 f11 z} hz=>by
  rw[<- hz];exact tEqS (v:=.var 10) rfl rfl
 have t7:∀{st1:D}{f10 f11:D}{b1 b2:Hb}{res:D},xw [.obj 1,dD kd x y r] b1=.ok (.v res) b2->qT 8 [res,f11] b2=.ok (.v (.bl true)) b2->evSs ql [tb7,tb8] (sT ns st1 (some (.int k)) (some (dD kd x y r)) e8 e9 (some f10) (some f11) e12 e13 e14) b1=evSs ql [tb8] (sT ns st1 (some (.int k)) (some (dD kd x y r)) e8 e9 (some f10) (some f11) e12 e13 e14) b2:=fun{st1 f10 f11 b1 b2 res} hd hs=>by
  have c8:(IV.kp false (.call 8 [.var 2,.var 6])).ev ql (sT ns st1 (some (.int k)) (some (dD kd x y r)) e8 e9 (some f10) (some f11) e12 e13 e14) b1=.ok res b2:=by
   rw[qO,Qf (fe:=WT) (d:=.obj 1) (d2:=dD kd x y r) (b1:=b1) (b2:=b1) rfl rfl rfl rfl];show kp false (xw [.obj 1,dD kd x y r] b1)=_;rw[hd];rfl
  have c7:(IE.call 7 [.kp false (.call 8 [.var 2,.var 6]),.var 11]).ev ql (sT ns st1 (some (.int k)) (some (dD kd x y r)) e8 e9 (some f10) (some f11) e12 e13 e14) b1=.ok (.v (.bl true)) b2:=by
   rw[Qf (fe:=y6) (d:=res) (d2:=f11) (b1:=b2) (b2:=b2) rfl rfl c8 rfl];exact hs
  have ct:(IT.nt (.val (.kp false (.call 7 [.kp false (.call 8 [.var 2,.var 6]),.var 11])))).ev ql (sT ns st1 (some (.int k)) (some (dD kd x y r)) e8 e9 (some f10) (some f11) e12 e13 e14) b1=.ok false b2:=by
   rw[WL,JU,qO,c7];rfl
  unfold tb7;rw[qm,JW,ct];rfl
 rcases Zx (i:=i) (j:=j) (K:=K) (sh:=sh) (x:=x) (y:=y) (r:=r)with hc|hc
 ·
  have hlet:(wrd (code i j K sh x y r) == ("let":Str))=true:=by rw[hc];decide
  have c4:∀{st':D}{b1:Hb},qR [st,dD kd x y r] b=.ok (.v st') b1->evSs ql [tb6,tb7,tb8] (sT ns st (some (.int k)) (some (dD kd x y r)) e8 e9 (some (.str (wrd (code i j K sh x y r)))) (some (.tup [.str "barred",.str (wrd (code i j K sh x y r))])) e12 e13 e14) b=evSs ql [tb7,tb8] (sT ns st' (some (.int k)) (some (dD kd x y r)) e8 e9 (some (.str (wrd (code i j K sh x y r)))) (some .non) e12 e13 e14) b1:=fun{st' b1} ha=>by
   unfold tb6;refine if_x (tl (e3:=none) hlet) ?_;rw[qA (d:=.non) (b1:=b) rfl];show evSs ql [.set 3 _] (sT ns st (some (.int k)) (some (dD kd x y r)) e8 e9 (some (.str (wrd (code i j K sh x y r)))) (some .non) e12 e13 e14) b=_;rw[qA (d:=st') (b1:=b1)]
   ·rfl
   ·rw[qO,Qf (fe:=jC) (d:=st) (d2:=dD kd x y r) (b1:=b) (b2:=b) rfl rfl rfl rfl]
    show kp false (qR [st,dD kd x y r] b)=_;rw[ha];rfl
  rcases hsh with⟨rfl,rfl⟩|⟨rfl,rfl⟩
  ·obtain⟨hu,hx,_⟩:=qad (k:=kK x y r) hc
   have hin:inK (kK x y r) K=false:=by
    cases z:inK (kK x y r) K with
    |false=>rfl
    |true=>
     exfalso;have hh:=hc;unfold code at hh;rw[aE rfl]at hh
     split at hh
     ·split at hh
      ·cases hh
      ·split at hh
       ·cases hh
       ·first|cases hh|(rw[z,aE rfl]at hh;cases hh)
     ·cases hh
   have P':=hp.add hu hin;have kl9:K.length<9:=by have:=P'.len;rw[az,bx]at this;omega
   obtain⟨st',b1,ha,X,L'⟩:=Jn (r:=r) hl hb hp.shB hx hp.lenB;have hb1:=hb.xt X;rcases Q3 hb1 (by omega) (fun _=>kl9)with⟨hn,_⟩|⟨_,_,_,b2,tb',dn',u',ids',hd,B',G⟩
   ·exact absurd hc hn
   ·refine⟨b2,st',_,_,m+1,_,_,(c4 ha).trans (t7 hd Qs),⟨⟨tb',dn',u',ids',B',L'.grow G⟩,P'⟩,by omega⟩
  ·have hin:inK (kK x y r) K=true:=by
    have hh:=hc;unfold code at hh;rw[ax (by decide)]at hh
    split at hh
    ·assumption
    ·cases hh
   have P':=hp.rem (k:=kK x y r);obtain⟨st',b1,ha,X,L'⟩:=yT hl hb hp.shB (hp.p.mem_iff.mpr (inK_iff.mp hin));have hb1:=hb.xt X;rcases xW hb1 (by omega)with⟨hn,_⟩|⟨_,_,b2,tb',dn',u',ids',hd,B',G⟩
   ·exact absurd hc hn
   ·refine⟨b2,st',_,_,m+1,_,_,(c4 ha).trans (t7 hd Qs),⟨⟨tb',dn',u',ids',B',L'.grow G⟩,P'⟩,by omega⟩
 ·have hne:code i j K sh x y r≠0:=by rcases hc with h|h|h|h|h <;> rw[h] <;> decide
  have hlet:(wrd (code i j K sh x y r) == ("let":Str))=false:=wrd_let.mpr hc;have hd:xw [.obj 1,dD kd x y r] b=.ok (.v (.tup [.str "barred",.str (wrd (code i j K sh x y r))])) b:=by
   rcases hsh with⟨rfl,rfl⟩|⟨rfl,rfl⟩
   ·rcases Q3 hb (by omega) (fun z=>absurd z hne)with⟨_,hd⟩|⟨z,_⟩
    ·exact hd
    ·exact absurd z hne
   ·rcases xW hb (by omega)with⟨_,hd⟩|⟨z,_⟩
    ·exact hd
    ·exact absurd z hne
  refine⟨b,st,K,BL,m,some (.str (wrd (code i j K sh x y r))),some (.tup [.str "barred",.str (wrd (code i j K sh x y r))]),?_,h,by omega⟩;unfold tb6;rw[if_n (tl (e3:=none) hlet)];exact t7 hd yH
theorem V6{d:D}(h:d∈nmL):∃x,d=.str x:=by
 unfold nmL at h;simp only[aw,aL,bZ]at h;rcases h with rfl|rfl|rfl|rfl|rfl|rfl|rfl <;> exact⟨_,rfl⟩
theorem turn{e5:Option D}(h:Trn i j m K BL b st)(hm:m<=k)(hk:k<31):∃b' st' K' BL' m' f6 f8 f9 f10 f11 f12 f13 f14,za (.nm 5) (evSs ql ZG) (.int k) (sT ns st e5 e6 e8 e9 e10 e11 e12 e13 e14) b=.nx (sT ns st' (some (.int k)) f6 f8 f9 f10 f11 f12 f13 f14) b'/\Trn i j m' K' BL' b' st'/\m'<=k+1:=by
 obtain⟨vs,hd,hdr,hvl⟩:=yj (b:=b) (ins:=ns) (at_:=1+k) (many:=5) (by omega) (by decide);let b1:Hb:=b++[.lst false (vs.map .int)];have h1:Trn i j m K BL b1 st:=h.xt .app;have hb1:LsV b1 (.obj b.length) (vs.map .int):=.inr ⟨_,rfl,yt⟩;show ∃b' st' K' BL' m' f6 f8 f9 f10 f11 f12 f13 f14,evSs ql ZG (sT ns st (some (.int k)) e6 e8 e9 e10 e11 e12 e13 e14) b=.nx (sT ns st' (some (.int k)) f6 f8 f9 f10 f11 f12 f13 f14) b'/\Trn i j m' K' BL' b' st'/\m'<=k+1;unfold ZG tb1;have ad:(IV.kp false (.bin .add (.cst (.int 1)) (.var 5))).ev ql (sT ns st (some (.int k)) e6 e8 e9 e10 e11 e12 e13 e14) b=.ok (.int ((1+k:Nat):Int)) b:=by
  have:=iAdd (T:=ql) (v:=.cst (.int 1)) (w:=.var 5) (s:=sT ns st (some (.int k)) e6 e8 e9 e10 e11 e12 e13 e14) (b:=b) (i:=1) (j:=k) rfl rfl;rw[this];congr 2
 have e1:(IV.kp false (.call 0 [.var 0,.kp false (.bin .add (.cst (.int 1)) (.var 5)),.cst (.int 5)])).ev ql (sT ns st (some (.int k)) e6 e8 e9 e10 e11 e12 e13 e14) b=.ok (.obj b.length) b1:=by
  rw[qO,jz];show kp false (xj (some wI) _ _ _)=_;rw[z9,qc,qc,qc,qo,qb];show kp false (R.bind (R.bind (R.ok (D.lst (ns.map .int)) b) _) _)=_;rw[R.bind_ok,qb,ad,R.bind_ok,qb];show kp false (kP [.lst (ns.map .int),.int ((1+k:Nat):Int),.int ((5:Nat):Int)] b)=_;rw[hd];rfl
 rw[qA e1];show ∃b' st' K' BL' m' f6 f8 f9 f10 f11 f12 f13 f14,evSs ql [tb2,tb3,tb4,tb5,tb6,tb7,tb8] (sT ns st (some (.int k)) e6 (some (.obj b.length)) e9 e10 e11 e12 e13 e14) b1=.nx (sT ns st' (some (.int k)) f6 f8 f9 f10 f11 f12 f13 f14) b'/\Trn i j m' K' BL' b' st'/\m'<=k+1;have md:∀(n:Nat)(zn q:Int){g6 g9:Option D},zn=n->n<5->0<q->∃z:Int,(mdV zn q).ev ql (sT ns st (some (.int k)) g6 (some (.obj b.length)) g9 e10 e11 e12 e13 e14) b1=.ok (.int z) b1/\0<=z/\z<q:=fun n zn q g6 g9 hz hn hq=>by
  subst hz;have hl:n<vs.length:=by omega
  have ix:(IV.ix (.var 8) (.cst (.int n))).ev ql (sT ns st (some (.int k)) g6 (some (.obj b.length)) g9 e10 e11 e12 e13 e14) b1=.ok (.int vs[n]) b1:=jq (v:=.var 8) (w:=.cst (.int n)) (d:=.obj b.length) (d2:=.int n) rfl rfl (by rw[hb1.ix,aW,ak hl];rfl);exact⟨vs[n] % q,iMod ix iC hq,fH _ (by omega),fJ _ hq⟩
 obtain⟨z3,m3,l3,u3⟩:=md 3 3 8 (g6:=e6) (g9:=e9) rfl (by decide) (by decide);obtain⟨d9,hd9,e9'⟩:=wk (v:=.kp false (.lst [.cst (.int 0),.cst (.int 1),.cst (.int 2),.cst (.int 0),.cst (.int 1),.cst (.int 2),.cst (.int 3),.kp false (.bin .sub (.cst (.int 0)) (.cst (.int 1)))])) (ds:=[.int 0,.int 1,.int 2,.int 0,.int 1,.int 2,.int 3,.int (0 - 1)]) rfl m3 l3 u3;obtain⟨r,rfl⟩:∃r,d9=.int r:=by
  simp only[aw,aL,bZ]at hd9;rcases hd9 with rfl|rfl|rfl|rfl|rfl|rfl|rfl|rfl <;> exact⟨_,rfl⟩
 unfold tb2;rw[qA e9'];show ∃b' st' K' BL' m' f6 f8 f9 f10 f11 f12 f13 f14,evSs ql [tb3,tb4,tb5,tb6,tb7,tb8] (sT ns st (some (.int k)) e6 (some (.obj b.length)) (some (.int r)) e10 e11 e12 e13 e14) b1=.nx (sT ns st' (some (.int k)) f6 f8 f9 f10 f11 f12 f13 f14) b'/\Trn i j m' K' BL' b' st'/\m'<=k+1;obtain⟨z0,m0,l0,u0⟩:=md 0 0 3 (g6:=e6) (g9:=some (.int r)) rfl (by decide) (by decide);obtain⟨z1,m1,l1,u1⟩:=md 1 1 7 (g6:=e6) (g9:=some (.int r)) rfl (by decide) (by decide);obtain⟨z2,m2,l2,u2⟩:=md 2 2 7 (g6:=e6) (g9:=some (.int r)) rfl (by decide) (by decide);obtain⟨d0,hd0,p0⟩:=wk (v:=.kp false (.lst [.cst (.str "share"),.cst (.str "share"),.cst (.str "unshare")])) (ds:=[.str "share",.str "share",.str "unshare"]) rfl m0 l0 u0;obtain⟨d1,hd1,p1⟩:=wk (v:=.var 7) (ds:=nmL) rfl m1 l1 u1;obtain⟨d2,hd2,p2⟩:=wk (v:=.var 7) (ds:=nmL) rfl m2 l2 u2;obtain⟨x,rfl⟩:=V6 hd1;obtain⟨y,rfl⟩:=V6 hd2;obtain⟨kd,hkd,rfl⟩:∃kd:Str,(kd="share"\/kd="unshare")/\d0=.str kd:=by
  simp only[aw,aL,bZ]at hd0;rcases hd0 with rfl|rfl|rfl
  ·exact⟨_,.inl rfl,rfl⟩
  ·exact⟨_,.inl rfl,rfl⟩
  ·exact⟨_,.inr rfl,rfl⟩
 unfold tb3;rw[qA (tup4 p0 p1 p2 (v4:=.var 9) rfl)];show ∃b' st' K' BL' m' f6 f8 f9 f10 f11 f12 f13 f14,evSs ql [tb4,tb5,tb6,tb7,tb8] (sT ns st (some (.int k)) (some (dD kd x y r)) (some (.obj b.length)) (some (.int r)) e10 e11 e12 e13 e14) b1=.nx (sT ns st' (some (.int k)) f6 f8 f9 f10 f11 f12 f13 f14) b'/\Trn i j m' K' BL' b' st'/\m'<=k+1;obtain⟨b2,st',K',BL',m',f10,f11,q1,q2,q3⟩:=Kj (ns:=ns) (e8:=some (.obj b.length)) (e9:=some (.int r)) (e10:=e10) (e11:=e11) (e12:=e12) (e13:=e13) (e14:=e14) (x:=x) (y:=y) (r:=r) hkd h1 hm hk;rw[q1];obtain⟨b3,f12,f13,f14,w1,w2⟩:=yA (ns:=ns) (e5:=some (.int k)) (e6:=some (dD kd x y r)) (e8:=some (.obj b.length)) (e9:=some (.int r)) (e10:=f10) (e11:=f11) (e12:=e12) (e13:=e13) (e14:=e14) q2;refine⟨b3,st',K',BL',m',some (dD kd x y r),some (.obj b.length),some (.int r),f10,f11,f12,f13,f14,?_,q2.xt w2,q3⟩;unfold tb8;rw[jd (ds:=[.str "t",.str "twelvesigns9",.str "m"]) (b1:=b2) (jH (f:=(IV.kp false (.sl (.var 7) [] [.cst (.int 3)])).ev ql) (b1:=b2) rfl),w1];rfl
end
section
variable{b:Hb}{i j m k:Nat}{K BL:List KK}{x:Str}{r:Int}{u:Nat}{ids:List Nat}{tb:TB}{dn:List D}{w:KK}{T:List FnE}{s:Sc}{v e:IV}{t:Tg}{ts:IT}{ix:List Nat}{l:List (KK×D)}
theorem Yt(h:Bq i j K m b tb dn u ids)(w:KK):tabD tb ids w=.dic []/\rows tb w=[]\/∃n:Nat,tabD tb ids w=.obj n/\b[n]?=some (.dic false (rows tb w)):=by
 unfold tabD;rcases yc (w:=w) h.B.len with⟨h1,h2⟩|⟨jj,p,n,h1,h2,h3,h4,h5⟩
 ·refine .inl ⟨by rw[h2];rfl,by unfold rows;rw[h1];rfl⟩
 ·have hr:rows tb w=p.2:=by unfold rows;rw[h4];rfl
  exact .inr ⟨n,by rw[h5];rfl,by rw[hr];exact h.B.at_ jj p n h1 h3⟩
theorem yF(h:Bq i j K m b tb dn u ids){o:List D}(hs:srtR ((rows tb w).map fun x=>kkD x.1) ((rows tb w).map (·.1))=some (.n (.lst false o))):iSrt b (tabD tb ids w)=some (.n (.lst false o)):=by
 have hd:=h.B.tab w;unfold iSrt;rw[kR hd,hd,bb,hs];rfl
theorem len_tab(h:Bq i j K m b tb dn u ids):iLen b (tabD tb ids w)=some (.v (.int (rows tb w).length)):=by
 have hd:=h.B.tab w;have:∀y,qv b y=some (rows tb w)->iLen b y=((kQ b y).map fun l=>Res.v (.int l.length)).or ((qv b y).map fun l=>.v (.int l.length)):=fun y hy=>by cases y <;> first|rfl|cases hy
 rw[this _ hd,ZV hd,hd];rfl
theorem Xb(h:Bq i j K m b tb dn u ids){d:D}{k:KK}(hk:dKK d=some k):ixD b (tabD tb ids w) d=lk (rows tb w) k:=by
 have hd:=h.B.tab w;have:∀y,qv b y=some (rows tb w)->ixD b y d=((qG b y).bind fun l=>ixI l d).or ((qv b y).bind fun l=>(dKK d).bind fun k=>lk l k):=fun y hy=>by
  cases y <;> first|rfl|cases hy
 rw[this _ hd,kR hd,hd,hk];rfl
theorem Jm(h:Bq i j K m b tb dn u ids)(h0:rows tb w=[])(hv:v.ev T s b=.ok (tabD tb ids w) b):(IE.lc k ix .items [v] t ts e).ev T s b=.ok (.n (.lst false [])) b:=by
 rcases Yt h w with⟨h1,_⟩|⟨n,h1,h2⟩
 ·rw[h1]at hv
  refine vn (ds:=[]) (b1:=b) ?_ rfl;show(v.ev T s b).bind _=_;rw[hv];rfl
 ·rw[h1]at hv
  rw[h0]at h2;refine yS (ds:=[]) (n:=n) (o:=.dic false []) (b1:=b) ?_ h2 rfl rfl;show(v.ev T s b).bind (fun d b=>opt (srcI b d) b)=_;rw[hv,R.bind_ok];have e1:srcI b (.obj n)=some ([],some n):=by
   show((match b[n]? with|some (.dic h l)=>some (l,if h then none else some n)|_=>none).map _)=_;rw[h2];rfl
  rw[e1];rfl
theorem rc1(h:Bq i j K m b tb dn u ids){n:Nat}(hn:4<=n):recv 1 n b (.obj 2)=true:=w0 (q:=2) (j:=n) h.B.lg hn
theorem rc0(h:Bq i j K m b tb dn u ids){n:Nat}(hn:1<=n):recv 0 n b (.obj 1)=true:=wi (j:=n) h.B.bk hn
theorem f01(h:Bq i j K m b tb dn u ids):fldD flds 0 b (.obj 1)=some (.obj 2):=fld0 h.B
theorem tabl(h:Bq i j K m b tb dn u ids){d:D}{kw:KK}(hk:dKK d=some kw):zv [.obj 2,d] b=.ok (.v (tabD tb ids kw)) b:=zH h.B hk
theorem Zk(h:Bq i j K m b tb dn u ids):wR [.obj 1] b=.ok (.n (.lst false [.str "a",.str "b"])) b:=by
 have t:=tabl h (d:=.str "place") rfl;have hs:srtR (RP.map fun x=>kkD x.1) (RP.map (·.1))=some (.n (.lst false [.str "a",.str "b"])):=by kernel_rfl
 have s:=yF (w:=tkP) h (o:=[.str "a",.str "b"]) (by rw[h.tP];exact hs);simp[wR,wy,wP,qa,f01 h,rc1 h,t,Bf.srt,gN,g1,s]
theorem Vh(h:Bq i j K m b tb dn u ids):kf [.obj 1] b=.ok (.v (.int 3)) b:=by
 have t:=tabl h (d:=.str "run") rfl;have s:=len_tab (w:=tkR) h;rw[h.tR]at s;have s:iLen b (tabD tb ids tkR)=some (.v (.int 3)):=s;simp[kf,j1,j8,qa,f01 h,rc1 h,t,Bf.len,gN,g1,s]
theorem yf(h:Bq i j K m b tb dn u ids):vd [.obj 1] b=.ok (.n (.lst false [.str "m",.str "t",.str "twelvesigns9"])) b:=by
 have t:=tabl h (d:=.str "journey") rfl;have hs:srtR ((RJ i j).map fun x=>kkD x.1) ((RJ i j).map (·.1))=some (.n (.lst false [.str "m",.str "t",.str "twelvesigns9"])):=by
  show srtR [.str "t",.str "twelvesigns9",.str "m"] [.inl (.inr "t"),.inl (.inr "twelvesigns9"),.inl (.inr "m")]=_
  kernel_rfl
 have s:=yF (w:=tkJ) h (o:=[.str "m",.str "t",.str "twelvesigns9"]) (by rw[h.tJ];exact hs);simp[vd,kW,k_,qa,f01 h,rc1 h,t,Bf.srt,gN,g1,s]
theorem Jt(h:Bq i j K m b tb dn u ids){d:D}(hx:lk RP (.inl (.inr x))=some d):zo [.obj 1,.str x] b=.ok (.v d) b:=by
 have t:=tabl h (d:=.str "place") rfl;have hi:=kU (f:=not) (h.B.tab tkP) (show dKK (.str x)=some (.inl (.inr x))from rfl);have hx':=Xb (w:=tkP) h (d:=.str x) (k:=.inl (.inr x)) rfl;rw[h.tP,hx]at hi hx';have np:zm [.obj 1,.str x] b=.ok (.v .non) b:=by
  simp[zm,zd,zi,qa,f01 h,rc1 h,t,hi]
 simp[zo,ze,zj,qI,qa,f01 h,rc1 h,rc0 h,t,np,hx']
theorem Ko(h:Bq i j K m b tb dn u ids){d:D}(hx:lk RP (.inl (.inr x))=some d):Qk [.obj 1,.str x] b=.ok (.v d) b:=by
 simp[Qk,yW,Qi,zh,rc0 h,Jt h hx]
theorem KQ(h:Bq i j K m b tb dn u ids){d:D}(hx:lk RU (.inl (.inl r))=some d):kb [.obj 1,.int r] b=.ok (.v d) b:=by
 have t:=tabl h (d:=.str "run") rfl;have hx':=Xb (w:=tkR) h (d:=.int r) (k:=.inl (.inl r)) rfl;have nr:=ku (r:=r) h.B;rw[h.tR,hx]at hx' nr;simp[kb,jZ,j7,qh,qa,f01 h,rc1 h,rc0 h,t,nr,hx']
theorem yJ(h:Bq i j K m b tb dn u ids)(hx:(lk RU (.inl (.inl r))).isSome=true):jV [.obj 1,.int r] b=.ok (.n (.lst false [])) b:=by
 have t:=tabl h (d:=.tup [.str "news",.int r]) (kw:=.inr [.inr "news",.inl r]) rfl;have nr:=ku (r:=r) h.B;rw[h.tR,aE hx]at nr;have h0:rows tb (.inr [.inr "news",.inl r])=[]:=h.tO _ (by simp) (by simp) (by simp) (by simp);show outR (evSs qP zr [some (.obj 1),some (.int r),none] b)=_;unfold zr;rw[wa (r:=.v .non) (b1:=b) (by simp[qP,qh,rc0 h,nr])];rw[qA (d:=tabD tb ids (.inr [.inr "news",.inl r])) (b1:=b) (by simp[qP,qa,f01 h,rc1 h,t])];rw[zV (r:=.n (.lst false [])) (b1:=b)]
 ·rfl
 ·have:=Jm (T:=qP) (v:=.var 2) (k:=4) (ix:=[]) (t:=.tp (.cons (.nm 1) (.cons (.tp (.cons (.nm 2) (.cons (.nm 3) .nil))) .nil))) (ts:=.tt) (e:=.tup [.var 1,.var 2,.var 3]) (s:=[some (.obj 1),some (.int r),some (tabD tb ids (.inr [.inr "news",.inl r]))]) h h0 rfl
  rw[wD,qc,qo,qb,qO];exact(bY (fun z=>R.bind (R.bind (kp false z) fun d b=>R.bind (seqA [] _ b) fun l b=>R.ok (d::l) b) fun l b=>opR (Bf.srt.g l b)) this).trans rfl
theorem Y8(h:Bq i j K m b tb dn u ids){l:iM}(hx:jl i j x=some l):qu [.obj 1,.str x] b=.ok (.v (jD l)) b:=by
 have:=qZ (x:=x) h.B;rw[h.tJ,lkJ,hx]at this;exact this
theorem VZ{d:D}{b1:Hb}{s':Sc}{tg:Tg}{ss:ISs}(h:v.ev T s b=.ok d b1)(ha:asg tg d s=some s'):evSs T (.tup tg v::ss) s b=evSs T ss s' b1:=by
 rw[qm,WK,h,Kc,ha];rfl
theorem Y3(h:Bq i j K m b tb dn u ids){l:iM}(hx:jl i j x=some l){n:Nat}(hT:T[n]?=some e_Book_kept_journey)(h0:s[0]?=some (some (.obj 1)))(h1:s[1]?=some (some (.str x))):(IV.kp false (.meth n (.var 0) [.var 1])).ev T s b=.ok (jD l) b:=by
 rw[qO,xe,hT,zW,kH,h0];show kp false (R.bind (R.ok (D.obj 1) b) _)=_;rw[R.bind_ok,aE (show recv e_Book_kept_journey.C e_Book_kept_journey.j b (.obj 1)=true from rc0 h (n:=47) (by decide)),qc,qo,qb,kH,h1];show kp false (qu [.obj 1,.str x] b)=_;rw[Y8 h hx];rfl
theorem VO(h:Bq i j K m b tb dn u ids){l:iM}(hx:jl i j x=some l):Xz [.obj 1,.str x] b=.ok (.v (.tup [.str "a",.str "b"])) b:=by
 show outR (evSs KI QS [some (.obj 1),some (.str x),none,none,none] b)=_;unfold QS;rw[VZ (Y3 h hx rfl rfl rfl) rfl];rfl
theorem Vn(h:Bq i j K m b tb dn u ids){l:iM}(hx:jl i j x=some l):Xy [.obj 1,.str x] b=.ok (.n (.lst false (l.map .int))) b:=by
 show outR (evSs KF QR [some (.obj 1),some (.str x),none,none,none] b)=_;unfold QR;rw[VZ (Y3 h hx rfl rfl rfl) rfl];rfl
theorem VR(h:Bq i j K m b tb dn u ids){l:iM}(hx:jl i j x=some l):kg [.obj 1,.str x] b=.ok (.n (.lst false [])) b:=by
 have t:=tabl h (d:=.tup [.str "bed",.str x]) (kw:=.inr [.inr "bed",.inr x]) rfl;have h0:rows tb (.inr [.inr "bed",.inr x])=[]:=h.tO _ (by simp) (by simp) (by simp) (by simp);have s:=yF (w:=.inr [.inr "bed",.inr x]) h (o:=[]) (by rw[h0];rfl);simp[kg,j2,j9,e_Book_kept_journey,qa,rc0 h,rc1 h,f01 h,Y8 h hx,t,Bf.srt,gN,g1,s]
end
noncomputable def bo(x:Str):KK->Option KK
 |.inr [.inr o,.inl r]=>if x.cps.toList<o.cps.toList then some (.inr [.inr x,.inr o,.inl r])else none
 |_=>none
noncomputable def subs:List KK->List (List KK)
 |[]=>[[]]
 |a::l=>subs l++(subs l).map (a::·)
theorem j3{f:KK->Bool}:∀{l:List KK},l.filter f∈subs l
 |[]=>aD.mpr rfl
 |a::l=>by
  unfold subs;cases h:f a with
  |true=>rw[dK h];exact b9.mpr (.inr (aQ.mpr ⟨_,j3,rfl⟩))
  |false=>rw[dJ (by rw[h];decide)];exact b9.mpr (.inl j3)
noncomputable def upB(l:List KK):Bool:=match l with
 |[]=>true
 |a::l=>l.all (fun c=>!decide (encK c<encK a)) && upB l
theorem ZE:∀{l:List KK},upB l=true->l.Pairwise fun a c=>¬ encK c<encK a
 |[],_=>.nil
 |a::l,h=>by
  unfold upB at h;rw[aq,aP]at h;exact .cons (fun c hc=>by simpa using h.1 c hc) (ZE h.2)
theorem qd8:upB UU=true:=by decide +kernel
theorem qd9:((["m","t","twelvesigns9"]:iK).all fun x=>upB (UU.filterMap (oth x)))=true:=by decide +kernel
noncomputable def bnd(BL:List KK):List KK:=(BL.filterMap (oth "m")).filterMap (bo "m")++(BL.filterMap (oth "t")).filterMap (bo "t")++(BL.filterMap (oth "twelvesigns9")).filterMap (bo "twelvesigns9")
theorem W3:((subs UU).all fun l=>decide (bnd l=l))=true:=by decide +kernel
theorem YK{U ks ls:List KK}(hU:∀a∈U,∀c∈U,encK a=encK c->a=c)(hk:∀k∈ks,k∈U)(h1:ks.Pairwise fun a c=>¬ encK c<encK a)(h2:ls.Pairwise fun a c=>¬ encK c<encK a)(hp:ks.Perm ls):ks=ls:=by
 refine ia (le:=fun a c=>¬ encK c<encK a) (fun a c ha hc h1 h2=>?_) h1 h2 hp;exact hU a (hk a ha) c (hk c (hp.mem_iff.mpr hc)) (tot h2 h1)
section
variable{K BL:List KK}{x:Str}
theorem UU_nd:UU.Nodup:=by decide +kernel
theorem Pu.fil(h:Pu K BL):BL=UU.filter fun k=>inK k BL:=by
 have hu:∀k∈BL,k∈UU:=fun k hk=>h.u k (h.p.mem_iff.mp hk)
 refine YK (JA qa7) hu h.s ((ZE qd8).sublist eU) ?_;refine(List.perm_ext_iff_of_nodup (h.p.nodup_iff.mpr h.nd) (UU_nd.filter _)).mpr fun a=>?_
 rw[dv,inK_iff];exact⟨fun z=>⟨hu a z,z⟩,fun z=>z.2⟩
theorem Pu.shr_fm(h:Pu K BL)(hx:x∈(["m","t","twelvesigns9"]:iK)):shr K x=BL.filterMap (oth x):=by
 rw[vk h];have hs:(BL.filterMap (oth x)).Pairwise fun a c=>¬ encK c<encK a:=by
  rw[h.fil];exact(ZE (aP.mp qd9 x hx)).sublist (eU.filterMap _)
 refine(YK (JA Xx) (fun k hk=>?_) (wb _) hs (qF _));have hk:=(qF _).mem_iff.mp hk;obtain⟨k0,h1,h2⟩:=cj.mp hk;obtain⟨a,c,r,rfl,_,p1,p2⟩:=KD (h.u k0 (h.p.mem_iff.mp h1));have eO:oth x (.inr [.inr a,.inr c,.inl r])=if a=x then some (pK c r)else if c=x then some (pK a r)else none:=rfl
 rw[eO]at h2
 split at h2
 ·cases h2;exact p2
 ·split at h2
  ·cases h2;exact p1
  ·cases h2
theorem Pu.bonds(h:Pu K BL):(shr K "m").filterMap (bo "m")++(shr K "t").filterMap (bo "t")++(shr K "twelvesigns9").filterMap (bo "twelvesigns9")=BL:=by
 rw[h.shr_fm (by decide),h.shr_fm (by decide),h.shr_fm (by decide)];show bnd BL=BL;rw[h.fil];exact cI (aP.mp W3 _ j3)
end
noncomputable def RQ(i j:Nat):List (KK×D):=[(.inl (.inr "m"),jD (lgM j)),(.inl (.inr "t"),jD [0,1,2]),(.inl (.inr "twelvesigns9"),jD (lgT i))]
noncomputable def RO:List (KK×D):=[(.inl (.inr "m"),.lst []),(.inl (.inr "t"),.lst []),(.inl (.inr "twelvesigns9"),.lst [])]
section
variable{b b1 b2:Hb}{T:List FnE}{s:Sc}{v w:IV}{d d2:D}{n:Nat}{fe:FnE}
theorem W8(hT:T[n]?=some fe)(hn:fe.n=1)(h1:v.ev T s b=.ok d b1):(IE.call n [v]).ev T s b=fe.F [d] b1:=by
 rw[jz,hT,z9,qc,qo,qb,h1,R.bind_ok,qE,R.bind_ok,R.bind_ok,hn,Qa];rfl
theorem qcg(hT:T[n]?=some fe)(hn:fe.n=1)(h1:v.ev T s b=.ok d b1)(hr:recv fe.C fe.j b1 d=true):(IE.meth n v []).ev T s b=fe.F [d] b1:=by
 rw[xe,hT,zW,h1,R.bind_ok,aE hr,qo,qE,R.bind_ok,hn,Qa];rfl
theorem Vf(hT:T[n]?=some fe)(hn:fe.n=2)(h1:v.ev T s b=.ok d b1)(hr:recv fe.C fe.j b1 d=true)(h2:w.ev T s b1=.ok d2 b2):(IE.meth n v [w]).ev T s b=fe.F [d,d2] b2:=by
 rw[xe,hT,zW,h1,R.bind_ok,aE hr,qc,qo,qb,h2,R.bind_ok,qE,R.bind_ok,R.bind_ok,hn,Qa];rfl
theorem kpl{e:IE}{l:List D}(h:e.ev T s b=.ok (.n (.lst false l)) b1):(IV.kp false e).ev T s b=.ok (.lst l) b1:=by rw[qO,h];rfl
theorem kpv{e:IE}(h:e.ev T s b=.ok (.v d) b1):(IV.kp false e).ev T s b=.ok d b1:=by rw[qO,h];rfl
theorem tup2{v1 v2:IV}{d1 d2:D}(h1:v1.ev T s b=.ok d1 b)(h2:v2.ev T s b=.ok d2 b):(IV.tup [v1,v2]).ev T s b=.ok (.tup [d1,d2]) b:=by
 rw[vy,zM,qc,qc,qo,qb,h1,R.bind_ok,qb,h2];rfl
theorem V0{u:IV}{z y:D}{ss:ISs}{b':Hb}(h1:w.ev T s b=.ok d b)(h2:u.ev T s b=.ok z b)(h3:v.ev T s b=.ok y b)(hp:setI b d y z=some b'):evSs T (.put u v w::ss) s b=evSs T ss s b':=by
 rw[qm,uP,h1,Kc,h2,Kc,h3,Kc,hp];rfl
theorem ZU{k:Nat}{r:List (KK×D)}{y:D}{kk:KK}(hk:b[k]?=some (.dic false r))(hy:dKK y=some kk)(hl:r.length<sizeLine):setI b d y (.obj k)=some (b.set k (.dic false (putD r kk d))):=by
 unfold setI;rw[show obj b (.obj k)=some (k,.dic false r) by show b[k]?.map _=_;rw[hk];rfl];dsimp only;rw[hy,bb,aE hl]
end
theorem dct0{b:Hb}:Bf.dct.g [.lst [.tup [.str "a",.tup [.int 0,.int 0]],.tup [.str "b",.tup [.int 60,.int 20]]]] b=some (.n (.dic false RP),b):=by kernel_rfl
section
variable{b:Hb}{i j m k:Nat}{K BL:List KK}{x:Str}{r:Int}{u:Nat}{ids:List Nat}{tb:TB}{dn:List D}{tr ro:List (KK×D)}{bs:List D}
noncomputable def hp3(b:Hb)(tr ro:List (KK×D)):Hb:=b++[.dic false [],.dic false tr,.dic false ro]
theorem uz:(hp3 b tr ro)[b.length+1]?=some (.dic false tr):=by
 unfold hp3;rw[aJ (bD _ _),cb];rfl
theorem uy:(hp3 b tr ro)[b.length+2]?=some (.dic false ro):=by
 unfold hp3;rw[aJ (bD _ _),cb];rfl
theorem qcq:(hp3 b tr ro)[b.length]?=some (.dic false []):=by
 unfold hp3;rw[aJ (aI _),di];rfl
theorem ux{z:List (KK×D)}:(hp3 b tr ro).set (b.length+1) (.dic false z)=hp3 b z ro:=by
 unfold hp3;rw[gr _ _ (bD _ _),cb];rfl
theorem uw{z:List (KK×D)}:(hp3 b tr ro).set (b.length+2) (.dic false z)=hp3 b tr z:=by
 unfold hp3;rw[gr _ _ (bD _ _),cb];rfl
noncomputable def sS(b:Hb)(e1:Option D)(bs:List D):Sc:=[some (.obj 1),e1,some (.dic RP),some (.int 2),some (.lst CR),some (.obj b.length),none,none,none,some (.obj (b.length+1)),some (.obj (b.length+2)),some (.lst bs)]
noncomputable def snB:ISs:=[.put (.var 9) (.var 1) (.kp false (.bin .add (.kp false (.call 6 [.var 0,.var 1])) (.tup [.kp false (.bf .tup [.kp false (.call 7 [.var 0,.var 1])])]))),.put (.var 10) (.var 1) (.kp false (.meth 8 (.var 0) [.var 1])),.set 11 (.kp false (.bin .add (.var 11) (.kp false (.lc 3 [1] .any [.kp false (.meth 9 (.var 0) [.var 1])] (.tp (.cons (.nm 1) (.cons (.nm 2) .nil))) (.cmp .lt (.var 3) (.var 1)) (.tup [.var 3,.var 1,.var 2])))))]
theorem qah(hk:∀k∈K,∃o r,k=.inr [.inr o,.inl r])(hl:K.length<=100)(b':Hb):cmpD (.tp (.cons (.nm 1) (.cons (.nm 2) .nil))) ((IT.cmp .lt (.var 3) (.var 1)).ev qi) (fxL ((IV.tup [.var 3,.var 1,.var 2]).ev qi)) (K.map kkD) [none,none,none,some (.str x)] (.lst false []) b'=.ok (.lst false ((K.filterMap (bo x)).map kkD)) b':=by
 have:=kM (b:=b') (T:=qi) (t:=.tp (.cons (.nm 1) (.cons (.nm 2) .nil))) (ts:=.cmp .lt (.var 3) (.var 1)) (e:=.tup [.var 3,.var 1,.var 2]) (g:=bo x) (fun s=>∃a0 a1 a2,s=[a0,a1,a2,some (.str x)]) (K:=K) (s:=[none,none,none,some (.str x)]) (acc:=[]) (fun k hkk s hs=>by
  obtain⟨a0,a1,a2,rfl⟩:=hs;obtain⟨o,r,rfl⟩:=hk k hkk;refine⟨[a0,some (.str o),some (.int r),some (.str x)],rfl,⟨_,_,_,rfl⟩,?_⟩;have eL:bo x (.inr [.inr o,.inl r])=if x.cps.toList<o.cps.toList then some (.inr [.inr x,.inr o,.inl r])else none:=rfl
  rw[eL]
  by_cases h:x.cps.toList<o.cps.toList
  ·rw[aE h];simp[kkD,keyD,h]
  ·rw[ax h];simp[h]) ⟨_,_,_,rfl⟩ (yC (by simpa using hl))
 simpa using this
theorem vY(h:Bq i j K m b tb dn u ids)(hp:Pu K BL){e1:Option D}{l:iM}(hx:jl i j x=some l)(htr:tr.length<=3)(hro:ro.length<=3)(hbs:bs.length<=30):za (.nm 1) (evSs qi snB) (.str x) (sS b e1 bs) (hp3 b tr ro)=.nx (sS b (some (.str x)) (bs++((shr K x).filterMap (bo x)).map kkD)) (hp3 b (putD tr (.inl (.inr x)) (jD l)) (putD ro (.inl (.inr x)) (.lst []))):=by
 have hq:∀{tr ro},Bq i j K m (hp3 b tr ro) tb dn u ids:=fun{tr ro}=>h.xt .app
 have sl:(shr K x).length<=9:=by
  rw[vk hp,(qF _).length_eq];exact ba (bV _ _) hp.lenB
 have e1':(IV.kp false (.bin .add (.kp false (.call 6 [.var 0,.var 1])) (.tup [.kp false (.bf .tup [.kp false (.call 7 [.var 0,.var 1])])]))).ev qi (sS b (some (.str x)) bs) (hp3 b tr ro)=.ok (jD l) (hp3 b tr ro):=by
  have a1:(IV.kp false (.call 6 [.var 0,.var 1])).ev qi (sS b (some (.str x)) bs) (hp3 b tr ro)=.ok (.tup [.str "a",.str "b"]) (hp3 b tr ro):=kpv (by
   rw[Qf (fe:=Kb) (d:=.obj 1) (d2:=.str x) (b1:=hp3 b tr ro) (b2:=hp3 b tr ro) rfl rfl rfl rfl];exact VO hq hx)
  have a2:(IV.kp false (.call 7 [.var 0,.var 1])).ev qi (sS b (some (.str x)) bs) (hp3 b tr ro)=.ok (.lst (l.map .int)) (hp3 b tr ro):=kpl (by
   rw[Qf (fe:=J9) (d:=.obj 1) (d2:=.str x) (b1:=hp3 b tr ro) (b2:=hp3 b tr ro) rfl rfl rfl rfl];exact Vn hq hx)
  have a3:(IV.kp false (.bf .tup [.kp false (.call 7 [.var 0,.var 1])])).ev qi (sS b (some (.str x)) bs) (hp3 b tr ro)=.ok (iD l) (hp3 b tr ro):=by
   rw[qO,wD,qc,qo,qb,a2,R.bind_ok,qE,R.bind_ok,R.bind_ok];rfl
  rw[qO,QZ,a1,R.bind_ok,vy,zM,qc,qo,qb,a3];rfl
 have e2':(IV.kp false (.meth 8 (.var 0) [.var 1])).ev qi (sS b (some (.str x)) bs) (hp3 b (putD tr (.inl (.inr x)) (jD l)) ro)=.ok (.lst []) (hp3 b (putD tr (.inl (.inr x)) (jD l)) ro):=kpl (by
  rw[Vf (fe:=j6) (d:=.obj 1) (d2:=.str x) (b1:=hp3 b (putD tr (.inl (.inr x)) (jD l)) ro) (b2:=hp3 b (putD tr (.inl (.inr x)) (jD l)) ro) rfl rfl rfl (rc0 hq (by decide)) rfl];exact VR hq hx)
 let c:Hb:=hp3 b (putD tr (.inl (.inr x)) (jD l)) (putD ro (.inl (.inr x)) (.lst []));have e3':(IV.kp false (.bin .add (.var 11) (.kp false (.lc 3 [1] .any [.kp false (.meth 9 (.var 0) [.var 1])] (.tp (.cons (.nm 1) (.cons (.nm 2) .nil))) (.cmp .lt (.var 3) (.var 1)) (.tup [.var 3,.var 1,.var 2]))))).ev qi (sS b (some (.str x)) bs) c=.ok (.lst (bs++((shr K x).filterMap (bo x)).map kkD)) c:=by
  have hc:Bq i j K m c tb dn u ids:=hq;have a1:(IV.kp false (.meth 9 (.var 0) [.var 1])).ev qi (sS b (some (.str x)) bs) c=.ok (.lst ((shr K x).map kkD)) c:=kpl (by
   rw[Vf (fe:=e_Book_shared) (d:=.obj 1) (d2:=.str x) (b1:=c) (b2:=c) rfl rfl rfl (rc0 hc (by decide)) rfl];exact xH (x:=x) (K:=K) hc.B (by rw[hc.tJ,lkJ,hx];rfl) hc.tS hp.shK (by have:=hp.len;omega))
  have a2:(IV.kp false (.lc 3 [1] .any [.kp false (.meth 9 (.var 0) [.var 1])] (.tp (.cons (.nm 1) (.cons (.nm 2) .nil))) (.cmp .lt (.var 3) (.var 1)) (.tup [.var 3,.var 1,.var 2]))).ev qi (sS b (some (.str x)) bs) c=.ok (.lst (((shr K x).filterMap (bo x)).map kkD)) c:=kpl (vn (jH (b1:=c) a1) (qah (fun k hk=>by
   rw[vk hp]at hk;have hk:=(qF _).mem_iff.mp hk;obtain⟨k0,h1,h2⟩:=cj.mp hk;obtain⟨a,c,r,rfl,_,_⟩:=KD (hp.u k0 (hp.p.mem_iff.mp h1));have eO:oth x (.inr [.inr a,.inr c,.inl r])=if a=x then some (pK c r)else if c=x then some (pK a r)else none:=rfl
   rw[eO]at h2
   split at h2
   ·cases h2;exact⟨_,_,rfl⟩
   ·split at h2
    ·cases h2;exact⟨_,_,rfl⟩
    ·cases h2) (by omega) c))
  have v11:(IV.var 11).ev qi (sS b (some (.str x)) bs) c=.ok (.lst bs) c:=rfl;have ad:addD c (.lst bs) (.lst (((shr K x).filterMap (bo x)).map kkD))=some (.n (.lst false (bs++((shr K x).filterMap (bo x)).map kkD))):=by
   show addL _ _ _=_;unfold addL;show(if _ then _ else _)=_;rw[aE];rw[aM];have:=bV (bo x) (shr K x);exact yC (by omega)
  rw[qO,QZ,v11,R.bind_ok,a2,R.bind_ok];show kp false (opR ((addD _ _ _).map _))=_;rw[ad];rfl
 show evSs qi snB (sS b (some (.str x)) bs) (hp3 b tr ro)=_;unfold snB;rw[V0 (d:=jD l) (z:=.obj (b.length+1)) (y:=.str x) (b':=hp3 b (putD tr (.inl (.inr x)) (jD l)) ro) e1' rfl rfl (by rw[ZU uz rfl (yB (by omega)),ux])];rw[V0 (d:=.lst []) (z:=.obj (b.length+2)) (y:=.str x) (b':=c) e2' rfl rfl (by rw[ZU uy rfl (yB (by omega)),uw])];rw[qA e3'];rfl
end
section
variable{b:Hb}{i j m k:Nat}{K BL:List KK}{x:Str}{r:Int}{u:Nat}{ids:List Nat}{tb:TB}{dn:List D}{st:D}
theorem jL{body:D->Sc->Hb->Out}{d:D}{ds:List D}{s s1:Sc}{b b1:Hb}(h:body d s b=.nx s1 b1):forD body (d::ds) s b=forD body ds s1 b1:=by
 show(match body d s b with|.nx s b=>forD body ds s b|.ct s b=>forD body ds s b|.bk s b=>.nx s b|o=>o)=_;rw[h]
noncomputable abbrev rpB:ISs:=[.each .any [.kp false (.meth 4 (.var 0) [.var 3])] (.tp (.cons (.nm 6) (.cons (.nm 7) (.cons (.nm 8) .nil)))) [.no]]
noncomputable def sR(n:Nat)(e3:Option D):Sc:=[some (.obj 1),none,some (.dic RP),e3,some (.lst CR),some (.obj n),none,none,none,none,none,none]
theorem wf(h:Bq i j K m b tb dn u ids){n:Nat}{e3:Option D}(hr:r=0\/r=1\/r=2):za (.nm 3) (evSs qi rpB) (.int r) (sR n e3) b=.nx (sR n (some (.int r))) b:=by
 show evSs qi rpB (sR n (some (.int r))) b=_;have a1:(IV.kp false (.meth 4 (.var 0) [.var 3])).ev qi (sR n (some (.int r))) b=.ok (.lst []) b:=kpl (by
  rw[Vf (fe:=zt) (d:=.obj 1) (d2:=.int r) (b1:=b) (b2:=b) rfl rfl rfl (rc0 h (by decide)) rfl];exact yJ h (by rcases hr with rfl|rfl|rfl <;> rfl))
 rw[jd (ds:=[]) (b1:=b) (jH a1)];rfl
theorem K4(h:Bq i j K m b tb dn u ids)(hp:Pu K BL):Ql [.obj 1] b=.ok (.v (.tup [.dic RP,.lst CR,.obj b.length,.obj (b.length+1),.lst (BL.map kkD),.obj (b.length+2)])) (hp3 b (RQ i j) RO):=by
 show outR (evSs qi wz [some (.obj 1),none,none,none,none,none,none,none,none,none,none,none] b)=_;have c0:(IV.kp false (.bf .dct [.kp false (.lc 2 [0] .any [.kp false (.call 0 [.var 0])] (.nm 1) .tt (.tup [.var 1,.kp false (.call 1 [.var 2,.var 1])]))])).ev qi [some (.obj 1),none,none,none,none,none,none,none,none,none,none,none] b=.ok (.dic RP) b:=by
  have a1:(IV.kp false (.call 0 [.var 0])).ev qi [some (.obj 1),none,none,none,none,none,none,none,none,none,none,none] b=.ok (.lst [.str "a",.str "b"]) b:=kpl (by
   rw[W8 (fe:=wH) (d:=.obj 1) (b1:=b) rfl rfl rfl];exact Zk h)
  have a2:∀(x:Str)(d:D),lk RP (.inl (.inr x))=some d->(IV.tup [.var 1,.kp false (.call 1 [.var 2,.var 1])]).ev qi [none,some (.str x),some (.obj 1)] b=.ok (.tup [.str x,d]) b:=fun x d hx=>tup2 rfl (kpv (by
   rw[Qf (fe:=yZ) (d:=.obj 1) (d2:=.str x) (b1:=b) (b2:=b) rfl rfl rfl rfl];exact Ko h hx))
  have a3:(IE.lc 2 [0] .any [.kp false (.call 0 [.var 0])] (.nm 1) .tt (.tup [.var 1,.kp false (.call 1 [.var 2,.var 1])])).ev qi [some (.obj 1),none,none,none,none,none,none,none,none,none,none,none] b=.ok (.n (.lst false [.tup [.str "a",.tup [.int 0,.int 0]],.tup [.str "b",.tup [.int 60,.int 20]]])) b:=by
   refine vn (jH (b1:=b) a1) ?_;rw[q_ (s1:=[none,some (.str "a"),some (.obj 1)]) rfl rfl (a2 "a" (.tup [.int 0,.int 0]) rfl) (bz _),q_ (s1:=[none,some (.str "b"),some (.obj 1)]) rfl rfl (a2 "b" (.tup [.int 60,.int 20]) rfl) (by simp)];rfl
  rw[qO,wD,qc,qo,qb,kpl a3,R.bind_ok,qE,R.bind_ok,R.bind_ok,dct0];rfl
 have many:∀s:Sc,s[0]?=some (some (.obj 1))->∀c,Bq i j K m c tb dn u ids->(IV.kp false (.meth 2 (.var 0) [])).ev qi s c=.ok (.int ((3:Nat):Int)) c:=fun s hs c hc=>kpv (by
  rw[qcg (fe:=je) (d:=.obj 1) (b1:=c) rfl rfl (by rw[kH,hs];rfl) (rc0 hc (by decide))];exact Vh hc)
 have c1:(IV.kp false (.lc 2 [0] .rng [.kp false (.meth 2 (.var 0) [])] (.nm 1) .tt (.kp false (.meth 3 (.var 2) [.var 1])))).ev qi [some (.obj 1),none,some (.dic RP),none,none,none,none,none,none,none,none,none] b=.ok (.lst CR) b:=by
  have a2:∀(r:Int)(d:D),lk RU (.inl (.inl r))=some d->(IV.kp false (.meth 3 (.var 2) [.var 1])).ev qi [none,some (.int r),some (.obj 1)] b=.ok d b:=fun r d hr=>kpv (by
   rw[Vf (fe:=zg) (d:=.obj 1) (d2:=.int r) (b1:=b) (b2:=b) rfl rfl rfl (rc0 h (by decide)) rfl];exact KQ h hr)
  refine kpl (vn (we (by decide) (many _ rfl b h)) ?_);show cmpD _ _ _ [.int 0,.int 1,.int 2] _ _ _=_;rw[q_ (s1:=[none,some (.int 0),some (.obj 1)]) rfl rfl (a2 0 (cR 0) rfl) (bz _),q_ (s1:=[none,some (.int 1),some (.obj 1)]) rfl rfl (a2 1 (cR 1) rfl) (by simp),q_ (s1:=[none,some (.int 2),some (.obj 1)]) rfl rfl (a2 2 (cR 2) rfl) (by simp)];rfl
 unfold wz;rw[qA c0];show outR (evSs qi _ [some (.obj 1),none,some (.dic RP),none,none,none,none,none,none,none,none,none] b)=_;rw[qA c1];let b1:Hb:=b++[.dic false []];have h1:Bq i j K m b1 tb dn u ids:=h.xt .app;have e0:∀{k:Nat}{ss:ISs}{s:Sc}{b:Hb},evSs qi (.set k (.kp true .dnew)::ss) s b=evSs qi ss (s.set k (some (.obj b.length))) (b++[.dic false []]):=rfl;rw[e0];show outR (evSs qi _ (sR b.length none) b1)=_;rw[jd (ds:=[.int 0,.int 1,.int 2]) (b1:=b1) (we (by decide) (many _ rfl b1 h1)),jL (wf h1 (r:=0) (by simp)),jL (wf h1 (r:=1) (by simp)),jL (wf h1 (r:=2) (by simp))];show outR (evSs qi _ (sR b.length (some (.int 2))) b1)=_;rw[e0,e0];have l1:b1.length=b.length+1:=by show(b++_).length=_;rw[az];rfl
 have l2:(b1++[Ob.dic false []]).length=b.length+2:=by rw[az,l1];rfl
 have l3:(b1++[Ob.dic false []])++[Ob.dic false []]=hp3 b [] []:=by show((b++_)++_)++_=_;rw[fY,fY];rfl
 rw[l3,l1,l2];rw[qA (d:=.lst []) (b1:=hp3 b [] []) rfl];show outR (evSs qi _ (sS b none []) (hp3 b [] []))=_;have h3:Bq i j K m (hp3 b [] []) tb dn u ids:=h.xt .app;have aj:(IV.kp false (.call 5 [.var 0])).ev qi (sS b none []) (hp3 b [] [])=.ok (.lst [.str "m",.str "t",.str "twelvesigns9"]) (hp3 b [] []):=kpl (by
  rw[W8 (fe:=k7) (d:=.obj 1) (b1:=hp3 b [] []) rfl rfl rfl];exact yf h3)
 have fl:∀x:Str,((shr K x).filterMap (bo x)).length<=9:=fun x=>ba (bV _ _) (by
  rw[vk hp,(qF _).length_eq];exact ba (bV _ _) hp.lenB)
 rw[jd (ds:=[.str "m",.str "t",.str "twelvesigns9"]) (b1:=hp3 b [] []) (jH aj)];have f1:=fl "m";have f2:=fl "t";show outR (sq (forD (za (.nm 1) (evSs qi snB)) _ _ _) _)=_;rw[jL (vY h hp (x:="m") (l:=lgM j) rfl (by simp) (by simp) (by simp)),jL (vY h hp (x:="t") (l:=[0,1,2]) rfl (ba (zN _ _ _) (by decide)) (ba (zN _ _ _) (by decide)) (by rw[cX,aM];omega)),jL (vY h hp (x:="twelvesigns9") (l:=lgT i) rfl (ba (zN _ _ _) (ba (Nat.succ_le_succ (zN _ _ _)) (by decide))) (ba (zN _ _ _) (ba (Nat.succ_le_succ (zN _ _ _)) (by decide))) (by rw[cX,az,aM,aM];omega))];rw[cX,<- cz,<- cz,hp.bonds];rfl
theorem vR{x:D}{r:List (KK×D)}(h:qv b x=some r):vw b x=some (.dc r):=by
 cases x <;> first|cases h|skip
 ·rfl
 ·rename_i n
  obtain⟨o,h1,h2⟩:=ai.mp (show(b[n]?).bind Ob.k=some r from h);show(b[n]?).bind Ob.vw=_;rw[h1];cases o <;> first|cases h2|skip
  rfl
theorem Yo{x:D}{l:List D}(h:LsV b x l):vw b x=some (.sq false l):=by
 rcases h with rfl|⟨n,rfl,h⟩
 ·rfl
 ·show(b[n]?).bind Ob.vw=_
  rw[h];rfl
theorem VN{n:Nat}{x y:D}{r1 r2:List (KK×D)}(h1:vw b x=some (.dc r1))(h2:vw b y=some (.dc r2))(hc:(r1.length == r2.length && r1.all fun z=>match lk r2 z.1 with|some y=>eqN b n z.2 y == some true|none=>false)=true):eqN b (n+1) x y=some true:=by
 show(vw b x).bind (fun p=>(vw b y).bind fun q=>eqV (eqN b n) p q)=_;rw[h1,h2,bb,bb];exact aE hc
theorem WN{n:Nat}{x y:D}{t:Bool}{l1 l2:List D}(h1:vw b x=some (.sq t l1))(h2:vw b y=some (.sq t l2))(hl:l1.length=l2.length)(hc:allE (eqN b n) l1 l2=some true):eqN b (n+1) x y=some true:=by
 show(vw b x).bind (fun p=>(vw b y).bind fun q=>eqV (eqN b n) p q)=_;rw[h1,h2,bb,bb];cases t
 ·show(if false=false then(if l1.length=l2.length then allE (eqN b n) l1 l2 else some false)else none)=_
  rw[aE rfl,aE hl,hc]
 ·show(if true=true then(if l1.length=l2.length then allE (eqN b n) l1 l2 else none)else none)=_
  rw[aE rfl,aE hl,hc]
theorem all_keys{n:Nat}:∀{BL:List KK},Shs BL->allE (eqN b (n+2)) (BL.map kkD) (BL.map kkD)=some true
 |[],_=>rfl
 |k0::BL,h=>by
  obtain⟨a,c,r,rfl,_⟩:=h k0 aC;rw[av];unfold allE;rw[JZ,all_keys fun k hk=>h k (ay _ hk)];simp
theorem jM{f:D->D->Option Bool}{x y:D}{xs ys:List D}(h:f x y=some true)(h2:allE f xs ys=some true):allE f (x::xs) (y::ys)=some true:=by
 unfold allE;rw[h,h2];rfl
theorem qc8:(RP.length == RP.length && RP.all fun z=>match lk RP z.1 with|some y=>eqN b 6 z.2 y == some true|none=>false)=true:=by kernel_rfl
theorem qda:allE (eqN b 6) CR CR=some true:=by kernel_rfl
theorem qc9:(RO.length == RM.length && RO.all fun z=>match lk RM z.1 with|some y=>eqN b 6 z.2 y == some true|none=>false)=true:=by kernel_rfl
theorem qc7(hi:i<3)(hj:j<2):((RQ i j).length == (RJ i j).length && (RQ i j).all fun z=>match lk (RJ i j) z.1 with|some y=>eqN b 6 z.2 y == some true|none=>false)=true:=by
 match i,j,hi,hj with
 |0,0,_,_=>kernel_rfl
 |0,1,_,_=>kernel_rfl
 |1,0,_,_=>kernel_rfl
 |1,1,_,_=>kernel_rfl
 |2,0,_,_=>kernel_rfl
 |2,1,_,_=>kernel_rfl
theorem uU(hi:i<3)(hj:j<2)(h:Trn i j m K BL b st):∃d b',Ql [.obj 1] b=.ok (.v d) b'/\eqN b' 8 d st=some true:=by
 obtain⟨tb,dn,u,ids,hb,hl⟩:=h.ex;refine⟨_,_,K4 hb h.p,?_⟩;obtain⟨x0,x1,x2,x3,x4,x5,rfl,L,_⟩:=(hl.xt (b':=hp3 b (RQ i j) RO) .app).ex;refine WN (t:=true) (n:=7) rfl rfl rfl ?_;refine jM (VN (n:=6) rfl (vR L.h0) qc8) (jM (WN (n:=6) rfl (Yo L.h1) rfl qda) (jM (VN (n:=6) (vR (qp (h:=false) qcq)) (vR L.h2) rfl) (jM (VN (n:=6) (vR (qp (h:=false) uz)) (vR L.h3) (qc7 hi hj)) (jM (WN (n:=6) rfl (Yo L.h4) rfl (all_keys (n:=4) h.p.shB)) (jM (VN (n:=6) (vR (qp (h:=false) uy)) (vR L.h5) qc9) rfl)))))
end
theorem qL{T:List FnE}:∀{l1 l2:ISs}{s:Sc}{b:Hb},evSs T (l1++l2) s b=sq (evSs T l1 s b) (evSs T l2)
 |[],l2,s,b=>rfl
 |a::l1,l2,s,b=>by
  rw[bI,qm,qm];cases a.ev T s b with
  |nx s1 b1=>exact qL
  |_=>rfl
noncomputable def hd5:ISs:=(i_law.drop 1).take 5
noncomputable def tl2:ISs:=(i_law.drop 8).take 2
noncomputable def p0O:Out->Option (Option (Option D)×Option Ob)
 |.nx s b=>some (s[1]?,b[0]?)
 |_=>none
noncomputable def sc1(ns:List D):Sc:=[some (.lst ns),some (.obj 0),none,none,none,none,none,none,none,none,none,none,none,none,none]
theorem at5(ns dl:List D):p0O (evSs ql hd5 (sc1 ns) [.lst false dl])=some (some (some (.obj 0)),some (.lst false dl)):=by kernel_rfl
theorem at6(i:Nat)(hi:i<3)(ns dl:List D):p0O (evSs ql (hd5++[mk7 (.lit (iD (lgT i)))]) (sc1 ns) [.lst false dl])=some (some (some (.obj 0)),some (.lst false dl)):=by
 match i,hi with
 |0,_=>kernel_rfl
 |1,_=>kernel_rfl
 |2,_=>kernel_rfl
noncomputable abbrev m7V:IV:=.ix (.kp false (.lst [.tup [.cst (.int 0),.cst (.int 1),.cst (.int 2)],.tup [.cst (.int 0)],.tup [.cst (.int 2)]])) (.kp false (.bin .mod (.ix (.var 1) (.cst (.int 0))) (.cst (.int 3))))
noncomputable abbrev m8V:IV:=.ix (.kp false (.lst [.tup [.cst (.int 0),.cst (.int 1),.cst (.int 2)],.tup [.cst (.int 2)]])) (.kp false (.bin .mod (.ix (.var 1) (.cst (.int 1))) (.cst (.int 2))))
noncomputable def ml:IS:=.each .rng [.kp false (.bin .mod (.ix (.var 1) (.cst (.int 2))) (.cst (.int 31)))] (.nm 5) ZG
noncomputable def rt:IS:=.ret (.cmp .eq (.kp false (.call 10 [.var 2])) (.var 3))
theorem Y1:i_law=.set 1 (.kp false (.call 0 [.var 0,.cst (.int 0),.cst (.int 10)]))::(hd5++([mk7 m7V]++([mk8 m8V]++(tl2++[ml,rt])))):=rfl
theorem YU{i j:Nat}:mid i j=hd5++([mk7 (.lit (iD (lgT i)))]++([mk8 (.lit (iD (lgM j)))]++tl2)):=rfl
section
variable{T:List FnE}{s:Sc}{b:Hb}{v w:IV}{ss:ISs}{i j N:Nat}{ns vs:iM}{dl:List D}
theorem tup5{c1 c2 c3 c4:C0}(h:v.ev T s b=w.ev T s b):(IV.tup [.cst c1,.cst c2,.cst c3,.cst c4,v]).ev T s b=(IV.tup [.cst c1,.cst c2,.cst c3,.cst c4,w]).ev T s b:=by
 simp only[vy,zM,qc,qo,qb,Xh,R.bind_ok,h]
theorem app_congr{m:Bm}{n:Nat}(h:v.ev T s b=w.ev T s b):(IS.expr (.bm m (.var n) [v])).ev T s b=(IS.expr (.bm m (.var n) [w])).ev T s b:=by
 simp only[JX,Zu,xX,kH,qc,qo,qb];cases (s[n]?).join with
 |none=>rfl
 |some d=>simp only[QC,R.bind_ok,h]
theorem Jf(h:v.ev T s b=w.ev T s b):evSs T [mk7 v] s b=evSs T [mk7 w] s b:=by
 rw[qm,qm];unfold mk7;rw[app_congr (tup5 h)]
theorem Je(h:v.ev T s b=w.ev T s b):evSs T [mk8 v] s b=evSs T [mk8 w] s b:=by
 rw[qm,qm];unfold mk8;rw[app_congr (tup5 h)]
theorem WU{n:Nat}{q:Int}(h1:s[1]?=some (some (.obj 0)))(h0:b[0]?=some (.lst false (vs.map .int)))(hn:n<vs.length)(hq:0<q):(IV.kp false (.bin .mod (.ix (.var 1) (.cst (.int n))) (.cst (.int q)))).ev T s b=.ok (.int (vs[n] % q)) b:=by
 have L:LsV b (.obj 0) (vs.map .int):=.inr ⟨_,rfl,h0⟩;have ix:(IV.ix (.var 1) (.cst (.int n))).ev T s b=.ok (.int vs[n]) b:=jq (v:=.var 1) (w:=.cst (.int n)) (d:=.obj 0) (d2:=.int n) (by rw[kH,h1];rfl) rfl (by rw[L.ix,aW,ak hn];rfl);exact iMod ix iC hq
theorem wG{x q:Int}(hq:0<q):∃n:Nat,x % q=n/\(n:Int)<q:=by
 refine⟨(x % q).toNat,(gJ (fH _ (by omega))).symm,?_⟩;rw[gJ (fH _ (by omega))];exact fJ _ hq
theorem YI{m:Nat}{d:D}(h:(rng 0 (N:Int))[m]?=some d):d=.int m/\m<N:=by
 unfold rng at h;rw[aW]at h;obtain⟨a,h1,h2⟩:=ah.mp h;obtain⟨h3,h4⟩:=ag.mp h1;rw[List.length_range]at h3;rw[List.getElem_range]at h4;subst h4;refine⟨by rw[<- h2,Int.zero_add],?_⟩;simpa using h3
theorem VH(hv:3<=vs.length):∃i j,i<3/\j<2/\∀tl,evSs ql (hd5++([mk7 m7V]++([mk8 m8V]++(tl2++tl)))) (sc1 (ns.map .int)) [.lst false (vs.map .int)]=sq (midO i j (ns.map .int) (vs.map .int)) (evSs ql tl):=by
 obtain⟨i,ei,li⟩:=wG (x:=vs[0]) (q:=3) (by decide);obtain⟨j,ej,lj⟩:=wG (x:=vs[1]) (q:=2) (by decide);have li:i<3:=by omega
 have lj:j<2:=by omega
 refine⟨i,j,li,lj,fun tl=>?_⟩;have a5:=at5 (ns.map .int) (vs.map .int);have a6:=at6 i li (ns.map .int) (vs.map .int);rw[qL]at a6;unfold midO;rw[YU];show _=sq (evSs ql _ (sc1 (ns.map .int)) _) _;rw[qL,qL];generalize evSs ql hd5 (sc1 (ns.map .int)) [.lst false (vs.map .int)]=o at a5 a6 ⊢
 cases o with
 |nx s b=>
  rw[xz]at a6;rw[xz,xz];have s1:s[1]?=some (some (.obj 0)):=(bQ (bM a5)).1;have b0:b[0]?=some (.lst false (vs.map .int)):=(bQ (bM a5)).2;have e7:m7V.ev ql s b=(IV.lit (iD (lgT i))).ev ql s b:=by
   have d:=WU (T:=ql) (n:=0) (q:=3) s1 b0 (by omega) (by decide);rw[ei]at d;refine jq (d:=.lst [iD [0,1,2],iD [0],iD [2]]) (b1:=b) rfl d ?_
   match i,li with
   |0,_=>rfl
   |1,_=>rfl
   |2,_=>rfl
  rw[qL,qL,Jf e7];generalize evSs ql [mk7 (.lit (iD (lgT i)))] s b=o at a6 ⊢
  cases o with
  |nx s b=>
   rw[xz,xz];have s1:s[1]?=some (some (.obj 0)):=(bQ (bM a6)).1;have b0:b[0]?=some (.lst false (vs.map .int)):=(bQ (bM a6)).2;have e8:m8V.ev ql s b=(IV.lit (iD (lgM j))).ev ql s b:=by
    have d:=WU (T:=ql) (n:=1) (q:=2) s1 b0 (by omega) (by decide);rw[ej]at d;refine jq (d:=.lst [iD [0,1,2],iD [2]]) (b1:=b) rfl d ?_
    match j,lj with
    |0,_=>rfl
    |1,_=>rfl
   rw[qL,qL,Je e8];cases evSs ql [mk8 (.lit (iD (lgM j)))] s b with
   |nx s b=>rw[xz,xz,qL]
   |_=>rfl
  |_=>cases a6
 |_=>cases a5
theorem trn0(hi:i<3)(hj:j<2):∃H,midO i j (ns.map .int) dl=.nx (sT ns stO (some (.int 2)) (some (.tup [.str "journey",.str "m",.str "a",.str "b",iD (lgM j)])) none none none none none none none) H/\H[0]?=some (.lst false dl)/\Trn i j 0 [] [] H stO:=by
 obtain⟨H,dn,h1,hl,hd,h0,B,h65,h66,h67,h68,h69,h70⟩:=qbt i j hi hj (ns.map .int) dl;refine⟨H,h1,h0,⟨tb0 i j,dn,64,[7,23,47],⟨B,rfl,rfl,rfl,rfl,fun w w1 w2 w3 w4=>?_,aI _,by omega,by decide,by decide⟩,⟨_,_,_,_,_,_,rfl,⟨qp (h:=false) h65,.inr ⟨_,rfl,h66⟩,qp (h:=false) h67,qp (h:=false) h68,.inr ⟨_,rfl,h69⟩,qp (h:=false) h70⟩,fun x hx=>?_⟩⟩,⟨fun k hk=>absurd hk aL,List.nodup_nil,List.Perm.nil,List.Pairwise.nil⟩⟩
 ·unfold rows tb0
  rw[zf,ax (bN w3),zf,ax (bN w2),zf,ax (bN w1)];rfl
 ·simp only[aw,aL,bZ]at hx
  rcases hx with rfl|rfl|rfl|rfl|rfl|rfl <;> exact fun n e=>by
   cases e;refine⟨by omega,fun z=>?_⟩;rcases z with z|z|z|z <;> first|omega|(simp at z)
theorem Wb(ns:iM):∃b,Yh [.lst (ns.map .int)] []=.ok (.v (.bl true)) b:=by
 obtain⟨vs,hd,hdr,hvl⟩:=yj (b:=[]) (ins:=ns) (at_:=0) (many:=10) (by omega) (by decide);obtain⟨i,j,hi,hj,hh⟩:=VH (ns:=ns) (vs:=vs) (by omega);obtain⟨H,m1,H0,t0⟩:=trn0 (ns:=ns) (dl:=vs.map .int) hi hj;have e1:(IV.kp false (.call 0 [.var 0,.cst (.int 0),.cst (.int 10)])).ev ql [some (.lst (ns.map .int)),none,none,none,none,none,none,none,none,none,none,none,none,none,none] []=.ok (.obj 0) [.lst false (vs.map .int)]:=by
  rw[qO,jz];show kp false (kP [.lst (ns.map .int),.int ((0:Nat):Int),.int ((10:Nat):Int)] [])=_;rw[hd];rfl
 obtain⟨N,eN,lN⟩:=wG (x:=vs[2]'(by omega)) (q:=31) (by decide);have lN:N<31:=by omega
 show ∃b,outR (evSs ql i_law [some (.lst (ns.map .int)),none,none,none,none,none,none,none,none,none,none,none,none,none,none] [])=_;rw[Y1,qA e1];show ∃b,outR (evSs ql _ (sc1 (ns.map .int)) [.lst false (vs.map .int)])=_;rw[hh,m1,xz];have dm:=WU (T:=ql) (s:=sT ns stO (some (.int 2)) (some (.tup [.str "journey",.str "m",.str "a",.str "b",iD (lgM j)])) none none none none none none none) (n:=2) (q:=31) rfl H0 (by omega) (by decide);rw[eN]at dm;obtain⟨s',b',h1,st,K,BL,m,e5,e6,e8,e9,e10,e11,e12,e13,e14,rfl,h3,h4⟩:=JO (body:=za (.nm 5) (evSs ql ZG)) (fun k s b=>∃st K BL m e5 e6 e8 e9 e10 e11 e12 e13 e14,s=sT ns st e5 e6 e8 e9 e10 e11 e12 e13 e14/\Trn i j m K BL b st/\m<=k) (ds:=rng 0 (N:Int)) (n:=0) (s:=sT ns stO (some (.int 2)) (some (.tup [.str "journey",.str "m",.str "a",.str "b",iD (lgM j)])) none none none none none none none) (b:=H) (fun k d s b hk hP=>by
  obtain⟨st,K,BL,m,e5,e6,e8,e9,e10,e11,e12,e13,e14,rfl,h3,h4⟩:=hP;obtain⟨rfl,hkN⟩:=YI hk;obtain⟨b',st',K',BL',m',f6,f8,f9,f10,f11,f12,f13,f14,q1,q2,q3⟩:=turn (ns:=ns) (e5:=e5) (e6:=e6) (e8:=e8) (e9:=e9) (e10:=e10) (e11:=e11) (e12:=e12) (e13:=e13) (e14:=e14) (k:=k) h3 (by omega) (by omega);exact⟨_,b',q1,st',K',BL',m',_,f6,f8,f9,f10,f11,f12,f13,f14,rfl,q2,by omega⟩) ⟨stO,[],[],0,_,_,_,_,_,_,_,_,_,rfl,t0,aI _⟩
 unfold ml rt;rw[jd (we (m:=N) (by omega) dm),h1,xz];obtain⟨d,b2,s1,s2⟩:=uU hi hj h3;refine⟨b2,?_⟩;rw[zV (r:=.v (.bl true)) (b1:=b2)]
 ·rfl
 ·have c1:(IV.kp false (.call 10 [.var 2])).ev ql (sT ns st e5 e6 e8 e9 e10 e11 e12 e13 e14) b'=.ok d b2:=kpv (by
   rw[W8 (fe:=y0) (d:=.obj 1) (b1:=b') rfl rfl rfl];exact s1)
  rw[JY,c1,R.bind_ok];show R.bind (R.ok st b2) _=_;rw[R.bind_ok,qab,JN,s2];rfl
end
end E
set_option maxHeartbeats 0
namespace E
open PySem PySem.W PySem.Spec PyProof PyProof.Rows L2
noncomputable def hD:List Df:=([⟨0,7,vM,qe,[],none,false,wI,rfl⟩,⟨1,1,zX,z_,[],none,false,z5,rfl⟩,⟨2,1,jy,jK,[1],none,false,jG,rfl⟩,⟨3,0,QU,Ze,[],none,false,Q2,rfl⟩,⟨4,2,zT,jS,[],none,false,qa,rfl⟩,⟨5,1,v_,xp,[],none,false,j4,rfl⟩,⟨6,5,zA,vE,[],none,false,jB,rfl⟩,⟨7,7,zp,qf,[4,6],none,false,qx,rfl⟩,⟨8,5,vr,vH,[4,5,7],none,false,vC,rfl⟩,⟨9,2,zd,zi,[4],none,false,qI,rfl⟩,⟨10,1,j1,j8,[4],none,false,je,rfl⟩,⟨11,8,xR,xZ,[9,10,7],none,false,xV,rfl⟩,⟨12,2,q9,zb,[4],none,false,qh,rfl⟩,⟨13,2,jZ,j7,[12,4],none,false,zg,rfl⟩,⟨14,6,JD,KG,[],none,false,J_,rfl⟩,⟨15,5,jw,jJ,[13,14],none,false,jF,rfl⟩,⟨16,5,zI,zK,[5,4,9,15],none,false,zJ,rfl⟩,⟨17,3,jv,jI,[],none,false,jA,rfl⟩,⟨18,3,JE,KH,[17],none,false,Ka,rfl⟩,⟨19,4,kC,kO,[18],none,false,kI,rfl⟩]:List Df)++([⟨20,12,jO,jT,[13],none,false,jQ,rfl⟩,⟨21,3,zr,qP,[12,4],none,false,zt,rfl⟩,⟨22,2,xa,xr,[20,21],none,false,xf,rfl⟩,⟨23,2,ji,jm,[22],none,false,jk,rfl⟩,⟨24,1,vq,vG,[4],none,false,vB,rfl⟩,⟨25,3,zY,ja,[19,23,24],none,false,z6,rfl⟩,⟨26,3,xb,xu,[13,4],none,false,xg,rfl⟩,⟨27,4,zZ,jb,[26],none,false,z7,rfl⟩,⟨28,6,zD,zF,[27,4,7],none,false,zE,rfl⟩,⟨29,5,jP,jU,[16,25,28],none,false,jR,rfl⟩,⟨30,3,qK,qN,[4],none,false,e_Book_kept_journey,rfl⟩,⟨31,3,jY,xo,[],none,false,qW,rfl⟩,⟨32,7,qw,qy,[30,12,31,4,7],none,false,jE,rfl⟩,⟨33,5,zq,zu,[31,4,7],none,false,zU,rfl⟩,⟨34,2,kX,wQ,[8,11,29,32,33],none,false,y7,rfl⟩,⟨35,9,i_Lafter_two,qj,[],none,false,jC,rfl⟩,⟨36,8,vp,vF,[],none,false,vA,rfl⟩,⟨37,9,i_Lword_two,qd,[],none,false,j5,rfl⟩,⟨38,3,q7,[],[],none,true,qS 0,rfl⟩,⟨38,3,q7,[qS 0],[38],none,false,qS 1,rfl⟩]:List Df)++([⟨38,3,q7,[qS 1],[39],none,false,qS 2,rfl⟩,⟨38,3,q7,[qS 2],[40],none,false,qS 3,rfl⟩,⟨38,3,q7,[qS 3],[41],none,false,qS 4,rfl⟩,⟨38,3,q7,[qS 4],[42],none,false,qS 5,rfl⟩,⟨38,3,q7,[qS 5],[43],none,false,qS 6,rfl⟩,⟨38,3,q7,[qS 6],[44],none,false,qS 7,rfl⟩,⟨38,3,q7,[qS 7],[45],none,false,qS 8,rfl⟩,⟨39,3,QT,Zd,[],none,false,Q1,rfl⟩,⟨40,4,Zr,xq,[34,47],none,false,WT,rfl⟩,⟨41,5,zG,qM,[30,4],none,false,e_Book_shared,rfl⟩,⟨42,1,wy,wP,[4],none,false,wH,rfl⟩,⟨43,2,ze,zj,[9,4],none,false,zh,rfl⟩,⟨44,2,yW,Qi,[51],none,false,yZ,rfl⟩,⟨45,1,kW,k_,[4],none,false,k7,rfl⟩,⟨46,5,QS,KI,[30],none,false,Kb,rfl⟩,⟨47,5,QR,KF,[30],none,false,J9,rfl⟩,⟨48,2,j2,j9,[30,4],none,false,j6,rfl⟩,⟨49,12,wz,qi,[50,52,10,13,21,53,54,55,56,49],none,false,y0,rfl⟩,⟨50,15,i_law,ql,[0,2,3,34,35,36,37,46,48,49,57],none,false,qdh,rfl⟩]:List Df)
theorem YQ:∀i j,nmF nm0 i=nmF nm0 j->i=j:=X4 (by decide +kernel) (by decide +kernel)
theorem WD:hD.map (·.T)=hD.map fun d=>pick (hD.map (·.e)) d.ix:=by rfl
theorem qcv:hL.allB hD=true:=by decide +kernel
theorem qcu:hL.gokB=true:=by decide +kernel
end E
open PySem PySem.W PyProof.Rows E
theorem PySem.Challenge.cw_wayhold_k18_shared_runs_holds : PySem.Challenge.rw_wayhold_k18_shared_runs.Holds := by
 w_on;o_law
 refine holds_open (q:=hQ) (loose:=hB) (Xt:=hX) (XP:=XL hQ []) (Yf:=Hook.obs hK) (Ya:=Hook.val hK) (YP:=Hook.says hK) (N:=20000) qct (Hook.of hK) (Hook.keeps hK) (fun s e=>xl_of s (eI.mp e).1) XL.keeps (by rfl) (by rfl) (by rfl) (fun s e=>recFacts_of (eI.mp e).2) (by rfl) (by first|assumption|decide +kernel) (by decide +kernel) ⟨rfl,rfl,rfl,rfl,rfl,by decide +kernel⟩ ?hw ?hc
 case hw=>w_witness2
 case hc=>
  exact KP (l:=PySem.Challenge.rw_wayhold_k18_shared_runs) (n:=63) (k:=11) (tb:=hL.tb) (cl:=hL.cl) (nm:=nmF nm0) (nmi:=YQ) (F:=Yh) rfl (by decide) rfl ⟨rfl,by decide,by decide⟩ (fun w K o=>Lw.tabs o (by decide +kernel)) (fun w K o mg fa hm base KB GB BM=>Lw.law (nmi:=YQ) (i:=58) (Ds:=hD) o KB GB BM qcu WD qcv rfl rfl rfl hm) Wb
