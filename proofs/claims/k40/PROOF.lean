import PyProof.Rows.All
import Wide.All
import OpenK.AllK
import Wide.FinOn
import Lean
import PyProof.EqAt
import PyProof.EqKinds
import PyProof.TupleCall
import PyProof.CompFree
import PyProof.NeKinds
import PyProof.WalkInts
import KE.KRevSl
import KE.KEqDict
import PyProof.StrCalls2
import PyProof.LongRange
import PyProof.ListRange
import PyProof.StrLawsJoin
import PyProof.FitsReplace
import PyProof.WalksEnum
import PyProof.EnumMake
import PyProof.ZipIter
import PyProof.LayNew
import KE.KNestM
import KE.KLam
import PyProof.OldK
import KE.KSortKey
import PyProof.Rows.CallKwBuiltin
import PyProof.Rows.CallKw2
import KE.KSortTup
import KE.KItemsList
import PyProof.Rows.SortStr
import PyProof.Rows.MinMaxN
import PyProof.AutoSeq1
import PyProof.Rows.SetFrom
import PyProof.CallStr
import PyProof.DictCompW
import PyProof.AttrMissHeap
import KE.KDictOf
import PySem.Challenge.RW_wayhold_k40_whole_a_ride_more_is_no_wors
set_option maxHeartbeats 4000000
set_option maxRecDepth 100000
set_option Elab.async false
set_option linter.all false
namespace L2
open PySem PySem.Spec PyProof.Rows
abbrev Key := Sum Int Str
def ya : Key -> Value -> Bool
 | .inl k, v => Value.isInt k v
 | .inr x, v => Value.isStrOf x v
def keyH (w : World) : Key -> Int
 | .inl k => hashInt k
 | .inr x => hashStr w x
theorem zj : ∀ {k : Key} {v : Value}, ya k v = true -> (∃ i t, k = Sum.inl i /\ v = Value.int i t) \/ (∃ x t, k = Sum.inr x /\ v = Value.str x t)
 | .inl i, v, h => by
  obtain ⟨t, e⟩ := Value.isInt_shape (k := i) (v := v) h
  exact .inl ⟨i, t, rfl, e⟩
 | .inr x, v, h => by
  obtain ⟨t, e⟩ := Value.isStrOf_shape (x := x) (v := v) h
  exact .inr ⟨x, t, rfl, e⟩
theorem Zs (i : Int) (t : Tok) : ya (.inl i) (.int i t) = true := by simp [ya, Value.isInt]
theorem Zr (x : Str) (t : Tok) : ya (.inr x) (.str x t) = true := by simp [ya, Value.isStrOf]
theorem Xr (a b : Int) : decide ((Sum.inl a : Key) = Sum.inl b) = (a == b) := by
 by_cases e : a = b
 ·subst e; simp
 ·have h : ¬ (Sum.inl a : Key) = Sum.inl b := fun q => e (Sum.inl.inj q)
  rw [decide_eq_false h]
  exact (beq_eq_false_iff_ne.mpr e).symm
theorem Ki (a b : Str) : decide ((Sum.inr a : Key) = Sum.inr b) = decide (a = b) := by
 by_cases e : a = b
 ·subst e; simp
 ·have h : ¬ (Sum.inr a : Key) = Sum.inr b := fun q => e (Sum.inr.inj q)
  rw [decide_eq_false h, decide_eq_false e]
theorem Xq (a : Int) (b : Str) : decide ((Sum.inl a : Key) = Sum.inr b) = false := decide_eq_false (fun q => nomatch q)
theorem Xp (a : Str) (b : Int) : decide ((Sum.inr a : Key) = Sum.inl b) = false := decide_eq_false (fun q => nomatch q)
def zo (prog : Program) (w : World) : PySem.KeyKind prog w Key where
 is := ya
 hash := keyH w
 inj := fun v a b ha hb => by
  rcases zj ha with ⟨i, t, rfl, rfl⟩ | ⟨x, t, rfl, rfl⟩
  ·rcases zj hb with ⟨j, u, rfl, e⟩ | ⟨y, u, rfl, e⟩
   ·injection e with e1 _; rw [e1]
   ·exact nomatch e
  ·rcases zj hb with ⟨j, u, rfl, e⟩ | ⟨y, u, rfl, e⟩
   ·exact nomatch e
   ·injection e with e1 _; rw [e1]
 byValue := fun k v h => by
  rcases zj h with ⟨i, t, rfl, rfl⟩ | ⟨x, t, rfl, rfl⟩ <;> rfl
 pyHash := fun hv h => by
  rcases zj hv with ⟨i, t, rfl, rfl⟩ | ⟨x, t, rfl, rfl⟩
  ·exact wpAny_pyHash_int h
  ·exact wpAny_pyHash_str h
 eqBool := fun hu hv h => by
  rcases zj hu with ⟨i, t, rfl, rfl⟩ | ⟨x, t, rfl, rfl⟩
  ·rcases zj hv with ⟨j, u, rfl, rfl⟩ | ⟨y, u, rfl, rfl⟩
   ·rw [Xr] at h; exact wpAny_eqBool_int h
   ·rw [Xq] at h; exact SeqAt.EqAt.int_str i t y u _ _ _ _ h
  ·rcases zj hv with ⟨j, u, rfl, rfl⟩ | ⟨y, u, rfl, rfl⟩
   ·rw [Xp] at h; exact SeqAt.EqAt.str_int x t j u _ _ _ _ h
   ·rw [Ki] at h; exact wpAny_eqBool_str h
 «strs» := fun k x t v h => by
  rcases zj h with ⟨i, u, rfl, e⟩ | ⟨y, u, rfl, e⟩
  ·exact nomatch e
  ·injection e with e1 _
   subst e1
   cases v <;> rfl
theorem w6 (prog : Program) (w : World) (i : Int) (t : Tok) : (zo prog w).is (.inl i) (.int i t) = true := Zs i t
theorem w5 (prog : Program) (w : World) (x : Str) (t : Tok) : (zo prog w).is (.inr x) (.str x t) = true := Zr x t
inductive V where
 | non | bl (b : Bool) | int (i : Int) | str (x : Str) | byt (b : Array UInt8) | flt (b : UInt64) | ref (a : Addr) | ty (n : String)
 deriving DecidableEq
def RelV : V -> Value -> Prop
 | .non, u => u = Value.none
 | .bl b, u => u = Value.bool b
 | .int i, u => ∃ t, u = Value.int i t
 | .str x, u => ∃ t, u = Value.str x t
 | .byt b, u => ∃ t, u = Value.bytes b t
 | .flt b, u => ∃ t, u = Value.float b t
 | .ref a, u => u = Value.ref a
 | .ty n, u => u = Value.type n
abbrev Vals : List V -> List Value -> Prop := Paired RelV
theorem Vals.length {xs : List V} {us : List Value} (r : Vals xs us) : xs.length = us.length := Paired.length r
theorem Vals.get : ∀ {xs : List V} {us : List Value} {i : Nat} {x : V}, Vals xs us -> xs[i]? = some x -> ∃ u, us[i]? = some u /\ RelV x u
 | _, _, _, _, .nil, e => by simp at e
 | _, _, 0, _, .cons r _, e => by simp at e; subst e; exact ⟨_, rfl, r⟩
 | _, _, i + 1, x, .cons _ t, e => by
  obtain ⟨u, h1, h2⟩ := Vals.get (i := i) (x := x) t (by simpa using e)
  exact ⟨u, by simpa using h1, h2⟩
theorem Vals.append : ∀ {xs ys : List V} {us ws : List Value}, Vals xs us -> Vals ys ws -> Vals (xs ++ ys) (us ++ ws)
 | _, _, _, _, .nil, s => s
 | _, _, _, _, .cons r t, s => .cons r (Vals.append t s)
def RelO : Option V -> Option Value -> Prop
 | some v, some u => RelV v u
 | none, none => True
 | _, _ => False
def KV {κ : Type} : List (κ × V) -> List (κ × Value) -> Prop := Paired fun (p : κ × V) (q : κ × Value) => p.1 = q.1 /\ RelV p.2 q.2
def kV : Key -> V
 | .inl i => .int i
 | .inr x => .str x
inductive HO where
 | lst (xs : List V)
 | tup (xs : List V)
 | dK (kvs : List (Key × V)) | dT (kvs : List (List Key × V))
 | set (S : Int -> Bool) (n : Nat)
 | ins (C dx : Addr) (fs : List (Str × V))
 | own (x : Addr)
 | xd (fs : List (Str × V))
 | met (f x : Addr)
 | rng (lo hi : Int)
 | frz (o : Obj) (u : HO)
 | tbl (ps : Array Value)
 | ext (φ : Heap -> Prop)
abbrev Hp := Addr -> Option HO
def upd (H : Hp) (a : Addr) (o : HO) : Hp := fun b => if b = a then some o else H b
theorem qv {H : Hp} {a : Addr} {o : HO} : upd H a o a = some o := by unfold upd; rw [if_pos rfl]
theorem qu {H : Hp} {a b : Addr} {o : HO} (h : b ≠ a) : upd H a o b = H b := by unfold upd; rw [if_neg h]
theorem Zi {H : Hp} {a b : Addr} {o u : HO} (h : H a = some o) (h' : H b = some u) (d : o ≠ u) : a ≠ b := by
 intro e; subst e; rw [h] at h'; exact d (Option.some.inj h')
theorem qV {H : Hp} {a b : Addr} {o : HO} (h : H a = some o) (h' : H b = none) : a ≠ b := by
 intro e; subst e; rw [h] at h'; cases h'
section
variable (P : Program) (w : World)
def ObjOk (H : Hp) (h : Heap) (a : Addr) : HO -> Prop
 | .lst xs => xs.length <= sizeLine /\ ∃ (its : List Value) (n : Nat), Vals xs its /\ h.get? a = some { cls := .type "list", data := .seq its.toArray n }
 | .tup xs => xs.length <= sizeLine /\ ∃ its : List Value, Vals xs its /\ IsTup h a its.toArray
 | .dK kvs => kvs.length <= sizeLine /\ (a == sysModules) = false /\ ∃ vs, KV kvs vs /\ h.DictOf (zo P w) a vs
 | .dT kvs => kvs.length <= sizeLine /\ (a == sysModules) = false /\ ∃ xs : List (List Key × Addr × Value),
   Paired (fun (p : List Key × V) (q : List Key × Addr × Value) => p.1 = q.1 /\ H q.2.1 = some (.tup (p.1.map kV)) /\ RelV p.2 q.2.2) kvs xs /\
   ∃ o es ep, h.get? a = some o /\ o.ExactDict /\ o.data = .dict es ep /\ es.toList = xs.map (entryOfKey (tupleKind (zo P w))) /\ (xs.map (·.1)).Nodup
 | .set S n => h.SetOf (intKind P w) a S n
 | .ins C dx fs => H dx = some (.own a) /\ fs.length <= 1000 /\ dx ≠ a /\ h.get? a = some (PySem.W.instObj C dx) /\
   ∃ mA, h.Ns1 dx mA /\ (∀ f, RelO (fs.lookup f) (mA f)) /\ PySem.Within mA (fs.map (·.1))
 | .own _ => ∃ o, h.get? a = some o
 | .xd fs => ∃ mA, h.Ns1 a mA /\ ∀ f, RelO (fs.lookup f) (mA f)
 | .rng lo hi => ∃ t u v, h.get? a = some { cls := .type "range", data := .fields #[.int lo t, .int hi u, .int 1 v] }
 | .frz o u => h.get? a = some o /\ ObjOk H h a u
 | .tbl ps => h.get? a = some { cls := .none, data := .fields ps }
 | .met f x => h.get? a = some (PySem.W.methodObj (.ref f) (.ref x))
 | .ext φ => φ h /\ (∃ o, h.get? a = some o) /\ ∀ h1 h2 : Heap, φ h1 -> (∀ o, h1.get? a = some o -> h2.get? a = some o) -> φ h2
def HOk (H : Hp) (h : Heap) : Prop := ∀ a o, H a = some o -> ObjOk P w H h a o
end
section
variable {P : Program} {w : World} {H H' : Hp} {h h' : Heap} {a : Addr} {o : HO}
theorem ObjOk.lt (x : ObjOk P w H h a o) : a < h.objs.size := by
 cases o with
 | lst xs => obtain ⟨_, _, _, _, e⟩ := x; exact Heap.lt_size e
 | tup xs => obtain ⟨_, _, _, p⟩ := x; exact p.lt
 | dK kvs => obtain ⟨_, _, _, _, o, _, _, e, _⟩ := x; exact Heap.lt_size e
 | dT kvs => obtain ⟨_, _, _, _, o, _, _, e, _⟩ := x; exact Heap.lt_size e
 | set S n => obtain ⟨o, _, _, _, e, _⟩ := x; exact Heap.lt_size e
 | ins C dx fs => obtain ⟨_, _, _, e, _⟩ := x; exact Heap.lt_size e
 | own y => obtain ⟨_, e⟩ := x; exact Heap.lt_size e
 | xd fs => obtain ⟨_, ⟨_, _, _, e, _⟩, _⟩ := x; exact Heap.lt_size e
 | rng lo hi => obtain ⟨_, _, _, e⟩ := x; exact Heap.lt_size e
 | frz ob u => obtain ⟨e, _⟩ := x; exact Heap.lt_size e
 | tbl ps => exact Heap.lt_size (show h.get? a = some _ from x)
 | met f y => exact Heap.lt_size (show h.get? a = some _ from x)
 | ext φ => obtain ⟨_, ⟨_, e⟩, _⟩ := x; exact Heap.lt_size e
theorem Paired.mapP {α β : Type} {F G : α -> β -> Prop} : ∀ {l₁ : List α} {l₂ : List β}, Paired F l₁ l₂ -> (∀ a b, F a b -> G a b) -> Paired G l₁ l₂
 | _, _, .nil, _ => .nil
 | _, _, .cons r t, f => .cons (f _ _ r) (Paired.mapP t f)
theorem ObjOk.stay (x : ObjOk P w H h a o) (k : ∀ b u, (b = a \/ H b = some (.own a)) -> h.get? b = some u -> h'.get? b = some u)
  (ho : ∀ b, H b = some (.own a) -> H' b = some (.own a)) (ht : ∀ b xs, H b = some (.tup xs) -> H' b = some (.tup xs)) : ObjOk P w H' h' a o := by
 induction o with
 | lst xs => obtain ⟨z, its, n, r, e⟩ := x; exact ⟨z, its, n, r, k _ _ (.inl rfl) e⟩
 | tup xs => obtain ⟨z, its, r, ob, e, c⟩ := x; exact ⟨z, its, r, ob, k _ _ (.inl rfl) e, c⟩
 | dK kvs => obtain ⟨z, y, vs, r, ob, es, ep, e, c⟩ := x; exact ⟨z, y, vs, r, ob, es, ep, k _ _ (.inl rfl) e, c⟩
 | dT kvs =>
  obtain ⟨z, y, xs, r, ob, es, ep, e, c⟩ := x
  exact ⟨z, y, xs, Paired.mapP r fun p q z => ⟨z.1, ht _ _ z.2.1, z.2.2⟩, ob, es, ep, k _ _ (.inl rfl) e, c⟩
 | set S n => obtain ⟨ob, es, ep, t, e, c⟩ := x; exact ⟨ob, es, ep, t, k _ _ (.inl rfl) e, c⟩
 | ins C dx fs =>
  obtain ⟨d, z, ne, e, mA, ⟨od, es, ep, e2, c⟩, r⟩ := x
  exact ⟨ho _ d, z, ne, k _ _ (.inl rfl) e, mA, ⟨od, es, ep, k _ _ (.inr d) e2, c⟩, r⟩
 | own y => obtain ⟨ob, e⟩ := x; exact ⟨ob, k _ _ (.inl rfl) e⟩
 | xd fs => obtain ⟨mA, ⟨od, es, ep, e, c⟩, r⟩ := x; exact ⟨mA, ⟨od, es, ep, k _ _ (.inl rfl) e, c⟩, r⟩
 | rng lo hi => obtain ⟨t, u, v, e⟩ := x; exact ⟨t, u, v, k _ _ (.inl rfl) e⟩
 | frz ob u ih => obtain ⟨e, q⟩ := x; exact ⟨k _ _ (.inl rfl) e, ih q⟩
 | tbl ps =>
  have e : h.get? a = some { cls := .none, data := .fields ps } := x
  show h'.get? a = some { cls := .none, data := .fields ps }
  exact k a _ (.inl rfl) e
 | met f y =>
  have e : h.get? a = some (PySem.W.methodObj (.ref f) (.ref y)) := x
  show h'.get? a = some (PySem.W.methodObj (.ref f) (.ref y))
  exact k a _ (.inl rfl) e
 | ext φ => obtain ⟨p, ⟨o, e⟩, st⟩ := x; exact ⟨st _ _ p fun o q => k _ _ (.inl rfl) q, ⟨o, k _ _ (.inl rfl) e⟩, st⟩
theorem HOk.lt (x : HOk P w H h) (e : H a = some o) : a < h.objs.size := (x a o e).lt
theorem HOk.fresh (x : HOk P w H h) (e : h.objs.size <= a) : H a = none := by
 cases q : H a with
 | none => rfl
 | some u => exact absurd (Nat.lt_of_lt_of_le (x.lt q) e) (Nat.lt_irrefl _)
theorem HOk.kept (x : HOk P w H h) (k : ∀ b u, h.get? b = some u -> h'.get? b = some u) : HOk P w H h' := fun a o e =>
 (x a o e).stay (fun b u _ q => k b u q) (fun _ q => q) fun _ _ q => q
theorem HOk.laid (x : HOk P w H h) (k : ∀ b u, h.get? b = some u -> h'.get? b = some u) (hp : h.objs.size <= a) (new : ObjOk P w (upd H a o) h' a o) : HOk P w (upd H a o) h' := fun b u e => by
 have hn := x.fresh hp
 by_cases hb : b = a
 ·subst hb; rw [qv] at e; cases e; exact new
 ·rw [qu hb] at e
  exact (x b u e).stay (fun c v _ q => k c v q) (fun c q => by rw [qu (qV q hn)]; exact q) fun c xs q => by rw [qu (qV q hn)]; exact q
end
def Rd (H : Hp) (a : Addr) (u : HO) : Prop := H a = some u \/ ∃ o, H a = some (.frz o u)
theorem Rd.ok {P : Program} {w : World} {H : Hp} {h : Heap} {a : Addr} {u : HO} (r : Rd H a u) (x : HOk P w H h) : ObjOk P w H h a u := by
 rcases r with r | ⟨o, r⟩
 ·exact x a u r
 ·obtain ⟨_, q⟩ := x a _ r
  exact q
def Mut : Option HO -> Prop
 | some (.lst _) => True
 | some (.dK _) => True
 | some (.dT _) => True
 | some (.set _ _) => True
 | some (.ins _ _ _) => True
 | some (.ext _) => True
 | _ => False
section
variable {P : Program} {w : World} {H : Hp} {h h' : Heap} {x e : Addr} {o' : HO}
theorem HOk.write (ok : HOk P w H h) (mu : Mut (H x)) (he : e = x \/ H e = some (.own x)) (k : ∀ b u, b ≠ e -> h.get? b = some u -> h'.get? b = some u) (heo : ∃ u, h'.get? e = some u)
  (new : ObjOk P w (upd H x o') h' x o') : HOk P w (upd H x o') h' := fun b u q => by
 have nown : ∀ c y, H c = some (.own y) -> c ≠ x := fun c y r z => by subst z; rw [r] at mu; exact mu
 have ntup : ∀ c xs, H c = some (.tup xs) -> c ≠ x := fun c xs r z => by subst z; rw [r] at mu; exact mu
 by_cases hb : b = x
 ·subst hb; rw [qv] at q; cases q; exact new
 ·rw [qu hb] at q
  by_cases hbe : b = e
  ·have q' : H b = some (.own x) := by
    rcases he with z | z
    ·exact absurd (hbe.trans z) hb
    ·rw [hbe]; exact z
   rw [q] at q'; cases q'
   obtain ⟨v, hv⟩ := heo
   exact ⟨v, by rw [hbe]; exact hv⟩
  ·refine (ok b u q).stay (fun c v hc r => k c v ?_ r) (fun c r => by rw [qu (nown c b r)]; exact r) fun c xs r => by rw [qu (ntup c xs r)]; exact r
   rcases hc with rfl | hc
   ·exact hbe
   ·rintro rfl
    rcases he with z | z
    ·exact nown c b hc z
    ·rw [hc] at z; cases z; exact hb rfl
end
structure Un (fs ex : List Addr) (H H' : Hp) (h h' : Heap) : Prop where
 keep : ∀ b o, h.get? b = some o -> H b = none -> b ∉ fs -> b ∉ ex -> h'.get? b = some o
 slot : ∀ b o, h.get? b = some o -> H b = none -> b ∈ fs -> b ∉ ex -> ∃ sl, h'.get? b = some { o with slots := sl }
 free : ∀ b o, h.get? b = some o -> H b = none -> b ∉ ex -> H' b = none
 there : ∀ b o, h.get? b = some o -> b ∉ ex -> ∃ o', h'.get? b = some o'
 tups : ∀ b xs, H b = some (.tup xs) -> H' b = some (.tup xs)
 frzs : ∀ b o u, H b = some (.frz o u) -> H' b = some (.frz o u)
 tbls : ∀ b ps, H b = some (.tbl ps) -> ∃ more, H' b = some (.tbl (ps ++ more))
section
variable {fs fs' ex ex' : List Addr} {H H1 H2 : Hp} {h h1 h2 h' : Heap} {a x e : Addr} {o : HO}
theorem Un.any (u : Un fs ex H H1 h h1) {b : Addr} {ob : Obj} (q : h.get? b = some ob) (n : H b = none) (hx : b ∉ ex) : ∃ sl, h1.get? b = some { ob with slots := sl } := by
 by_cases hb : b ∈ fs
 ·exact u.slot b ob q n hb hx
 ·exact ⟨ob.slots, u.keep b ob q n hb hx⟩
theorem Un.kept (k : ∀ b u, h.get? b = some u -> h'.get? b = some u) : Un fs ex H H h h' :=
 ⟨fun b ob q _ _ _ => k b ob q, fun b ob q _ _ _ => ⟨ob.slots, k b ob q⟩, fun _ _ _ n _ => n, fun b ob q _ => ⟨ob, k b ob q⟩, fun _ _ q => q, fun _ _ _ q => q, fun _ ps q => ⟨#[], by rw [q]; simp⟩⟩
theorem Un.refl : Un fs ex H H h h := Un.kept fun _ _ q => q
theorem Un.laid (k : ∀ b u, h.get? b = some u -> h'.get? b = some u) (hp : h.objs.size <= a) (hn : H a = none) : Un fs ex H (upd H a o) h h' where
 keep := fun b u q _ _ _ => k b u q
 slot := fun b u q _ _ _ => ⟨u.slots, k b u q⟩
 free := fun b u q n _ => by rw [qu (Nat.ne_of_lt (Nat.lt_of_lt_of_le (Heap.lt_size q) hp))]; exact n
 there := fun b u q _ => ⟨u, k b u q⟩
 tups := fun b xs q => by rw [qu (qV q hn)]; exact q
 frzs := fun b u xs q => by rw [qu (qV q hn)]; exact q
 tbls := fun b ps q => ⟨#[], by rw [qu (qV q hn), q]; simp⟩
theorem Un.write (mu : Mut (H x)) (he : e = x \/ H e = some (.own x)) (k : ∀ b u, b ≠ e -> h.get? b = some u -> h'.get? b = some u) (heo : ∃ u, h'.get? e = some u) : Un fs ex H (upd H x o) h h' := by
 have hx : ∀ b, H b = none -> b ≠ x := fun b n z => by subst z; rw [n] at mu; exact mu
 have hb : ∀ b, H b = none -> b ≠ e := fun b n z => by
  subst z
  rcases he with r | r
  ·exact hx b n r
  ·rw [n] at r; cases r
 have hm : ∀ b u, H b = some u -> ¬ Mut (some u) -> b ≠ x := fun b u q nm z => by subst z; rw [q] at mu; exact nm mu
 refine ⟨fun b u q n _ _ => k b u (hb b n) q, fun b u q n _ _ => ⟨u.slots, k b u (hb b n) q⟩, fun b u q n _ => by rw [qu (hx b n)]; exact n, fun b u q _ => ?_,
  fun b xs q => by rw [qu (hm b _ q fun z => z)]; exact q, fun b u xs q => by rw [qu (hm b _ q fun z => z)]; exact q, fun b ps q => ⟨#[], by rw [qu (hm b _ q fun z => z), q]; simp⟩⟩
 by_cases hbe : b = e
 ·subst hbe; exact heo
 ·exact ⟨u, k b u hbe q⟩
end
def trk (h : Heap) (H : Hp) : List Addr := (List.range h.objs.size).filter fun a => (H a).isSome
def hidT (h : Heap) (H : Hp) : Heap := PySem.W.hideAll h (trk h H)
theorem Zy (h : Heap) (H : Hp) : (hidT h H).objs.size = h.objs.size := PySem.W.hideAll_size _ _
theorem JD {h : Heap} {H : Hp} {b : Addr} {o : Obj} (e : h.get? b = some o) (n : H b = none) : (hidT h H).get? b = some o :=
 PySem.W.hideAll_get _ e fun hm => by
  have q : (H b).isSome = true := (List.mem_filter.mp hm).2
  rw [n] at q; simp at q
theorem K2 {h : Heap} {H : Hp} {b : Addr} {o : Obj} (e : (hidT h H).get? b = some o) : h.get? b = some o /\ H b = none := by
 have e' : h.get? b = some o := PySem.W.of_hideAll (trk h H) e
 refine ⟨e', ?_⟩
 cases q : H b with
 | none => rfl
 | some x =>
  have hm : b ∈ trk h H := List.mem_filter.mpr ⟨List.mem_range.mpr (Heap.lt_size e'), by simp [q]⟩
  have z : (hidT h H).get? b = none := PySem.W.hideAll_none (trk h H) hm
  rw [z] at e; cases e
def vQ (g h : Heap) (L : Addr) : List (Addr × Obj) := (List.range h.objs.size).filterMap fun a => if a = L \/ (g.get? a).isSome = true then none else (h.get? a).map fun o => (a, o)
theorem ka {g h : Heap} {L a : Addr} {o : Obj} (h1 : a ≠ L) (h2 : g.get? a = none) (h3 : h.get? a = some o) : (a, o) ∈ vQ g h L :=
 List.mem_filterMap.mpr ⟨a, List.mem_range.mpr (Heap.lt_size h3), by simp [h1, h2, h3]⟩
theorem vT {g h : Heap} {L : Addr} {p : Addr × Obj} (hp : p ∈ vQ g h L) : p.1 ≠ L /\ g.get? p.1 = none /\ h.get? p.1 = some p.2 := by
 obtain ⟨b, _, e⟩ := List.mem_filterMap.mp hp
 split at e
 ·cases e
 ·rename_i hn
  cases q : h.get? b with
  | none => rw [q] at e; simp at e
  | some u =>
   rw [q] at e
   simp only [Option.map_some, Option.some.injEq] at e
   subst e
   refine ⟨fun z => hn (.inl z), ?_, q⟩
   show g.get? b = none
   cases r : g.get? b with
   | none => rfl
   | some v => exact (hn (.inr (by simp [r]))).elim
def rest (g h : Heap) (L d : Addr) : List (Addr × Obj) := (vQ g h L).filter fun p => decide (p.1 ≠ d)
theorem Jr {g h : Heap} {L : Addr} : News g L h (vQ g h L) := fun p hp => let ⟨a, b, c⟩ := vT hp; ⟨c, a, b⟩
structure Mod (K : PySem.W.Frag) (mg : Str -> Option Value) (base : Heap) : Prop where
 kin : K.In base
 glob : base.Ns mainGlobals mg
 blt : ∃ mb, base.Ns builtinsNs mb /\ ∀ x : Str, x ≠ "__name__" -> mb x = bootBuiltins x
 nolimit : base.NoLimit
structure Cx where
 prog : Program
 w : World
 K : PySem.W.Frag
 mg : Str -> Option Value
 base : Heap
 A : Around
 N : List Str
 s₀ : Shared
 H₀ : Hp
 env : Env
 outer : List Env
 stack : List Env
 ex : List Addr
 fn : Str -> Bool
 calm : Bool
 pn : List (Addr × Obj)
 xe : Value -> Shared -> Prop
def frs (l : List Env) : List Addr := l.filterMap (·.frame)
abbrev Cx.fs (X : Cx) : List Addr := frs X.outer
def Vis (sc : Scope) (x : Str) : Prop := sc.names.lookup x = some .local \/ sc.names.lookup x = some .cell \/ sc.names.lookup x = some .free
def Loc (sc : Scope) (x : Str) : Prop := sc.names.lookup x = some .local \/ sc.names.lookup x = some .cell
def Look (env : Env) (h : Heap) (m : Str -> Option Value) (x : Str) (u : Value) : Prop :=
 (env.kindOf x = some .local /\ m x = some u) \/ ((env.kindOf x = some .cell \/ env.kindOf x = some .free) /\ ∃ c, env.cells.lookup x = some c /\ h.IsCell c (some u))
structure Cx.Ok (X : Cx) : Prop where
 mod : Mod X.K X.mg X.base
 kind : X.env.scope.kind = .function
 glob : X.env.globals = mainGlobals
 blt : X.env.builtins = builtinsNs
 above : X.s₀.heap.objs.size <= X.env.locals
 inj : ∀ x y c, X.env.cells.lookup x = some c -> X.env.cells.lookup y = some c -> x = y
 has : ∀ x, (X.env.kindOf x = some .cell \/ X.env.kindOf x = some .free) -> ∃ c, X.env.cells.lookup x = some c
 cab : ∀ x c, X.fn x = true -> X.env.cells.lookup x = some c -> X.s₀.heap.objs.size <= c
 hd : X.calm = true -> X.A.handled = none
 frames : X.A.frames = some X.stack
 stk : X.stack = X.outer \/ (X.stack = X.env :: X.outer /\ X.env.frame = some X.env.locals)
 exf : ∀ b ∈ X.ex, b ≠ X.env.locals /\ ∀ x c, X.env.cells.lookup x = some c -> c ≠ b
 bs : ∀ b o, X.base.get? b = some o -> X.s₀.heap.get? b = some o /\ X.H₀ b = none
 bsz : X.base.objs.size <= X.s₀.heap.objs.size
 noex : ∀ b o, X.base.get? b = some o -> b ∉ X.ex
 exfs : ∀ b ∈ X.ex, b ∉ X.fs
 funs : X.s₀.heap.FunFrames X.base X.outer
 frf : ∀ b ∈ X.fs, X.H₀ b = none
structure Inv (X : Cx) (pins : List (Addr × Obj)) (σ : List (Option V)) (H : Hp) (s : Shared) : Prop where
 ok : X.Ok
 os : s.os = X.s₀.os
 bare : AllBare s.gens
 base : Un X.fs X.ex X.H₀ H X.s₀.heap s.heap
 loc : ∃ m, s.heap.Ns X.env.locals m /\ ∀ (i : Nat) (x : Str) (v : V), X.N[i]? = some x -> σ[i]? = some (some v) -> Vis X.env.scope x -> ∃ u, RelV v u /\ Look X.env s.heap m x u
 cell : ∀ x c, X.env.cells.lookup x = some c -> ∃ v, s.heap.IsCell c v
 free : H X.env.locals = none
 freeC : ∀ x c, X.env.cells.lookup x = some c -> H c = none
 pin : ∀ p ∈ X.pn ++ pins, s.heap.get? p.1 = some p.2 /\ H p.1 = none /\ p.1 ≠ X.env.locals /\ p.1 ∉ X.fs /\ ∀ v, p.2.data ≠ .cell v
 hok : HOk X.prog X.w H s.heap
 len : σ.length = X.N.length
section
variable {X : Cx} {pins : List (Addr × Obj)} {σ : List (Option V)} {H H' : Hp} {s : Shared} {h' : Heap}
theorem Cx.Ok.nofr (ok : X.Ok) {b : Addr} {o : Obj} (e : X.base.get? b = some o) : b ∉ X.fs := fun hb => by
 have := (ok.funs.mem hb).1
 rw [e] at this; cases this
theorem Inv.bs (I : Inv X pins σ H s) : ∀ b o, X.base.get? b = some o -> s.heap.get? b = some o /\ H b = none := fun b o e =>
 ⟨I.base.keep b o (I.ok.bs b o e).1 (I.ok.bs b o e).2 (I.ok.nofr e) (I.ok.noex b o e), I.base.free b o (I.ok.bs b o e).1 (I.ok.bs b o e).2 (I.ok.noex b o e)⟩
theorem Inv.bk (I : Inv X pins σ H s) : ∀ b o, X.base.get? b = some o -> s.heap.get? b = some o := fun b o e => (I.bs b o e).1
theorem Inv.mod (I : Inv X pins σ H s) : Mod X.K X.mg X.base := I.ok.mod
theorem Inv.kIn (I : Inv X pins σ H s) : X.K.In s.heap := I.ok.mod.kin.keeps I.bk
theorem Inv.lt (I : Inv X pins σ H s) : X.env.locals < s.heap.objs.size := let ⟨_, hn, _⟩ := I.loc; hn.lt
theorem Inv.sz (I : Inv X pins σ H s) : X.s₀.heap.objs.size <= s.heap.objs.size := Nat.le_trans I.ok.above (Nat.le_of_lt I.lt)
theorem Inv.nofs (I : Inv X pins σ H s) {a : Addr} (h : s.heap.objs.size <= a) : a ∉ X.fs := fun hb => by
 obtain ⟨_, o, ho, _⟩ := I.ok.funs.mem hb
 exact absurd (Nat.lt_of_lt_of_le (Heap.lt_size ho) (Nat.le_trans I.sz h)) (Nat.lt_irrefl _)
theorem Inv.cne (I : Inv X pins σ H s) : ∀ x c, X.env.cells.lookup x = some c -> c ≠ X.env.locals := fun x c e z => by
 obtain ⟨v, o, ho, hd⟩ := I.cell x c e
 obtain ⟨m, ⟨o', es, ep, ho', hd', _⟩, _⟩ := I.loc
 rw [z, ho'] at ho; cases ho; rw [hd'] at hd; cases hd
theorem Inv.funs (I : Inv X pins σ H s) : s.heap.FunFrames X.base X.outer := by
 have all : ∀ (l : List Env), (∀ b ∈ frs l, b ∈ X.fs) -> X.s₀.heap.FunFrames X.base l -> s.heap.FunFrames X.base l := by
  intro l
  induction l with
  | nil => intro _ _; trivial
  | cons env r ih =>
   intro hs hl
   obtain ⟨hk, ⟨L, o, hf, hn, ho, hd⟩, hr⟩ := hl
   have hL : L ∈ X.fs := hs L (by unfold frs; rw [List.filterMap_cons, hf]; exact List.mem_cons_self)
   obtain ⟨sl, e⟩ := I.base.slot L o ho (I.ok.frf L hL) hL fun z => I.ok.exfs L z hL
   exact ⟨hk, ⟨L, _, hf, hn, e, hd⟩, ih (fun b hb => hs b (by unfold frs; rw [List.filterMap_cons, hf]; exact List.mem_cons_of_mem _ hb)) hr⟩
 exact all X.outer (fun _ hb => hb) I.ok.funs
theorem Inv.stack (I : Inv X pins σ H s) : s.heap.FunFrames X.base X.stack := by
 rcases I.ok.stk with e | ⟨e, hf⟩
 ·rw [e]; exact I.funs
 ·rw [e]
  obtain ⟨m, hn, _⟩ := I.loc
  refine .cons (by rw [I.ok.kind]; decide) hf hn ?_ I.funs
  exact Heap.get?_none_of_le (Nat.le_trans I.ok.bsz I.ok.above)
theorem Inv.stkSub (I : Inv X pins σ H s) : ∀ b ∈ frs X.stack, b ∈ X.env.locals :: X.fs := fun b hb => by
 rcases I.ok.stk with e | ⟨e, hf⟩
 ·rw [e] at hb; exact List.mem_cons_of_mem _ hb
 ·rw [e] at hb
  unfold frs at hb
  rw [List.filterMap_cons, hf] at hb
  exact hb
theorem Inv.stkFree (I : Inv X pins σ H s) : ∀ b ∈ frs X.stack, H b = none := fun b hb => by
 rcases List.mem_cons.mp (I.stkSub b hb) with e | hb
 ·rw [e]; exact I.free
 ·obtain ⟨_, o, ho, _⟩ := I.ok.funs.mem hb
  exact I.base.free b o ho (I.ok.frf b hb) fun z => I.ok.exfs b z hb
theorem Inv.step {g' : Array GenState} {t' : Nat} {d' : Drawn} {ch : List Addr} (I : Inv X pins σ H s)
  (hch : ∀ b ∈ ch, (b ∈ X.ex \/ X.s₀.heap.objs.size <= b) /\ b ≠ X.env.locals /\ (∀ x c, X.env.cells.lookup x = some c -> c ≠ b) /\ ∀ p ∈ X.pn ++ pins, p.1 ≠ b)
  (keep : ∀ b o, b ≠ X.env.locals -> b ∉ X.fs -> b ∉ ch -> s.heap.get? b = some o -> H b = none -> h'.get? b = some o)
  (slot : ∀ b o, b ≠ X.env.locals -> b ∈ X.fs -> b ∉ ch -> s.heap.get? b = some o -> H b = none -> ∃ sl, h'.get? b = some { o with slots := sl }) (free : ∀ b o, b ∉ ch -> s.heap.get? b = some o -> H b = none -> H' b = none)
  (there : ∀ b o, b ∉ ch -> s.heap.get? b = some o -> ∃ o', h'.get? b = some o')
  (tups : ∀ b xs, H b = some (.tup xs) -> H' b = some (.tup xs)) (frzs : ∀ b o u, H b = some (.frz o u) -> H' b = some (.frz o u)) (tbls : ∀ b ps, H b = some (.tbl ps) -> ∃ more, H' b = some (.tbl (ps ++ more)))
  (ns : ∀ m, s.heap.Ns X.env.locals m -> h'.Ns X.env.locals m) (hok : HOk X.prog X.w H' h') (hg : AllBare g') :
  Inv X pins σ H' { s with heap := h', gens := g', drawn := d', toks := t' } := by
 have neL : ∀ b o, X.s₀.heap.get? b = some o -> b ≠ X.env.locals := fun b o e => Nat.ne_of_lt (Nat.lt_of_lt_of_le (Heap.lt_size e) I.ok.above)
 have neC : ∀ b o, X.s₀.heap.get? b = some o -> b ∉ X.ex -> b ∉ ch := fun b o e hx hb => by
  rcases (hch b hb).1 with z | z
  ·exact hx z
  ·exact absurd (Nat.lt_of_lt_of_le (Heap.lt_size e) z) (Nat.lt_irrefl _)
 have cellK : ∀ x c, X.env.cells.lookup x = some c -> ∀ v, s.heap.IsCell c v -> h'.IsCell c v := fun x c e v ⟨o, ho, hd⟩ => by
  have nch : c ∉ ch := fun z => (hch c z).2.2.1 x c e rfl
  by_cases hc : c ∈ X.fs
  ·obtain ⟨sl, q⟩ := slot c o (I.cne x c e) hc nch ho (I.freeC x c e)
   exact ⟨_, q, hd⟩
  ·exact ⟨o, keep c o (I.cne x c e) hc nch ho (I.freeC x c e), hd⟩
 refine ⟨I.ok, I.os, hg, ⟨fun b o e n hb hx => ?_, fun b o e n hb hx => ?_, fun b o e n hx => ?_, fun b o e hx => ?_, fun b xs e => tups b xs (I.base.tups b xs e), fun b o xs e => frzs b o xs (I.base.frzs b o xs e), fun b ps e => ?_⟩, ?_, fun x c e => ?_, ?_, fun x c e => ?_, fun p hp => ?_, hok, I.len⟩
 ·exact keep b o (neL b o e) hb (neC b o e hx) (I.base.keep b o e n hb hx) (I.base.free b o e n hx)
 ·obtain ⟨sl, e1⟩ := I.base.slot b o e n hb hx
  obtain ⟨sl', e2⟩ := slot b _ (neL b o e) hb (neC b o e hx) e1 (I.base.free b o e n hx)
  exact ⟨sl', e2⟩
 ·obtain ⟨o', e1⟩ := I.base.there b o e hx
  exact free b o' (neC b o e hx) e1 (I.base.free b o e n hx)
 ·obtain ⟨o', e1⟩ := I.base.there b o e hx
  exact there b o' (neC b o e hx) e1
 ·obtain ⟨m1, e1⟩ := I.base.tbls b ps e
  obtain ⟨m2, e2⟩ := tbls b _ e1
  exact ⟨m1 ++ m2, by rw [e2, Array.append_assoc]⟩
 ·obtain ⟨m, hn, hl⟩ := I.loc
  refine ⟨m, ns m hn, fun i x v e1 e2 e3 => ?_⟩
  obtain ⟨u, r, l⟩ := hl i x v e1 e2 e3
  refine ⟨u, r, ?_⟩
  rcases l with l | ⟨k, c, e, z⟩
  ·exact .inl l
  ·exact .inr ⟨k, c, e, cellK x c e _ z⟩
 ·obtain ⟨v, z⟩ := I.cell x c e
  exact ⟨v, cellK x c e v z⟩
 ·obtain ⟨m, ⟨o, _, _, ho, _⟩, _⟩ := I.loc
  exact free _ o (fun z => (hch _ z).2.1 rfl) ho I.free
 ·obtain ⟨v, o, ho, hd⟩ := I.cell x c e
  exact free c o (fun z => (hch c z).2.2.1 x c e rfl) ho (I.freeC x c e)
 ·obtain ⟨e, n, ne, nf, d⟩ := I.pin p hp
  have nch : p.1 ∉ ch := fun z => (hch p.1 z).2.2.2 p hp rfl
  exact ⟨keep p.1 p.2 ne nf nch e n, free p.1 p.2 nch e n, ne, nf, d⟩
theorem Inv.un {t' : Nat} (I : Inv X pins σ H s) (u : Un X.fs [] H H' s.heap h') (hok : HOk X.prog X.w H' h') : Inv X pins σ H' { s with heap := h', toks := t' } := by
 obtain ⟨m, ⟨o, es, ep, ho, r⟩, _⟩ := id I.loc
 obtain ⟨sl, hL⟩ := u.any ho I.free (by simp)
 exact I.step (g' := s.gens) (d' := s.drawn) (ch := []) (fun _ z => nomatch z) (fun b o _ hb _ e n => u.keep b o e n hb (by simp)) (fun b o _ hb _ e n => u.slot b o e n hb (by simp)) (fun b o _ e n => u.free b o e n (by simp)) (fun b o _ e => u.there b o e (by simp)) u.tups u.frzs u.tbls (fun m' hm => by
  obtain ⟨o', es', ep', ho', r'⟩ := hm
  rw [ho] at ho'; cases ho'
  exact ⟨_, es', ep', hL, r'⟩) hok I.bare
theorem Inv.call {g' : Array GenState} {t' : Nat} {d' : Drawn} {ch : List Addr} (I : Inv X pins σ H s) (u : Un (frs X.stack) ch H H' s.heap h') (hok : HOk X.prog X.w H' h') (hg : AllBare g')
  (hch : ∀ b ∈ ch, (b ∈ X.ex \/ X.s₀.heap.objs.size <= b) /\ b ≠ X.env.locals /\ (∀ x c, X.env.cells.lookup x = some c -> c ≠ b) /\ ∀ p ∈ X.pn ++ pins, p.1 ≠ b) :
  Inv X pins σ H' { s with heap := h', gens := g', drawn := d', toks := t' } := by
 obtain ⟨m, ⟨o, es, ep, ho, r⟩, _⟩ := id I.loc
 obtain ⟨sl, hL⟩ := u.any ho I.free fun z => (hch _ z).2.1 rfl
 exact I.step (ch := ch) hch (fun b o hL hb hc e n => u.keep b o e n (fun z => (List.mem_cons.mp (I.stkSub b z)).elim hL hb) hc) (fun b o _ _ hc e n => u.any e n hc) (fun b o hc e n => u.free b o e n hc) (fun b o hc e => u.there b o e hc) u.tups u.frzs u.tbls (fun m' hm => by
  obtain ⟨o', es', ep', ho', r'⟩ := hm
  rw [ho] at ho'; cases ho'
  exact ⟨_, es', ep', hL, r'⟩) hok hg
theorem Inv.turned {t' : Nat} {it : Addr} (I : Inv X pins σ H s) (k : ∀ b o, b ≠ it -> s.heap.get? b = some o -> h'.get? b = some o) (hn : H it = none) (hL : it ≠ X.env.locals)
  (h1 : it ∈ X.ex \/ X.s₀.heap.objs.size <= it) (h2 : ∀ x c, X.env.cells.lookup x = some c -> c ≠ it) (h3 : ∀ p ∈ X.pn ++ pins, p.1 ≠ it) : Inv X pins σ H { s with heap := h', toks := t' } := by
 have nit : ∀ b u, H b = some u -> b ≠ it := fun b u e z => by rw [z, hn] at e; cases e
 refine I.step (g' := s.gens) (d' := s.drawn) (ch := [it]) (fun b hb => ?_) (fun b o _ _ hc e _ => k b o (fun z => hc (by simp [z])) e) (fun b o _ _ hc e _ => ⟨o.slots, k b o (fun z => hc (by simp [z])) e⟩) (fun _ _ _ _ n => n)
  (fun b o hc e => ⟨o, k b o (fun z => hc (by simp [z])) e⟩) (fun _ _ e => e) (fun _ _ _ e => e) (fun b ps e => ⟨#[], by rw [e]; simp⟩) (fun m hm => ?_) (fun b u e => ?_) I.bare
 ·have e : b = it := by simpa using hb
  subst e
  exact ⟨h1, hL, h2, h3⟩
 ·obtain ⟨o, es, ep, ho, r⟩ := hm
  exact ⟨o, es, ep, k _ o (Ne.symm hL) ho, r⟩
 ·refine (I.hok b u e).stay (fun c v hc q => k c v ?_ q) (fun _ q => q) fun _ _ q => q
  rcases hc with z | z
  ·rw [z]; exact nit b u e
  ·exact nit c _ z
theorem Inv.tok (I : Inv X pins σ H s) (t : Nat) : Inv X pins σ H { s with toks := t } := I.un (h' := s.heap) (t' := t) Un.refl I.hok
theorem Inv.kept {t' : Nat} (I : Inv X pins σ H s) (k : ∀ b u, s.heap.get? b = some u -> h'.get? b = some u) : Inv X pins σ H { s with heap := h', toks := t' } := I.un (Un.kept k) (I.hok.kept k)
theorem Inv.laid {a : Addr} {o : HO} {t' : Nat} (I : Inv X pins σ H s) (k : ∀ b u, s.heap.get? b = some u -> h'.get? b = some u) (hp : s.heap.objs.size <= a) (new : ObjOk X.prog X.w (upd H a o) h' a o) :
  Inv X pins σ (upd H a o) { s with heap := h', toks := t' } := I.un (Un.laid k hp (I.hok.fresh hp)) (I.hok.laid k hp new)
theorem Inv.write {x e : Addr} {o : HO} {t' : Nat} (I : Inv X pins σ H s) (mu : Mut (H x)) (he : e = x \/ H e = some (.own x)) (k : ∀ b u, b ≠ e -> s.heap.get? b = some u -> h'.get? b = some u) (heo : ∃ u, h'.get? e = some u)
  (new : ObjOk X.prog X.w (upd H x o) h' x o) : Inv X pins σ (upd H x o) { s with heap := h', toks := t' } := I.un (Un.write mu he k heo) (I.hok.write mu he k heo new)
theorem Inv.pins_of {pins' : List (Addr × Obj)} (I : Inv X pins σ H s) (h : ∀ p ∈ pins', s.heap.get? p.1 = some p.2 /\ H p.1 = none /\ p.1 ≠ X.env.locals /\ p.1 ∉ X.fs /\ ∀ v, p.2.data ≠ .cell v) : Inv X pins' σ H s :=
 ⟨I.ok, I.os, I.bare, I.base, I.loc, I.cell, I.free, I.freeC, fun p hp => (List.mem_append.mp hp).elim (fun z => I.pin p (List.mem_append_left _ z)) (h p), I.hok, I.len⟩
theorem yH {N : List Str} (hN : N.Nodup) {i j : Nat} {x : Str} (a : N[i]? = some x) (b : N[j]? = some x) : i = j := by
 obtain ⟨h1, e1⟩ := List.getElem?_eq_some_iff.mp a
 obtain ⟨h2, e2⟩ := List.getElem?_eq_some_iff.mp b
 exact (List.getElem_inj hN).mp (e1.trans e2.symm)
theorem wb {M : Model} {A : Around} {E : Value -> Shared -> Prop} {i : Nat} {x : Str} {v : V} {u : Value} {Q : Unit -> Shared -> Prop} (I : Inv X pins σ H s) (hN : X.N.Nodup) (hi : X.N[i]? = some x) (hx : Loc X.env.scope x) (r : RelV v u)
  (h : ∀ s', Inv X pins (σ.set i (some v)) H s' -> (∃ a, Heap.SameBut a s.heap s'.heap /\ (a = X.env.locals \/ X.env.cells.lookup x = some a)) -> Q () s') (hf : X.fn x = true \/ X.env.scope.names.lookup x = some .local := by first | exact .inl rfl | exact .inr rfl | assumption) : wpAny M A (storeName X.env x u) Q E s := by
 obtain ⟨m, hn, hl⟩ := id I.loc
 have hcls : (X.env.scope.kind == .class || (X.env.scope.kind == .module && X.env.locals != X.env.globals)) = false := by rw [I.ok.kind]; rfl
 have hiσ : i < σ.length := by rw [I.len]; exact (List.getElem?_eq_some_iff.mp hi).1
 have cne := I.cne
 have tracked : ∀ {a : Addr} {h' : Heap}, (∃ o, s.heap.get? a = some o /\ H a = none) -> Heap.SameBut a s.heap h' -> HOk X.prog X.w H h' := fun {a h'} ha hs b ob e => by
  obtain ⟨_, _, hfree⟩ := ha
  refine (I.hok b ob e).stay (fun c w' hc q => (hs.2 c ?_).trans q) (fun _ q => q) fun _ _ q => q
  rintro rfl
  rcases hc with rfl | hc
  ·rw [hfree] at e; cases e
  ·rw [hfree] at hc; cases hc
 rcases hx with hk | hk
 ·refine wpAny_storeName_local hk hn (fun h' hn' hs => ?_) hcls
  obtain ⟨oL, _, _, hoL, _⟩ := id hn
  refine h _ ⟨I.ok, I.os, I.bare, ⟨fun b o e n hb hx => ?_, fun b o e n hb hx => ?_, I.base.free, fun b o e hx => ?_, I.base.tups, I.base.frzs, I.base.tbls⟩, ⟨_, hn', fun j y v' e1 e2 e3 => ?_⟩, fun y c e => ?_, I.free, I.freeC, fun p hp => ?_, tracked ⟨oL, hoL, I.free⟩ hs, by simpa using I.len⟩ ⟨_, hs, .inl rfl⟩
  ·exact (hs.2 b (Nat.ne_of_lt (Nat.lt_of_lt_of_le (Heap.lt_size e) I.ok.above))).trans (I.base.keep b o e n hb hx)
  ·obtain ⟨sl, e1⟩ := I.base.slot b o e n hb hx
   exact ⟨sl, (hs.2 b (Nat.ne_of_lt (Nat.lt_of_lt_of_le (Heap.lt_size e) I.ok.above))).trans e1⟩
  ·obtain ⟨o', e1⟩ := I.base.there b o e hx
   exact ⟨o', (hs.2 b (Nat.ne_of_lt (Nat.lt_of_lt_of_le (Heap.lt_size e) I.ok.above))).trans e1⟩
  ·by_cases hj : j = i
   ·subst hj
    rw [hi] at e1; cases e1
    rw [List.getElem?_set_self hiσ] at e2
    cases e2
    exact ⟨u, r, .inl ⟨hk, by simp⟩⟩
   ·rw [List.getElem?_set_ne (Ne.symm hj)] at e2
    obtain ⟨u', r', q⟩ := hl j y v' e1 e2 e3
    refine ⟨u', r', ?_⟩
    rcases q with ⟨k, e⟩ | ⟨k, c, e, z⟩
    ·refine .inl ⟨k, ?_⟩
     have : y ≠ x := fun e => hj (yH hN e1 (e ▸ hi))
     simp [this, e]
    ·exact .inr ⟨k, c, e, z.sameBut hs (cne y c e)⟩
  ·obtain ⟨w', z⟩ := I.cell y c e
   exact ⟨w', z.sameBut hs (cne y c e)⟩
  ·obtain ⟨e, n, ne, nf, d⟩ := I.pin p hp
   exact ⟨(hs.2 p.1 ne).trans e, n, ne, nf, d⟩
 ·have hfn : X.fn x = true := by
   rcases hf with z | z
   ·exact z
   ·rw [z] at hk; cases hk
  obtain ⟨c, hc⟩ := I.ok.has x (.inl hk)
  obtain ⟨w', z⟩ := I.cell x c hc
  refine wpAny_storeName_cell I.ok.kind hk hc z (fun h' hc' hs => ?_)
  obtain ⟨oc, hoc, hocd⟩ := id z
  refine h { s with heap := h' } ⟨I.ok, I.os, I.bare, ⟨fun b o e n hb hx => ?_, fun b o e n hb hx => ?_, I.base.free, fun b o e hx => ?_, I.base.tups, I.base.frzs, I.base.tbls⟩, ⟨m, hn.sameBut hs (Ne.symm (cne x c hc)), fun j y v' e1 e2 e3 => ?_⟩, fun y c' e => ?_, I.free, I.freeC, fun p hp => ?_, tracked ⟨oc, hoc, I.freeC x c hc⟩ hs, by simpa using I.len⟩ ⟨c, hs, .inr hc⟩
  ·exact (hs.2 b (Nat.ne_of_lt (Nat.lt_of_lt_of_le (Heap.lt_size e) (I.ok.cab x c hfn hc)))).trans (I.base.keep b o e n hb hx)
  ·obtain ⟨sl, e1⟩ := I.base.slot b o e n hb hx
   exact ⟨sl, (hs.2 b (Nat.ne_of_lt (Nat.lt_of_lt_of_le (Heap.lt_size e) (I.ok.cab x c hfn hc)))).trans e1⟩
  ·obtain ⟨o', e1⟩ := I.base.there b o e hx
   exact ⟨o', (hs.2 b (Nat.ne_of_lt (Nat.lt_of_lt_of_le (Heap.lt_size e) (I.ok.cab x c hfn hc)))).trans e1⟩
  ·by_cases hj : j = i
   ·subst hj
    rw [hi] at e1; cases e1
    rw [List.getElem?_set_self hiσ] at e2
    cases e2
    exact ⟨u, r, .inr ⟨.inl hk, c, hc, hc'⟩⟩
   ·rw [List.getElem?_set_ne (Ne.symm hj)] at e2
    obtain ⟨u', r', q⟩ := hl j y v' e1 e2 e3
    refine ⟨u', r', ?_⟩
    rcases q with q | ⟨k, c', e, z'⟩
    ·exact .inl q
    ·refine .inr ⟨k, c', e, z'.sameBut hs ?_⟩
     rintro rfl
     exact hj (yH hN e1 (I.ok.inj _ _ _ e hc ▸ hi))
  ·by_cases hcc : c' = c
   ·subst hcc; exact ⟨_, hc'⟩
   ·obtain ⟨w2, z2⟩ := I.cell y c' e
    exact ⟨w2, z2.sameBut hs hcc⟩
  ·obtain ⟨e, n, ne, nf, d⟩ := I.pin p hp
   refine ⟨(hs.2 p.1 ?_).trans e, n, ne, nf, d⟩
   intro q
   rw [q, hoc] at e
   have q' : oc = p.2 := Option.some.inj e
   exact d w' (by rw [<- q']; exact hocd)
theorem xq {M : Model} {A : Around} {E : Value -> Shared -> Prop} {i : Nat} {x : Str} {v : V} {u : Value} {Q : Unit -> Shared -> Prop} (I : Inv X pins σ H s) (hN : X.N.Nodup) (hi : X.N[i]? = some x) (hx : Loc X.env.scope x) (r : RelV v u)
  (h : ∀ s', Inv X pins (σ.set i (some v)) H s' -> Q () s') (hf : X.fn x = true \/ X.env.scope.names.lookup x = some .local := by first | exact .inl rfl | exact .inr rfl | assumption) : wpAny M A (storeName X.env x u) Q E s :=
 wb I hN hi hx r (fun s' I' _ => h s' I') hf
theorem Inv.call' {s' : Shared} {ch : List Addr} (I : Inv X pins σ H s) (ho : s'.os = s.os) (u : Un (frs X.stack) ch H H' s.heap s'.heap) (hok : HOk X.prog X.w H' s'.heap) (hg : AllBare s'.gens)
  (hch : ∀ b ∈ ch, (b ∈ X.ex \/ X.s₀.heap.objs.size <= b) /\ b ≠ X.env.locals /\ (∀ x c, X.env.cells.lookup x = some c -> c ≠ b) /\ ∀ p ∈ X.pn ++ pins, p.1 ≠ b) : Inv X pins σ H' s' := by
 obtain ⟨h', g', d', t', o'⟩ := s'
 have e : o' = s.os := ho
 subst e
 exact I.call (g' := g') (t' := t') (d' := d') u hok hg hch
end
abbrev XK := Value -> Option Addr -> Hp -> Prop
abbrev St := List (Option V)
abbrev VK := V -> Hp -> Prop
abbrev TE := St -> Hp -> VK -> Prop
abbrev TT := St -> Hp -> (Bool -> Hp -> Prop) -> Prop
abbrev TA := St -> Hp -> (List V -> Hp -> Prop) -> Prop
structure Ends where
 nx : St -> Hp -> Prop
 rt : VK
 bk : St -> Hp -> Prop := fun _ _ => False
 ct : St -> Hp -> Prop := fun _ _ => False
abbrev TS := Ends -> St -> Hp -> Prop
def EP (X : Cx) (pins : List (Addr × Obj)) (σ : St) (Q : VK) (u : Value) (s' : Shared) : Prop := ∃ v H', Inv X pins σ H' s' /\ RelV v u /\ Q v H'
def TP (X : Cx) (pins : List (Addr × Obj)) (σ : St) (Q : Bool -> Hp -> Prop) (b : Bool) (s' : Shared) : Prop := ∃ H', Inv X pins σ H' s' /\ Q b H'
def AP (X : Cx) (pins : List (Addr × Obj)) (σ : St) (Q : List V -> Hp -> Prop) (us : List Value) (s' : Shared) : Prop := ∃ vs H', Inv X pins σ H' s' /\ Vals vs us /\ Q vs H'
def SP (X : Cx) (pins : List (Addr × Obj)) (D : Ends) (f : Flow) (s' : Shared) : Prop :=
 match f with
 | .next => ∃ σ' H', Inv X pins σ' H' s' /\ D.nx σ' H'
 | .brk => ∃ σ' H', Inv X pins σ' H' s' /\ D.bk σ' H'
 | .cont => ∃ σ' H', Inv X pins σ' H' s' /\ D.ct σ' H'
 | .ret u => ∃ v σ' H', Inv X pins σ' H' s' /\ RelV v u /\ D.rt v H'
def PE (X : Cx) (e : Expr) (t : TE) : Prop :=
 ∀ (pins : List (Addr × Obj)) (s : Shared) (σ : St) (H : Hp) (Q : VK), Inv X pins σ H s -> t σ H Q -> wpAny (model X.prog X.w) X.A (eval e X.env) (EP X pins σ Q) X.xe s
def PT (X : Cx) (e : Expr) (t : TT) : Prop :=
 ∀ (pins : List (Addr × Obj)) (s : Shared) (σ : St) (H : Hp) (Q : Bool -> Hp -> Prop), Inv X pins σ H s -> t σ H Q -> wpAny (model X.prog X.w) X.A (isTrue e X.env (eval e X.env)) (TP X pins σ Q) X.xe s
def PW (X : Cx) (e : Expr) (t : TT) : Prop :=
 ∀ (whole : Sem Value) (pins : List (Addr × Obj)) (s : Shared) (σ : St) (H : Hp) (Q : Bool -> Hp -> Prop), Inv X pins σ H s -> t σ H Q -> wpAny (model X.prog X.w) X.A (isTrue e X.env whole) (TP X pins σ Q) X.xe s
theorem PW.pt {X : Cx} {e : Expr} {t : TT} (h : PW X e t) : PT X e t := h _
def PA (X : Cx) (es : List Expr) (t : TA) : Prop :=
 ∀ (pos : Pos) (pins : List (Addr × Obj)) (s : Shared) (σ : St) (H : Hp) (Q : List V -> Hp -> Prop), Inv X pins σ H s -> t σ H Q -> wpAny (model X.prog X.w) X.A (spliced (backTo pos (starEach es X.env))) (AP X pins σ Q) X.xe s
def PS (X : Cx) (st : Stmt) (t : TS) : Prop :=
 ∀ (pins : List (Addr × Obj)) (s : Shared) (σ : St) (H : Hp) (D : Ends), Inv X pins σ H s -> t D σ H -> wpAny (model X.prog X.w) X.A (exec st X.env) (SP X pins D) X.xe s
def PSs (X : Cx) (st : List Stmt) (t : TS) : Prop :=
 ∀ (pins : List (Addr × Obj)) (s : Shared) (σ : St) (H : Hp) (D : Ends), Inv X pins σ H s -> t D σ H -> wpAny (model X.prog X.w) X.A (execs st X.env) (SP X pins D) X.xe s
theorem thn {α : Type} {t : Sem α} {Q Q' : α -> Shared -> Prop} {M : Model} {A : Around} {E : Value -> Shared -> Prop} {s : Shared} (h : wpAny M A t Q E s) (hQ : ∀ a s, Q a s -> Q' a s) : wpAny M A t Q' E s := wpAny_mono h hQ fun _ _ x => x
section
variable {X : Cx}
def tVar (i : Nat) : TE := fun σ H Q => ∃ v, σ[i]? = some (some v) /\ Q v H
def tC (v : V) : TE := fun _ H Q => Q v H
theorem V3 {i : Nat} {x : Str} {pos : Pos} (hN : X.N[i]? = some x) (hv : Vis X.env.scope x) (hd : (x == ("__debug__" : Str)) = false := by decide) (hcd : (x == ("__classdict__" : Str)) = false := by decide) : PE X (.Name x pos) (tVar i) := by
 intro pins s σ H Q I h
 obtain ⟨v, e, h⟩ := h
 obtain ⟨m, hn, hl⟩ := I.loc
 obtain ⟨u, r, l⟩ := hl i x v hN e hv
 have fin : EP X pins σ Q u s := ⟨v, H, I, r, h⟩
 rcases l with ⟨hk, hm⟩ | ⟨hk, c, hc, hcell⟩
 ·exact wpAny_Name (wpAny_loadName_local I.ok.kind hk hn hm fin) hd
 ·rcases hk with hk | hk
  ·exact wpAny_Name (wpAny_loadName_cell I.ok.kind hk hc hcell fin) hd
  ·exact wpAny_Name (wpAny_loadName_free I.ok.kind hk hc hcell fin hcd) hd
theorem qf {i j pos} : PE X (.Constant (.int i) j pos) (tC (.int i)) := fun _ _ _ H _ I h => wpAny_Constant_int ⟨.int i, H, I.tok _, ⟨_, rfl⟩, h⟩
theorem Q4 {b j pos} : PE X (.Constant (.bool b) j pos) (tC (.bl b)) := fun _ _ _ H _ I h => Constant_bool ⟨.bl b, H, I, rfl, h⟩
theorem QZ {j pos} : PE X (.Constant .none j pos) (tC .non) := fun _ _ _ H _ I h => Constant_none ⟨.non, H, I, rfl, h⟩
theorem QX {x j pos} : PE X (.Constant (.str x) j pos) (tC (.str x)) := fun _ _ _ H _ I h => Calls.Constant_str ⟨.str x, H, I.tok _, ⟨_, rfl⟩, h⟩
def Gl (X : Cx) (x : Str) : Prop := X.env.kindOf x = some .globalImplicit
theorem Zm {E : Value -> Shared -> Prop} {pins : List (Addr × Obj)} {s : Shared} {σ : St} {H : Hp} {x : Str} {u : Value} {pos : Pos} {Q : Value -> Shared -> Prop} (I : Inv X pins σ H s) (hg : Gl X x) (hm : X.mg x = some u) (h : Q u s)
  (hd : (x == ("__debug__" : Str)) = false := by decide) : wpAny (model X.prog X.w) X.A (eval (.Name x pos) X.env) Q E s :=
 Calls.Name_function_global I.ok.kind hg (Calls.loadGlobal_global (by rw [I.ok.glob]; exact I.mod.glob.keeps I.bk) hm h) hd
theorem wt {E : Value -> Shared -> Prop} {pins : List (Addr × Obj)} {s : Shared} {σ : St} {H : Hp} {x : Str} {u : Value} {pos : Pos} {Q : Value -> Shared -> Prop} (I : Inv X pins σ H s) (hg : Gl X x) (hm : X.mg x = none) (hv : bootBuiltins x = some u) (h : Q u s)
  (hn : x ≠ "__name__" := by decide) (hd : (x == ("__debug__" : Str)) = false := by decide) : wpAny (model X.prog X.w) X.A (eval (.Name x pos) X.env) Q E s := by
 obtain ⟨mb, h1, h2⟩ := I.mod.blt
 exact Calls.Name_function_global I.ok.kind hg (Calls.loadGlobal_builtin (by rw [I.ok.glob]; exact I.mod.glob.keeps I.bk) hm (by rw [I.ok.blt]; exact h1.keeps I.bk) ((h2 x hn).trans hv) h) hd
theorem jb {x : Str} {v : V} {u : Value} {pos : Pos} (hg : Gl X x) (hm : X.mg x = some u) (r : RelV v u) (hd : (x == ("__debug__" : Str)) = false := by decide) : PE X (.Name x pos) (tC v) :=
 fun _ _ _ H _ I h => Zm I hg hm ⟨v, H, I, r, h⟩ hd
variable {a b : Expr} {ta tb : TE} {pos : Pos}
def PC (X : Cx) (op : CmpOp) (a b : Expr) (t : TE) : Prop :=
 ∀ (pins : List (Addr × Obj)) (s : Shared) (σ : St) (H : Hp) (Q : VK), Inv X pins σ H s -> t σ H Q ->
  wpAny (model X.prog X.w) X.A (eval a X.env) (fun v s₁ => wpAny (model X.prog X.w) X.A (eval b X.env) (fun u s₂ => wpAny (model X.prog X.w) X.A (compareOp op v u) (EP X pins σ Q) X.xe s₂) X.xe s₁) X.xe s
theorem Jq (b : Expr) {op : CmpOp} (h : op ≠ .In) (h2 : op ≠ .NotIn) : behindInMarks op b = false := by
 have e1 : (op == CmpOp.In) = false := by cases op <;> first | rfl | exact absurd rfl h
 have e2 : (op == CmpOp.NotIn) = false := by cases op <;> first | rfl | exact absurd rfl h2
 cases b <;> simp [behindInMarks, e1, e2]
def tB (t : TE) : TT := fun σ H Q => t σ H fun x H1 => ∃ c, x = .bl c /\ Q c H1
theorem V7 {op : CmpOp} {t : TE} (h : PC X op a b t) (h1 : behindInMarks op b = false := by first | exact Jq _ (by decide) (by decide) | rfl) : PE X (.Compare a [op] [b] pos) t := fun pins s σ H Q I hw => wpAny_Compare1 (h pins s σ H Q I hw) h1
theorem J6 {e : Expr} {t : TE} (h : PE X e t) (he : ∀ whole, isTrue e X.env whole = (do let v <- whole; standAt e.pos; holding [v] (truthy v)) := by intro _; rfl) : PT X e (tB t) := by
 intro pins s σ H Q I hw
 refine isTrue_plain (thn (h pins s σ H _ I hw) fun v s1 ⟨x, H1, I1, r1, q1⟩ => ?_) (he _)
 obtain ⟨d, rfl, q⟩ := q1
 cases r1
 exact wpAny_truthy_bool ⟨H1, I1, q⟩
variable {tA tB' : TT} {rest : List Expr}
def tAnd (t u : TT) : TT := fun σ H Q => t σ H fun c H1 => if c = true then u σ H1 Q else Q false H1
def tNot (t : TT) : TT := fun σ H Q => t σ H fun c H1 => Q (!c) H1
theorem KD (ha : PT X a tA) : PW X (.BoolOp .And [a] pos) tA := by
 intro wh pins s σ H Q I h
 refine isTrue_and (thn (ha pins s σ H Q I h) fun c s1 e => ?_)
 cases c with
 | true => exact isTrue_and_nil e
 | false => exact e
theorem VX (ha : PT X a tA) (hb : PW X (.BoolOp .And (b :: rest) pos) tB') : PW X (.BoolOp .And (a :: b :: rest) pos) (tAnd tA tB') := by
 intro wh pins s σ H Q I h
 refine isTrue_and (thn (ha pins s σ H _ I h) fun c s1 ⟨H1, I1, q1⟩ => ?_)
 cases c with
 | true => exact hb wh pins s1 σ H1 Q I1 q1
 | false => exact ⟨H1, I1, q1⟩
theorem J7 (ha : PT X a tA) : PT X (.UnaryOp .Not a pos) (tNot tA) := by
 intro pins s σ H Q I h
 exact isTrue_not (ha pins s σ H (fun c H1 => Q (!c) H1) I h)
def XN (ta tb : TE) : TE := fun σ H Q => ta σ H fun x H1 => ∃ c, x = .bl c /\ if c = true then tb σ H1 Q else Q (.bl false) H1
theorem Ka {op} {t : TE} (h : PE X a t) : PE X (.BoolOp op [a] pos) t := fun pins s σ H Q I hw => BoolOp_one (h pins s σ H Q I hw)
theorem Kc (ha : PE X a ta) (hb : PE X (.BoolOp .And (b :: rest) pos) tb) : PE X (.BoolOp .And (a :: b :: rest) pos) (XN ta tb) := by
 intro pins s σ H Q I h
 refine BoolOp_and (thn (ha pins s σ H _ I h) fun v s1 ⟨x, H1, I1, r1, q1⟩ => ?_)
 obtain ⟨c, rfl, q1⟩ := q1
 cases r1
 refine wpAny_truthy_bool ?_
 cases c with
 | true => exact hb pins s1 σ H1 Q I1 q1
 | false => exact ⟨.bl false, H1, I1, rfl, q1⟩
end
def SqL (K : PySem.W.Frag) (H : Hp) (a : Addr) (xs : List V) : Prop :=
 Rd H a (.lst xs) \/
  ∃ (o : Obj) (its : Array Value) (n : Nat), K.lookup a = some o /\ o.cls = .type "list" /\ o.dict = none /\ o.data = .seq its n /\ its.size <= sizeLine /\ Vals xs its.toList
def SqT (K : PySem.W.Frag) (H : Hp) (a : Addr) (xs : List V) : Prop :=
 Rd H a (.tup xs) \/
  ∃ (o : Obj) (its : Array Value) (n : Nat), K.lookup a = some o /\ o.cls = .type "tuple" /\ o.data = .seq its n /\ its.size <= sizeLine /\ Vals xs its.toList
def absV : Value -> Option V
 | .none => some .non
 | .bool b => some (.bl b)
 | .int i _ => some (.int i)
 | .str x _ => some (.str x)
 | .bytes b _ => some (.byt b)
 | .float b _ => some (.flt b)
 | .ref a => some (.ref a)
 | .type n => some (.ty n)
 | _ => none
theorem RelV.abs {x : V} {u : Value} (r : RelV x u) : absV u = some x := by
 cases x with
 | non => cases r; rfl
 | bl _ => cases r; rfl
 | int _ => obtain ⟨t, rfl⟩ := r; rfl
 | str _ => obtain ⟨t, rfl⟩ := r; rfl
 | byt _ => obtain ⟨t, rfl⟩ := r; rfl
 | flt _ => obtain ⟨t, rfl⟩ := r; rfl
 | ref _ => cases r; rfl
 | ty _ => cases r; rfl
theorem RelV.inj {x y : V} {u : Value} (r : RelV x u) (q : RelV y u) : x = y := Option.some.inj (r.abs.symm.trans q.abs)
theorem Vals.inj : ∀ {xs ys : List V} {us : List Value}, Vals xs us -> Vals ys us -> xs = ys
 | _, _, _, .nil, .nil => rfl
 | _, _, _, .cons r t, .cons r' t' => by rw [r.inj r', Vals.inj t t']
section
variable {X : Cx} {pins : List (Addr × Obj)} {σ : St} {H : Hp} {s : Shared} {a : Addr} {xs ys : List V}
theorem SqL.of {K : PySem.W.Frag} (h : H a = some (.lst xs)) : SqL K H a xs := .inl (.inl h)
theorem SqT.of {K : PySem.W.Frag} (h : H a = some (.tup xs)) : SqT K H a xs := .inl (.inl h)
theorem Inv.list (I : Inv X pins σ H s) (h : SqL X.K H a xs) : ∃ its : List Value, Vals xs its /\ PlainL s.heap a its.toArray /\ xs.length <= sizeLine := by
 rcases h with h | ⟨o, its, n, hk, hc, hd, hs, hz, r⟩
 ·obtain ⟨z, its, n, r, e⟩ := h.ok I.hok
  exact ⟨its, r, ⟨_, n, e, rfl, rfl, rfl⟩, z⟩
 ·refine ⟨its.toList, r, ⟨o, n, I.kIn a o hk, hc, hd, by simpa using hs⟩, ?_⟩
  have e := r.length
  simp only [Array.length_toList] at e
  omega
theorem Inv.tuple (I : Inv X pins σ H s) (h : SqT X.K H a xs) : ∃ its : List Value, Vals xs its /\ IsTup s.heap a its.toArray /\ xs.length <= sizeLine := by
 rcases h with h | ⟨o, its, n, hk, hc, hs, hz, r⟩
 ·obtain ⟨z, its, r, p⟩ := h.ok I.hok
  exact ⟨its, r, p, z⟩
 ·refine ⟨its.toList, r, ⟨o, I.kIn a o hk, hc, n, by simpa using hs⟩, ?_⟩
  have e := r.length
  simp only [Array.length_toList] at e
  omega
theorem Inv.list_inj (I : Inv X pins σ H s) (h : SqL X.K H a xs) (h' : SqL X.K H a ys) : xs = ys := by
 obtain ⟨its, r, ⟨o, n, e, _, _, d⟩, _⟩ := I.list h
 obtain ⟨its', r', ⟨o', n', e', _, _, d'⟩, _⟩ := I.list h'
 rw [e] at e'; cases e'
 rw [d] at d'
 injection d' with d1 _
 have : its = its' := by simpa using congrArg Array.toList d1
 subst this
 exact r.inj r'
theorem Inv.tuple_inj (I : Inv X pins σ H s) (h : SqT X.K H a xs) (h' : SqT X.K H a ys) : xs = ys := by
 obtain ⟨its, r, ⟨o, e, _, n, d⟩, _⟩ := I.tuple h
 obtain ⟨its', r', ⟨o', e', _, n', d'⟩, _⟩ := I.tuple h'
 rw [e] at e'; cases e'
 rw [d] at d'
 injection d' with d1 _
 have : its = its' := by simpa using congrArg Array.toList d1
 subst this
 exact r.inj r'
end
abbrev Cx.wish (X : Cx) (E : Value -> Shared -> Prop) : Cx := { X with xe := E }
abbrev Cx.nox (X : Cx) : Cx := X.wish fun _ _ => False
theorem Cx.Ok.wish {X : Cx} (ok : X.Ok) (E : Value -> Shared -> Prop) : (X.wish E).Ok :=
 ⟨ok.mod, ok.kind, ok.glob, ok.blt, ok.above, ok.inj, ok.has, ok.cab, ok.hd, ok.frames, ok.stk, ok.exf, ok.bs, ok.bsz, ok.noex, ok.exfs, ok.funs, ok.frf⟩
theorem Cx.Ok.unwish {X : Cx} {E : Value -> Shared -> Prop} (ok : (X.wish E).Ok) : X.Ok :=
 ⟨ok.mod, ok.kind, ok.glob, ok.blt, ok.above, ok.inj, ok.has, ok.cab, ok.hd, ok.frames, ok.stk, ok.exf, ok.bs, ok.bsz, ok.noex, ok.exfs, ok.funs, ok.frf⟩
section
variable {X : Cx} {pins : List (Addr × Obj)} {σ : St} {H : Hp} {s : Shared} {E : Value -> Shared -> Prop}
theorem Inv.wish (I : Inv X pins σ H s) (E : Value -> Shared -> Prop) : Inv (X.wish E) pins σ H s := ⟨I.ok.wish E, I.os, I.bare, I.base, I.loc, I.cell, I.free, I.freeC, I.pin, I.hok, I.len⟩
theorem Inv.unwish (I : Inv (X.wish E) pins σ H s) : Inv X pins σ H s := ⟨I.ok.unwish, I.os, I.bare, I.base, I.loc, I.cell, I.free, I.freeC, I.pin, I.hok, I.len⟩
theorem SP.unwish {D : Ends} {f : Flow} {s' : Shared} (h : SP (X.wish E) pins D f s') : SP X pins D f s' := by
 cases f with
 | next => obtain ⟨σ', H', I, q⟩ := h; exact ⟨σ', H', I.unwish, q⟩
 | brk => obtain ⟨σ', H', I, q⟩ := h; exact ⟨σ', H', I.unwish, q⟩
 | cont => obtain ⟨σ', H', I, q⟩ := h; exact ⟨σ', H', I.unwish, q⟩
 | ret u => obtain ⟨v, σ', H', I, r, q⟩ := h; exact ⟨v, σ', H', I.unwish, r, q⟩
theorem PSs.nox {st : List Stmt} {t : TS} (h : PSs X.nox st t) : PSs X st t := fun pins s σ H D I hw =>
 wpAny_mono (h pins s σ H D (I.wish _) hw) (fun _ _ q => q.unwish) fun _ _ z => False.elim z
end
section
variable {X : Cx} {st : Stmt} {rest : List Stmt} {t u : TS} {e : Expr} {te : TE} {pos : Pos}
def XH : TS := fun D σ H => D.nx σ H
def tSeq (t u : TS) : TS := fun D σ H => t { D with nx := u D } σ H
theorem wR : PSs X [] XH := fun _ _ σ H _ I h => wpAny_execs_nil ⟨σ, H, I, h⟩
theorem jt (h1 : PS X st t) (h2 : PSs X rest u) : PSs X (st :: rest) (tSeq t u) := by
 intro pins s σ H D I h
 refine wpAny_execs_cons (thn (h1 pins s σ H { D with nx := u D } I h) fun f s1 q => ?_)
 cases f with
 | next =>
  obtain ⟨σ', H', I', q⟩ := q
  exact h2 pins s1 σ' H' D I' q
 | ret v => exact q
 | brk => exact q
 | cont => exact q
theorem kI (h1 : PS X st t) : PSs X [st] t := by
 intro pins s σ H D I h
 refine wpAny_execs_cons (thn (h1 pins s σ H D I h) fun f s1 q => ?_)
 cases f with
 | next => exact wpAny_execs_nil q
 | ret v => exact q
 | brk => exact q
 | cont => exact q
theorem Inv.quiet {pins : List (Addr × Obj)} {σ : St} {H : Hp} {s : Shared} (I : Inv X pins σ H s) : interactive X.env = false := by simp [interactive, I.ok.kind]
def XI (te : TE) : TS := fun D σ H => te σ H fun _ H1 => D.nx σ H1
theorem KL (he : PE X e te) (hs : swapsWith e none pos.line X.env = pure false := by rfl) : PS X (.Expr e pos) (XI te) := by
 intro pins s σ H D I h
 exact wpAny_Expr_any (thn (he pins s σ H _ I h) fun v s1 ⟨x, H1, I1, r1, q1⟩ => ⟨σ, H1, I1, q1⟩) I.quiet hs
def tRet (te : TE) : TS := fun D σ H => te σ H D.rt
theorem yE (he : PE X e te) : PS X (.Return (some e) pos) (tRet te) := by
 intro pins s σ H D I h
 exact wpAny_Return_some (thn (he pins s σ H _ I h) fun v s1 ⟨x, H1, I1, r1, q1⟩ => ⟨x, σ, H1, I1, r1, q1⟩)
def tIfS (c : TT) (t u : TS) : TS := fun D σ H => c σ H fun b H1 => if b = true then t D σ H1 else u D σ H1
theorem KJ {c : Expr} {a b : List Stmt} {tc : TT} (hc : PT X c tc) (ha : PSs X a t) (hb : PSs X b u) : PS X (.If c a b pos) (tIfS tc t u) := by
 intro pins s σ H D I h
 refine wpAny_If (thn (hc pins s σ H _ I h) fun d s1 ⟨H1, I1, q1⟩ => ?_)
 cases d with
 | true => exact ha pins s1 σ H1 D I1 q1
 | false => exact hb pins s1 σ H1 D I1 q1
end
abbrev TG := V -> St -> Hp -> (St -> Hp -> Prop) -> Prop
abbrev TGs := List V -> St -> Hp -> (St -> Hp -> Prop) -> Prop
def PG (X : Cx) (target : Expr) (t : TG) : Prop :=
 ∀ (pins : List (Addr × Obj)) (s : Shared) (σ : St) (H : Hp) (v : V) (u : Value) (Q : St -> Hp -> Prop), Inv X pins σ H s -> RelV v u -> t v σ H Q ->
  wpAny (model X.prog X.w) X.A (assign target X.env u) (fun _ s' => ∃ σ' H', Inv X pins σ' H' s' /\ Q σ' H') X.xe s
def PGs (X : Cx) (ts : List Expr) (t : TGs) : Prop :=
 ∀ (pins : List (Addr × Obj)) (s : Shared) (σ : St) (H : Hp) (vs : List V) (us : List Value) (Q : St -> Hp -> Prop), Inv X pins σ H s -> Vals vs us -> t vs σ H Q ->
  wpAny (model X.prog X.w) X.A (assignInOrder ((assignEach ts X.env).map (·.2)) us) (fun _ s' => ∃ σ' H', Inv X pins σ' H' s' /\ Q σ' H') X.xe s
abbrev TIp := V -> V -> Hp -> VK -> Prop
def PIp (X : Cx) (op : Operator) (t : TIp) : Prop :=
 ∀ (pins : List (Addr × Obj)) (s : Shared) (σ : St) (H : Hp) (x y : V) (v u : Value) (Q : VK), Inv X pins σ H s -> RelV x v -> RelV y u -> t x y H Q ->
  wpAny (model X.prog X.w) X.A (inplaceOp op v u) (EP X pins σ Q) X.xe s
section
variable {X : Cx} {pos : Pos}
def JG (i : Nat) : TG := fun v σ H Q => Q (σ.set i (some v)) H
theorem qC {i : Nat} {x : Str} (hN : X.N.Nodup) (hi : X.N[i]? = some x) (hx : Loc X.env.scope x) (hf : X.fn x = true \/ X.env.scope.names.lookup x = some .local := by first | exact .inl rfl | exact .inr rfl | assumption) : PG X (.Name x pos) (JG i) := by
 intro pins s σ H v u Q I r h
 exact wpAny_assign_Name (xq I hN hi hx r (fun s' I' => ⟨_, H, I', h⟩) hf)
def gNil : TGs := fun vs σ H Q => vs = [] /\ Q σ H
def X9 (t : TG) (u : TGs) : TGs := fun vs σ H Q => ∃ v r, vs = v :: r /\ t v σ H fun σ' H' => u r σ' H' Q
theorem QV : PGs X [] gNil := by
 intro pins s σ H vs us Q I r h
 obtain ⟨e, h⟩ := h
 subst e
 cases r
 exact assignInOrder_nil ⟨σ, H, I, h⟩
theorem jW {e : Expr} {es : List Expr} {t : TG} {u : TGs} (h1 : PG X e t) (h2 : PGs X es u)
  (hs : (assignEach (e :: es) X.env).map (·.2) = assign e X.env :: (assignEach es X.env).map (·.2) := by rfl) : PGs X (e :: es) (X9 t u) := by
 intro pins s σ H vs us Q I r h
 obtain ⟨v, vr, e1, h⟩ := h
 subst e1
 cases r with
 | cons r rr =>
  rw [hs]
  refine assignInOrder_cons (thn (h1 pins s σ H _ _ _ I r h) fun _ s1 ⟨σ1, H1, I1, q1⟩ => ?_)
  exact h2 pins s1 σ1 H1 _ _ Q I1 rr q1
def gTup (K : PySem.W.Frag) (n : Nat) (t : TGs) : TG := fun v σ H Q => ∃ a xs, v = .ref a /\ SqT K H a xs /\ xs.length = n /\ t xs σ H Q
theorem J_ {es : List Expr} {k : Nat} {t : TGs} {n : Nat} (hc : X.calm = true) (h : PGs X es t)
  (hn : (assignEach es X.env).length = n := by rfl) (hst : (assignEach es X.env).findIdx? (·.1) = none := by rfl) : PG X (.Tuple es k pos) (gTup X.K n t) := by
 intro pins s σ H v u Q I r hw
 obtain ⟨a, xs, e1, hq, hl, hw⟩ := hw
 subst e1
 cases r
 obtain ⟨its, rv, ht, hz⟩ := I.tuple hq
 refine assign_Tuple_tuple (I.ok.hd hc) ht (by simp [hn, <- hl, rv.length]) hst fun h' hx => ?_
 have I1 : Inv X pins σ H { s with heap := h' } := I.kept (t' := s.toks) fun b o e => hx b o (Nat.ne_of_lt (Heap.lt_size e)) e
 exact h pins _ σ H xs _ Q I1 (by simpa using rv) hw
def tAsg (te : TE) (g : TG) : TS := fun D σ H => te σ H fun x H1 => g x σ H1 D.nx
theorem VZ {tg e : Expr} {te : TE} {g : TG} (he : PE X e te) (hg : PG X tg g) (hs : swapsWithSole [tg] e pos.line X.env = pure false := by rfl) (hw : swappedStores [tg] e X.env = pure none := by rfl)
  (h1 : (assignEach [tg] X.env).map (·.2) = [assign tg X.env] := by rfl) : PS X (.Assign [tg] e pos) (tAsg te g) := by
 intro pins s σ H D I h
 refine wpAny_Assign_stores (thn (he pins s σ H _ I h) fun v s1 ⟨x, H1, I1, r1, q1⟩ => ?_) hs hw
 rw [h1]
 exact thn (hg pins s1 σ H1 x v _ I1 r1 q1) fun _ s2 q => q
theorem yD {i : Nat} {x : Str} {e : Expr} {te : TE} {pos' : Pos} (hN : X.N.Nodup) (hi : X.N[i]? = some x) (hx : Loc X.env.scope x) (he : PE X e te) (hs : swapsWith e (some (.Name x pos')) pos.line X.env = pure false := by rfl) (hf : X.fn x = true \/ X.env.scope.names.lookup x = some .local := by first | exact .inl rfl | exact .inr rfl | assumption) :
  PS X (.Assign [.Name x pos'] e pos) (tAsg te (JG i)) := by
 intro pins s σ H D I h
 refine wpAny_Assign_Name (thn (he pins s σ H _ I h) fun v s1 ⟨y, H1, I1, r1, q1⟩ => ?_) hs
 exact xq I1 hN hi hx r1 (fun s2 I2 => ⟨_, H1, I2, q1⟩) hf
def tAug (i : Nat) (te : TE) (ti : TIp) : TS := fun D σ H => ∃ x, σ[i]? = some (some x) /\ te σ H fun y H1 => ti x y H1 fun z H2 => D.nx (σ.set i (some z)) H2
theorem VY {i : Nat} {x : Str} {e : Expr} {te : TE} {op : Operator} {ti : TIp} {pos' : Pos} (hN : X.N.Nodup) (hi : X.N[i]? = some x) (hx : Loc X.env.scope x) (he : PE X e te) (ho : PIp X op ti) (hf : X.fn x = true \/ X.env.scope.names.lookup x = some .local := by first | exact .inl rfl | exact .inr rfl | assumption) :
  PS X (.AugAssign (.Name x pos') op e pos) (tAug i te ti) := by
 intro pins s σ H D I h
 obtain ⟨v, e1, h⟩ := h
 obtain ⟨m, hn, hl⟩ := I.loc
 have vis : Vis X.env.scope x := by rcases hx with k | k; exact .inl k; exact .inr (.inl k)
 obtain ⟨u, r, l⟩ := hl i x v hi e1 vis
 refine wpAny_AugAssign_Name ?_
 have go : wpAny (model X.prog X.w) X.A (eval e X.env) (fun w s₂ => wpAny (model X.prog X.w) X.A (inplaceOp op u w) (fun r s₃ => wpAny (model X.prog X.w) X.A (storeName X.env x r) (fun _ => SP X pins D .next) X.xe s₃) X.xe s₂) X.xe s := by
  refine thn (he pins s σ H _ I h) fun w s1 ⟨y, H1, I1, r1, q1⟩ => ?_
  refine thn (ho pins s1 σ H1 v y u w _ I1 r r1 q1) fun z s2 ⟨zv, H2, I2, r2, q2⟩ => ?_
  exact xq I2 hN hi hx r2 (fun s3 I3 => ⟨_, H2, I3, q2⟩) hf
 rcases l with ⟨hk, hm⟩ | ⟨hk, c, hc, hcell⟩
 ·exact wpAny_loadName_local I.ok.kind hk hn hm go
 ·rcases hk with hk | hk
  ·exact wpAny_loadName_cell I.ok.kind hk hc hcell go
  ·rcases hx with k | k
   ·have : X.env.scope.names.lookup x = some .free := hk
    rw [k] at this; cases this
   ·have : X.env.scope.names.lookup x = some .free := hk
    rw [k] at this; cases this
def ipI (f : Int -> Int -> Int) : TIp := fun x y H Q => ∃ i j, x = .int i /\ y = .int j /\ Q (.int (f i j)) H
theorem Kl : PIp X .Add (ipI fun i j => i + j) := by
 intro pins s σ H x y v u Q I r1 r2 h
 obtain ⟨i, j, e1, e2, q⟩ := h
 subst e1; subst e2
 obtain ⟨t, rfl⟩ := r1
 obtain ⟨t', rfl⟩ := r2
 exact iadd_int ⟨.int _, H, I.tok _, ⟨_, rfl⟩, q⟩
theorem Xu : PIp X .Sub (ipI fun i j => i - j) := by
 intro pins s σ H x y v u Q I r1 r2 h
 obtain ⟨i, j, e1, e2, q⟩ := h
 subst e1; subst e2
 obtain ⟨t, rfl⟩ := r1
 obtain ⟨t', rfl⟩ := r2
 exact isub_int ⟨.int _, H, I.tok _, ⟨_, rfl⟩, q⟩
def VD (c : TT) (tb : TS) : TS := fun D σ H => ∃ W : Nat -> St -> Hp -> Prop, (∃ m, W m σ H) /\ ∀ m σ H, W m σ H ->
 c σ H fun b H1 => if b = true then ∃ N : St -> Hp -> Prop, (∀ σ' H', N σ' H' -> ∃ m', m' < m /\ W m' σ' H') /\ tb { D with nx := N, ct := N, bk := D.nx } σ H1 else D.nx σ H1
theorem Jb {c : Expr} {body : List Stmt} {tc : TT} {tb : TS} (hp : PassesOwn (model X.prog X.w) X.A X.env X.xe) (hc : PT X c tc) (hb : PSs X body tb) : PS X (.While c body [] pos) (VD tc tb) := by
 intro pins s σ H D I h
 obtain ⟨W, ⟨m0, w0⟩, turn⟩ := h
 refine wpAny_While (codeAny_whileLoop (fun n s' => ∃ σ' H', Inv X pins σ' H' s' /\ W n σ' H') ?_ m0 ⟨σ, H, I, w0⟩)
 rintro n s1 ⟨σ1, H1, I1, w1⟩
 refine wpAny_passesOwn hp (thn (hc pins s1 σ1 H1 _ I1 (turn n σ1 H1 w1)) fun b s2 ⟨H2, I2, q2⟩ => ?_)
 cases b with
 | true =>
  obtain ⟨N, hN, q2⟩ := q2
  rw [if_pos rfl]
  refine wpAny_passesOwn hp (thn (hb pins s2 σ1 H2 _ I2 q2) fun f s3 q3 => ?_)
  cases f with
  | next =>
   obtain ⟨σ3, H3, I3, n3⟩ := q3
   obtain ⟨m', hm, w3⟩ := hN σ3 H3 n3
   exact ⟨m', hm, σ3, H3, I3, w3⟩
  | cont =>
   obtain ⟨σ3, H3, I3, n3⟩ := q3
   obtain ⟨m', hm, w3⟩ := hN σ3 H3 n3
   exact ⟨m', hm, σ3, H3, I3, w3⟩
  | brk => exact q3
  | ret v => exact q3
 | false =>
  rw [if_neg Bool.false_ne_true]
  exact wpAny_execs_nil ⟨σ1, H2, I2, q2⟩
end
structure It where
 go : Nat -> Hp -> Prop
 yld : Nat -> Hp -> V -> Hp -> Prop
 stop : Nat -> Hp -> Prop
def FpOk (X : Cx) (pins : List (Addr × Obj)) (H : Hp) (b : Addr) : Prop :=
 H b = none /\ b ≠ X.env.locals /\ b ∉ X.fs /\ (b ∈ X.ex \/ X.s₀.heap.objs.size <= b) /\ (∀ x c, X.env.cells.lookup x = some c -> c ≠ b) /\ ∀ p ∈ X.pn ++ pins, p.1 ≠ b
theorem Inv.fpOk {X : Cx} {pins : List (Addr × Obj)} {σ : St} {H H' : Hp} {s : Shared} {b : Addr} (I : Inv X pins σ H s) (hb : s.heap.objs.size <= b) (hn : H' b = none) : FpOk X pins H' b := by
 refine ⟨hn, Nat.ne_of_gt (Nat.lt_of_lt_of_le I.lt hb), I.nofs hb, .inr (Nat.le_trans I.sz hb), fun x c e z => ?_, fun p hp z => ?_⟩
 ·obtain ⟨v, q⟩ := I.cell x c e
  exact absurd (Nat.lt_of_lt_of_le q.lt (by rw [z]; exact hb)) (Nat.lt_irrefl _)
 ·exact absurd (Nat.lt_of_lt_of_le (Heap.lt_size (I.pin p hp).1) (by rw [z]; exact hb)) (Nat.lt_irrefl _)
structure Turn (P : Program) (w : World) (K : PySem.W.Frag) (tg : Expr) (J : It) (fp : List Addr) (it : Addr) (tn : Nat -> Heap -> Prop) : Prop where
 mem : it ∈ fp
 obj : ∀ i h, tn i h -> ∀ b ∈ fp, ∃ o, h.get? b = some o /\ ∀ v, o.data ≠ .cell v
 keep : ∀ i h h', tn i h -> (∀ b ∈ fp, ∀ o, h.get? b = some o -> h'.get? b = some o) -> tn i h'
 item : ∀ (X : Cx), X.prog = P -> X.w = w -> X.K = K -> X.calm = true -> ∀ (i : Nat) (pins : List (Addr × Obj)) (s : Shared) (σ : St) (H : Hp) (E : Value -> Shared -> Prop), Inv X pins σ H s -> (∀ b ∈ fp, FpOk X pins H b) -> tn i s.heap -> J.go i H ->
  wpAny (model P w) X.A (pyNext (.ref it)) (fun r s1 => ∃ u, r = some u /\
   wpAny (model P w) X.A (letOwnedTupleGo tg (.ref it) u) (fun _ s2 => ∃ x H', Inv X pins σ H' s2 /\ RelV x u /\ J.yld i H x H' /\ tn (i + 1) s2.heap /\ ∀ b ∈ fp, H' b = none) E s1) E s
 done : ∀ (X : Cx), X.prog = P -> X.w = w -> X.K = K -> X.calm = true -> ∀ (i : Nat) (pins : List (Addr × Obj)) (s : Shared) (σ : St) (H : Hp) (E : Value -> Shared -> Prop), Inv X pins σ H s -> (∀ b ∈ fp, FpOk X pins H b) -> tn i s.heap -> J.stop i H ->
  wpAny (model P w) X.A (pyNext (.ref it)) (fun r s1 => r = none /\ Inv X pins σ H s1) E s
 self : ∀ (A : Around) (i : Nat) (s : Shared) (Q : Value -> Shared -> Prop) (E : Value -> Shared -> Prop), tn i s.heap -> Q (.ref it) s -> wpAny (model P w) A (pyIter (.ref it)) Q E s
abbrev TI := St -> Hp -> (It -> Hp -> Prop) -> Prop
def PIE (X : Cx) (pins : List (Addr × Obj)) (σ : St) (tg : Expr) (R : It -> Hp -> Prop) (itv : Value) (s2 : Shared) : Prop :=
 ∃ (it : Addr) (fp : List Addr) (tn : Nat -> Heap -> Prop) (J : It) (H' : Hp), itv = .ref it /\ Inv X pins σ H' s2 /\ Turn X.prog X.w X.K tg J fp it tn /\ tn 0 s2.heap /\ (∀ b ∈ fp, FpOk X pins H' b) /\ R J H'
def PI (X : Cx) (tg iter : Expr) (wi : TI) : Prop :=
 ∀ (pins : List (Addr × Obj)) (s : Shared) (σ : St) (H : Hp) (R : It -> Hp -> Prop), Inv X pins σ H s -> wi σ H R ->
  wpAny (model X.prog X.w) X.A (eval iter X.env) (fun v s1 => wpAny (model X.prog X.w) X.A (pyIter v) (PIE X pins σ tg R) X.xe s1) X.xe s
theorem Vh {M : Model} {A : Around} {E : Value -> Shared -> Prop} {s : Shared} {tg : Expr} {it : Addr} {u : Value} {o : Obj} {n : String} {vs : Array Value} {Q : Unit -> Shared -> Prop} (ho : s.heap.get? it = some o) (hc : o.cls = .type n) (hd : o.data = .fields vs)
  (hn : ["enumerate", "zip", "dict_itemiterator", "dict_reverseitemiterator", "odict_iterator", "itertools.zip_longest", "itertools.pairwise"].contains n = false) (hQ : Q () s) : wpAny M A (letOwnedTupleGo tg (.ref it) u) Q E s := by
 unfold letOwnedTupleGo
 cases tg <;> first
  | exact wpAny_pure hQ
  | (cases u <;> first
    | exact wpAny_pure hQ
    | (refine wpAny_bind (wpAny_load ho ?_)
       rw [hc, hd]
       show wpAny M A (if (["enumerate", "zip", "dict_itemiterator", "dict_reverseitemiterator", "odict_iterator", "itertools.zip_longest", "itertools.pairwise"].contains n && vs[0]? == some (rawInt _)) = true then _ else _) Q E s
       rw [if_neg (by intro h; rw [hn, Bool.false_and] at h; cases h)]
       exact wpAny_pure hQ))
def Itl (K : PySem.W.Frag) (a : Addr) : It :=
 ⟨fun i H => ∃ xs x, SqL K H a xs /\ xs[i]? = some x, fun i H x H' => H' = H /\ ∀ xs, SqL K H a xs -> xs[i]? = some x, fun i H => ∃ xs, SqL K H a xs /\ xs.length <= i⟩
def Itt (K : PySem.W.Frag) (a : Addr) : It :=
 ⟨fun i H => ∃ xs x, SqT K H a xs /\ xs[i]? = some x, fun i H x H' => H' = H /\ ∀ xs, SqT K H a xs -> xs[i]? = some x, fun i H => ∃ xs, SqT K H a xs /\ xs.length <= i⟩
def Itr (lo : Int) (n : Nat) : It := ⟨fun i _ => i < n, fun i H x H' => H' = H /\ x = .int (lo + i), fun i _ => n <= i⟩
theorem Qq {P : Program} {w : World} {K : PySem.W.Frag} {tg : Expr} (a it : Addr) : Turn P w K tg (Itl K a) [it] it (fun i h => h.IsListIter it a i) where
 mem := by simp
 obj := fun i h st b hb => by
  have e : b = it := by simpa using hb
  subst e
  obtain ⟨o, e, c, d⟩ := st
  exact ⟨o, e, fun v z => by rw [d] at z; cases z⟩
 keep := fun i h h' st k => st.at fun o e => k it (by simp) o e
 item := by
  intro X hP hw hK hc i pins s σ H E I hf st hg
  subst hP hw hK
  obtain ⟨xs, x, hq, hx⟩ := hg
  obtain ⟨its, rv, p, hz⟩ := I.list hq
  obtain ⟨u, hu, ru⟩ := rv.get hx
  obtain ⟨f0, f1, f2, f3, f4, f5⟩ := hf it (by simp)
  refine wpAny_pyNext_list_item st p.isList (x := u) (by simpa using hu) fun h' st' sb => ?_
  have I1 : Inv X pins σ H { s with heap := h' } := I.turned (t' := s.toks) (fun b o hb e => (sb.2 b hb).trans e) f0 f1 f3 f4 f5
  obtain ⟨o, e, c, d⟩ := id st'
  exact ⟨u, rfl, Vh (s := { s with heap := h' }) e c d (by decide) ⟨x, H, I1, ru, ⟨rfl, fun ys hy => by rw [I.list_inj hy hq]; exact hx⟩, st', fun b hb => (hf b hb).1⟩⟩
 done := by
  intro X hP hw hK hc i pins s σ H E I hf st hg
  subst hP hw hK
  obtain ⟨xs, hq, hx⟩ := hg
  obtain ⟨its, rv, p, hz⟩ := I.list hq
  obtain ⟨f0, f1, f2, f3, f4, f5⟩ := hf it (by simp)
  have hl := rv.length
  exact wpAny_pyNext_list_end (I.ok.hd hc) st p.isList (by simp; omega) fun h' eb => ⟨rfl, I.turned (t' := s.toks) (fun b o hb e => eb b o hb e) f0 f1 f3 f4 f5⟩
 self := fun _ _ _ _ _ st h => wpAny_pyIter_listiter st h
theorem Qa {P : Program} {w : World} {K : PySem.W.Frag} {tg : Expr} (a it : Addr) : Turn P w K tg (Itt K a) [it] it (fun i h => h.IsTupleIter it a i) where
 mem := by simp
 obj := fun i h st b hb => by
  have e : b = it := by simpa using hb
  subst e
  obtain ⟨o, e, c, d⟩ := st
  exact ⟨o, e, fun v z => by rw [d] at z; cases z⟩
 keep := fun i h h' st k => st.at fun o e => k it (by simp) o e
 item := by
  intro X hP hw hK hc i pins s σ H E I hf st hg
  subst hP hw hK
  obtain ⟨xs, x, hq, hx⟩ := hg
  obtain ⟨its, rv, p, hz⟩ := I.tuple hq
  obtain ⟨u, hu, ru⟩ := rv.get hx
  obtain ⟨f0, f1, f2, f3, f4, f5⟩ := hf it (by simp)
  refine wpAny_pyNext_tuple_item st (show s.heap.IsTuple a its.toArray from p) (x := u) (by simpa using hu) fun h' st' sb => ?_
  have I1 : Inv X pins σ H { s with heap := h' } := I.turned (t' := s.toks) (fun b o hb e => (sb.2 b hb).trans e) f0 f1 f3 f4 f5
  obtain ⟨o, e, c, d⟩ := id st'
  exact ⟨u, rfl, Vh (s := { s with heap := h' }) e c d (by decide) ⟨x, H, I1, ru, ⟨rfl, fun ys hy => by rw [I.tuple_inj hy hq]; exact hx⟩, st', fun b hb => (hf b hb).1⟩⟩
 done := by
  intro X hP hw hK hc i pins s σ H E I hf st hg
  subst hP hw hK
  obtain ⟨xs, hq, hx⟩ := hg
  obtain ⟨its, rv, p, hz⟩ := I.tuple hq
  obtain ⟨f0, f1, f2, f3, f4, f5⟩ := hf it (by simp)
  have hl := rv.length
  exact wpAny_pyNext_tuple_end (I.ok.hd hc) st (show s.heap.IsTuple a its.toArray from p) (by simp; omega) fun h' eb => ⟨rfl, I.turned (t' := s.toks) (fun b o hb e => eb b o hb e) f0 f1 f3 f4 f5⟩
 self := fun _ _ _ _ _ st h => wpAny_pyIter_tupleiter st h
theorem Qb {P : Program} {w : World} {K : PySem.W.Frag} {tg : Expr} (it : Addr) (lo : Int) (n : Nat) : Turn P w K tg (Itr lo n) [it] it (fun i h => IsRangeIter h it (lo + (i : Nat) * 1) ((n : Int) - (i : Nat)) 1) where
 mem := by simp
 obj := fun i h st b hb => by
  have e : b = it := by simpa using hb
  subst e
  exact ⟨_, st, fun v z => by
   have z' : Data.fields _ = Data.cell v := z
   cases z'⟩
 keep := fun i h h' st k => k it (by simp) _ st
 item := by
  intro X hP hw hK hc i pins s σ H E I hf st hg
  subst hP hw hK
  obtain ⟨f0, f1, f2, f3, f4, f5⟩ := hf it (by simp)
  have W := Walks.range (prog := X.prog) (w := X.w) (I.ok.hd hc) it lo 1 n
  refine W.item i s _ _ hg st fun v h' tk hv st' kk => ?_
  obtain ⟨t, rfl⟩ := hv
  have I1 : Inv X pins σ H { s with heap := h', toks := tk } := I.turned (fun b o hb e => kk b o (by simpa using hb) e) f0 f1 f3 f4 f5
  refine ⟨_, rfl, Vh (s := { s with heap := h', toks := tk }) (n := "range_iterator") st' rfl rfl (by decide) ⟨.int (lo + i), H, I1, ⟨t, ?_⟩, ⟨rfl, rfl⟩, st', fun b hb => (hf b hb).1⟩⟩
  rw [Int.mul_one]
 done := by
  intro X hP hw hK hc i pins s σ H E I hf st hg
  subst hP hw hK
  obtain ⟨f0, f1, f2, f3, f4, f5⟩ := hf it (by simp)
  exact wpAny_pyNext_range_end (I.ok.hd hc) st (by have : n <= i := hg; omega) fun h' eb => ⟨rfl, I.turned (t' := s.toks) (fun b o hb e => eb b o hb e) f0 f1 f3 f4 f5⟩
 self := fun _ _ _ _ _ st h => wpAny_pyIter_rangeiter st h
section
variable {X : Cx} {tg : Expr}
def X6 (K : PySem.W.Frag) (tl : TE) : TI := fun σ H R => tl σ H fun x H1 => ∃ a, x = .ref a /\ (∃ xs, SqL K H1 a xs) /\ R (Itl K a) H1
def iTup (K : PySem.W.Frag) (tl : TE) : TI := fun σ H R => tl σ H fun x H1 => ∃ a, x = .ref a /\ (∃ xs, SqT K H1 a xs) /\ R (Itt K a) H1
theorem vB {l : Expr} {tl : TE} (hl : PE X l tl) : PI X tg l (X6 X.K tl) := by
 intro pins s σ H R I h
 refine thn (hl pins s σ H _ I h) fun v s1 ⟨x, H1, I1, r1, q1⟩ => ?_
 obtain ⟨a, e, ⟨xs, hq⟩, q⟩ := q1
 subst e
 cases r1
 obtain ⟨its, rv, p, hz⟩ := I1.list hq
 refine wpAny_pyIter_list p.isList ?_
 refine ⟨s1.heap.objs.size, [s1.heap.objs.size], _, _, H1, rfl, I1.kept (t' := s1.toks) fun b o e => Heap.get?_push_of_some _ e, Qq a _, ⟨_, Heap.get?_push_size _ rfl, rfl, rfl⟩, fun b hb => ?_, q⟩
 have e : b = s1.heap.objs.size := by simpa using hb
 subst e
 exact I1.fpOk (Nat.le_refl _) (I1.hok.fresh (Nat.le_refl _))
theorem V2 {l : Expr} {tl : TE} (hl : PE X l tl) : PI X tg l (iTup X.K tl) := by
 intro pins s σ H R I h
 refine thn (hl pins s σ H _ I h) fun v s1 ⟨x, H1, I1, r1, q1⟩ => ?_
 obtain ⟨a, e, ⟨xs, hq⟩, q⟩ := q1
 subst e
 cases r1
 obtain ⟨its, rv, p, hz⟩ := I1.tuple hq
 refine wpAny_pyIter_tuple (show s1.heap.IsTuple a its.toArray from p) ?_
 refine ⟨s1.heap.objs.size, [s1.heap.objs.size], _, _, H1, rfl, I1.kept (t' := s1.toks) fun b o e => Heap.get?_push_of_some _ e, Qa a _, ⟨_, Heap.get?_push_size _ rfl, rfl, rfl⟩, fun b hb => ?_, q⟩
 have e : b = s1.heap.objs.size := by simpa using hb
 subst e
 exact I1.fpOk (Nat.le_refl _) (I1.hok.fresh (Nat.le_refl _))
theorem Z_ {pins : List (Addr × Obj)} {σ : St} {H : Hp} {s : Shared} {R : It -> Hp -> Prop} {E : Value -> Shared -> Prop} {lo hi : Int} {t u v : Tok} {tk : Nat} (I : Inv X pins σ H s) (h1 : -(2 ^ 62) <= lo) (h2 : lo < 2 ^ 62) (h3 : -(2 ^ 62) <= hi) (h4 : hi < 2 ^ 62)
  (q : R (Itr lo (hi - lo).toNat) H) : wpAny (model X.prog X.w) X.A (pyIter (.ref s.heap.objs.size)) (PIE X pins σ tg R) E { s with heap := s.heap.push { cls := .type "range", data := .fields #[.int lo t, .int hi u, .int 1 v] }, toks := tk } := by
 refine wpAny_pyIter_range (IsRange.new ..) (small_one h1 h2 h3 h4) ?_
 have I1 : Inv X pins σ H { s with heap := s.heap.push { cls := .type "range", data := .fields #[.int lo t, .int hi u, .int 1 v] }, toks := tk } := I.kept fun b o e => Heap.get?_push_of_some _ e
 refine ⟨(s.heap.push { cls := .type "range", data := .fields #[.int lo t, .int hi u, .int 1 v] }).objs.size, [(s.heap.push { cls := .type "range", data := .fields #[.int lo t, .int hi u, .int 1 v] }).objs.size], _, _, H, rfl,
  I1.kept (t' := tk) fun b o e => Heap.get?_push_of_some _ e, Qb _ lo (hi - lo).toNat, ?_, fun b hb => ?_, q⟩
 ·have e1 : lo + ((0 : Nat) : Int) * 1 = lo := by simp
  have e2 : (((hi - lo).toNat : Nat) : Int) - ((0 : Nat) : Int) = Builtin.Range.rangeSize lo hi 1 := by rw [rangeSize_one]; split <;> omega
  show IsRangeIter _ _ (lo + ((0 : Nat) : Int) * 1) ((((hi - lo).toNat : Nat) : Int) - ((0 : Nat) : Int)) 1
  rw [e1, e2]
  exact Heap.get?_push_size _ rfl
 ·have e : b = (s.heap.push { cls := .type "range", data := .fields #[.int lo t, .int hi u, .int 1 v] }).objs.size := by simpa using hb
  subst e
  exact I1.fpOk (Nat.le_refl _) (I1.hok.fresh (Nat.le_refl _))
def X5 (ta : TA) : TI := fun σ H R => ta σ H fun vs H1 => ∃ j : Int, vs = [.int j] /\ -(2 ^ 62) <= j /\ j < 2 ^ 62 /\ R (Itr 0 j.toNat) H1
theorem QT {a : Expr} {ta : TA} {p pos : Pos} (hg : Gl X "range") (hm : X.mg "range" = none) (ha : PA X [a] ta) (hs : starEach [a] X.env = [(false, eval a X.env)] := by rfl) : PI X tg (.Call (.Name "range" p) [a] [] pos) (X5 ta) := by
 intro pins s σ H R I h
 refine Call_ (wt I hg hm boot_range (PyProof.Rows.callWith_type1 (thn (ha pos pins s σ H _ I h) fun us s1 ⟨vs, H1, I1, r1, q1⟩ => ?_) hs rfl))
 obtain ⟨j, e, q1, q2, q⟩ := q1
 subst e
 cases r1 with
 | cons r rr =>
  cases rr
  obtain ⟨t, rfl⟩ := r
  exact call_range_1 (Z_ I1 (by omega) (by omega) q1 q2 (by simpa using q))
def tFor (wi : TI) (g : TG) (tb : TS) : TS := fun D σ H => wi σ H fun J H1 => ∃ W : Nat -> Nat -> St -> Hp -> Prop, (∃ m, W 0 m σ H1) /\ ∀ i m σ H, W i m σ H ->
 (J.stop i H /\ D.nx σ H) \/ (J.go i H /\ ∃ N : St -> Hp -> Prop, (∀ σ' H', N σ' H' -> ∃ m', m' < m /\ W (i + 1) m' σ' H') /\ ∀ x H', J.yld i H x H' -> g x σ H' fun σ2 H2 => tb { D with nx := N, ct := N, bk := D.nx } σ2 H2)
def v4 (fp : List Addr) (h : Heap) : List (Addr × Obj) := fp.filterMap fun b => (h.get? b).map fun o => (b, o)
theorem ja {fp : List Addr} {h : Heap} {b : Addr} {o : Obj} (hb : b ∈ fp) (e : h.get? b = some o) : (b, o) ∈ v4 fp h := List.mem_filterMap.mpr ⟨b, hb, by rw [e]; rfl⟩
theorem Zd {fp : List Addr} {h : Heap} {p : Addr × Obj} (hp : p ∈ v4 fp h) : p.1 ∈ fp /\ h.get? p.1 = some p.2 := by
 obtain ⟨b, hb, e⟩ := List.mem_filterMap.mp hp
 cases q : h.get? b with
 | none => rw [q] at e; cases e
 | some o =>
  rw [q] at e
  have e' : (b, o) = p := Option.some.inj e
  subst e'
  exact ⟨hb, q⟩
theorem Inv.pinned {pins : List (Addr × Obj)} {σ : St} {H : Hp} {s : Shared} {fp : List Addr} (I : Inv X pins σ H s) (hf : ∀ b ∈ fp, FpOk X pins H b) (ho : ∀ b ∈ fp, ∃ o, s.heap.get? b = some o /\ ∀ v, o.data ≠ .cell v) : Inv X (pins ++ v4 fp s.heap) σ H s :=
 I.pins_of fun p hp => (List.mem_append.mp hp).elim (fun z => I.pin p (List.mem_append_right _ z)) fun z => by
  obtain ⟨hb, e⟩ := Zd z
  obtain ⟨f0, f1, f2, _⟩ := hf p.1 hb
  obtain ⟨o, e', d⟩ := ho p.1 hb
  rw [e] at e'; cases e'
  exact ⟨e, f0, f1, f2, d⟩
theorem Inv.unpinned {pins pl : List (Addr × Obj)} {σ : St} {H : Hp} {s : Shared} (I : Inv X (pins ++ pl) σ H s) : Inv X pins σ H s := I.pins_of fun p hp => I.pin p (List.mem_append_right _ (List.mem_append_left _ hp))
theorem QN {iter : Expr} {body : List Stmt} {wi : TI} {g : TG} {tb : TS} {pos : Pos} (hp : PassesOwn (model X.prog X.w) X.A X.env X.xe) (hc : X.calm = true) (hi : PI X tg iter wi) (hg : PG X tg g) (hb : PSs X body tb)
  (hs : ∀ x, foldedSetIterable iter X.env x = pure x := by intro _; rfl) : PS X (.For tg iter body [] pos) (tFor wi g tb) := by
 intro pins s σ H D I h
 refine wpAny_For (thn (hi pins s σ H _ I h) fun v s1 h1 => thn h1 fun itv s2 h2 => ?_) hs
 obtain ⟨it, fp, tn, J, H2, e, I2, T, st2, f2, W, ⟨m0, w0⟩, turn⟩ := h2
 subst e
 have stat : ∀ {H' : Hp}, (∀ b ∈ fp, H' b = none) -> ∀ b ∈ fp, FpOk X pins H' b := fun hn b hb => ⟨hn b hb, (f2 b hb).2⟩
 refine codeAny_forLoop_any (fun n s' => ∃ i σ' H', Inv X pins σ' H' s' /\ tn i s'.heap /\ (∀ b ∈ fp, H' b = none) /\ W i n σ' H') ?_ m0 ⟨0, σ, H2, I2, st2, fun b hb => (f2 b hb).1, w0⟩
 rintro n s3 ⟨i, σ3, H3, I3, st3, fr3, w3⟩
 rcases turn i n σ3 H3 w3 with ⟨stop, qn⟩ | ⟨go, N, hN, step⟩
 ·refine wpAny_passesOwn hp (thn (T.done X rfl rfl rfl hc i pins s3 σ3 H3 X.xe I3 (stat fr3) st3 stop) fun r s4 ⟨hr, I4⟩ => ?_)
  subst hr
  exact wpAny_execs_nil ⟨σ3, H3, I4, qn⟩
 ·refine wpAny_passesOwn hp (thn (T.item X rfl rfl rfl hc i pins s3 σ3 H3 X.xe I3 (stat fr3) st3 go) fun r s4 ⟨u, hr, h4⟩ => ?_)
  subst hr
  refine wpAny_passesOwn hp (thn h4 fun _ s5 ⟨x, H5, I5, r5, y5, st5, fr5⟩ => ?_)
  have I5' := I5.pinned (stat fr5) (T.obj _ _ st5)
  refine wpAny_passesOwn hp (thn (hg _ s5 σ3 H5 x u _ I5' r5 (step x H5 y5)) fun _ s6 ⟨σ6, H6, I6, q6⟩ => ?_)
  refine wpAny_passesOwn hp (thn (hb _ s6 σ6 H6 _ I6 q6) fun f s7 q7 => ?_)
  have again : ∀ {σ7 : St} {H7 : Hp}, Inv X (pins ++ v4 fp s5.heap) σ7 H7 s7 -> N σ7 H7 -> ∃ m, m < n /\ ∃ i σ' H', Inv X pins σ' H' s7 /\ tn i s7.heap /\ (∀ b ∈ fp, H' b = none) /\ W i m σ' H' := fun {σ7 H7} I7 n7 => by
   obtain ⟨m', hm, w7⟩ := hN σ7 H7 n7
   refine ⟨m', hm, i + 1, σ7, H7, I7.unpinned, T.keep _ _ _ st5 fun b hb o e => (I7.pin (b, o) (List.mem_append_right _ (List.mem_append_right _ (ja hb e)))).1, fun b hb => ?_, w7⟩
   obtain ⟨o, e, d⟩ := T.obj _ _ st5 b hb
   exact (I7.pin (b, o) (List.mem_append_right _ (List.mem_append_right _ (ja hb e)))).2.1
  cases f with
  | next => obtain ⟨σ7, H7, I7, n7⟩ := q7; exact again I7 n7
  | cont => obtain ⟨σ7, H7, I7, n7⟩ := q7; exact again I7 n7
  | brk => obtain ⟨σ7, H7, I7, q7⟩ := q7; exact ⟨σ7, H7, I7.unpinned, q7⟩
  | ret v => obtain ⟨x7, σ7, H7, I7, r7, q7⟩ := q7; exact ⟨x7, σ7, H7, I7.unpinned, r7, q7⟩
end
theorem JI {K : PySem.W.Frag} {a : Addr} {xs : List V} {g : TG} {tb : TS} {D : Ends} {σ : St} {H : Hp} (Pv : Nat -> St -> Hp -> Prop) (h0 : Pv 0 σ H) (hl : ∀ i σ H, i <= xs.length -> Pv i σ H -> SqL K H a xs)
  (hs : ∀ i x σ H, xs[i]? = some x -> Pv i σ H -> g x σ H fun σ2 H2 => tb { D with nx := Pv (i + 1), ct := Pv (i + 1), bk := D.nx } σ2 H2) (hd : ∀ σ H, Pv xs.length σ H -> D.nx σ H) :
  ∃ W : Nat -> Nat -> St -> Hp -> Prop, (∃ m, W 0 m σ H) /\ ∀ i m σ H, W i m σ H ->
   ((Itl K a).stop i H /\ D.nx σ H) \/ ((Itl K a).go i H /\ ∃ N : St -> Hp -> Prop, (∀ σ' H', N σ' H' -> ∃ m', m' < m /\ W (i + 1) m' σ' H') /\ ∀ x H', (Itl K a).yld i H x H' -> g x σ H' fun σ2 H2 => tb { D with nx := N, ct := N, bk := D.nx } σ2 H2) := by
 refine ⟨fun i m σ H => m = xs.length - i /\ i <= xs.length /\ Pv i σ H, ⟨xs.length, by simp, Nat.zero_le _, h0⟩, ?_⟩
 rintro i m σ H ⟨rfl, hi, p⟩
 have q := hl i σ H hi p
 by_cases hlt : i < xs.length
 ·refine .inr ⟨⟨xs, xs[i], q, by simp [hlt]⟩, Pv (i + 1), fun σ' H' p' => ⟨xs.length - (i + 1), by omega, rfl, hlt, p'⟩, fun x H' y => ?_⟩
  obtain ⟨e, y⟩ := y
  subst e
  exact hs i x σ _ (y xs q) p
 ·have e : i = xs.length := by omega
  subst e
  exact .inl ⟨⟨xs, q, Nat.le_refl _⟩, hd σ H p⟩
abbrev R2 := V -> V -> Hp -> VK -> Prop
def OpR (X : Cx) (f : Value -> Value -> Sem Value) (r : R2) : Prop :=
 ∀ (pins : List (Addr × Obj)) (s : Shared) (σ : St) (H : Hp) (x y : V) (v u : Value) (Q : VK), Inv X pins σ H s -> RelV x v -> RelV y u -> r x y H Q ->
  wpAny (model X.prog X.w) X.A (f v u) (EP X pins σ Q) X.xe s
def UnR (X : Cx) (f : Value -> Sem Value) (r : V -> Hp -> VK -> Prop) : Prop :=
 ∀ (pins : List (Addr × Obj)) (s : Shared) (σ : St) (H : Hp) (x : V) (v : Value) (Q : VK), Inv X pins σ H s -> RelV x v -> r x H Q ->
  wpAny (model X.prog X.w) X.A (f v) (EP X pins σ Q) X.xe s
def CallR (X : Cx) (f : Value) (r : List V -> Hp -> VK -> Prop) : Prop :=
 ∀ (pins : List (Addr × Obj)) (s : Shared) (σ : St) (H : Hp) (xs : List V) (us : List Value) (Q : VK), Inv X pins σ H s -> Vals xs us -> r xs H Q ->
  wpAny (model X.prog X.w) X.A (call f us) (EP X pins σ Q) X.xe s
def TruR (X : Cx) (r : V -> Hp -> (Bool -> Hp -> Prop) -> Prop) : Prop :=
 ∀ (pins : List (Addr × Obj)) (s : Shared) (σ : St) (H : Hp) (x : V) (v : Value) (Q : Bool -> Hp -> Prop), Inv X pins σ H s -> RelV x v -> r x H Q ->
  wpAny (model X.prog X.w) X.A (truthy v) (TP X pins σ Q) X.xe s
def tOp (r : R2) (ta tb : TE) : TE := fun σ H Q => ta σ H fun x H1 => tb σ H1 fun y H2 => r x y H2 Q
def tUn (r : V -> Hp -> VK -> Prop) (ta : TE) : TE := fun σ H Q => ta σ H fun x H1 => r x H1 Q
def rI (C : Int -> Int -> Prop) (g : Int -> Int -> V) : R2 := fun x y H Q => ∃ i j, x = .int i /\ y = .int j /\ C i j /\ Q (g i j) H
def rI0 (g : Int -> Int -> V) : R2 := fun x y H Q => ∃ i j, x = .int i /\ y = .int j /\ Q (g i j) H
def rU (g : Int -> V) : V -> Hp -> VK -> Prop := fun x H Q => ∃ i, x = .int i /\ Q (g i) H
section
variable {X : Cx} {a b c : Expr} {ta tb tc : TE} {pos : Pos}
theorem binT (ha : PE X a ta) (hb : PE X b tb) {pins : List (Addr × Obj)} {s : Shared} {σ : St} {H : Hp} {R : V -> V -> Hp -> Prop} (I : Inv X pins σ H s)
  (h : ta σ H fun x H1 => tb σ H1 fun y H2 => R x y H2) {Q : Value -> Shared -> Prop} {f : Value -> Value -> Sem Value}
  (hf : ∀ v u s2 x y H2, Inv X pins σ H2 s2 -> RelV x v -> RelV y u -> R x y H2 -> wpAny (model X.prog X.w) X.A (f v u) Q X.xe s2) :
  wpAny (model X.prog X.w) X.A (eval a X.env) (fun v s₁ => wpAny (model X.prog X.w) X.A (eval b X.env) (fun u s₂ => wpAny (model X.prog X.w) X.A (f v u) Q X.xe s₂) X.xe s₁) X.xe s := by
 refine thn (ha pins s σ H _ I h) fun v s1 ⟨x, H1, I1, r1, q1⟩ => ?_
 refine thn (hb pins s1 σ H1 _ I1 q1) fun u s2 ⟨y, H2, I2, r2, q2⟩ => ?_
 exact hf v u s2 x y H2 I2 r1 r2 q2
theorem KO {op : Operator} {r : R2} (ho : OpR X (binaryOp op) r) (ha : PE X a ta) (hb : PE X b tb) : PE X (.BinOp a op b pos) (tOp r ta tb) := by
 intro pins s σ H Q I h
 exact wpAny_BinOp (binT ha hb I h fun v u s2 x y H2 I2 rx ry q => ho pins s2 σ H2 x y v u Q I2 rx ry q)
theorem XU {op : UnaryOp} {r : V -> Hp -> VK -> Prop} (ho : UnR X (unaryOp op) r) (ha : PE X a ta) : PE X (.UnaryOp op a pos) (tUn r ta) := by
 intro pins s σ H Q I h
 exact UnaryOp_ (thn (ha pins s σ H _ I h) fun v s1 ⟨x, H1, I1, r1, q1⟩ => ho pins s1 σ H1 x v Q I1 r1 q1)
theorem opI {f : Value -> Value -> Sem Value} {C : Int -> Int -> Prop} {g : Int -> Int -> Int}
  (rule : ∀ (i j : Int) (t u : Tok) (s : Shared) (Q : Value -> Shared -> Prop) (E : Value -> Shared -> Prop), C i j -> Q (.int (g i j) s.toks) { s with toks := s.toks + 1 } -> wpAny (model X.prog X.w) X.A (f (.int i t) (.int j u)) Q E s) :
  OpR X f (rI C fun i j => .int (g i j)) := by
 intro pins s σ H x y v u Q I rx ry h
 obtain ⟨i, j, rfl, rfl, hc, q⟩ := h
 obtain ⟨t, rfl⟩ := rx
 obtain ⟨t', rfl⟩ := ry
 exact rule i j t t' s _ _ hc ⟨.int (g i j), H, I.tok _, ⟨_, rfl⟩, q⟩
theorem opI0 {f : Value -> Value -> Sem Value} {g : Int -> Int -> Int}
  (rule : ∀ (i j : Int) (t u : Tok) (s : Shared) (Q : Value -> Shared -> Prop) (E : Value -> Shared -> Prop), Q (.int (g i j) s.toks) { s with toks := s.toks + 1 } -> wpAny (model X.prog X.w) X.A (f (.int i t) (.int j u)) Q E s) :
  OpR X f (rI0 fun i j => .int (g i j)) := by
 intro pins s σ H x y v u Q I rx ry h
 obtain ⟨i, j, rfl, rfl, q⟩ := h
 obtain ⟨t, rfl⟩ := rx
 obtain ⟨t', rfl⟩ := ry
 exact rule i j t t' s _ _ ⟨.int (g i j), H, I.tok _, ⟨_, rfl⟩, q⟩
theorem opB0 {f : Value -> Value -> Sem Value} {g : Int -> Int -> Bool}
  (rule : ∀ (i j : Int) (t u : Tok) (s : Shared) (Q : Value -> Shared -> Prop) (E : Value -> Shared -> Prop), Q (.bool (g i j)) s -> wpAny (model X.prog X.w) X.A (f (.int i t) (.int j u)) Q E s) :
  OpR X f (rI0 fun i j => .bl (g i j)) := by
 intro pins s σ H x y v u Q I rx ry h
 obtain ⟨i, j, rfl, rfl, q⟩ := h
 obtain ⟨t, rfl⟩ := rx
 obtain ⟨t', rfl⟩ := ry
 exact rule i j t t' s _ _ ⟨.bl (g i j), H, I, rfl, q⟩
def CDiv (i j : Int) : Prop := 0 < j /\ j < 1073741824
def CPow (i j : Int) : Prop := 0 <= j /\ j <= 1000000 /\ i.natAbs < 2 ^ 64
def CMul (i j : Int) : Prop := (-(2 ^ 64) < i /\ i < 2 ^ 64) \/ (-(2 ^ 64) < j /\ j < 2 ^ 64)
theorem CMul.ok {i j : Int} (h : CMul i j) : IntMulOk i j := by
 rcases h with ⟨h1, h2⟩ | ⟨h1, h2⟩
 ·exact .of_left (intBits_le_64 h1 h2)
 ·exact .of_right (intBits_le_64 h1 h2)
theorem Kf : OpR X (binaryOp .Add) (rI0 fun i j => .int (i + j)) := opI0 fun _ _ _ _ _ _ _ q => add_int q
theorem v9 : OpR X (binaryOp .Sub) (rI0 fun i j => .int (i - j)) := opI0 fun _ _ _ _ _ _ _ q => sub_int q
theorem j5 : OpR X (binaryOp .Mult) (rI CMul fun i j => .int (i * j)) := opI fun _ _ _ _ _ _ _ hc q => mul_int q hc.ok
theorem wX : OpR X (binaryOp .FloorDiv) (rI CDiv fun i j => .int (i / j)) := opI fun i j _ _ _ _ _ hc q => by
 have h1 : (0 : Int) < j := hc.1
 have h2 : j < 1073741824 := hc.2
 exact floordiv_int (by omega) (by rw [Int.fdiv_eq_ediv_of_nonneg i (by omega)]; exact q) (.inl (PyProof.noPylong_small (by omega)))
theorem qR : OpR X (binaryOp .Mod) (rI (fun _ j => 0 < j) fun i j => .int (i % j)) := opI fun i j _ _ _ _ _ hc q => by
 have h1 : (0 : Int) < j := hc
 exact mod_int' (by omega) (by rw [Int.fmod_eq_emod_of_nonneg i (by omega)]; exact q)
theorem yG : OpR X (binaryOp .Pow) (rI CPow fun i j => .int (i ^ j.toNat)) := opI fun _ _ _ _ _ _ _ hc q => pow_int_small hc.1 hc.2.1 hc.2.2 q
theorem unI {f : Value -> Sem Value} {g : Int -> Int}
  (rule : ∀ (i : Int) (t : Tok) (s : Shared) (Q : Value -> Shared -> Prop) (E : Value -> Shared -> Prop), Q (.int (g i) s.toks) { s with toks := s.toks + 1 } -> wpAny (model X.prog X.w) X.A (f (.int i t)) Q E s) :
  UnR X f (rU fun i => .int (g i)) := by
 intro pins s σ H x v Q I rx h
 obtain ⟨i, rfl, q⟩ := h
 obtain ⟨t, rfl⟩ := rx
 exact rule i t s _ _ ⟨.int (g i), H, I.tok _, ⟨_, rfl⟩, q⟩
theorem VA : UnR X (unaryOp .USub) (rU fun i => .int (-i)) := unI fun _ _ _ _ _ q => neg_int q
theorem Kp {pins : List (Addr × Obj)} {σ : St} {H : Hp} {s : Shared} {Q : VK} {k k' : Bool} (I : Inv X pins σ H s) (q : Q (.bl k) H) (e : k = k') : EP X pins σ Q (.bool k') s := by
 subst e
 exact ⟨.bl k, H, I, rfl, q⟩
theorem KW : OpR X (compareOp .Lt) (rI0 fun i j => .bl (decide (i < j))) := opB0 fun _ _ _ _ _ _ _ q => lt_int q
theorem XX : OpR X (compareOp .LtE) (rI0 fun i j => .bl (decide (i <= j))) := opB0 fun _ _ _ _ _ _ _ q => le_int q
theorem Q8 : OpR X (compareOp .Gt) (rI0 fun i j => .bl (decide (j < i))) := opB0 fun _ _ _ _ _ _ _ q => gt_int q
theorem KY : OpR X (compareOp .GtE) (rI0 fun i j => .bl (decide (j <= i))) := opB0 fun _ _ _ _ _ _ _ q => ge_int q
theorem Xc : OpR X (compareOp .Is) (fun x y H Q => y = .non /\ Q (.bl (decide (x = .non))) H) := by
 intro pins s σ H x y v u Q I rx ry h
 obtain ⟨rfl, q⟩ := h
 cases ry
 refine is_none_gen (Kp I q ?_)
 cases x <;> first
  | (cases rx; rfl)
  | (obtain ⟨t, rfl⟩ := rx; rfl)
theorem KU : OpR X (compareOp .IsNot) (fun x y H Q => y = .non /\ Q (.bl (!decide (x = .non))) H) := by
 intro pins s σ H x y v u Q I rx ry h
 obtain ⟨rfl, q⟩ := h
 cases ry
 refine isnot_none_gen (Kp I q ?_)
 cases x <;> first
  | (cases rx; rfl)
  | (obtain ⟨t, rfl⟩ := rx; rfl)
theorem OpR.or {f : Value -> Value -> Sem Value} {r r' : R2} (h : OpR X f r) (h' : OpR X f r') : OpR X f (fun x y H Q => r x y H Q \/ r' x y H Q) := by
 intro pins s σ H x y v u Q I rx ry q
 rcases q with q | q
 ·exact h pins s σ H x y v u Q I rx ry q
 ·exact h' pins s σ H x y v u Q I rx ry q
theorem zk (b : Expr) {op : CmpOp} (h : op ≠ .In := by decide) (h2 : op ≠ .NotIn := by decide) : behindInMarks op b = false := by
 have e1 : (op == CmpOp.In) = false := by cases op <;> first | rfl | exact absurd rfl h
 have e2 : (op == CmpOp.NotIn) = false := by cases op <;> first | rfl | exact absurd rfl h2
 cases b <;> simp [behindInMarks, e1, e2]
theorem Q2 {op : CmpOp} {r : R2} (ho : OpR X (compareOp op) r) (ha : PE X a ta) (hb : PE X b tb) (hm : behindInMarks op b = false) : PE X (.Compare a [op] [b] pos) (tOp r ta tb) := by
 intro pins s σ H Q I h
 exact wpAny_Compare1 (binT ha hb I h fun v u s2 x y H2 I2 rx ry q => ho pins s2 σ H2 x y v u Q I2 rx ry q) hm
def XG (t : TE) : TT := fun σ H Q => t σ H fun x H' => ∃ k, x = .bl k /\ Q k H'
theorem QL {op : CmpOp} {r : R2} (ho : OpR X (compareOp op) r) (ha : PE X a ta) (hb : PE X b tb) (hm : behindInMarks op b = false) : PT X (.Compare a [op] [b] pos) (XG (tOp r ta tb)) := by
 intro pins s σ H Q I h
 refine wpAny_isTrue_Compare1 (thn (ha pins s σ H _ I h) fun v s1 ⟨x, H1, I1, r1, q1⟩ => thn (hb pins s1 σ H1 _ I1 q1) fun u s2 ⟨y, H2, I2, r2, q2⟩ =>
  thn (ho pins s2 σ H2 x y v u _ I2 r1 r2 q2) fun c s3 ⟨z, H3, I3, r3, k, e, q3⟩ => ?_) hm
 subst e
 cases r3
 exact wpAny_truthy_bool ⟨H3, I3, q3⟩
def TruV (K : PySem.W.Frag) (x : V) (H : Hp) (k : Bool) : Prop :=
 match x with
 | .non => k = false
 | .bl b => k = b
 | .int i => k = (i != 0)
 | .str y => y.length <= sizeLine /\ k = ((y.length : Int) != 0)
 | .byt y => y.size <= sizeLine /\ k = ((y.size : Int) != 0)
 | .ref p => (∃ xs, SqL K H p xs /\ k = !xs.isEmpty) \/ (∃ xs, SqT K H p xs /\ k = !xs.isEmpty) \/ ∃ kvs, H p = some (.dK kvs) /\ k = !kvs.isEmpty
 | _ => False
theorem Qk {κ : Type} {kvs : List (κ × V)} {vs : List (κ × Value)} (r : KV kvs vs) : (!vs.isEmpty) = !kvs.isEmpty := by
 cases r <;> rfl
theorem xg {xs : List V} {its : List Value} (r : Vals xs its) : (!its.toArray.isEmpty) = !xs.isEmpty := by
 cases r <;> simp
theorem xa : (sizeLine : Nat) < 2 ^ 63 := by rw [sizeLine_eq]; decide
theorem jy : TruR X (fun x H Q => ∃ k, TruV X.K x H k /\ Q k H) := by
 intro pins s σ H x v Q I rx h
 obtain ⟨k, e, q⟩ := h
 have hl := xa
 have hs : sizeLine = 16777216 := sizeLine_eq
 cases x with
 | non =>
  cases rx
  have e' : k = false := e
  subst e'
  exact truthy_none ⟨H, I, q⟩
 | bl b =>
  cases rx
  have e' : k = b := e
  subst e'
  exact wpAny_truthy_bool ⟨H, I, q⟩
 | int i =>
  obtain ⟨t, rfl⟩ := rx
  have e' : k = (i != 0) := e
  subst e'
  exact PySem.P.truthy_int ⟨H, I, q⟩
 | str y =>
  obtain ⟨t, rfl⟩ := rx
  obtain ⟨hy, e'⟩ : y.length <= sizeLine /\ k = ((y.length : Int) != 0) := e
  subst e'
  exact PySem.P.truthy_str (by omega) ⟨H, I.tok _, q⟩
 | byt y =>
  obtain ⟨t, rfl⟩ := rx
  obtain ⟨hy, e'⟩ : y.size <= sizeLine /\ k = ((y.size : Int) != 0) := e
  subst e'
  exact PySem.W.truthy_bytes (by omega) ⟨H, I.tok _, q⟩
 | ref p =>
  cases rx
  have e' : (∃ xs, SqL X.K H p xs /\ k = !xs.isEmpty) \/ (∃ xs, SqT X.K H p xs /\ k = !xs.isEmpty) \/ ∃ kvs, H p = some (.dK kvs) /\ k = !kvs.isEmpty := e
  rcases e' with ⟨xs, hx, e'⟩ | ⟨xs, hx, e'⟩ | ⟨kvs, hx, e'⟩
  ·subst e'
   obtain ⟨its, r, pl, hz⟩ := I.list hx
   have hlen := r.length
   exact wpAny_truthy_list pl.isList (by simp only [List.size_toArray]; omega) ⟨H, I.tok _, by rw [xg r]; exact q⟩
  ·subst e'
   obtain ⟨its, r, pl, hz⟩ := I.tuple hx
   have hlen := r.length
   exact truthy_tuple pl (by simp only [List.size_toArray]; omega) ⟨H, I.tok _, by rw [xg r]; exact q⟩
  ·subst e'
   obtain ⟨hz, hS, vs, r, m⟩ : kvs.length <= sizeLine /\ (p == sysModules) = false /\ ∃ vs, KV kvs vs /\ s.heap.DictOf (zo X.prog X.w) p vs := I.hok p _ hx
   have hlen : kvs.length = vs.length := Paired.length r
   exact wpAny_truthy_dict hS m (by omega) ⟨H, I.tok _, by rw [Qk r]; exact q⟩
 | _ => exact (show False from e).elim
theorem Ja (ha : PE X a ta) (he : ∀ whole, isTrue a X.env whole = (do let v <- whole; standAt a.pos; holding [v] (truthy v))) :
  PT X a (fun σ H Q => ta σ H fun x H' => ∃ k, TruV X.K x H' k /\ Q k H') := by
 intro pins s σ H Q I h
 exact isTrue_plain (thn (ha pins s σ H _ I h) fun v s1 ⟨x, H1, I1, r1, q1⟩ => jy pins s1 σ H1 x v Q I1 r1 q1) (he _)
theorem Qd : OpR X (binaryOp .Add) (fun x y H Q => ∃ i j, x = .str i /\ y = .str j /\ i.length + j.length <= sizeLine /\ Q (.str (i ++ j)) H) := by
 intro pins s σ H x y v u Q I rx ry h
 obtain ⟨i, j, rfl, rfl, hz, q⟩ := h
 obtain ⟨t, rfl⟩ := rx
 obtain ⟨t', rfl⟩ := ry
 exact add_str (fun t' tk => ⟨.str (i ++ j), H, I.tok _, ⟨_, rfl⟩, q⟩) hz
theorem vals1 {x : V} {us : List Value} (r : Vals [x] us) : ∃ u, us = [u] /\ RelV x u := by
 cases r with
 | cons r1 r2 => cases r2; exact ⟨_, rfl, r1⟩
theorem vals2 {x y : V} {us : List Value} (r : Vals [x, y] us) : ∃ u w', us = [u, w'] /\ RelV x u /\ RelV y w' := by
 cases r with
 | cons r1 r2 =>
  cases r2 with
  | cons r3 r4 => cases r4; exact ⟨_, _, rfl, r1, r3⟩
def LenV (K : PySem.W.Frag) (x : V) (H : Hp) (n : Nat) : Prop :=
 match x with
 | .str y => y.length <= sizeLine /\ n = y.length
 | .byt y => y.size <= sizeLine /\ n = y.size
 | .ref p => (∃ xs, SqL K H p xs /\ n = xs.length) \/ ∃ xs, SqT K H p xs /\ n = xs.length
 | _ => False
theorem JR : CallR X (.builtin "len") (fun xs H Q => ∃ x n, xs = [x] /\ LenV X.K x H n /\ Q (.int n) H) := by
 intro pins s σ H xs us Q I r h
 obtain ⟨x, n, rfl, e, q⟩ := h
 obtain ⟨u, rfl, rx⟩ := vals1 r
 have hl := xa
 have hs : sizeLine = 16777216 := sizeLine_eq
 cases x with
 | str y =>
  obtain ⟨t, rfl⟩ := rx
  obtain ⟨hy, e'⟩ : y.length <= sizeLine /\ n = y.length := e
  subst e'
  exact len_str (by omega) ⟨.int _, H, I.tok _, ⟨_, rfl⟩, q⟩
 | byt y =>
  obtain ⟨t, rfl⟩ := rx
  obtain ⟨hy, e'⟩ : y.size <= sizeLine /\ n = y.size := e
  subst e'
  exact PySem.W.len_bytes (by omega) ⟨.int _, H, I.tok _, ⟨_, rfl⟩, q⟩
 | ref p =>
  cases rx
  have e' : (∃ xs, SqL X.K H p xs /\ n = xs.length) \/ ∃ xs, SqT X.K H p xs /\ n = xs.length := e
  rcases e' with ⟨xs, hx, e'⟩ | ⟨xs, hx, e'⟩
  ·subst e'
   obtain ⟨its, r', pl, hz⟩ := I.list hx
   have hlen := r'.length
   exact Calls.call_len_list pl.isList (by simp only [List.size_toArray]; omega) ⟨.int xs.length, H, I.tok _, ⟨_, by simp only [List.size_toArray]; rw [hlen]⟩, q⟩
  ·subst e'
   obtain ⟨its, r', pl, hz⟩ := I.tuple hx
   have hlen := r'.length
   exact len_tuple pl (by simp only [List.size_toArray]; omega) ⟨.int xs.length, H, I.tok _, ⟨_, by simp only [List.size_toArray]; rw [hlen]⟩, q⟩
 | _ => exact (show False from e).elim
end
section
variable {prog : Program} {w : World} {A : Around} {E : Value -> Shared -> Prop} {s : Shared} {K : PySem.W.Frag} {x dx C f : Addr} {mA : Str -> Option Value} {name : Str} {v : Value}
end
theorem RelO.some_of {v : V} {o : Option Value} (r : RelO (some v) o) : ∃ u, o = some u /\ RelV v u := by
 cases o with
 | none => exact (show False from r).elim
 | some u => exact ⟨u, rfl, r⟩
section
variable {P : Program} {w : World} {H H' : Hp} {h h' : Heap} {a C dx : Addr} {fs fs' : List (Str × V)}
end
section
variable {X : Cx} {pins : List (Addr × Obj)} {σ : St} {H : Hp} {s : Shared} {a C dx : Addr} {fs : List (Str × V)} {f : Str} {v : V} {A : Around} {E : Value -> Shared -> Prop}
end
section
variable {X : Cx} {o e value : Expr} {f : Str} {pos pos' tpos : Pos} {ta tv : TE}
end
section
variable {X : Cx} {pins : List (Addr × Obj)} {σ : St} {H : Hp} {s : Shared} {A : Around} {E : Value -> Shared -> Prop} {Q : Value -> Shared -> Prop} {c : Value} {b : Bool}
end
structure Room (k : Nat) (A : Around) : Prop where
 hd : A.handled = none
 dp : A.depth + 3 * k + 5 < recursionLimit
 un : A.units + 16 * k + 200 < cLine
theorem Room.mono {j k : Nat} {A : Around} (r : Room k A) (h : j <= k) : Room j A := ⟨r.hd, by have := r.dp; omega, by have := r.un; omega⟩
theorem Room.deeper {k : Nat} {A : Around} (r : Room (k + 1) A) (env : Env) : Room k (A.deeper env) :=
 ⟨r.hd, by have := r.dp; show A.depth + 1 + 3 * k + 5 < _; omega, by have := r.un; show A.units + 3 + 16 * k + 200 < _; omega⟩
theorem Room.depth {k : Nat} {A : Around} (r : Room k A) : A.depth < recursionLimit := by have := r.dp; omega
theorem Room.units {k : Nat} {A : Around} (r : Room k A) : A.units + 64 < cLine := by have := r.un; omega
def tNil : TA := fun _ H Q => Q [] H
def VF (ta : TE) (tr : TA) : TA := fun σ H Q => ta σ H fun x H1 => tr σ H1 fun xs H2 => Q (x :: xs) H2
section
variable {X : Cx} {e : Expr} {es : List Expr} {te : TE} {t : TA} {pos : Pos}
theorem jF : PA X [] tNil := fun _ _ _ _ H Q I h => Calls.spliced_nil ⟨[], H, I, .nil, h⟩
theorem zL (ha : PE X e te) (hr : PA X es t) (hs : starEach (e :: es) X.env = (false, eval e X.env) :: starEach es X.env := by rfl) : PA X (e :: es) (VF te t) := by
 intro pos pins s σ H Q I h
 rw [hs]
 show wpAny _ _ (spliced ((false, eval e X.env) :: backTo pos (starEach es X.env))) _ _ s
 refine Calls.spliced_cons (thn (ha pins s σ H _ I h) fun u s1 ⟨x, H1, I1, r1, q1⟩ => ?_)
 exact thn (hr pos pins s1 σ H1 _ I1 q1) fun us s2 ⟨xs, H2, I2, r2, q2⟩ => ⟨x :: xs, H2, I2, .cons r1 r2, q2⟩
def tTup (t : TA) : TE := fun σ H Q => t σ H fun xs H1 => xs.length <= sizeLine /\ ∀ p, H1 p = none -> Q (.ref p) (upd H1 p (.tup xs))
def tLst (t : TA) : TE := fun σ H Q => t σ H fun xs H1 => xs.length <= sizeLine /\ ∀ p, H1 p = none -> Q (.ref p) (upd H1 p (.lst xs))
theorem V4 {x1} (h : PA X es t) : PE X (.Tuple es x1 pos) (tTup t) := by
 intro pins s σ H Q I hq
 refine wpAny_Tuple_spliced (thn (h pos pins s σ H _ I hq) fun us s1 ⟨xs, H1, I1, r, z, q⟩ => ⟨by rw [<- r.length]; exact z, ?_⟩)
 have hf : H1 s1.heap.objs.size = none := I1.hok.fresh (Nat.le_refl _)
 refine ⟨.ref s1.heap.objs.size, upd H1 s1.heap.objs.size (.tup xs), I1.laid (t' := s1.toks) (fun b u e => Heap.get?_push_of_some _ e) (Nat.le_refl _) ?_, rfl, q _ hf⟩
 exact ⟨z, us, r, ⟨_, Heap.get?_push_size _ rfl, rfl, _, rfl⟩⟩
theorem V6 (h : PA X es t) : PE X (.List es pos) (tLst t) := by
 intro pins s σ H Q I hq
 refine wpAny_List_spliced (thn (h pos pins s σ H _ I hq) fun us s1 ⟨xs, H1, I1, r, z, q⟩ => ⟨by rw [<- r.length]; exact z, ?_⟩)
 have hf : H1 s1.heap.objs.size = none := I1.hok.fresh (Nat.le_refl _)
 refine ⟨.ref s1.heap.objs.size, upd H1 s1.heap.objs.size (.lst xs), I1.laid (t' := s1.toks) (fun b u e => Heap.get?_push_of_some _ e) (Nat.le_refl _) ?_, rfl, q _ hf⟩
 exact ⟨z, us, 0, r, Heap.get?_push_size _ rfl⟩
end
abbrev Sp := List V -> Hp -> VK -> XK -> Prop
abbrev CXT := List Env -> Hp -> Shared -> XK -> Value -> Shared -> Prop
structure Env0 (P : Program) (w : World) (K : PySem.W.Frag) (mg : Str -> Option Value) (base : Heap) (A : Around) (outer : List Env) (s : Shared) (H : Hp) : Prop where
 frames : A.frames = some outer
 mod : Mod K mg base
 bs : ∀ b o, base.get? b = some o -> s.heap.get? b = some o /\ H b = none
 bsz : base.objs.size <= s.heap.objs.size
 funs : s.heap.FunFrames base outer
 frf : ∀ b ∈ frs outer, H b = none
 hok : HOk P w H s.heap
 bare : AllBare s.gens
def CE (outer : List Env) (P : Program) (w : World) (H : Hp) (s : Shared) (Q : VK) (u : Value) (s' : Shared) : Prop :=
 ∃ v H', s'.os = s.os /\ AllBare s'.gens /\ Un (frs outer) [] H H' s.heap s'.heap /\ HOk P w H' s'.heap /\ RelV v u /\ Q v H'
def CR (CX : CXT) (outer : List Env) (P : Program) (w : World) (H : Hp) (s : Shared) (Q : VK) (E : XK) (r : Result) (s' : Shared) : Prop :=
 match r with
 | .ok (.ret u) => CE outer P w H s Q u s'
 | .ok _ => False
 | .error e => CX outer H s E e s'
structure FnOk (P : Program) (w : World) (K : PySem.W.Frag) (mg : Str -> Option Value) (base : Heap) (CX : CXT) (k : Nat) (f : Addr) (fd : FuncData) (ps : List Str) (sp : Sp) : Prop where
 len : ∀ vs H Q E, sp vs H Q E -> vs.length = ps.length
 run : ∀ (A : Around) (outer : List Env) (s : Shared) (H : Hp) (args : Args) (us : List Value) (vs : List V) (Q : VK) (E : XK), Room k A -> Env0 P w K mg base A outer s H -> BindsTo s fd args (ps.zip us) -> Vals vs us -> sp vs H Q E ->
  codeAny (model P w) A (.call (.ref f) args) (CR CX outer P w H s Q E) s
theorem FnOk.imp {P : Program} {w : World} {K : PySem.W.Frag} {mg : Str -> Option Value} {base : Heap} {CX : CXT} {k : Nat} {f : Addr} {fd : FuncData} {ps : List Str} {sp sp' : Sp} (F : FnOk P w K mg base CX k f fd ps sp)
  (h : ∀ vs H Q E, sp' vs H Q E -> sp vs H Q E) : FnOk P w K mg base CX k f fd ps sp' :=
 ⟨fun vs H Q E q => F.len vs H Q E (h _ _ _ _ q), fun A outer s H args us vs Q E hr he hb hv hs => F.run A outer s H args us vs Q E hr he hb hv (h _ _ _ _ hs)⟩
section
variable {X : Cx} {pins : List (Addr × Obj)} {σ : St} {H : Hp} {s s' : Shared}
theorem Inv.env0 (I : Inv X pins σ H s) : Env0 X.prog X.w X.K X.mg X.base X.A X.stack s H :=
 ⟨I.ok.frames, I.ok.mod, I.bs, Nat.le_trans I.ok.bsz I.sz, I.stack, I.stkFree, I.hok, I.bare⟩
theorem Inv.after {Q : VK} {u : Value} (I : Inv X pins σ H s) (h : CE X.stack X.prog X.w H s Q u s') : EP X pins σ Q u s' := by
 obtain ⟨v, H', os, bare, un, hok, r, q⟩ := h
 obtain ⟨hh, g, d, t, os'⟩ := s'
 obtain rfl : os' = s.os := os
 exact ⟨v, H', I.call (h' := hh) (g' := g) (d' := d) (t' := t) (ch := []) un hok bare (fun b z => absurd z (by simp)), r, q⟩
end
def XM (sp : Sp) (dvs : List V) (E : XK) (t : TA) : TE := fun σ H Q => t σ H fun vs H1 => sp (vs ++ dvs) H1 Q E
def Binds (K : PySem.W.Frag) (fd : FuncData) (ps : List Str) (ds : List Value) : Prop :=
 ∀ (s : Shared) (us : List Value), K.In s.heap -> (us ++ ds).length = ps.length -> BindsTo s fd ⟨us, []⟩ (ps.zip (us ++ ds))
theorem Binds.all {K : PySem.W.Frag} {fd : FuncData} {ps : List Str} (h : ∀ us : List Value, us.length = ps.length -> bindArgs fd ⟨us, []⟩ = pure (ps.zip us)) : Binds K fd ps [] := fun s us _ hl => by
 rw [List.append_nil] at hl ⊢
 exact .of_eq (h us hl)
def Z0 (CX : CXT) (X : Cx) (E : XK) : Prop := ∀ (pins : List (Addr × Obj)) (σ : St) (H : Hp) (s : Shared) (e : Value) (s' : Shared), Inv X pins σ H s -> CX X.stack H s E e s' -> X.xe e s'
section
variable {X : Cx} {CX : CXT} {k : Nat} {f C : Addr} {fd : FuncData} {ps : List Str} {sp : Sp} {dvs : List V} {ds : List Value} {E : XK} {x m : Str} {p pos apos : Pos} {e o : Expr} {es : List Expr} {ta : TE} {t : TA}
theorem VN {pins : List (Addr × Obj)} {σ : St} {H : Hp} {s : Shared} {Q : VK} {us : List Value} {vs : List V} (F : FnOk X.prog X.w X.K X.mg X.base CX k f fd ps sp) (hr : Room k X.A) (hb : Binds X.K fd ps ds) (hd : Vals dvs ds) (hx : Z0 CX X E)
  (I : Inv X pins σ H s) (r : Vals vs us) (h : sp (vs ++ dvs) H Q E) : wpAny (model X.prog X.w) X.A (call (.ref f) us) (EP X pins σ Q) X.xe s := by
 have r2 : Vals (vs ++ dvs) (us ++ ds) := r.append hd
 have hl : (us ++ ds).length = ps.length := by rw [<- r2.length]; exact F.len _ _ _ _ h
 refine wpAny_call (codeAny_mono (F.run X.A X.stack s H ⟨us, []⟩ (us ++ ds) (vs ++ dvs) Q E hr I.env0 (hb s us I.kIn hl) r2 h) fun r s' hq => ?_)
 cases r with
 | error e => exact hx pins σ H s e s' I hq
 | ok fl =>
  cases fl with
  | ret u => exact I.after hq
  | next => exact False.elim hq
  | brk => exact False.elim hq
  | cont => exact False.elim hq
theorem j9 (F : FnOk X.prog X.w X.K X.mg X.base CX k f fd ps sp) (hr : Room k X.A) (hg : Gl X x) (hm : X.mg x = some (.ref f)) (hk : PySem.W.keepIn X.K (.ref f) = true) (hb : Binds X.K fd ps ds) (hd : Vals dvs ds) (hx : Z0 CX X E)
  (ha : PA X (e :: es) t) (hdb : (x == ("__debug__" : Str)) = false := by decide) (he : starEach (e :: es) X.env = (false, eval e X.env) :: starEach es X.env := by rfl) (hpl : (backTo pos (starEach es X.env)).any (·.1) = false := by rfl) :
  PE X (.Call (.Name x p) (e :: es) [] pos) (XM sp dvs E t) := by
 intro pins s σ H Q I h
 refine wpAny_Call_Name_kw (Zm I hg hm ?_ hdb)
 refine PySem.W.callWith_K (h₀ := X.base) I.ok.mod.kin hk (thn (ha pos pins s σ H _ I h) fun us s1 ⟨vs, H1, I1, r, q⟩ => ⟨I1.kIn, ?_⟩) he hpl
 exact VN F hr hb hd hx I1 r q
structure Mk (K : PySem.W.Frag) (C f : Addr) : Prop where
 makes : PySem.W.makesIn K C = true
 init : PySem.W.findIn K (.ref C) "__init__" = some (some (.ref f))
 fn : PySem.W.isFn K (.ref f) = true
 kp : PySem.W.keepIn K (.ref C) = true
end
def PK (X : Cx) (kws : List Keyword) (t : TA) : Prop :=
 ∀ (pos : Pos) (pins : List (Addr × Obj)) (s : Shared) (σ : St) (H : Hp) (Q : List V -> Hp -> Prop), Inv X pins σ H s -> t σ H Q -> wpAny (model X.prog X.w) X.A (evalAll ((backToKw pos (keywordEach kws X.env)).map (·.2))) (AP X pins σ Q) X.xe s
section
variable {X : Cx} {CX : CXT} {k : Nat} {f C : Addr} {fd : FuncData} {ps ks : List Str} {sp : Sp} {E : XK} {x m : Str} {p pos apos kpos : Pos} {e o : Expr} {es : List Expr} {kws : List Keyword} {te ta : TE} {t tk : TA} {nm : Option Str}
theorem J9 : PK X [] tNil := fun _ _ _ _ H Q I h => wpAny_evalAll_nil ⟨[], H, I, .nil, h⟩
theorem wS (ha : PE X e te) (hr : PK X kws t) : PK X (⟨nm, e, kpos⟩ :: kws) (VF te t) := by
 intro pos pins s σ H Q I h
 show wpAny _ _ (evalAll ((do let v <- eval e X.env; standAt pos; pure v) :: (backToKw pos (keywordEach kws X.env)).map (·.2))) _ _ s
 refine wpAny_evalAll_cons (wpAny_bind (thn (ha pins s σ H _ I h) fun u s1 ⟨x, H1, I1, r1, q1⟩ => wpAny_bind (wpAny_standAt (wpAny_pure ?_))))
 exact thn (hr pos pins s1 σ H1 _ I1 q1) fun us s2 ⟨xs, H2, I2, r2, q2⟩ => ⟨x :: xs, H2, I2, .cons r1 r2, q2⟩
variable {g : List Value -> List Value -> List Value} {gV : List V -> List V -> List V}
end
structure FnScope (N P : List Str) (sc : Scope) : Prop where
 kind : sc.kind = .function
 co : sc.isCoroutine = false
 gen : sc.isGenerator = false
 nd : N.Nodup
 pre : N.take P.length = P
 par : ∀ x ∈ P, sc.names.lookup x = some .local \/ sc.names.lookup x = some .cell
 nofree : ∀ y ∈ sc.names, y.2 ≠ .free
theorem wG {kindOf : Str -> Option NameKind} {x : Str} : ∀ {binds : List (Str × Value)} {m : Str -> Option Value}, (∀ v, (x, v) ∉ binds) -> bindL kindOf binds m x = m x
 | [], _, _ => rfl
 | (n, v) :: r, m, h => by
  unfold bindL
  rw [wG fun w hw => h w (List.mem_cons_of_mem _ hw)]
  split
  ·have : x ≠ n := by rintro rfl; exact h v List.mem_cons_self
   simp [this]
  ·rfl
theorem wI {kindOf : Str -> Option NameKind} {x : Str} : ∀ {binds : List (Str × Value)} {m : Str -> Option Value}, (∀ v, (x, v) ∉ binds) -> bindC kindOf binds m x = m x
 | [], _, _ => rfl
 | (n, v) :: r, m, h => by
  unfold bindC
  rw [wI fun w hw => h w (List.mem_cons_of_mem _ hw)]
  split
  ·rfl
  ·have : x ≠ n := by rintro rfl; exact h v List.mem_cons_self
   simp [this]
theorem wH {kindOf : Str -> Option NameKind} {x : Str} {v : Value} : ∀ {P : List Str} {vs : List Value} {i : Nat} {m : Str -> Option Value}, P.Nodup -> P[i]? = some x -> vs[i]? = some v -> kindOf x = some .local ->
  bindL kindOf (P.zip vs) m x = some v
 | [], _, _, _, _, h, _, _ => by simp at h
 | _ :: _, [], _, _, _, _, h, _ => by simp at h
 | p :: P, w :: vs, 0, m, nd, h1, h2, hk => by
  simp at h1 h2; subst h1; subst h2
  show bindL kindOf ((p, w) :: P.zip vs) m p = _
  unfold bindL
  rw [wG fun v hv => (List.nodup_cons.mp nd).1 (List.of_mem_zip hv).1, if_pos hk]
  simp
 | p :: P, w :: vs, i + 1, m, nd, h1, h2, hk => by
  show bindL kindOf ((p, w) :: P.zip vs) m x = _
  unfold bindL
  exact wH (i := i) (List.nodup_cons.mp nd).2 (by simpa using h1) (by simpa using h2) hk
theorem wJ {kindOf : Str -> Option NameKind} {x : Str} {v : Value} : ∀ {P : List Str} {vs : List Value} {i : Nat} {m : Str -> Option Value}, P.Nodup -> P[i]? = some x -> vs[i]? = some v -> kindOf x ≠ some .local ->
  bindC kindOf (P.zip vs) m x = some v
 | [], _, _, _, _, h, _, _ => by simp at h
 | _ :: _, [], _, _, _, _, h, _ => by simp at h
 | p :: P, w :: vs, 0, m, nd, h1, h2, hk => by
  simp at h1 h2; subst h1; subst h2
  show bindC kindOf ((p, w) :: P.zip vs) m p = _
  unfold bindC
  rw [wI fun v hv => (List.nodup_cons.mp nd).1 (List.of_mem_zip hv).1, if_neg hk]
  simp
 | p :: P, w :: vs, i + 1, m, nd, h1, h2, hk => by
  show bindC kindOf ((p, w) :: P.zip vs) m x = _
  unfold bindC
  exact wJ (i := i) (List.nodup_cons.mp nd).2 (by simpa using h1) (by simpa using h2) hk
def start (N : List Str) (vs : List V) : St := vs.map some ++ List.replicate (N.length - vs.length) none
def cxOf (CX : CXT) (P : Program) (w : World) (K : PySem.W.Frag) (mg : Str -> Option Value) (base : Heap) (N : List Str) (qual : Str) (scope : Scope) (f : Addr) (cd : Value) (A : Around) (outer : List Env) (s : Shared) (H : Hp) (E : XK) : Cx where
 prog := P
 w := w
 K := K
 mg := mg
 base := base
 A := A.deeper (envOfC qual scope s.heap.objs.size f cd)
 N := N
 s₀ := s
 H₀ := H
 env := envOfC qual scope s.heap.objs.size f cd
 outer := outer
 stack := envOfC qual scope s.heap.objs.size f cd :: outer
 ex := []
 calm := true
 fn := fun _ => true
 pn := []
 xe := fun e s' => wpAny (model P w) (A.deeper (envOfC qual scope s.heap.objs.size f cd)) (leaving (envOfC qual scope s.heap.objs.size f cd) e) (fun _ s'' => CX outer H s E e s'') (fun e' s'' => CX outer H s E e' s'') s'
theorem yW {sc : Scope} {n : Nat} {x : Str} (h : sc.names.lookup x = some .cell) : ∃ c, (cellsFrom n sc.names []).lookup x = some c := by
 have q := PySem.W.cellsFrom_some sc.names n [] (.inl h)
 exact Option.isSome_iff_exists.mp q
theorem Zx {CX : CXT} {P : Program} {w : World} {K : PySem.W.Frag} {mg : Str -> Option Value} {base : Heap} {N ps : List Str} {qual : Str} {scope : Scope} {f : Addr} {cd : Value} {A : Around} {outer : List Env} {s s1 : Shared} {H : Hp} {E : XK} {us : List Value} {vs : List V}
  (S : FnScope N ps scope) (hd : A.handled = none) (e0 : Env0 P w K mg base A outer s H) (hl : vs.length = ps.length) (r : Vals vs us)
  (x : InCallC s s.heap.objs.size (bindL (envOfC qual scope s.heap.objs.size f cd).kindOf (ps.zip us) fun _ => none) (cellsFrom (s.heap.objs.size + 1) scope.names []) (bindC (envOfC qual scope s.heap.objs.size f cd).kindOf (ps.zip us) fun _ => none) s1) :
  Inv (cxOf CX P w K mg base N qual scope f cd A outer s H E) [] (start N vs) H s1 := by
 have hpl : ps.length <= N.length := by have := congrArg List.length S.pre; rw [List.length_take] at this; omega
 obtain ⟨h1, tk, rfl, hk⟩ := x.done
 have noA : ∀ b : Addr, b ∉ (cxOf CX P w K mg base N qual scope f cd A outer s H E).ex := fun b z => absurd (show b ∈ ([] : List Addr) from z) (by simp)
 refine ⟨⟨e0.mod, S.kind, rfl, rfl, Nat.le_refl _, fun y z c h1 h2 => ?_, fun y hy => ?_, fun y c _ h => ?_, fun _ => hd, Around.frames_deeper e0.frames, .inr ⟨rfl, rfl⟩, fun b z => absurd z (noA b), e0.bs, e0.bsz, fun b _ _ => noA b, fun b z => absurd z (noA b), e0.funs, e0.frf⟩,
  rfl, e0.bare, Un.kept hk, ⟨_, x.toInCall.ns, fun i y v h1 h2 h3 => ?_⟩, fun y c h => ⟨_, x.cell y c h⟩, e0.hok.fresh (Nat.le_refl _), fun y c h => ?_, fun p hp => absurd (show p ∈ ([] : List (Addr × Obj)) from hp) (by simp), e0.hok.kept hk, ?_⟩
 ·exact name_of_addr x.apart (PySem.mem_of_lookup h1) (PySem.mem_of_lookup h2)
 ·have hy : scope.names.lookup y = some .cell \/ scope.names.lookup y = some .free := hy
  rcases hy with hy | hy
  ·exact yW hy
  ·exact absurd rfl (S.nofree _ (PySem.mem_of_lookup hy))
 ·exact Nat.le_of_lt (x.above y c (PySem.mem_of_lookup h))
 ·have hi : i < vs.length := by
   unfold start at h2
   by_cases hi : i < vs.length
   ·exact hi
   ·rw [List.getElem?_append_right (by simpa using hi)] at h2
    rw [List.getElem?_replicate] at h2
    split at h2 <;> cases h2
  have ha : vs[i]? = some v := by
   unfold start at h2
   rw [List.getElem?_append_left (by simpa using hi), List.getElem?_map] at h2
   cases e : vs[i]? with
   | none => rw [e] at h2; cases h2
   | some a => rw [e] at h2; cases h2; rfl
  obtain ⟨u, hu, rv⟩ := r.get ha
  have hp : ps[i]? = some y := by
   rw [<- S.pre, List.getElem?_take_of_lt (by omega)]; exact h1
  have ndP : ps.Nodup := by rw [<- S.pre]; exact S.nd.sublist (List.take_sublist _ _)
  refine ⟨u, rv, ?_⟩
  rcases S.par y (List.mem_of_getElem? hp) with k | k
  ·exact .inl ⟨k, wH ndP hp hu k⟩
  ·obtain ⟨c, e⟩ := yW (n := s.heap.objs.size + 1) k
   refine .inr ⟨.inl k, c, e, ?_⟩
   have q := x.cell y c e
   rw [wJ ndP hp hu (by show scope.names.lookup y ≠ _; rw [k]; decide)] at q
   exact q
 ·exact e0.hok.fresh (Nat.le_of_lt (x.above y c (PySem.mem_of_lookup h)))
 ·unfold start
  show _ = N.length
  rw [List.length_append, List.length_map, List.length_replicate]
  omega
theorem Xz {CX : CXT} {P : Program} {w : World} {K : PySem.W.Frag} {mg : Str -> Option Value} {base : Heap} {k : Nat} {f : Addr} {name qual : Str} {params : Arguments} {body : List Stmt} {scope : Scope} {dV kV doc pm cdv ct oc : Value} {an od : Option Addr}
  {osl : Array (Option Value)} {N ps : List Str} {sp : Sp} (lk : K.lookup f = some ⟨oc, od, .func (PySem.W.fnOf name qual params body scope dV kV doc pm an cdv ct), osl⟩) (hcd : PySem.W.codeIn K cdv qual = true) (S : FnScope N ps scope)
  (len : ∀ vs H Q E, sp vs H Q E -> vs.length = ps.length)
  (hbody : ∀ (A : Around) (outer : List Env) (s : Shared) (H : Hp) (vs : List V) (Q : VK) (E : XK), Room k (A.deeper (envOfC qual scope s.heap.objs.size f cdv)) -> sp vs H Q E ->
   ∃ t, PSs (cxOf CX P w K mg base N qual scope f cdv A outer s H E) body t /\ t { nx := fun _ H' => Q .non H', rt := Q } (start N vs) H) :
  FnOk P w K mg base CX (k + 1) f (PySem.W.fnOf name qual params body scope dV kV doc pm an cdv ct) ps sp := by
 refine ⟨len, fun A outer s H args us vs Q E hr e0 hb r hsp => ?_⟩
 have hl := len _ _ _ _ hsp
 have KX : K.In s.heap := e0.mod.kin.keeps fun b o e => (e0.bs b o e).1
 have lim : s.heap.NoLimit := e0.mod.nolimit.keeps fun b o e => (e0.bs b o e).1
 have hkind : ∀ y ∈ ps.zip us, scope.names.lookup y.1 = some .local \/ (scope.names.lookup y.1 = some .cell /\ ((cellsFrom (s.heap.objs.size + 1) scope.names []).lookup y.1).isSome = true) := fun ⟨n, v⟩ hy => by
  rcases S.par n (List.of_mem_zip hy).1 with q | q
  ·exact .inl q
  ·exact .inr ⟨q, PySem.W.cellsFrom_some _ _ _ (.inl q)⟩
 refine codeAny_call_function hr.depth (KX _ _ lk) rfl S.co S.gen rfl (PySem.W.codeRec_of KX hcd) (hb _ _ _ _ ?_)
 refine wpAny_newFunctionEnv_cells S.kind hkind fun env he s1 x => ?_
 subst he
 refine ⟨lim.keeps x.toInCall.keep, codeAny_func ?_⟩
 obtain ⟨t, ht, hq⟩ := hbody A outer s H vs Q E (hr.deeper _) hsp
 have I : Inv (cxOf CX P w K mg base N qual scope f cdv A outer s H E) [] (start N vs) H s1 := Zx S hr.hd e0 hl r x
 refine wpAny_mono (ht [] s1 (start N vs) H _ I hq) (fun fl s' hs => ?_) fun e s' hs => hs
 have fin : ∀ {σ' : St} {H' : Hp} {v : V} {u : Value}, Inv (cxOf CX P w K mg base N qual scope f cdv A outer s H E) [] σ' H' s' -> RelV v u -> Q v H' -> CE outer P w H s Q u s' :=
  fun {σ' H' v u} J rv q => ⟨v, H', J.os, J.bare, J.base, J.hok, rv, q⟩
 cases fl with
 | ret u =>
  obtain ⟨v, σ', H', J, rv, q⟩ := hs
  exact fin J rv q
 | next =>
  obtain ⟨σ', H', J, q⟩ := hs
  exact fin (v := V.non) (u := Value.none) J rfl q
 | brk =>
  obtain ⟨_, _, _, q⟩ := hs
  exact False.elim q
 | cont =>
  obtain ⟨_, _, _, q⟩ := hs
  exact False.elim q
section
variable {X : Cx} {x : Str} {p pos : Pos} {e : Expr} {es : List Expr} {t : TA} {id T : String} {r : List V -> Hp -> VK -> Prop}
def tCB (r : List V -> Hp -> VK -> Prop) (t : TA) : TE := fun σ H Q => t σ H fun vs H1 => r vs H1 Q
theorem xB (hc : CallR X (.builtin id) r) (hg : Gl X x) (hm : X.mg x = none) (hv : bootBuiltins x = some (.builtin id)) (ha : PA X (e :: es) t) (hn : x ≠ "__name__" := by decide) (hdb : (x == ("__debug__" : Str)) = false := by decide)
  (he : starEach (e :: es) X.env = (false, eval e X.env) :: starEach es X.env := by rfl) (hpl : (backTo pos (starEach es X.env)).any (·.1) = false := by rfl) : PE X (.Call (.Name x p) (e :: es) [] pos) (tCB r t) := by
 intro pins s σ H Q I h
 refine wpAny_Call_Name_kw (wt I hg hm hv ?_ hn hdb)
 exact PyProof.Rows.callWith_builtin1 (thn (ha pos pins s σ H _ I h) fun us s1 ⟨vs, H1, I1, r1, q1⟩ => hc pins s1 σ H1 vs us Q I1 r1 q1) he hpl
theorem Q3 (hc : CallR X (.type T) r) (hg : Gl X x) (hm : X.mg x = none) (hv : bootBuiltins x = some (.type T)) (ha : PA X (e :: es) t) (hn : x ≠ "__name__" := by decide) (hdb : (x == ("__debug__" : Str)) = false := by decide)
  (he : starEach (e :: es) X.env = (false, eval e X.env) :: starEach es X.env := by rfl) (hpl : (backTo pos (starEach es X.env)).any (·.1) = false := by rfl) : PE X (.Call (.Name x p) (e :: es) [] pos) (tCB r t) := by
 intro pins s σ H Q I h
 refine wpAny_Call_Name_kw (wt I hg hm hv ?_ hn hdb)
 exact PyProof.Rows.callWith_type1 (thn (ha pos pins s σ H _ I h) fun us s1 ⟨vs, H1, I1, r1, q1⟩ => hc pins s1 σ H1 vs us Q I1 r1 q1) he hpl
end
section
variable {κ : Type} [DecidableEq κ]
def valV (kvs : List (κ × V)) (k : κ) : Option V := (kvs.find? fun kv => decide (kv.1 = k)).map (·.2)
def putK (kvs : List (κ × V)) (k : κ) (v : V) : List (κ × V) :=
 if (kvs.any fun kv => decide (kv.1 = k)) = true then kvs.map (fun kv => if kv.1 = k then (kv.1, v) else kv) else kvs ++ [(k, v)]
theorem xn {p : κ × V} {r : List (κ × V)} {k : κ} (e : p.1 = k) : valV (p :: r) k = some p.2 := by simp [valV, List.find?_cons, e]
theorem xo {p : κ × V} {r : List (κ × V)} {k : κ} (e : ¬ p.1 = k) : valV (p :: r) k = valV r k := by simp [valV, List.find?_cons, e]
theorem yz (k : κ) : ∀ kvs : List (κ × V), (kvs.any fun kv => decide (kv.1 = k)) = (valV kvs k).isSome
 | [] => rfl
 | p :: r => by
  rw [List.any_cons]
  by_cases e : p.1 = k
  ·simp only [xn e, decide_eq_true e, Bool.true_or, Option.isSome_some]
  ·rw [xo e, decide_eq_false e, Bool.false_or]; exact yz k r
theorem kb (kvs : List (κ × V)) (k : κ) (v : V) : (putK kvs k v).length <= kvs.length + 1 := by
 unfold putK
 split
 ·rw [List.length_map]; omega
 ·rw [List.length_append, List.length_cons, List.length_nil]; omega
theorem RelO.isSome_eq {o : Option V} {u : Option Value} (r : RelO o u) : o.isSome = u.isSome := by
 cases o with
 | none => cases u with
  | none => rfl
  | some _ => exact (show False from r).elim
 | some _ => cases u with
  | none => exact (show False from r).elim
  | some _ => rfl
theorem KV.val {kvs : List (κ × V)} {vs : List (κ × Value)} (r : KV kvs vs) (k : κ) : RelO (valV kvs k) (valueAt vs k) := by
 unfold KV at r
 induction r with
 | nil => exact True.intro
 | @cons p q ps qs h t ih =>
  obtain ⟨h1, h2⟩ := h
  by_cases e : p.1 = k
  ·have e' : q.1 = k := h1.symm.trans e
   have b : valueAt (q :: qs) k = some q.2 := by simp [valueAt, List.find?_cons, e']
   rw [xn e, b]; exact h2
  ·have e' : ¬ q.1 = k := fun z => e (h1.trans z)
   have b : valueAt (q :: qs) k = valueAt qs k := by simp [valueAt, List.find?_cons, e']
   rw [xo e, b]; exact ih
theorem KV.any {kvs : List (κ × V)} {vs : List (κ × Value)} (r : KV kvs vs) (k : κ) : (kvs.any fun kv => decide (kv.1 = k)) = vs.any fun kv => decide (kv.1 = k) := by
 unfold KV at r
 induction r with
 | nil => rfl
 | cons h t ih => rw [List.any_cons, List.any_cons, ih, h.1]
theorem KV.repl {kvs : List (κ × V)} {vs : List (κ × Value)} (r : KV kvs vs) (k : κ) {y : V} {u : Value} (ry : RelV y u) :
  KV (kvs.map fun kv => if kv.1 = k then (kv.1, y) else kv) (vs.map fun kv => if kv.1 = k then (kv.1, u) else kv) := by
 unfold KV at r ⊢
 induction r with
 | nil => exact .nil
 | @cons p q ps qs h t ih =>
  rw [List.map_cons, List.map_cons]
  refine .cons ?_ ih
  obtain ⟨h1, h2⟩ := h
  by_cases e : p.1 = k
  ·rw [if_pos e, if_pos (h1.symm.trans e)]; exact ⟨h1, ry⟩
  ·rw [if_neg e, if_neg (fun z => e (h1.trans z))]; exact ⟨h1, h2⟩
theorem KV.put {kvs : List (κ × V)} {vs : List (κ × Value)} (r : KV kvs vs) (k : κ) {y : V} {u : Value} (ry : RelV y u) : KV (putK kvs k y) (stored vs k u) := by
 unfold putK stored
 rw [r.any k]
 by_cases e : (vs.any fun kv => decide (kv.1 = k)) = true
 ·rw [if_pos e, if_pos e]; exact r.repl k ry
 ·rw [if_neg e, if_neg e]; exact Paired.snoc r ⟨rfl, ry⟩
theorem KV.length {kvs : List (κ × V)} {vs : List (κ × Value)} (r : KV kvs vs) : kvs.length = vs.length := Paired.length r
end
theorem yb {P : Program} {w : World} {k : Key} {u : Value} (r : RelV (kV k) u) : (zo P w).is k u = true := by
 cases k with
 | inl i => obtain ⟨t, e⟩ := (show ∃ t, u = Value.int i t from r); subst e; exact w6 P w i t
 | inr x => obtain ⟨t, e⟩ := (show ∃ t, u = Value.str x t from r); subst e; exact w5 P w x t
theorem wy {P : Program} {w : World} : ∀ {ks : List Key} {us : List Value}, Vals (ks.map kV) us -> ItemsAre (zo P w) ks us
 | [], _, r => by rw [List.map_nil] at r; cases r; exact .nil
 | k :: ks, _, r => by
  rw [List.map_cons] at r
  cases r with
  | cons h t => exact .cons (yb h) (wy t)
abbrev KT (H : Hp) : List (List Key × V) -> List (List Key × Addr × Value) -> Prop := Paired fun p q => p.1 = q.1 /\ H q.2.1 = some (.tup (p.1.map kV)) /\ RelV p.2 q.2.2
theorem KT.val {H : Hp} {kvs : List (List Key × V)} {xs : List (List Key × Addr × Value)} (r : KT H kvs xs) (k : List Key) : RelO (valV kvs k) ((atKey xs k).map (·.2)) := by
 induction r with
 | nil => exact True.intro
 | @cons p q ps qs h t ih =>
  obtain ⟨h1, _, h2⟩ := h
  by_cases e : p.1 = k
  ·have e' : q.1 = k := h1.symm.trans e
   have b : atKey (q :: qs) k = some q.2 := by simp [atKey, List.find?_cons, e']
   rw [xn e, b]; exact h2
  ·have e' : ¬ q.1 = k := fun z => e (h1.trans z)
   have b : atKey (q :: qs) k = atKey qs k := by simp [atKey, List.find?_cons, e']
   rw [xo e, b]; exact ih
theorem KT.repl {H : Hp} {kvs : List (List Key × V)} {xs : List (List Key × Addr × Value)} (r : KT H kvs xs) (k : List Key) {y : V} {u : Value} (ry : RelV y u) :
  KT H (kvs.map fun kv => if kv.1 = k then (kv.1, y) else kv) (xs.map (putAt k u)) := by
 induction r with
 | nil => exact .nil
 | @cons p q ps qs h t ih =>
  rw [List.map_cons, List.map_cons]
  refine .cons ?_ ih
  obtain ⟨h1, h2, h3⟩ := h
  unfold putAt
  by_cases e : p.1 = k
  ·rw [if_pos e, if_pos (h1.symm.trans e)]; exact ⟨h1, h2, ry⟩
  ·rw [if_neg e, if_neg (fun z => e (h1.trans z))]; exact ⟨h1, h2, h3⟩
theorem KT.put {H : Hp} {kvs : List (List Key × V)} {xs : List (List Key × Addr × Value)} (r : KT H kvs xs) (k : List Key) {b : Addr} {y : V} {u : Value} (hb : H b = some (.tup (k.map kV))) (ry : RelV y u) :
  KT H (putK kvs k y) (storedH xs k b u) := by
 have e : (kvs.any fun kv => decide (kv.1 = k)) = (atKey xs k).isSome := by
  rw [yz, (r.val k).isSome_eq, Option.isSome_map]
 unfold putK storedH
 rw [e]
 by_cases q : (atKey xs k).isSome = true
 ·rw [if_pos q, if_pos q]; exact r.repl k ry
 ·rw [if_neg q, if_neg q]; exact Paired.snoc r ⟨rfl, hb, ry⟩
theorem KT.keeps {H H' : Hp} {kvs : List (List Key × V)} {xs : List (List Key × Addr × Value)} (r : KT H kvs xs) (ht : ∀ b ys, H b = some (.tup ys) -> H' b = some (.tup ys)) : KT H' kvs xs :=
 Paired.mapP r fun _ _ z => ⟨z.1, ht _ _ z.2.1, z.2.2⟩
section
variable {P : Program} {w : World} {H : Hp} {h : Heap} {a : Addr}
theorem VT {u : HO} (ok : HOk P w H h) (e : Rd H a u) : ObjOk P w H h a u := e.ok ok
theorem Ql {kvs : List (Key × V)} (ok : HOk P w H h) (e : Rd H a (.dK kvs)) : kvs.length <= sizeLine /\ (a == sysModules) = false /\ ∃ vs, KV kvs vs /\ h.DictOf (zo P w) a vs :=
 show ObjOk P w H h a (.dK kvs) from VT ok e
theorem JN {kvs : List (Key × V)} (ok : HOk P w H h) (e : H a = some (.dK kvs)) : kvs.length <= sizeLine /\ (a == sysModules) = false /\ ∃ vs, KV kvs vs /\ h.DictOf (zo P w) a vs := Ql ok (.inl e)
theorem ww {ks : List Key} (ok : HOk P w H h) (e : H a = some (.tup (ks.map kV))) : (tupleKind (zo P w)).is h ks a := by
 obtain ⟨_, its, r, o, h1, h2, n, h3⟩ := (show ObjOk P w H h a (.tup (ks.map kV)) from ok a _ e)
 exact ⟨o, its.toArray, n, h1, h2, h3, by simpa using wy r⟩
theorem ZH {kvs : List (List Key × V)} (ok : HOk P w H h) (e : Rd H a (.dT kvs)) : kvs.length <= sizeLine /\ (a == sysModules) = false /\
  ∃ xs, KT H kvs xs /\ h.DictOfH (tupleKind (zo P w)) a xs := by
 obtain ⟨z, y, xs, r, o, es, ep, h1, h2, h3, h4, h5⟩ := (show ObjOk P w H h a (.dT kvs) from VT ok e)
 refine ⟨z, y, xs, r, o, es, ep, h1, h2, h3, h4, fun x hx => ?_, h5⟩
 have all : ∀ {l : List (List Key × V)} {m : List (List Key × Addr × Value)}, KT H l m -> ∀ x ∈ m, (tupleKind (zo P w)).is h x.1 x.2.1 := by
  intro l m q
  induction q with
  | nil => intro x hx; exact nomatch hx
  | @cons p q ps qs hq t ih =>
   intro x hx
   rcases List.mem_cons.mp hx with e | hx
   ·subst e
    exact ww ok (by rw [<- hq.1]; exact hq.2.1)
   ·exact ih x hx
 exact all r x hx
theorem Wa {kvs : List (List Key × V)} (ok : HOk P w H h) (e : H a = some (.dT kvs)) : kvs.length <= sizeLine /\ (a == sysModules) = false /\
  ∃ xs, KT H kvs xs /\ h.DictOfH (tupleKind (zo P w)) a xs := ZH ok (.inl e)
end
def DGet (H : Hp) (a : Addr) (y : V) (r : Option V) : Prop :=
 (∃ kvs k, Rd H a (.dK kvs) /\ y = kV k /\ r = valV kvs k) \/ ∃ kvs k b, Rd H a (.dT kvs) /\ y = .ref b /\ H b = some (.tup (k.map kV)) /\ r = valV kvs k
def DPut (H : Hp) (a : Addr) (y v : V) (H' : Hp) : Prop :=
 (∃ kvs k, H a = some (.dK kvs) /\ y = kV k /\ kvs.length < sizeLine /\ H' = upd H a (.dK (putK kvs k v))) \/
 ∃ kvs k b, H a = some (.dT kvs) /\ y = .ref b /\ H b = some (.tup (k.map kV)) /\ kvs.length < sizeLine /\ H' = upd H a (.dT (putK kvs k v))
theorem DGet.k {H : Hp} {a : Addr} {kvs : List (Key × V)} {k : Key} (e : H a = some (.dK kvs)) : DGet H a (kV k) (valV kvs k) := .inl ⟨kvs, k, .inl e, rfl, rfl⟩
theorem DGet.t {H : Hp} {a b : Addr} {kvs : List (List Key × V)} {k : List Key} (e : H a = some (.dT kvs)) (eb : H b = some (.tup (k.map kV))) : DGet H a (.ref b) (valV kvs k) := .inr ⟨kvs, k, b, .inl e, rfl, eb, rfl⟩
theorem DPut.k {H : Hp} {a : Addr} {kvs : List (Key × V)} {k : Key} {v : V} (e : H a = some (.dK kvs)) (hl : kvs.length < sizeLine) : DPut H a (kV k) v (upd H a (.dK (putK kvs k v))) := .inl ⟨kvs, k, e, rfl, hl, rfl⟩
theorem DPut.t {H : Hp} {a b : Addr} {kvs : List (List Key × V)} {k : List Key} {v : V} (e : H a = some (.dT kvs)) (eb : H b = some (.tup (k.map kV))) (hl : kvs.length < sizeLine) :
  DPut H a (.ref b) v (upd H a (.dT (putK kvs k v))) := .inr ⟨kvs, k, b, e, rfl, eb, hl, rfl⟩
section
variable {X : Cx} {pins : List (Addr × Obj)} {σ : St} {H : Hp} {s : Shared} {a : Addr} {y v : V} {u r : Value} {o : Option V} {A : Around} {E : Value -> Shared -> Prop}
theorem Inv.big (I : Inv X pins σ H s) : sysModules < s.heap.objs.size := by
 have h : mainGlobals < s.heap.objs.size := (I.mod.glob.keeps I.bk).lt
 exact Nat.lt_trans (by decide) h
theorem wD {Q : Value -> Shared -> Prop} (hu : A.units + 1 < cLine) (I : Inv X pins σ H s) (g : DGet H a y (some v)) (ry : RelV y u) (h : ∀ w' s', Inv X pins σ H s' -> RelV v w' -> Q w' s') :
  wpAny (model X.prog X.w) A (getItem (.ref a) u) Q E s := by
 rcases g with ⟨kvs, k, e, ey, l⟩ | ⟨kvs, k, b, e, ey, eb, l⟩
 ·subst ey
  obtain ⟨z, hd, vs, rel, dd⟩ := Ql I.hok e
  obtain ⟨w', hw, rw'⟩ := RelO.some_of (v := v) (o := valueAt vs k) (by rw [l]; exact rel.val k)
  exact wpAny_getItem_of (yb ry) dd.mapOf hw (h w' _ (I.tok _) rw')
 ·subst ey
  cases (show u = Value.ref b from ry)
  obtain ⟨z, hd, xs, rel, dd⟩ := ZH I.hok e
  obtain ⟨w', hw, rw'⟩ := RelO.some_of (v := v) (o := (atKey xs k).map (·.2)) (by rw [l]; exact rel.val k)
  obtain ⟨p, hp, hp2⟩ := Option.map_eq_some_iff.mp hw
  refine wpAny_getItem_heap (tupleKind_room_in1 hu) (ww I.hok eb) dd hp ?_
  rw [hp2]
  exact h w' _ (I.tok _) rw'
theorem d_in {Q : Value -> Shared -> Prop} (hu : A.units + 1 < cLine) (I : Inv X pins σ H s) (g : DGet H a y o) (ry : RelV y u) (h : ∀ s', Inv X pins σ H s' -> Q (.bool o.isSome) s') :
  wpAny (model X.prog X.w) A (compareOp .In u (.ref a)) Q E s := by
 rcases g with ⟨kvs, k, e, ey, l⟩ | ⟨kvs, k, b, e, ey, eb, l⟩
 ·subst ey
  obtain ⟨z, hd, vs, rel, dd⟩ := Ql I.hok e
  refine wpAny_in_of (yb ry) hd dd.mapOf ?_
  rw [<- (rel.val k).isSome_eq, <- l]
  exact h _ (I.tok _)
 ·subst ey
  cases (show u = Value.ref b from ry)
  obtain ⟨z, hd, xs, rel, dd⟩ := ZH I.hok e
  refine wpAny_in_heap (tupleKind_room_in1 hu) (ww I.hok eb) hd dd ?_
  have q := (rel.val k).isSome_eq
  rw [Option.isSome_map] at q
  rw [<- q, <- l]
  exact h _ (I.tok _)
theorem xM {Q : Value -> Shared -> Prop} (hu : A.units + 1 < cLine) (I : Inv X pins σ H s) (g : DGet H a y o) (ry : RelV y u) (h : ∀ s', Inv X pins σ H s' -> Q (.bool (!o.isSome)) s') :
  wpAny (model X.prog X.w) A (compareOp .NotIn u (.ref a)) Q E s := by
 rcases g with ⟨kvs, k, e, ey, l⟩ | ⟨kvs, k, b, e, ey, eb, l⟩
 ·subst ey
  obtain ⟨z, hd, vs, rel, dd⟩ := Ql I.hok e
  refine wpAny_notIn_of (yb ry) hd dd.mapOf ?_
  rw [<- (rel.val k).isSome_eq, <- l]
  exact h _ (I.tok _)
 ·subst ey
  cases (show u = Value.ref b from ry)
  obtain ⟨z, hd, xs, rel, dd⟩ := ZH I.hok e
  refine wpAny_notIn_heap (tupleKind_room_in1 hu) (ww I.hok eb) hd dd ?_
  have q := (rel.val k).isSome_eq
  rw [Option.isSome_map] at q
  rw [<- q, <- l]
  exact h _ (I.tok _)
theorem yj {h' : Heap} {t' : Nat} {ob : HO} (I : Inv X pins σ H s) (mu : Mut (H a)) (hs : Heap.SameBut a s.heap h') (he : ∃ q, h'.get? a = some q) (new : ObjOk X.prog X.w (upd H a ob) h' a ob) :
  Inv X pins σ (upd H a ob) { s with heap := h', toks := t' } :=
 I.write (x := a) (e := a) mu (.inl rfl) (fun b q hb z => (hs.2 b hb).trans z) he new
theorem ZL {P : Program} {w : World} {H' : Hp} {h' : Heap} {kvs : List (Key × V)} {vs : List (Key × Value)} (z : kvs.length <= sizeLine) (hd : (a == sysModules) = false) (rel : KV kvs vs) (dd : h'.DictOf (zo P w) a vs) :
  ObjOk P w H' h' a (.dK kvs) := ⟨z, hd, vs, rel, dd⟩
theorem ZP {H' : Hp} {Q : Unit -> Shared -> Prop} (hu : A.units + 1 < cLine) (I : Inv X pins σ H s) (g : DPut H a y v H') (ry : RelV y u) (rv : RelV v r) (h : ∀ s', Inv X pins σ H' s' -> Q () s') :
  wpAny (model X.prog X.w) A (setItem (.ref a) u r) Q E s := by
 rcases g with ⟨kvs, k, e, ey, l, eH⟩ | ⟨kvs, k, b, e, ey, eb, l, eH⟩
 ·subst ey eH
  obtain ⟨z, hd, vs, rel, dd⟩ := JN I.hok e
  have hz : vs.length <= sizeLine := by rw [<- rel.length]; exact z
  have hl : (putK kvs k v).length <= sizeLine := by have := kb kvs k v; omega
  refine wpAny_setItem_pairs (hsz := hz) (yb ry) dd fun h' dd' hs => h _ ?_
  have he : ∃ q, h'.get? a = some q := let ⟨q, _, _, hq, _⟩ := dd'; ⟨q, hq⟩
  exact yj I (by rw [e]; exact True.intro) hs he (ZL hl hd (rel.put k rv) dd')
 ·subst ey eH
  cases (show u = Value.ref b from ry)
  obtain ⟨z, hd, xs, rel, dd⟩ := Wa I.hok e
  have hz : xs.length <= sizeLine := by rw [<- Paired.length rel]; exact z
  have hl : (putK kvs k v).length <= sizeLine := by have := kb kvs k v; omega
  refine wpAny_setItem_heap (hsz := hz) (tupleKind_room_in1 hu) (ww I.hok eb) dd fun h' dd' hs => h _ ?_
  obtain ⟨q, es, ep, hq, h2, h3, h4, _, h5⟩ := dd'
  refine yj I (by rw [e]; exact True.intro) hs ⟨q, hq⟩ ⟨hl, hd, _, (rel.put k eb rv).keeps fun c ys ec => ?_, q, es, ep, hq, h2, h3, h4, h5⟩
  rw [qu (Zi ec e (fun z => nomatch z))]
  exact ec
end
section
variable {X : Cx} {pins : List (Addr × Obj)} {σ : St} {H : Hp} {s : Shared} {a : Addr} {kvs : List (Key × V)} {k : Key} {u : Value} {A : Around} {E : Value -> Shared -> Prop}
theorem Wb {Q : Value -> Shared -> Prop} (I : Inv X pins σ H s) (e : Rd H a (.dK kvs)) (h : ∀ t s', Inv X pins σ H s' -> Q (.int kvs.length t) s') : wpAny (model X.prog X.w) A (call (.builtin "len") [.ref a]) Q E s := by
 obtain ⟨z, hd, vs, rel, dd⟩ := Ql I.hok e
 refine call_len_dict hd dd (by rw [<- rel.length]; rw [sizeLine_eq] at z; omega) ?_
 rw [<- rel.length]
 exact h _ _ (I.tok _)
end
def NoSl (i : Expr) : Prop := ∀ ov iv, subscripted i false ov iv = operate [ov, iv] (getItem ov iv)
theorem Ky {prog : Program} {w : World} {A : Around} {E : Value -> Shared -> Prop} {s : Shared} {env : Env} {value slice : Expr} {pos : Pos} {T id : String} {Q : Value -> Shared -> Prop}
  (hl : typeLookup (.type T) "__getitem__" = pure (some (.builtin id))) (hs : NoSl slice)
  (h : wpAny (model prog w) A (eval value env) (fun o s₁ => wpAny (model prog w) A (eval slice env) (fun i s₂ => s₂.TypeIs o T /\ wpAny (model prog w) A (getItem o i) Q E s₂) E s₁) E s) :
  wpAny (model prog w) A (eval (.Subscript value slice pos) env) Q E s := by
 refine Subscript_ (wpAny_mono h (fun o s₁ h₁ => wpAny_mono h₁ (fun i s₂ h₂ => ?_) fun _ _ x => x) fun _ _ x => x)
 obtain ⟨hT, h₂⟩ := h₂
 unfold subscriptTail
 refine wpAny_bind ?_
 rw [getitemInPython_of_ne hT.not_modules]
 refine wpAny_bind (wpAny_specialOf hT hl ?_)
 have fin : wpAny (model prog w) A (subscripted slice false o i) (fun r s₃ => wpAny (model prog w) A (letTemporaryGo value o r >>= fun _ => pure r) Q E s₃) E s₂ := by
  rw [hs o i]
  exact wpAny_operating (wpAny_mono h₂ (fun r s₃ h₃ => wpAny_bind (wpAny_letTemporaryGo (wpAny_pure h₃))) fun _ _ x => x)
 first
  | exact wpAny_pure (wpAny_bind fin)
  | exact wpAny_bind (wpAny_pure (wpAny_bind fin))
  | exact wpAny_bind fin
theorem vL {X : Cx} {pins : List (Addr × Obj)} {σ : St} {H : Hp} {s : Shared} {a : Addr} {y : V} {o : Option V} (I : Inv X pins σ H s) (g : DGet H a y o) : s.TypeIs (.ref a) "dict" := by
 rcases g with ⟨kvs, k, e, _, _⟩ | ⟨kvs, k, b, e, _, _, _⟩
 ·obtain ⟨_, _, vs, _, dd⟩ := Ql I.hok e
  exact dd.typeIs
 ·obtain ⟨_, _, xs, _, dd⟩ := ZH I.hok e
  exact dd.typeIs
def XL (td ty : TE) : TE := fun σ H Q => td σ H fun x H1 => ty σ H1 fun y H2 => ∃ a v, x = .ref a /\ DGet H2 a y (some v) /\ Q v H2
def tDIn (ty td : TE) : TE := fun σ H Q => ty σ H fun y H1 => td σ H1 fun x H2 => ∃ a o, x = .ref a /\ DGet H2 a y o /\ Q (.bl o.isSome) H2
def XO (td ty tv : TE) : TS := fun D σ H => tv σ H fun v H1 => td σ H1 fun x H2 => ty σ H2 fun y H3 => ∃ a H4, x = .ref a /\ DPut H3 a y v H4 /\ D.nx σ H4
section
variable {X : Cx} {o i e value : Expr} {pos pos' tpos : Pos} {td ty tv : TE}
theorem Q0 (hu : X.A.units + 1 < cLine) (ho : PE X o td) (hi : PE X i ty) (hs : NoSl i) : PE X (.Subscript o i pos) (XL td ty) := by
 intro pins s σ H Q I h
 refine Ky PySem.F.slot_dict_getitem.lookup hs (thn (ho pins s σ H _ I h) fun u s1 ⟨x, H1, I1, rx, q1⟩ => thn (hi pins s1 σ H1 _ I1 q1) fun iv s2 ⟨y, H2, I2, ry, a, v, ex, g, q2⟩ => ?_)
 subst ex
 obtain rfl : u = Value.ref a := rx
 exact ⟨vL I2 g, wD hu I2 g ry fun w' s3 I3 rw' => ⟨v, H2, I3, rw', q2⟩⟩
theorem V_ (hu : X.A.units + 1 < cLine) (hi : PE X i ty) (ho : PE X o td) : PC X .In i o (tDIn ty td) := by
 intro pins s σ H Q I h
 refine thn (hi pins s σ H _ I h) fun iv s1 ⟨y, H1, I1, ry, q1⟩ => thn (ho pins s1 σ H1 _ I1 q1) fun u s2 ⟨x, H2, I2, rx, a, ov, ex, g, q2⟩ => ?_
 subst ex
 obtain rfl : u = Value.ref a := rx
 exact d_in hu I2 g ry fun s3 I3 => ⟨.bl ov.isSome, H2, I3, rfl, q2⟩
theorem QO (hu : X.A.units + 1 < cLine) (ho : PE X o td) (hi : PE X i ty) (hv : PE X value tv) (hs : swapsWith value (some (.Subscript o i pos')) pos.line X.env = pure false) :
  PS X (.Assign [.Subscript o i pos'] value pos) (XO td ty tv) := by
 intro pins s σ H D I h
 refine wpAny_Assign_Subscript (thn (hv pins s σ H _ I h) fun r s1 ⟨v, H1, I1, rv, q1⟩ => thn (ho pins s1 σ H1 _ I1 q1) fun u s2 ⟨x, H2, I2, rx, q2⟩ => thn (hi pins s2 σ H2 _ I2 q2) fun iv s3 ⟨y, H3, I3, ry, a, H4, ex, g, q3⟩ => ?_) hs
 subst ex
 obtain rfl : u = Value.ref a := rx
 exact ZP hu I3 g ry rv fun s4 I4 => ⟨σ, H4, I4, q3⟩
end
theorem yU {P : Program} {w : World} {H : Hp} (h : Heap) (hb : sysModules < h.objs.size) : ObjOk P w H (h.push { cls := .type "dict", data := .dict #[] }) h.objs.size (.dK []) :=
 ⟨Nat.zero_le _, beq_eq_false_iff_ne.mpr (Ne.symm (Nat.ne_of_lt hb)), [], .nil, Heap.DictOf.new h⟩
def J0 : TE := fun _ H Q => ∀ p, H p = none -> Q (.ref p) (upd H p (.dK []))
section
variable {X : Cx} {pos : Pos}
theorem Jk : PE X (.Dict [] [] pos) J0 := fun pins s σ H Q I h =>
 wpAny_Dict_empty ⟨.ref s.heap.objs.size, _, I.laid (a := s.heap.objs.size) (o := .dK []) (t' := s.toks) (fun _ _ q => Heap.get?_push_of_some _ q) (Nat.le_refl _) (yU s.heap I.big), rfl, h _ (I.hok.fresh (Nat.le_refl _))⟩
end
def Qs : List (TE × TE) -> St -> Hp -> (List (V × V) -> Hp -> Prop) -> Prop
 | [], _, H, Q => Q [] H
 | (tk, tv) :: r, σ, H, Q => tk σ H fun x H1 => tv σ H1 fun y H2 => Qs r σ H2 fun ps H3 => Q ((x, y) :: ps) H3
abbrev VV : List (V × V) -> List (Value × Value) -> Prop := Paired fun p q => RelV p.1 q.1 /\ RelV p.2 q.2
def PPs (X : Cx) (pos : Pos) (keys : List (Option Expr)) (values : List Expr) (trs : List (TE × TE)) : Prop :=
 ∀ (pins : List (Addr × Obj)) (s : Shared) (σ : St) (H : Hp) (Q : List (V × V) -> Hp -> Prop), Inv X pins σ H s -> Qs trs σ H Q ->
  wpAny (model X.prog X.w) X.A (evalPairs (pairTrees keys values X.env pos)) (fun vs s' => ∃ ps H', Inv X pins σ H' s' /\ VV ps vs /\ Q ps H') X.xe s
theorem KM {X : Cx} {pos : Pos} : PPs X pos [] [] [] := fun pins s σ H Q I h => pairTrees_nil_walk ⟨[], H, I, .nil, h⟩
theorem Je {X : Cx} {pos : Pos} {k v : Expr} {ks : List (Option Expr)} {vs : List Expr} {tk tv : TE} {trs : List (TE × TE)} (hk : PE X k tk) (hv : PE X v tv) (hr : PPs X pos ks vs trs) :
  PPs X pos (some k :: ks) (v :: vs) ((tk, tv) :: trs) := fun pins s σ H Q I h =>
 pairTrees_cons_walk (thn (hk pins s σ H _ I h) fun u s1 ⟨x, H1, I1, rx, q1⟩ => thn (hv pins s1 σ H1 _ I1 q1) fun w2 s2 ⟨y, H2, I2, ry, q2⟩ =>
  thn (hr pins s2 σ H2 _ I2 q2) fun ws s3 ⟨ps, H3, I3, rel, q3⟩ => ⟨(x, y) :: ps, H3, I3, .cons ⟨rx, ry⟩ rel, q3⟩)
def v_ (kvs more : List (Key × V)) : List (Key × V) := more.foldl (fun acc kv => putK acc kv.1 kv.2) kvs
theorem KV.merge : ∀ {more : List (Key × V)} {rs : List (Key × Value)} {kvs : List (Key × V)} {vs : List (Key × Value)}, KV more rs -> KV kvs vs -> KV (v_ kvs more) (merged vs rs) := by
 intro more rs kvs vs r
 unfold KV at r
 induction r generalizing kvs vs with
 | nil => intro q; exact q
 | @cons p q ps qs h t ih =>
  intro r0
  have e : KV (putK kvs p.1 p.2) (stored vs q.1 q.2) := by
   have := r0.put p.1 h.2
   rw [<- h.1]; exact this
  exact ih e
theorem kn : ∀ (more kvs : List (Key × V)), (v_ kvs more).length <= kvs.length + more.length
 | [], kvs => by show kvs.length <= kvs.length + 0; omega
 | p :: r, kvs => by
  have h1 := kn r (putK kvs p.1 p.2)
  have h2 := kb kvs p.1 p.2
  show (v_ (putK kvs p.1 p.2) r).length <= _
  rw [List.length_cons]; omega
theorem xl {P : Program} {w : World} : ∀ {kvs : List (Key × V)} {ws : List (Value × Value)}, VV (kvs.map fun kv => (kV kv.1, kv.2)) ws -> ∃ rs, Carries (zo P w) ws rs /\ KV kvs rs
 | [], _, r => by rw [List.map_nil] at r; cases r; exact ⟨[], True.intro, .nil⟩
 | p :: kvs, _, r => by
  rw [List.map_cons] at r
  cases r with
  | @cons a b as bs h t =>
   obtain ⟨rs, c, q⟩ := xl (P := P) (w := w) t
   obtain ⟨b1, b2⟩ := b
   exact ⟨(p.1, b2) :: rs, ⟨yb h.1, rfl, c⟩, .cons ⟨rfl, h.2⟩ q⟩
def XJ (trs : List (TE × TE)) : TE := fun σ H Q => ∀ p, H p = none -> Qs trs σ (upd H p (.dK [])) fun ps H2 => H2 p = some (.dK []) /\ ∃ kvs : List (Key × V), ps = kvs.map (fun kv => (kV kv.1, kv.2)) /\ kvs.length <= 15 /\ Q (.ref p) (upd H2 p (.dK (v_ [] kvs)))
theorem KP {X : Cx} {pos : Pos} {keys : List (Option Expr)} {values : List Expr} {trs : List (TE × TE)} (h : PPs X pos keys values trs) (hall : keys.all (·.isSome) = true) (hl : keys.length = values.length) (h0 : keys ≠ [])
  (h15 : keys.length <= 15) : PE X (.Dict keys values pos) (XJ trs) := by
 intro pins s σ H Q I q
 have hn := I.hok.fresh (Nat.le_refl s.heap.objs.size)
 have I1 := I.laid (a := s.heap.objs.size) (o := .dK []) (h' := s.heap.push { cls := .type "dict", data := .dict #[] }) (t' := s.toks) (fun _ _ q => Heap.get?_push_of_some _ q) (Nat.le_refl _) (yU s.heap I.big)
 refine wpAny_Dict_walk (knd := zo X.prog X.w) hall hl h0 h15 (thn (h pins _ σ _ _ I1 (q _ hn)) fun ws s2 ⟨ps, H2, I2, rel, e, kvs, ep, lk, q2⟩ => ?_)
 subst ep
 obtain ⟨rs, c, rk⟩ := xl (P := X.prog) (w := X.w) rel
 obtain ⟨z, hd, vs0, r0, dd⟩ := JN I2.hok e
 cases r0
 refine ⟨rs, c, dd, fun h' dd' hs => ⟨.ref s.heap.objs.size, _, ?_, rfl, q2⟩⟩
 have hz : (v_ [] kvs).length <= sizeLine := by
  have h1 := kn kvs []
  rw [List.length_nil] at h1
  rw [sizeLine_eq]; omega
 have he : ∃ q, h'.get? s.heap.objs.size = some q := let ⟨q, _, _, hq, _⟩ := dd'; ⟨q, hq⟩
 exact yj I2 (by rw [e]; exact True.intro) hs he (ZL hz hd (rk.merge .nil) dd')
section
variable {X : Cx} {pins : List (Addr × Obj)} {σ : St} {H : Hp} {s : Shared} {a : Addr} {y d : V} {u r : Value} {o : Option V} {A : Around} {E : Value -> Shared -> Prop}
end
section
variable {X : Cx} {o e f : Expr} {apos cpos : Pos} {td ty tx : TE}
end
section
variable {X : Cx} {pins : List (Addr × Obj)} {σ : St} {H : Hp} {s : Shared} {a : Addr} {kvs : List (Key × V)} {A : Around} {E : Value -> Shared -> Prop}
end
section
variable {X : Cx} {pins : List (Addr × Obj)} {σ : St} {H : Hp} {s : Shared} {a : Addr} {y : V} {u : Value} {A : Around} {E : Value -> Shared -> Prop}
end
end L2
namespace HT
open PySem PyProof.Rows
section
open PySem.SeqAt
open PySem.AutoSeq1 (wpAny_loadPart')
open PySem.MeetsSeq PySem.MeetsSeq2 PySem.MeetsSeq3
end
section
variable {prog : Program} {w : World} {A : Around} {E : Value -> Shared -> Prop} {s : Shared}
theorem cat_tup {t b : Addr} {vs ws : List Value} {Q : Value -> Shared -> Prop} (ht : IsTup s.heap t vs.toArray) (hb : IsTup s.heap b ws.toArray) (hv : vs ≠ [])
  (h1 : ws = [] -> Q (.ref t) s) (h2 : ws ≠ [] -> Q (.ref s.heap.objs.size) { s with heap := s.heap.push { cls := .type "tuple", data := .seq (vs ++ ws).toArray } })
  (hsz : vs.length + ws.length <= sizeLine) : wpAny (model prog w) A (binaryOp .Add (.ref t) (.ref b)) Q E s := by
 obtain ⟨⟨cls, dd, data, sl⟩, ho, hc, n, hd⟩ := id ht
 obtain ⟨⟨cls2, dd2, data2, sl2⟩, ho2, hc2, n2, hd2⟩ := id hb
 simp only at hc hd hc2 hd2
 subst hc hd hc2 hd2
 have e : vs.toArray ++ ws.toArray = (vs ++ ws).toArray := by simp
 by_cases hw : ws = []
 ·exact concat_meets ⟨_, ho, rfl⟩ ⟨_, ho2, rfl⟩ noFill_tuple_add seq_tuple_add PySem.F.slot_tuple_add PySem.F.entry_tuple_add (PySem.F.args_tuple_add_2 _ _)
   (tuple_addW1 t b vs.toArray ws.toArray n n2 dd dd2 sl sl2 (by simpa using hv) (by simp [hw])) ⟨ho, ho2, h1 hw⟩
 ·refine concat_meets ⟨_, ho, rfl⟩ ⟨_, ho2, rfl⟩ noFill_tuple_add seq_tuple_add PySem.F.slot_tuple_add PySem.F.entry_tuple_add (PySem.F.args_tuple_add_2 _ _)
   (tuple_addW2 t b vs.toArray ws.toArray n n2 dd dd2 sl sl2 (by simpa using hv) (by simpa using hw) (by rw [List.size_toArray, List.size_toArray]; exact hsz)) ⟨ho, ho2, ?_⟩
  rw [e]
  exact h2 hw
end
end HT
namespace L2
open PySem PySem.Spec PyProof.Rows
abbrev TO := St -> Hp -> (Option Int -> Hp -> Prop) -> Prop
def PO (X : Cx) (e : Option Expr) (t : TO) : Prop :=
 ∀ (pins : List (Addr × Obj)) (s : Shared) (σ : St) (H : Hp) (Q : Option Int -> Hp -> Prop), Inv X pins σ H s -> t σ H Q ->
  wpAny (model X.prog X.w) X.A (evalPart e X.env) (fun u s' => ∃ o H', Inv X pins σ H' s' /\ IsPart u o /\ Q o H') X.xe s
section
variable {X : Cx} {e : Expr} {te : TE} {lo hi : Option Expr} {tl th : TO} {pos p2 : Pos}
def VU (K : PySem.W.Frag) : R2 := fun x y H Q => ∃ a b xs ys, x = .ref a /\ y = .ref b /\ SqT K H a xs /\ SqT K H b ys /\ xs ≠ [] /\ xs.length + ys.length <= sizeLine /\
 (ys = [] -> Q (.ref a) H) /\ (ys ≠ [] -> ∀ p, H p = none -> Q (.ref p) (upd H p (.tup (xs ++ ys))))
theorem Vals.nil_iff {xs : List V} {us : List Value} (r : Vals xs us) : us = [] ↔ xs = [] := by
 cases r with
 | nil => simp
 | cons _ _ => simp
theorem KZ : OpR X (binaryOp .Add) (VU X.K) := by
 intro pins s σ H x y v u Q I rx ry h
 obtain ⟨a, b, xs, ys, rfl, rfl, ha, hb, hx, hz, q1, q2⟩ := h
 cases rx
 cases ry
 obtain ⟨its, r1, p1, _⟩ := I.tuple ha
 obtain ⟨its2, r2, p2, _⟩ := I.tuple hb
 refine HT.cat_tup p1 p2 (fun z => hx (r1.nil_iff.mp z)) (fun z => ⟨.ref a, H, I, rfl, q1 (r2.nil_iff.mp z)⟩) (fun z => ?_) (by rw [<- r1.length, <- r2.length]; exact hz)
 refine ⟨.ref s.heap.objs.size, _, I.laid (t' := s.toks) (o := .tup (xs ++ ys)) (fun b ob q => Heap.get?_push_of_some _ q) (Nat.le_refl _) ?_, rfl, q2 (fun w => z (r2.nil_iff.mpr w)) _ (I.hok.fresh (Nat.le_refl _))⟩
 exact ⟨by rw [List.length_append]; exact hz, _, r1.append r2, IsTup.new _ _⟩
end
def ixN (n : Nat) (i : Int) : Option Nat := if 0 <= i then (if i < n then some i.toNat else none) else if -(n : Int) <= i then some (i + n).toNat else none
def atI {α : Type} (xs : List α) (i : Int) : Option α := (ixN xs.length i).bind fun j => xs[j]?
theorem Vb {n : Nat} {i : Int} {j : Nat} (h : ixN n i = some j) : seqIndex? i n = some j /\ j < n /\ -(n : Int) <= i /\ i < n := by
 unfold ixN at h
 by_cases h0 : 0 <= i
 ·rw [if_pos h0] at h
  by_cases h1 : i < n
  ·rw [if_pos h1] at h
   have e : i.toNat = j := Option.some.inj h
   exact ⟨by rw [seqIndex_of h0 h1, e], by omega, by omega, h1⟩
  ·rw [if_neg h1] at h; cases h
 ·rw [if_neg h0] at h
  by_cases h1 : -(n : Int) <= i
  ·rw [if_pos h1] at h
   have e : (i + n).toNat = j := Option.some.inj h
   exact ⟨by rw [seqIndex_neg (by omega) h1, e], by omega, h1, by omega⟩
  ·rw [if_neg h1] at h; cases h
theorem yq {α : Type} {xs : List α} {i : Int} {v : α} (h : atI xs i = some v) : ∃ j, seqIndex? i xs.length = some j /\ xs[j]? = some v /\ j < xs.length /\ -(xs.length : Int) <= i /\ i < xs.length := by
 unfold atI at h
 cases e : ixN xs.length i with
 | none => rw [e] at h; cases h
 | some j =>
  rw [e] at h
  obtain ⟨h1, h2, h3, h4⟩ := Vb e
  exact ⟨j, h1, h, h2, h3, h4⟩
theorem ZX {α : Type} {xs : List α} {j : Nat} {v : α} (h : xs[j]? = some v) : atI xs (j : Int) = some v := by
 have hj : j < xs.length := (List.getElem?_eq_some_iff.mp h).1
 have e : ixN xs.length (j : Int) = some j := by
  unfold ixN
  rw [if_pos (by omega), if_pos (by omega)]; simp
 unfold atI; rw [e]; exact h
def ZZ (b : Expr) : Prop := ∀ o i, subscripted b false o i = operate [o, i] (getItem o i)
def IxR (X : Cx) (r : R2) : Prop :=
 ∀ (value slice : Expr) (pins : List (Addr × Obj)) (s : Shared) (σ : St) (H : Hp) (x y : V) (v u : Value) (Q : VK), Inv X pins σ H s -> RelV x v -> RelV y u -> r x y H Q ->
  subscripted slice false v u = operate [v, u] (getItem v u) -> wpAny (model X.prog X.w) X.A (subscriptTail value slice v u) (EP X pins σ Q) X.xe s
def MtR (X : Cx) (id : String) (r : V -> List V -> Hp -> VK -> Prop) : Prop :=
 ∀ (pins : List (Addr × Obj)) (s : Shared) (σ : St) (H : Hp) (x : V) (xs : List V) (v : Value) (us : List Value) (Q : VK), Inv X pins σ H s -> RelV x v -> Vals xs us -> r x xs H Q ->
  wpAny (model X.prog X.w) X.A (call (.builtin id) (v :: us)) (EP X pins σ Q) X.xe s
section
variable {X : Cx} {a b : Expr} {ta tb : TE} {pos : Pos}
theorem IxR.or {r r' : R2} (h : IxR X r) (h' : IxR X r') : IxR X (fun x y H Q => r x y H Q \/ r' x y H Q) := by
 intro value slice pins s σ H x y v u Q I rx ry q hs
 rcases q with q | q
 ·exact h value slice pins s σ H x y v u Q I rx ry q hs
 ·exact h' value slice pins s σ H x y v u Q I rx ry q hs
theorem XW {r : R2} (hr : IxR X r) (ha : PE X a ta) (hb : PE X b tb) (hs : ZZ b) : PE X (.Subscript a b pos) (tOp r ta tb) := by
 intro pins s σ H Q I h
 exact Subscript_ (binT ha hb I h fun v u s2 x y H2 I2 rx ry q => hr a b pins s2 σ H2 x y v u Q I2 rx ry q (hs _ _))
def rIxL (K : PySem.W.Frag) : R2 := fun x y H Q => ∃ p xs i v, x = .ref p /\ y = .int i /\ SqL K H p xs /\ atI xs i = some v /\ Q v H
def rIxT (K : PySem.W.Frag) : R2 := fun x y H Q => ∃ p xs i v, x = .ref p /\ y = .int i /\ SqT K H p xs /\ atI xs i = some v /\ Q v H
def rIxS : R2 := fun x y H Q => ∃ z i c, x = .str z /\ y = .int i /\ z.length <= sizeLine /\ atI z.cps.toList i = some c /\ Q (.str ⟨#[c]⟩) H
theorem ix_list : IxR X (rIxL X.K) := by
 intro value slice pins s σ H x y v u Q I rx ry h hs
 obtain ⟨p, xs, i, z, rfl, rfl, hq, he, q⟩ := h
 cases rx
 obtain ⟨t, rfl⟩ := ry
 obtain ⟨its, r, pl, hz⟩ := I.list hq
 obtain ⟨j, h1, h2, h3, h4, h5⟩ := yq he
 obtain ⟨w, ew, rw'⟩ := r.get h2
 have hl := r.length
 have hn := xa
 have fin : EP X pins σ Q w s := ⟨z, H, I, rw', q⟩
 by_cases h0 : 0 <= i
 ·have hj : i.toNat = j := by
   rw [seqIndex_of h0 h5] at h1
   exact Option.some.inj h1
  exact item_listR pl.isList h0 (by omega) (by rw [hj]; simpa using ew) fin hs
 ·have hj : (i + (its.toArray.size : Int)).toNat = j := by
   rw [seqIndex_neg (by omega) h4] at h1
   rw [List.size_toArray, <- hl]
   exact Option.some.inj h1
  exact subscriptTail_builtinR (x := w) pl.isList.typeIs slot_list_getitem.lookup
   (wpAny_getItem_list_neg (Q := fun r s' => r = w /\ EP X pins σ Q r s') pl.isList (by omega) (by rw [List.size_toArray] <;> omega) (by omega) (by rw [hj]; simpa using ew) ⟨rfl, fin⟩) hs
theorem ix_tup : IxR X (rIxT X.K) := by
 intro value slice pins s σ H x y v u Q I rx ry h hs
 obtain ⟨p, xs, i, z, rfl, rfl, hq, he, q⟩ := h
 cases rx
 obtain ⟨t, rfl⟩ := ry
 obtain ⟨its, r, pl, hz⟩ := I.tuple hq
 obtain ⟨j, h1, h2, h3, h4, h5⟩ := yq he
 obtain ⟨w, ew, rw'⟩ := r.get h2
 have hl := r.length
 have hn := xa
 have fin : EP X pins σ Q w s := ⟨z, H, I, rw', q⟩
 exact subscriptTail_builtinR (x := w) pl.typeIs slot_tuple_getitem.lookup
  (getItem_tuple (j := j) (Q := fun r s' => r = w /\ EP X pins σ Q r s') pl (by omega) (by omega) (by rw [List.size_toArray, <- hl]; exact h1) (by simpa using ew) ⟨rfl, fin⟩) hs
theorem Xs : IxR X rIxS := by
 intro value slice pins s σ H x y v u Q I rx ry h hs
 obtain ⟨z, i, c, rfl, rfl, hz, he, q⟩ := h
 obtain ⟨t, rfl⟩ := rx
 obtain ⟨t', rfl⟩ := ry
 obtain ⟨j, h1, h2, h3, h4, h5⟩ := yq he
 have hl : z.cps.toList.length = z.length := by simp [Str.length]
 rw [hl] at h1 h4 h5
 have hn := xa
 exact tail_any (typeIs_str s z t) slot_str_getitem.lookup (getItem_str (c := c) (by
  have e1 : decide (i < -(2 ^ 63 : Int)) = false := decide_eq_false (by omega)
  have e2 : decide (i >= 2 ^ 63) = false := decide_eq_false (by omega)
  rw [e1, e2, Bool.or_false]) (by rw [h1]; simpa using h2) ⟨.str ⟨#[c]⟩, H, I.tok _, ⟨_, rfl⟩, q⟩) hs
def rIx (K : PySem.W.Frag) : R2 := fun x y H Q => rIxL K x y H Q \/ rIxT K x y H Q \/ rIxS x y H Q
theorem ix_seq : IxR X (rIx X.K) := ix_list.or (ix_tup.or Xs)
theorem CallR.or {f : Value} {r r' : List V -> Hp -> VK -> Prop} (h : CallR X f r) (h' : CallR X f r') : CallR X f (fun xs H Q => r xs H Q \/ r' xs H Q) := by
 intro pins s σ H xs us Q I rs q
 rcases q with q | q
 ·exact h pins s σ H xs us Q I rs q
 ·exact h' pins s σ H xs us Q I rs q
def tyV (K : PySem.W.Frag) (T : String) (x : V) (H : Hp) : Prop := match x with
 | .str _ => T = "str"
 | .int _ => T = "int"
 | .ref p => (T = "list" /\ ∃ xs, SqL K H p xs) \/ (T = "tuple" /\ ∃ o, K.lookup p = some o /\ o.cls = .type "tuple" /\ o.dict = none) \/
   (T = "dict" /\ ((∃ kvs, H p = some (.dK kvs)) \/ ∃ kvs, H p = some (.dT kvs))) \/ (T = "set" /\ ∃ S n, H p = some (.set S n))
 | _ => False
theorem JX {pins : List (Addr × Obj)} {σ : St} {H : Hp} {s : Shared} {T : String} {x : V} {v : Value} (I : Inv X pins σ H s) (r : RelV x v) (ty : tyV X.K T x H) :
  s.TypeIs v T /\ ∀ a, v = .ref a -> ∃ ob, s.heap.get? a = some ob /\ ob.dict = none := by
 cases x with
 | str z =>
  obtain ⟨t, rfl⟩ := r
  cases (show T = "str" from ty)
  exact ⟨typeIs_str s z t, fun _ e => nomatch e⟩
 | int i =>
  obtain ⟨t, rfl⟩ := r
  cases (show T = "int" from ty)
  exact ⟨typeIs_int s i t, fun _ e => nomatch e⟩
 | ref p =>
  cases r
  rcases ty with ⟨rfl, xs, hq⟩ | ⟨rfl, o, hk, hc, hd⟩ | ⟨rfl, hk⟩ | ⟨rfl, S, n, hk⟩
  ·obtain ⟨its, _, pl, _⟩ := I.list hq
   refine ⟨pl.isList.typeIs, fun a e => ?_⟩
   cases e
   obtain ⟨o, n, e, c, hd, _⟩ := pl
   exact ⟨o, e, hd⟩
  ·refine ⟨⟨o, I.kIn p o hk, hc⟩, fun a e => ?_⟩
   cases e
   exact ⟨o, I.kIn _ o hk, hd⟩
  ·have z : ∃ o, s.heap.get? p = some o /\ o.ExactDict := by
    rcases hk with ⟨kvs, hk⟩ | ⟨kvs, hk⟩
    ·obtain ⟨_, _, _, _, o, _, _, e, ex, _⟩ := I.hok p _ hk
     exact ⟨o, e, ex⟩
    ·obtain ⟨_, _, _, _, o, _, _, e, ex, _⟩ := I.hok p _ hk
     exact ⟨o, e, ex⟩
   obtain ⟨o, e, ex⟩ := z
   refine ⟨⟨o, e, ex.1⟩, fun a e2 => ?_⟩
   cases e2
   exact ⟨o, e, ex.2.1⟩
  ·obtain ⟨o, _, _, _, e, ex, _⟩ := I.hok p _ hk
   refine ⟨⟨o, e, ex.1⟩, fun a e2 => ?_⟩
   cases e2
   exact ⟨o, e, ex.2.1⟩
 | _ => exact False.elim ty
def tBM0 (K : PySem.W.Frag) (T : String) (r : V -> List V -> Hp -> VK -> Prop) (to : TE) : TE := fun σ H Q => to σ H fun x H1 => tyV K T x H1 /\ r x [] H1 Q
def tBM (K : PySem.W.Frag) (T : String) (r : V -> List V -> Hp -> VK -> Prop) (to : TE) (t : TA) : TE := fun σ H Q => to σ H fun x H1 => tyV K T x H1 /\ t σ H1 fun xs H2 => r x xs H2 Q
variable {o e : Expr} {es : List Expr} {to : TE} {t : TA} {name : Str} {apos cpos : Pos} {T id : String} {r : V -> List V -> Hp -> VK -> Prop}
theorem V8 (pa : PlainAttrs T) (slot : Slot T name id) (hty : typeOf (.builtin id) = pure (.type "method_descriptor")) (hm : MtR X id r) (ho : PE X o to)
  (hbase : attributeBase o name X.env (eval o X.env) = eval o X.env := by rfl) (hline : (apos.endLine == cpos.line) = true := by rfl) : PE X (.Call (.Attribute o name apos) [] [] cpos) (tBM0 X.K T r to) := by
 intro pins s σ H Q I h
 refine wpAny_Call_method0_late hbase hline (thn (ho pins s σ H _ I h) fun v s1 ⟨x, H1, I1, r1, ty, q1⟩ => ?_)
 obtain ⟨h1, h2⟩ := JX I1 r1 ty
 exact ⟨T, id, pa, slot, hty, h1, h2, Calls.callWith_builtin rfl (PySem.evalArgs_none (hm pins s1 σ H1 x [] v [] Q I1 r1 .nil q1))⟩
theorem V9 (pa : PlainAttrs T) (slot : Slot T name id) (hty : typeOf (.builtin id) = pure (.type "method_descriptor")) (hm : MtR X id r) (ho : PE X o to) (ha : PA X (e :: es) t)
  (hbase : attributeBase o name X.env (eval o X.env) = eval o X.env := by rfl)
  (hfew : ((backTo cpos (starEach (e :: es) X.env)).all (fun x => !x.1) && (backToKw cpos (keywordEach [] X.env)).all (fun x => x.1.isSome)
   && decide ((e :: es).length + ([] : List Keyword).length + (if ([] : List Keyword).isEmpty then 0 else 1) < 30)) = true := by rfl)
  (hline : (apos.endLine == cpos.line) = true := by rfl) (hs : starEach (e :: es) X.env = (false, eval e X.env) :: starEach es X.env := by rfl) (hplain : (backTo cpos (starEach es X.env)).any (·.1) = false := by rfl) :
  PE X (.Call (.Attribute o name apos) (e :: es) [] cpos) (tBM X.K T r to t) := by
 intro pins s σ H Q I h
 refine wpAny_Call_method_late hbase hfew hline rfl (thn (ho pins s σ H _ I h) fun v s1 ⟨x, H1, I1, r1, ty, q1⟩ => ?_)
 obtain ⟨h1, h2⟩ := JX I1 r1 ty
 refine ⟨T, id, pa, slot, hty, h1, h2, ?_⟩
 have hA := ha cpos pins s1 σ H1 _ I1 q1
 rw [hs] at hA ⊢
 refine Calls.callWith_builtin (by show (false || (backTo cpos (starEach es X.env)).any (·.1)) = false; rw [hplain] <;> rfl) (Calls.evalArgs_plain ?_)
 exact thn hA fun us s2 ⟨vs, H2, I2, r2, q2⟩ => hm pins s2 σ H2 x vs v us Q I2 r1 r2 q2
end
def MtM (X : Cx) (id : String) (r : V -> List V -> Hp -> VK -> Prop) : Prop :=
 ∀ (pins : List (Addr × Obj)) (s : Shared) (σ : St) (H : Hp) (x : V) (xs : List V) (v : Value) (us : List Value) (Q : VK), Inv X pins σ H s -> RelV x v -> Vals xs us -> r x xs H Q ->
  wpAny (model X.prog X.w) X.A (call (.builtin id) (v :: us)) (EP X pins σ Q) X.xe s
theorem Vals.one : ∀ {x : V} {us : List Value}, Vals [x] us -> ∃ u, us = [u] /\ RelV x u
 | _, _, .cons r .nil => ⟨_, rfl, r⟩
theorem Vals.reverse {xs : List V} {us : List Value} (h : Vals xs us) : Vals xs.reverse us.reverse := by
 induction h with
 | nil => exact .nil
 | cons r t ih => rw [List.reverse_cons, List.reverse_cons]; exact Vals.append ih (.cons r .nil)
section
variable {X : Cx} {pins : List (Addr × Obj)} {σ : St} {H : Hp} {s : Shared} {l b : Addr} {xs ys zs : List V}
theorem Inv.lset {its its' : List Value} {n : Nat} {f : Array Value -> Array Value} {t' : Nat} (I : Inv X pins σ H s) (hH : H l = some (.lst xs))
  (e : s.heap.get? l = some { cls := .type "list", data := .seq its.toArray n }) (hf : f its.toArray = its'.toArray) (hv : Vals ys its') (hz : ys.length <= sizeLine) :
  Inv X pins σ (upd H l (.lst ys)) { s with heap := s.heap.update l (Obj.mapSeq f), toks := t' } := by
 have q := PySem.IsL.update e f
 rw [hf] at q
 refine I.write (x := l) (e := l) (by rw [hH]; exact trivial) (.inl rfl) (fun b' u hb hu => (Heap.get?_update_other s.heap (Obj.mapSeq f) (Ne.symm hb)).trans hu) ⟨_, q⟩ ?_
 exact ⟨hz, its', _, hv, q⟩
theorem Inv.lnew {its : List Value} {t' : Nat} (I : Inv X pins σ H s) (hv : Vals ys its) (hz : ys.length <= sizeLine) :
  Inv X pins σ (upd H s.heap.objs.size (.lst ys)) { s with heap := s.heap.push { cls := .type "list", data := .seq its.toArray }, toks := t' } :=
 I.laid (fun _ _ q => Heap.get?_push_of_some _ q) (Nat.le_refl _) ⟨hz, its, 0, hv, Heap.get?_push_size _ rfl⟩
theorem Inv.fresh (I : Inv X pins σ H s) : H s.heap.objs.size = none := I.hok.fresh (Nat.le_refl _)
theorem Inv.lstM (I : Inv X pins σ H s) (hH : H l = some (.lst xs)) : xs.length <= sizeLine /\ ∃ (its : List Value) (n : Nat), Vals xs its /\ xs.length = its.length /\ s.heap.get? l = some { cls := .type "list", data := .seq its.toArray n } := by
 obtain ⟨z, its, n, r, e⟩ := I.hok l _ hH
 exact ⟨z, its, n, r, r.length, e⟩
end
section
variable {X : Cx}
def KB : V -> List V -> Hp -> VK -> Prop := fun x vs H Q => ∃ l xs y, x = .ref l /\ vs = [y] /\ H l = some (.lst xs) /\ xs.length < sizeLine /\ Q .non (upd H l (.lst (xs ++ [y])))
theorem vD : MtM X "list.append" KB := by
 intro pins s σ H x vs v us Q I rx rv h
 obtain ⟨l, xs, y, rfl, rfl, hH, hz, q⟩ := h
 cases rx
 obtain ⟨u, rfl, ru⟩ := rv.one
 obtain ⟨z, its, n, r, hl, e⟩ := I.lstM hH
 refine call_meets F.slot_list_append ⟨_, e, rfl⟩ F.entry_list_append (F.args_list_append_2 _ _) (PySem.list_append l its.toArray n u (by rw [List.size_toArray]; omega)) ⟨e, ?_⟩
 refine ⟨.non, _, I.lset (its' := its ++ [u]) hH e (by simp) (r.append (.cons ru .nil)) ?_, rfl, q⟩
 rw [List.length_append, List.length_singleton]
 omega
def rCat : R2 := fun x y H Q => ∃ l b xs zs, x = .ref l /\ y = .ref b /\ H l = some (.lst xs) /\ H b = some (.lst zs) /\ xs.length + zs.length <= sizeLine /\ ∀ p, H p = none -> Q (.ref p) (upd H p (.lst (xs ++ zs)))
theorem Xd : OpR X (binaryOp .Add) rCat := by
 intro pins s σ H x y v u Q I rx ry h
 obtain ⟨l, b, xs, zs, rfl, rfl, hH, hB, hz, q⟩ := h
 cases rx
 cases ry
 obtain ⟨z, its, n, r, hl, e⟩ := I.lstM hH
 obtain ⟨z2, its2, n2, r2, hl2, e2⟩ := I.lstM hB
 refine PySem.P.add_list e e2 ?_ (by rw [List.size_toArray, List.size_toArray]; omega)
 have ea : its.toArray ++ its2.toArray = (its ++ its2).toArray := by simp
 rw [ea]
 exact ⟨.ref _, _, I.lnew (t' := s.toks) (r.append r2) (by rw [List.length_append]; omega), rfl, q _ I.fresh⟩
theorem len_rep {α : Type} (xs : List α) (k : Nat) : (List.replicate k xs).flatten.length = k * xs.length := by
 induction k with
 | zero => simp
 | succ k ih => rw [List.replicate_succ, List.flatten_cons, List.length_append, ih, Nat.succ_mul, Nat.add_comm]
end
section
variable {prog : Program} {w : World} {A : Around} {E : Value -> Shared -> Prop} {s : Shared}
end
section
variable {X : Cx}
end
end L2
namespace Att
open PySem PySem.W PySem.Calls PyProof.Rows
theorem vH {P : Params} {h : Heap} : ∀ (ns : List Int) (vs : List Value), WellAll P h vs (ns.map WData.int) -> IntsAre vs ns := by
 intro ns
 induction ns with
 | nil =>
  intro vs w
  rw [List.map_nil] at w
  cases w
  exact .nil
 | cons n ns ih =>
  intro vs w
  rw [List.map_cons] at w
  cases w with
  | cons a b =>
   cases a
   exact .cons _ _ (ih _ b)
theorem QB {l : OpenLaw} {n : Nat} (hn : l.most = some n) {P : Params} {h : Heap} {args : List WData} {vals : List Value}
  (hpre : l.row.toRowW.claim.pre args = true) (hwl : WellAll P h vals args) :
  ∃ a vs ns, vals = [Value.ref a] /\ args = [WData.list (ns.map WData.int)] /\ h.get? a = some { cls := .type "list", data := .seq vs.toArray } /\ IntsAre vs ns /\ ns.length <= n := by
 have hsh : WShape.hasAll [] args [.list .int] = true := (pre_splitW hpre).1
 have hc : l.pre.holds [] { args := args } = true := (pre_splitW hpre).2
 obtain ⟨d, r, rfl, h1, h2⟩ := hasAllW_cons hsh
 obtain rfl := hasAllW_nil h2
 obtain ⟨xs, rfl, h3⟩ := hasW_list h1
 obtain ⟨ns, rfl⟩ := items_int h3
 have hlen : ns.length <= n := by
  unfold OpenLaw.pre at hc
  have h4 : (WTm.not (.lt (.lit (.int (n : Int))) (.len (.arg 0)))).holds [] { args := [.list (ns.map .int)] } = true := by
   have h4 := (holds_andW hc).1
   rw [hn] at h4
   exact h4
  have h5 := condW_of h4 (w_not (w_lt w_lit (w_len_list (w_arg rfl))))
  rw [List.length_map] at h5
  refine Nat.le_of_not_lt fun q => ?_
  have q' : (n : Int) < ((ns.length : Nat) : Int) := by omega
  first
   | (rw [decide_eq_true q'] at h5; exact absurd h5 (by decide))
   | (simp at h5; omega)
 cases hwl with
 | cons w1 w2 =>
  cases w2
  cases w1 with
  | list ho hall => exact ⟨_, _, ns, rfl, rfl, ho, vH ns _ hall, hlen⟩
theorem QS (l : OpenLaw) (args : List WData) : l.row.toRowW.claim.post args (.bool true) args = true :=
 postW_of (r := l.row.toRowW) (X := (true == true))
  (show WShape.has [] (.bool true) .bool = true by first | rfl | decide | simp [WShape.has, WShape.arms, WShape.armsAll])
  (show (WTm.eq .res (.lit (.bool true))).value [] { args := args, res := some (.bool true), after := args } = some (.bool (true == true)) from w_eq_bool (w_res rfl) w_lit) rfl
theorem attach_call {l : OpenLaw} {n : Nat} {q : Program} {loose : List Str} {XP : (Str -> Option Value) -> Heap -> Prop} {YP : World -> Heap -> Prop} {d : DefRec}
  (hn : l.most = some n) (hdf : d.params.defaults = [])
  (call : ∀ (w : World) (s₀ s₁ : Shared) (mg mb : Str -> Option Value) (fa : Addr) (o : Obj) (pm cd doc : Value) (a : Addr) (vs : List Value) (ns : List Int),
   Ground q loose [] XP w s₀ mg mb s₁.heap -> YP w s₁.heap ->
   s₁.heap.get? fa = some o -> o.data = .func (docDef d.name d.params d.body d.scope pm cd doc) -> s₁.heap.CodeRec cd d.name -> mg d.name = some (.ref fa) ->
   s₁.heap.get? a = some { cls := .type "list", data := .seq vs.toArray } -> IntsAre vs ns -> ns.length <= n -> s₁.gens = #[] ->
   codeAny (model l.prog w) callerA (.call (.ref fa) ⟨[.ref a], []⟩) (fun r s' => r = .ok (.ret (.bool true)) /\ OldK s₁.heap s'.heap /\ s'.os = s₁.os /\ AllBare s'.gens) s₁) :
  WalkO q loose XP YP l.row.toRowW d [] (fun f vs => PySem.call f vs) := by
 intro w s₀ s₁ mg mb G Y fa o pm cd doc dV kV ho hd hcd hD hmg hg args vals as hpre hlay hrd hwl hlo
 obtain rfl : dV = .none := Dflts.none hD hdf
 obtain rfl : kV = .none := Dflts.noKw hD
 obtain ⟨a, vs, ns, rfl, rfl, hobj, hints, hlen⟩ := QB hn hpre hwl
 refine enter_call (codeAny_mono (call w s₀ s₁ mg mb fa o pm cd doc a vs ns G Y ho (fd_plain hd) hcd hmg hobj hints hlen hg) fun r s' hq => ?_)
 obtain ⟨rfl, h2, h3, h4⟩ := hq
 exact ⟨.inl ⟨.bool true, .bool true, [], rfl, fun _ => rfl, .bool true, QS l _, fun _ => ⟨List.Pairwise.nil, fun _ hm => (nomatch hm)⟩⟩, h2, h3, h4⟩
section
variable {prog : Program} {w : World} {A : Around} {E : Value -> Shared -> Prop} {s : Shared} {K : Frag}
def noObjs (h : Heap) : Heap := { h with objs := #[] }
theorem noObjs_get (h : Heap) (b : Addr) : (noObjs h).get? b = none := by
 cases e : (noObjs h).get? b with
 | none => rfl
 | some o => exact absurd (Heap.lt_size e) (Nat.not_lt_zero _)
theorem fr_all {h : Heap} {L : Addr} {m : Str -> Option Value} (n : h.Ns L m) : Fr (noObjs h) L h m :=
 ⟨n, fun b o e => (by rw [noObjs_get] at e; cases e), Nat.zero_le _⟩
end
end Att
namespace L2
open PySem PySem.Spec PyProof.Rows
theorem x8 : ∀ {vs : List Value} {ns : List Int}, IntsAre vs ns -> Vals (ns.map V.int) vs
 | _, _, .nil => .nil
 | _, _, .cons n t h => .cons ⟨t, rfl⟩ (x8 h)
def zh (s : Stmt) : Arguments := match s with
 | .FunctionDef _ a _ _ _ _ _ _ _ _ => a
 | _ => { posonlyargs := [], args := [], vararg := none, kwonlyargs := [], kw_defaults := [], kwarg := none, defaults := [] }
def qT (s : Stmt) : List Stmt := match s with
 | .FunctionDef _ _ b _ _ _ _ _ _ _ => b
 | _ => []
def ql (s : Stmt) : Scope := match s with
 | .FunctionDef _ _ _ _ _ _ sc _ _ _ => sc
 | _ => { kind := .function, names := [], isGenerator := false, isCoroutine := false }
abbrev CX0 : CXT := fun _ _ _ _ _ _ => False
abbrev E0 : XK := fun _ _ _ => False
theorem wT {X : Cx} : Z0 CX0 X E0 := fun _ _ _ _ _ _ _ h => h.elim
structure Fun (K : PySem.W.Frag) (x qual : Str) (st : Stmt) (f : Addr) (fd : FuncData) : Prop where
 ex : ∃ (oc : Value) (od : Option Addr) (kV doc pm : Value) (an : Option Addr) (cdv ct : Value) (osl : Array (Option Value)),
  fd = PySem.W.fnOf x qual (zh st) (qT st) (ql st) .none kV doc pm an cdv ct /\ K.lookup f = some ⟨oc, od, .func fd, osl⟩ /\ PySem.W.codeIn K cdv qual = true
 kp : PySem.W.keepIn K (.ref f) = true
section
variable {P : Program} {w : World} {K : PySem.W.Frag} {mg : Str -> Option Value} {base : Heap}
theorem Fun.ok {x qual : Str} {st : Stmt} {f : Addr} {fd : FuncData} {N ps : List Str} {k : Nat} {sp : Sp} (F : Fun K x qual st f fd) (S : FnScope N ps (ql st)) (len : ∀ vs H Q E, sp vs H Q E -> vs.length = ps.length)
  (hbody : ∀ (cdv : Value) (A : Around) (outer : List Env) (s : Shared) (H : Hp) (vs : List V) (Q : VK) (E : XK), Room k (A.deeper (envOfC qual (ql st) s.heap.objs.size f cdv)) -> sp vs H Q E ->
   ∃ t, PSs (cxOf CX0 P w K mg base N qual (ql st) f cdv A outer s H E).nox (qT st) t /\ t { nx := fun _ H' => Q .non H', rt := Q } (start N vs) H) : FnOk P w K mg base CX0 (k + 1) f fd ps sp := by
 obtain ⟨oc, od, kV, doc, pm, an, cdv, ct, osl, rfl, lk, hcd⟩ := F.ex
 refine Xz lk hcd S len fun A outer s H vs Q E hr hsp => ?_
 obtain ⟨t, h, q⟩ := hbody cdv A outer s H vs Q E hr hsp
 exact ⟨t, h.nox, q⟩
theorem Fun.binds {x qual : Str} {st : Stmt} {f : Addr} {fd : FuncData} {ps : List Str} (F : Fun K x qual st f fd)
  (h : ∀ (kV doc pm : Value) (an : Option Addr) (cdv ct : Value) (us : List Value), us.length = ps.length -> bindArgs (PySem.W.fnOf x qual (zh st) (qT st) (ql st) .none kV doc pm an cdv ct) ⟨us, []⟩ = pure (ps.zip us)) : Binds K fd ps [] := by
 obtain ⟨oc, od, kV, doc, pm, an, cdv, ct, osl, rfl, lk, hcd⟩ := F.ex
 exact .all (h kV doc pm an cdv ct)
theorem jr {x qual : Str} {st : Stmt} {f : Addr} {oc : Value} {od an : Option Addr} {osl : Array (Option Value)} {kV doc pm cdv ct : Value} (l : K.lookup f = some ⟨oc, od, .func (PySem.W.fnOf x qual (zh st) (qT st) (ql st) .none kV doc pm an cdv ct), osl⟩)
  (c : PySem.W.codeIn K cdv qual = true) (k : PySem.W.keepIn K (.ref f) = true) : Fun K x qual st f (PySem.W.fnOf x qual (zh st) (qT st) (ql st) .none kV doc pm an cdv ct) := ⟨⟨oc, od, kV, doc, pm, an, cdv, ct, osl, rfl, l, c⟩, k⟩
end
theorem Xv {A : Around} {k : Nat} (hr : Room k A) : A.units + 1 < cLine := Nat.lt_of_le_of_lt (Nat.add_le_add_left (by decide : 1 <= 64) _) hr.units
theorem vu {n : Nat} (h : n <= 1000) : n < sizeLine := Nat.lt_of_le_of_lt h (by decide)
section
variable {X : Cx}
theorem pv (i : Nat) {x : Str} {pos : Pos} (hN : X.N[i]? = some x := by rfl) (hv : Vis X.env.scope x := by first | exact Or.inl rfl | exact Or.inr (Or.inl rfl) | exact Or.inr (Or.inr rfl)) (hd : (x == ("__debug__" : Str)) = false := by decide)
  (hcd : (x == ("__classdict__" : Str)) = false := by decide) : PE X (.Name x pos) (tVar i) := V3 hN hv hd hcd
theorem ZS : CallR X (.builtin "len") (fun xs H Q => ∃ a kvs, xs = [V.ref a] /\ H a = some (.dK kvs) /\ Q (.int kvs.length) H) := by
 intro pins s σ H xs us Q I r h
 obtain ⟨a, kvs, rfl, ha, q⟩ := h
 obtain ⟨u, rfl, ru⟩ := vals1 r
 cases ru
 exact Wb I (.inl ha) fun t s' I' => ⟨.int kvs.length, H, I', ⟨t, rfl⟩, q⟩
end
def Same (H H' : Hp) : Prop := ∀ b o, H b = some o -> H' b = some o
theorem Same.refl (H : Hp) : Same H H := fun _ _ h => h
theorem Same.trans {H H1 H2 : Hp} (a : Same H H1) (b : Same H1 H2) : Same H H2 := fun c o h => b c o (a c o h)
theorem Same.free {H H' : Hp} (e : Same H H') {l : Addr} (h : H' l = Option.none) : H l = Option.none := by
 cases q : H l with
 | none => rfl
 | some o =>
  rw [e l o q] at h
  cases h
section
variable {κ : Type} [DecidableEq κ]
end
end L2
namespace X2
open PySem PySem.Spec PyProof.Rows L2
theorem Vu : bootBuiltins "dict" = some (.type "dict") := by decide +kernel
section
variable {X : Cx}
end
section
variable {K : PySem.W.Frag}
end
inductive Dt where
 | non | bl (b : Bool) | int (i : Int) | str (x : Str) | tup (ds : List Dt) | lst (ds : List Dt)
inductive Rep (H : Hp) : V -> Dt -> Prop where
 | non : Rep H .non .non
 | bl (b : Bool) : Rep H (.bl b) (.bl b)
 | int (i : Int) : Rep H (.int i) (.int i)
 | str (x : Str) : Rep H (.str x) (.str x)
 | tup {a : Addr} {xs : List V} {ds : List Dt} (e : H a = some (.tup xs)) (l : xs.length = ds.length) (r : ∀ (i : Nat) x d, xs[i]? = some x -> ds[i]? = some d -> Rep H x d) : Rep H (.ref a) (.tup ds)
 | lst {a : Addr} {xs : List V} {ds : List Dt} (e : H a = some (.lst xs)) (l : xs.length = ds.length) (r : ∀ (i : Nat) x d, xs[i]? = some x -> ds[i]? = some d -> Rep H x d) : Rep H (.ref a) (.lst ds)
theorem Rep.mono {H H' : Hp} (s : Same H H') {v : V} {d : Dt} (r : Rep H v d) : Rep H' v d := by
 induction r with
 | non => exact .non
 | bl b => exact .bl b
 | int i => exact .int i
 | str x => exact .str x
 | tup e l r ih => exact .tup (s _ _ e) l ih
 | lst e l r ih => exact .lst (s _ _ e) l ih
section
variable {K : PySem.W.Frag} {H : Hp} {x : V} {d : Dt}
end
theorem zQ {H : Hp} {p : Addr} (h : H p = none) (o : HO) : Same H (upd H p o) := fun b u q => by rw [qu (qV q h)]; exact q
theorem small {n : Nat} (h : n <= 1000) : n <= sizeLine := Nat.le_of_lt (vu h)
theorem pick {xs : List V} {i : Int} (h0 : 0 <= i) (h1 : i < xs.length) : ∃ v, atI xs i = some v /\ v ∈ xs := by
 obtain ⟨k, rfl⟩ := Int.eq_ofNat_of_zero_le h0
 have hk : k < xs.length := by omega
 exact ⟨xs[k], ZX (List.getElem?_eq_getElem hk), List.getElem_mem hk⟩
theorem iteP {c A B : Prop} [Decidable c] (h : c) (a : A) : if c then A else B := by rw [if_pos h]; exact a
theorem iteN {c A B : Prop} [Decidable c] (h : ¬ c) (b : B) : if c then A else B := by rw [if_neg h]; exact b
def isI : V -> Bool | .int _ => true | _ => false
theorem Qc {xs : List V} {i : Int} (hx : xs.all isI = true) (h0 : 0 <= i) (h1 : i < xs.length) : ∃ z, atI xs i = some (.int z) /\ V.int z ∈ xs := by
 obtain ⟨v, e, m⟩ := pick h0 h1
 have q := List.all_eq_true.mp hx v m
 cases v with
 | int z => exact ⟨z, e, m⟩
 | _ => cases q
section
variable {prog : Program} {w : World} {A : Around} {E : Value -> Shared -> Prop} {R : Result -> Shared -> Prop} {s : Shared}
theorem wE {elt tg iter : Expr} {ifs : List Expr} {scope : Scope} {pos : Pos} {it acc : Value} {env : Env} (W : Nat -> Shared -> Prop)
  (turn : ∀ n s, W n s -> wpAny (model prog w) A (pyNext it) (fun r s1 => match r with
   | none => R (.ok .next) s1
   | some v => wpAny (model prog w) A (letOwnedTupleGo tg it v) (fun _ s2 => wpAny (model prog w) A (assign tg env v) (fun _ s3 =>
     wpAny (model prog w) A (forIn ifs true fun c r => if r = true then do let ok <- isTrue c env (eval c env); pure (ForInStep.yield ok) else pure (ForInStep.yield r)) (fun ok s4 =>
      if ok = true then wpAny (model prog w) A (eval elt env) (fun x s5 =>
       wpAny (model prog w) A (call (.builtin "list.append") [acc, x]) (fun _ s6 => ∃ m, m < n /\ W m s6) (fun _ _ => False) s5) (fun _ _ => False) s4
      else ∃ m, m < n /\ W m s4) (fun _ _ => False) s3) (fun _ _ => False) s2) (fun _ _ => False) s1) (fun _ _ => False) s)
  (n : Nat) (h : W n s) : codeAny (model prog w) A (.compLoop (.ListComp elt [⟨tg, iter, ifs, 0⟩] scope pos) 0 it acc env) R s := by
 have no : ∀ {α : Type} {t : Sem α} {Q : α -> Shared -> Prop} {E' : Value -> Shared -> Prop} {s : Shared}, wpAny (model prog w) A t Q (fun _ _ => False) s -> wpAny (model prog w) A t Q E' s := fun q => wpAny_mono q (fun _ _ z => z) fun _ _ z => z.elim
 refine codeAny_loop rfl W (fun n s hW => ?_) n h
 show wpAny _ A ((compTurn (.ListComp elt [⟨tg, iter, ifs, 0⟩] scope pos) 0 it acc env).onRaise (fun x => do noteFrame x env; theTreesLotGoes x)) _ _ s
 refine wpAny_noted ?_
 rw [compTurn_list]
 refine wpAny_bind (wpAny_standAt (wpAny_bind (no (wpAny_mono (turn n s hW) (fun r s1 h1 => ?_) fun _ _ z => z))))
 cases r with
 | none => exact wpAny_pure h1
 | some v =>
  refine wpAny_bind (no (wpAny_mono h1 (fun _ s2 h2 => ?_) fun _ _ z => z))
  refine wpAny_bind (no (wpAny_mono h2 (fun _ s3 h3 => ?_) fun _ _ z => z))
  refine wpAny_bind (no (wpAny_mono h3 (fun ok s4 h4 => ?_) fun _ _ z => z))
  cases ok with
  | true =>
   rw [if_pos rfl] at h4
   rw [if_pos rfl]
   refine wpAny_bind (wpAny_bind (no (wpAny_mono h4 (fun x s5 h5 => ?_) fun _ _ z => z)))
   exact wpAny_bind (no (wpAny_mono h5 (fun _ s6 h6 => wpAny_pure (wpAny_pure ⟨rfl, h6⟩)) fun _ _ z => z))
  | false =>
   rw [if_neg (by decide)] at h4
   rw [if_neg (by decide)]
   exact wpAny_pure ⟨rfl, h4⟩
end
def qQ (X : Cx) (scope : Scope) (cl : List (Str × Addr)) (N : List Str) (C : Addr) (s : Shared) (H : Hp) (fp : List Addr) : Cx :=
 { X with N := N, s₀ := s, H₀ := H, env := compEnvC scope cl C X.env, outer := X.stack, ex := fp, fn := fun _ => false, pn := [], xe := fun _ _ => False }
structure CompOk (X : Cx) (scope : Scope) (cl : List (Str × Addr)) (T caps : List Str) (ix : List Nat) : Prop where
 kind : scope.kind = .function
 clos : closureFor scope X.env = pure cl
 nocell : ∀ y ∈ scope.names, y.2 ≠ .cell
 names : ∀ y ∈ scope.names, y.2 = .local -> scope.names.lookup y.1 = some .local
 ixs : ix.map (fun i => X.N[i]?) = caps.map some
 capk : ∀ x ∈ caps, (relabel scope X.env).names.lookup x = some .cell /\ X.env.scope.names.lookup x = some .cell /\ cl.lookup x = X.env.cells.lookup x
 has : ∀ x, ((relabel scope X.env).names.lookup x = some .cell \/ (relabel scope X.env).names.lookup x = some .free) -> ∃ c, cl.lookup x = some c
 sub : ∀ x c, cl.lookup x = some c -> X.env.cells.lookup x = some c
def σC (T : List Str) (ix : List Nat) (σ : L2.St) : L2.St := T.map (fun _ => none) ++ ix.map fun i => (σ[i]?).join
section
variable {X : Cx} {scope : Scope} {cl : List (Str × Addr)} {T caps : List Str} {ix : List Nat} {pins : List (Addr × Obj)} {σ : L2.St} {H H1 : Hp} {s s2 : Shared} {C : Addr} {fp : List Addr}
theorem xi (O : CompOk X scope cl T caps ix) (I : Inv X pins σ H s2) (J : Inv X pins σ H1 s) (un : Un (frs X.stack) fp H H1 s2.heap s.heap) (os : s.os = s2.os) {m0 : Str -> Option Value} (hC : s.heap.Ns C m0) (hCs : s2.heap.objs.size <= C) (hCn : H1 C = none)
  (hfp : ∀ b ∈ fp, FpOk X pins H b /\ b < s2.heap.objs.size) : Inv (qQ X scope cl (T ++ caps) C s2 H fp) [] (σC T ix σ) H1 s := by
 have li : ix.length = caps.length := by have := congrArg List.length O.ixs; simpa using this
 refine ⟨⟨I.ok.mod, O.kind, I.ok.glob, I.ok.blt, hCs, fun x y c h1 h2 => I.ok.inj x y c (O.sub _ _ h1) (O.sub _ _ h2), O.has, fun x c h _ => (nomatch h), I.ok.hd, I.ok.frames, .inl rfl, fun b hb => ⟨Nat.ne_of_lt (Nat.lt_of_lt_of_le (hfp b hb).2 hCs), fun x c e => (hfp b hb).1.2.2.2.2.1 x c (O.sub _ _ e)⟩,
  I.bs, Nat.le_trans I.ok.bsz I.sz, fun b o e hb => ?_, fun b hb z => ?_, I.stack, I.stkFree⟩, os, J.bare, un, ⟨m0, hC, fun i x v h1 h2 h3 => ?_⟩, fun x c e => J.cell x c (O.sub _ _ e), hCn, fun x c e => J.freeC x c (O.sub _ _ e), fun p hp => absurd (show p ∈ ([] : List (Addr × Obj)) from hp) (by simp), J.hok, ?_⟩
 ·rcases (hfp b hb).1.2.2.2.1 with z | z
  ·exact I.ok.noex b o e z
  ·exact absurd (Nat.lt_of_lt_of_le (Heap.lt_size e) (Nat.le_trans I.ok.bsz z)) (Nat.lt_irrefl _)
 ·rcases List.mem_cons.mp (I.stkSub b z) with q | q
  ·exact (hfp b hb).1.2.1 q
  ·exact (hfp b hb).1.2.2.1 q
 ·have h1 : (T ++ caps)[i]? = some x := h1
  unfold σC at h2
  by_cases hi : i < T.length
  ·rw [List.getElem?_append_left (by simpa using hi), List.getElem?_map, List.getElem?_eq_getElem hi] at h2
   cases h2
  ·rw [List.getElem?_append_right (by simpa using hi), List.length_map, List.getElem?_map] at h2
   rw [List.getElem?_append_right (by omega)] at h1
   obtain ⟨k1, k2, k3⟩ := O.capk x (List.mem_of_getElem? h1)
   have q := congrArg (fun l => l[i - T.length]?) O.ixs
   simp only [List.getElem?_map, h1, Option.map_some] at q
   cases e : ix[i - T.length]? with
   | none => rw [e] at q; cases q
   | some j =>
    rw [e] at q h2
    have q' : X.N[j]? = some x := by simpa using q
    have h2' : (σ[j]?).join = some v := by simpa using h2
    cases e2 : σ[j]? with
    | none => rw [e2] at h2'; cases h2'
    | some o =>
     rw [e2] at h2'
     have h2'' : o = some v := h2'
     subst h2''
     obtain ⟨m, hn, hl⟩ := J.loc
     obtain ⟨u, r, l⟩ := hl j x v q' e2 (.inr (.inl k2))
     refine ⟨u, r, ?_⟩
     rcases l with ⟨hk, _⟩ | ⟨_, c, hc, hcell⟩
     ·have hk' : X.env.scope.names.lookup x = some .local := hk
      rw [k2] at hk'
      cases hk'
     ·exact .inr ⟨.inl k1, c, k3.trans hc, hcell⟩
 ·unfold σC
  show _ = (T ++ caps).length
  rw [List.length_append, List.length_append, List.length_map, List.length_map, li]
end
def PTs (X : Cx) (ifs : List Expr) (t : TT) : Prop :=
 ∀ (pins : List (Addr × Obj)) (s : Shared) (σ : L2.St) (H : Hp) (Q : Bool -> Hp -> Prop), Inv X pins σ H s -> t σ H Q ->
  wpAny (model X.prog X.w) X.A (forIn ifs true fun c r => if r = true then do let ok <- isTrue c X.env (eval c X.env); pure (ForInStep.yield ok) else pure (ForInStep.yield r)) (TP X pins σ Q) X.xe s
def tAll : TT := fun _ H Q => Q true H
theorem KI {X : Cx} : PTs X [] tAll := fun _ _ _ H _ I h => wpAny_tests_nil ⟨H, I, h⟩
theorem KH {X : Cx} {c : Expr} {t : TT} (h : PT X c t) : PTs X [c] t := fun pins s σ H Q I q => wpAny_tests_one (h pins s σ H Q I q)
def Qt (wi : TI) (g : TG) (tt : TT) (te : TE) (T : List Str) (ix : List Nat) : TE := fun σ H Q => wi σ H fun J H1 => ∀ D, H1 D = none -> ∃ W : Nat -> Nat -> L2.St -> List V -> Hp -> Prop, (∃ m, W 0 m (σC T ix σ) [] (upd H1 D (.lst []))) /\
 ∀ i m σ' xs H2, W i m σ' xs H2 -> H2 D = some (.lst xs) /\ xs.length < sizeLine /\ ((J.stop i H2 /\ Q (.ref D) H2) \/
  (J.go i H2 /\ ∀ x H3, J.yld i H2 x H3 -> g x σ' H3 fun σ2 H4 => tt σ2 H4 fun b H5 =>
   if b = true then te σ2 H5 fun y H6 => H6 D = some (.lst xs) /\ ∃ m', m' < m /\ W (i + 1) m' σ2 (xs ++ [y]) (upd H6 D (.lst (xs ++ [y]))) else ∃ m', m' < m /\ W (i + 1) m' σ2 xs H5))
theorem KQ {X : Cx} {elt tg iter : Expr} {ifs : List Expr} {scope : Scope} {pos : Pos} {cl : List (Str × Addr)} {T caps : List Str} {ix : List Nat} {wi : TI} {g : TG} {tt : TT} {te : TE}
  (O : CompOk X scope cl T caps ix) (hc : X.calm = true) (hi : PI X tg iter wi) (hg : ∀ C s H fp, PG (qQ X scope cl (T ++ caps) C s H fp) tg g) (ht : ∀ C s H fp, PTs (qQ X scope cl (T ++ caps) C s H fp) ifs tt)
  (he : ∀ C s H fp, PE (qQ X scope cl (T ++ caps) C s H fp) elt te) (hs : ∀ x, foldedSetIterable iter X.env x = pure x := by intro _; rfl) : PE X (.ListComp elt [⟨tg, iter, ifs, 0⟩] scope pos) (Qt wi g tt te T ix) := by
 intro pins s σ H Q I h
 rw [eval_ListComp]
 refine wpAny_comprehension_free (use := none) rfl hs O.clos O.kind O.names (thn (hi pins s σ H _ I h) fun v s1 h1 => thn h1 fun itv s2 h2 => ?_)
 obtain ⟨it, fp, tn, J, H2, e, I2, T2, st2, f2, R2⟩ := h2
 subst e
 have hfp : ∀ b ∈ fp, FpOk X pins H2 b /\ b < s2.heap.objs.size := fun b hb => ⟨f2 b hb, by obtain ⟨o, e, _⟩ := T2.obj _ _ st2 b hb; exact Heap.lt_size e⟩
 refine wpAny_newObj_type (wpAny_newFunctionEnv O.nocell (fun y hy => absurd hy (by simp)) (fun h₁ hns hsb => ?_) O.kind)
 dsimp only at hns hsb ⊢
 generalize hG : s2.heap.push { cls := .type "list", dict := none, data := .seq ([] : List Value).toArray } = G at hns hsb ⊢
 have hCz : s2.heap.objs.size < G.objs.size := by rw [<- hG, Heap.size_push]; exact Nat.lt_succ_self _
 have old : ∀ b o, s2.heap.get? b = some o -> h₁.get? b = some o := fun b o e => by
  have lt := Heap.lt_size e
  exact hsb.extBut b o (Nat.ne_of_lt (Nat.lt_trans lt hCz)) (Heap.get?_push_of_some _ (hG ▸ Heap.get?_push_of_some _ e))
 have hD : h₁.get? s2.heap.objs.size = some { cls := .type "list", dict := none, data := .seq ([] : List Value).toArray } := hsb.extBut _ _ (Nat.ne_of_lt hCz) (Heap.get?_push_of_some _ (hG ▸ Heap.get?_push_size _ rfl))
 have nD : H2 s2.heap.objs.size = none := I2.hok.fresh (Nat.le_refl _)
 have nC : H2 G.objs.size = none := I2.hok.fresh (Nat.le_of_lt hCz)
 obtain ⟨W, ⟨m0, w0⟩, turn⟩ := R2 s2.heap.objs.size nD
 have J1 : Inv X pins σ (upd H2 s2.heap.objs.size (.lst [])) { s2 with heap := h₁, toks := s2.toks + ([] : List (Str × Value)).length } :=
  I2.laid (t' := s2.toks + ([] : List (Str × Value)).length) old (Nat.le_refl _) (show ObjOk X.prog X.w _ h₁ _ (.lst []) from ⟨Nat.zero_le _, [], 0, .nil, hD⟩)
 have un : Un (frs X.stack) fp H2 (upd H2 s2.heap.objs.size (.lst [])) s2.heap h₁ := Un.laid old (Nat.le_refl _) nD
 have hCn : (upd H2 s2.heap.objs.size (.lst [])) G.objs.size = none := by rw [qu (Nat.ne_of_lt hCz).symm]; exact nC
 have K1 := xi (s := { s2 with heap := h₁, toks := s2.toks + ([] : List (Str × Value)).length }) O I2 J1 un rfl hns (Nat.le_of_lt hCz) hCn hfp
 have stat : ∀ {H' : Hp}, (∀ b ∈ fp, H' b = none) -> ∀ b ∈ fp, FpOk (qQ X scope cl (T ++ caps) G.objs.size s2 H2 fp) [] H' b := fun hn b hb =>
  ⟨hn b hb, Nat.ne_of_lt (Nat.lt_trans (hfp b hb).2 hCz), K1.ok.exfs b hb, .inl hb, fun x c e => (K1.ok.exf b hb).2 x c e, fun p hp => absurd (show p ∈ ([] : List (Addr × Obj)) from hp) (by simp)⟩
 have start : ∃ (i : Nat) (σ' : L2.St) (xs : List V) (H' : Hp), Inv (qQ X scope cl (T ++ caps) G.objs.size s2 H2 fp) [] σ' H' { s2 with heap := h₁, toks := s2.toks + ([] : List (Str × Value)).length } /\ tn i h₁ /\ (∀ b ∈ fp, H' b = none) /\ W i m0 σ' xs H' :=
  ⟨0, _, [], _, K1, T2.keep _ _ _ st2 fun b _ o e => old b o e, fun b hb => by rw [qu (Nat.ne_of_lt (hfp b hb).2)]; exact (f2 b hb).1, w0⟩
 have loop : codeAny (model X.prog X.w) X.A (.compLoop (.ListComp elt [⟨tg, iter, ifs, 0⟩] scope pos) 0 (.ref it) (.ref s2.heap.objs.size) (compEnvC scope cl G.objs.size X.env))
   (compPost (model X.prog X.w) X.A X.xe none (EP X pins σ Q) (.ref s2.heap.objs.size) G.objs.size) { s2 with heap := h₁, toks := s2.toks + ([] : List (Str × Value)).length } := by
  refine wE (fun n s' => ∃ (i : Nat) (σ' : L2.St) (xs : List V) (H' : Hp), Inv (qQ X scope cl (T ++ caps) G.objs.size s2 H2 fp) [] σ' H' s' /\ tn i s'.heap /\ (∀ b ∈ fp, H' b = none) /\ W i n σ' xs H') ?_ m0 start
  rintro n s3 ⟨i, σ3, xs, H3, I3, st3, fr3, w3⟩
  obtain ⟨hD3, hz3, tn3⟩ := turn i n σ3 xs H3 w3
  rcases tn3 with ⟨stop, qn⟩ | ⟨go, step⟩
  ·refine thn (T2.done (qQ X scope cl (T ++ caps) G.objs.size s2 H2 fp) rfl rfl rfl hc i [] s3 σ3 H3 _ I3 (stat fr3) st3 stop) fun r s4 ⟨hr, I4⟩ => ?_
   subst hr
   obtain ⟨m, hm, _⟩ := I4.loc
   have B : Inv X pins σ H3 s4 := I2.call' I4.os I4.base I4.hok I4.bare fun b hb => ⟨(f2 b hb).2.2.2.1, (f2 b hb).2.1, (f2 b hb).2.2.2.2.1, (f2 b hb).2.2.2.2.2⟩
   refine ⟨m, hm, fun h' hs' => ?_⟩
   refine ⟨.ref s2.heap.objs.size, H3, B.turned (t' := s4.toks) (it := G.objs.size) (fun b o hb e => hs'.extBut b o hb e) I4.free ?_ (.inr ?_) (fun x c e z => ?_) fun p hp z => ?_, rfl, qn⟩
   ·exact (Nat.ne_of_lt (Nat.lt_trans I2.lt hCz)).symm
   ·exact Nat.le_of_lt (Nat.lt_of_le_of_lt I2.sz hCz)
   ·obtain ⟨v, q⟩ := I2.cell x c e
    exact absurd z (Nat.ne_of_lt (Nat.lt_trans q.lt hCz))
   ·exact absurd z (Nat.ne_of_lt (Nat.lt_trans (Heap.lt_size (I2.pin p hp).1) hCz))
  ·refine thn (T2.item (qQ X scope cl (T ++ caps) G.objs.size s2 H2 fp) rfl rfl rfl hc i [] s3 σ3 H3 _ I3 (stat fr3) st3 go) fun r s4 ⟨u, hr, h4⟩ => ?_
   subst hr
   refine thn h4 fun _ s5 ⟨x, H5, I5, r5, y5, st5, fr5⟩ => ?_
   have I5' := I5.pinned (stat fr5) (T2.obj _ _ st5)
   have back : ∀ {σ7 : L2.St} {H7 : Hp} {s7 : Shared}, Inv (qQ X scope cl (T ++ caps) G.objs.size s2 H2 fp) ([] ++ v4 fp s5.heap) σ7 H7 s7 -> Inv (qQ X scope cl (T ++ caps) G.objs.size s2 H2 fp) [] σ7 H7 s7 /\ tn (i + 1) s7.heap /\ ∀ b ∈ fp, H7 b = none := fun {σ7 H7 s7} I7 => by
    refine ⟨I7.unpinned, T2.keep _ _ _ st5 fun b hb o e => (I7.pin (b, o) (List.mem_append_right _ (List.mem_append_right _ (ja hb e)))).1, fun b hb => ?_⟩
    obtain ⟨o, e, d⟩ := T2.obj _ _ st5 b hb
    exact (I7.pin (b, o) (List.mem_append_right _ (List.mem_append_right _ (ja hb e)))).2.1
   refine thn (hg G.objs.size s2 H2 fp _ s5 σ3 H5 x u _ I5' r5 (step x H5 y5)) fun _ s6 ⟨σ6, H6, I6, q6⟩ => ?_
   refine thn (ht G.objs.size s2 H2 fp _ s6 σ6 H6 _ I6 q6) fun ok s7 ⟨H7, I7, q7⟩ => ?_
   cases ok with
   | true =>
    rw [if_pos rfl] at q7
    rw [if_pos rfl]
    refine thn (he G.objs.size s2 H2 fp _ s7 σ6 H7 _ I7 q7) fun z s8 ⟨y, H8, I8, r8, hD8, m', hm', w8⟩ => ?_
    refine thn (vD _ s8 σ6 H8 (.ref s2.heap.objs.size) [y] _ [z] (fun _ H9 => H9 = upd H8 s2.heap.objs.size (.lst (xs ++ [y]))) I8 rfl (.cons r8 .nil) ⟨_, xs, y, rfl, rfl, hD8, hz3, rfl⟩) fun _ s9 ⟨_, H9, I9, _, e9⟩ => ?_
    subst e9
    obtain ⟨a1, a2, a3⟩ := back I9
    exact ⟨m', hm', i + 1, σ6, xs ++ [y], _, a1, a2, a3, w8⟩
   | false =>
    rw [if_neg (by decide)] at q7
    rw [if_neg (by decide)]
    obtain ⟨m', hm', w7⟩ := q7
    obtain ⟨a1, a2, a3⟩ := back I7
    exact ⟨m', hm', i + 1, σ6, xs, H7, a1, a2, a3, w7⟩
 exact codeAny_compStart_list loop (T2.self _ 0 _ _ _ (T2.keep _ _ _ st2 fun b _ o e => old b o e) loop)
end X2
namespace M
open PySem PySem.Spec PyProof.Rows L2 X2
inductive D where
 | non | bl (b : Bool) | int (i : Int) | str (x : Str) | tup (ds : List D) | lst (ds : List D) | dic (kvs : List (Key × D)) | dit (kvs : List (List Key × D)) | obj (n : Nat) | scr (ds : List D)
structure Co where
 h : Hp
 ob : Nat -> Option Addr
structure Co.Le (c c' : Co) : Prop where
 h : Same c.h c'.h
 ob : ∀ n a, c.ob n = some a -> c'.ob n = some a
theorem Co.Le.refl (c : Co) : Co.Le c c := ⟨Same.refl _, fun _ _ e => e⟩
theorem Co.Le.trans {a b c : Co} (x : Co.Le a b) (y : Co.Le b c) : Co.Le a c := ⟨x.h.trans y.h, fun n z e => y.ob n z (x.ob n z e)⟩
theorem xv {K : PySem.W.Frag} {H H' : Hp} (s : Same H H') {a : Addr} {xs : List V} (h : SqL K H a xs) : SqL K H' a xs := by
 rcases h with (h | ⟨o, h⟩) | h
 ·exact .inl (.inl (s _ _ h))
 ·exact .inl (.inr ⟨o, s _ _ h⟩)
 ·exact .inr h
theorem tupT {K : PySem.W.Frag} {h H : Hp} (s : Same h H) {a : Addr} {xs : List V} (e : h a = some (.tup xs)) : SqT K H a xs := SqT.of (s _ _ e)
theorem lstT {K : PySem.W.Frag} {h H : Hp} (s : Same h H) {a : Addr} {xs : List V} (e : h a = some (.lst xs)) : SqL K H a xs := SqL.of (s _ _ e)
inductive Rep (K : PySem.W.Frag) (c : Co) : V -> D -> Prop where
 | non : Rep K c .non .non
 | bl (b : Bool) : Rep K c (.bl b) (.bl b)
 | int (i : Int) : Rep K c (.int i) (.int i)
 | str (x : Str) : Rep K c (.str x) (.str x)
 | tup {a : Addr} {xs : List V} {ds : List D} (e : c.h a = some (.tup xs)) (l : xs.length = ds.length) (r : ∀ (i : Nat) x d, xs[i]? = some x -> ds[i]? = some d -> Rep K c x d) : Rep K c (.ref a) (.tup ds)
 | lst {a : Addr} {xs : List V} {ds : List D} (e : c.h a = some (.lst xs)) (l : xs.length = ds.length) (r : ∀ (i : Nat) x d, xs[i]? = some x -> ds[i]? = some d -> Rep K c x d) : Rep K c (.ref a) (.lst ds)
 | dic {a : Addr} {ys : List (Key × V)} {kvs : List (Key × D)} (e : c.h a = some (.dK ys)) (l : ys.map (·.1) = kvs.map (·.1)) (nd : (kvs.map (·.1)).Nodup) (r : ∀ (i : Nat) p q, ys[i]? = some p -> kvs[i]? = some q -> Rep K c p.2 q.2) : Rep K c (.ref a) (.dic kvs)
 | dit {a : Addr} {ys : List (List Key × V)} {kvs : List (List Key × D)} (e : c.h a = some (.dT ys)) (l : ys.map (·.1) = kvs.map (·.1)) (nd : (kvs.map (·.1)).Nodup) (r : ∀ (i : Nat) p q, ys[i]? = some p -> kvs[i]? = some q -> Rep K c p.2 q.2) : Rep K c (.ref a) (.dit kvs)
 | obj {n : Nat} {a : Addr} (e : c.ob n = some a) : Rep K c (.ref a) (.obj n)
 | scr {a : Addr} {xs : List V} {ds : List D} (e : SqL K c.h a xs) (l : xs.length = ds.length) (r : ∀ (i : Nat) x d, xs[i]? = some x -> ds[i]? = some d -> Rep K c x d) : Rep K c (.ref a) (.scr ds)
theorem Rep.mono {K : PySem.W.Frag} {c c' : Co} (s : Co.Le c c') {v : V} {d : D} (r : Rep K c v d) : Rep K c' v d := by
 induction r with
 | non => exact .non
 | bl b => exact .bl b
 | int i => exact .int i
 | str x => exact .str x
 | tup e l r ih => exact .tup (s.h _ _ e) l ih
 | lst e l r ih => exact .lst (s.h _ _ e) l ih
 | dic e l nd r ih => exact .dic (s.h _ _ e) l nd ih
 | dit e l nd r ih => exact .dit (s.h _ _ e) l nd ih
 | obj e => exact .obj (s.ob _ _ e)
 | scr e l r ih => exact .scr (xv s.h e) l ih
structure Reps (K : PySem.W.Frag) (c : Co) (xs : List V) (ds : List D) : Prop where
 l : xs.length = ds.length
 r : ∀ (i : Nat) x d, xs[i]? = some x -> ds[i]? = some d -> Rep K c x d
theorem Reps.mono {K : PySem.W.Frag} {c c' : Co} (s : Co.Le c c') {xs : List V} {ds : List D} (r : Reps K c xs ds) : Reps K c' xs ds := ⟨r.l, fun i x d a b => (r.r i x d a b).mono s⟩
theorem Reps.nil {K : PySem.W.Frag} {c : Co} : Reps K c [] [] := ⟨rfl, fun _ _ _ h => by simp at h⟩
theorem Reps.cons {K : PySem.W.Frag} {c : Co} {x : V} {d : D} {xs : List V} {ds : List D} (h : Rep K c x d) (t : Reps K c xs ds) : Reps K c (x :: xs) (d :: ds) := by
 refine ⟨by simp [t.l], fun i y e a b => ?_⟩
 cases i with
 | zero => cases a; cases b; exact h
 | succ i => exact t.r i y e (by simpa using a) (by simpa using b)
theorem Reps.uncons {K : PySem.W.Frag} {c : Co} {xs : List V} {d : D} {ds : List D} (h : Reps K c xs (d :: ds)) : ∃ x t, xs = x :: t /\ Rep K c x d /\ Reps K c t ds := by
 cases xs with
 | nil => exact absurd h.l (by simp)
 | cons x t => exact ⟨x, t, rfl, h.r 0 x d rfl rfl, by have := h.l; simpa using this, fun i y e a b => h.r (i + 1) y e (by simpa using a) (by simpa using b)⟩
theorem Reps.unnil {K : PySem.W.Frag} {c : Co} {xs : List V} (h : Reps K c xs []) : xs = [] := List.eq_nil_of_length_eq_zero h.l
theorem Reps.append {K : PySem.W.Frag} {c : Co} {xs ys : List V} {ds es : List D} (h : Reps K c xs ds) (t : Reps K c ys es) : Reps K c (xs ++ ys) (ds ++ es) := by
 refine ⟨by simp [h.l, t.l], fun i x d a b => ?_⟩
 by_cases hi : i < xs.length
 ·rw [List.getElem?_append_left hi] at a
  rw [List.getElem?_append_left (by rw [<- h.l]; exact hi)] at b
  exact h.r i x d a b
 ·rw [List.getElem?_append_right (by omega)] at a
  rw [List.getElem?_append_right (by have := h.l; omega), <- h.l] at b
  exact t.r _ x d a b
theorem Reps.at {K : PySem.W.Frag} {c : Co} {xs : List V} {ds : List D} (h : Reps K c xs ds) {i : Nat} {d : D} (e : ds[i]? = some d) : ∃ x, xs[i]? = some x /\ Rep K c x d := by
 have hi : i < xs.length := by rw [h.l]; exact (List.getElem?_eq_some_iff.mp e).1
 exact ⟨xs[i], List.getElem?_eq_getElem hi, h.r i _ d (List.getElem?_eq_getElem hi) e⟩
theorem Reps.atV {K : PySem.W.Frag} {c : Co} {xs : List V} {ds : List D} (h : Reps K c xs ds) {i : Nat} {x : V} (e : xs[i]? = some x) : ∃ d, ds[i]? = some d /\ Rep K c x d := by
 have hi : i < ds.length := by rw [<- h.l]; exact (List.getElem?_eq_some_iff.mp e).1
 exact ⟨ds[i], List.getElem?_eq_getElem hi, h.r i x _ e (List.getElem?_eq_getElem hi)⟩
theorem Reps.reverse {K : PySem.W.Frag} {c : Co} : ∀ {xs : List V} {ds : List D}, Reps K c xs ds -> Reps K c xs.reverse ds.reverse
 | [], [], _ => .nil
 | [], _ :: _, h => absurd h.l (by simp)
 | _ :: _, [], h => absurd h.l (by simp)
 | x :: xs, d :: ds, h => by
  obtain ⟨y, t, e, r, rs⟩ := h.uncons
  cases e
  rw [List.reverse_cons, List.reverse_cons]
  exact (Reps.reverse rs).append (.cons r .nil)
def isT : HO -> Bool
 | .tbl _ => true
 | _ => false
def noTb : Option HO -> Option HO
 | some (.tbl _) => none
 | o => o
def Hn (H : Hp) (fp : List Addr) : Hp := fun a => if a ∈ fp then none else noTb (H a)
theorem Hn.of {H : Hp} {fp : List Addr} {a : Addr} {u : HO} (h : Hn H fp a = some u) : H a = some u /\ a ∉ fp /\ isT u = false := by
 unfold Hn at h
 split at h
 ·cases h
 ·rename_i hf
  cases e : H a with
  | none => rw [e] at h; cases h
  | some o =>
   rw [e] at h
   cases o <;> first
    | (cases h; done)
    | (cases h; exact ⟨rfl, hf, rfl⟩)
theorem Hn.mk {H : Hp} {fp : List Addr} {a : Addr} {u : HO} (h : H a = some u) (hf : a ∉ fp) (ht : isT u = false) : Hn H fp a = some u := by
 unfold Hn
 rw [if_neg hf, h]
 cases u <;> first
  | rfl
  | cases ht
theorem Hn.same {H : Hp} {fp : List Addr} : Same (Hn H fp) H := fun _ _ e => (Hn.of e).1
theorem Hn.grow {H H' : Hp} {fp : List Addr} (s : Same H H') : Same (Hn H fp) (Hn H' fp) := fun a u e => by
 obtain ⟨h1, h2, h3⟩ := Hn.of e
 exact Hn.mk (s _ _ h1) h2 h3
structure Xn where
 cls : Str
 args : List D
structure Wo where
 BS : Type
 BR : BS -> Hp -> Co -> List Addr -> Prop
 EA : Value -> Value -> Option Addr -> Shared -> Hp -> Prop
 XV : Xn -> Value -> Option Addr -> Hp -> Co -> Prop
 tabs : Hp -> Prop
 brS : ∀ b H c fp H' c', BR b H c fp -> (∀ a ∈ fp, H' a = H a) -> Co.Le c c' -> (∀ a ∈ fp, c'.h a = none) -> BR b H' c' fp
 xvS : ∀ x k a H c c', XV x k a H c -> Co.Le c c' -> XV x k a H c'
 tabS : ∀ H H', tabs H -> (∀ a u, H a = some u -> (∀ xs, u ≠ .lst xs) -> (∀ xs, u ≠ .dK xs) -> (∀ xs, u ≠ .dT xs) -> H' a = some u) -> tabs H'
def Wo.EX (W : Wo) (x : Xn) (ev : Value) (s : Shared) (H : Hp) (c : Co) : Prop := ∃ k a, W.EA ev k a s H /\ W.XV x k a H c
theorem Wo.exS (W : Wo) (x : Xn) (ev : Value) (s : Shared) (H : Hp) (c c' : Co) (h : W.EX x ev s H c) (l : Co.Le c c') : W.EX x ev s H c' := let ⟨k, a, h1, h2⟩ := h; ⟨k, a, h1, W.xvS _ _ _ _ _ _ h2 l⟩
structure SS (W : Wo) where
 v : List (Option D)
 b : W.BS
inductive R (W : Wo) (α : Type) where
 | ok (a : α) (b : W.BS)
 | exc (x : Xn) (b : W.BS)
 | bad
structure En where
 H : Hp
 c : Co
 fp : List Addr
structure FR (H : Hp) (c : Co) (fp : List Addr) (H' : Hp) (c' : Co) (fp' : List Addr) : Prop where
 le : Co.Le c c'
 nn : Same (Hn H fp) (Hn H' fp')
 out : ∀ a, Hn H fp a ≠ none -> c.h a = none -> c'.h a = none
 th : ∀ a, H' a = none -> H a = none
theorem FR.refl {H : Hp} {c : Co} {fp : List Addr} : FR H c fp H c fp := ⟨.refl _, Same.refl _, fun _ _ e => e, fun _ e => e⟩
theorem FR.trans {H H1 H2 : Hp} {c c1 c2 : Co} {fp fp1 fp2 : List Addr} (a : FR H c fp H1 c1 fp1) (b : FR H1 c1 fp1 H2 c2 fp2) : FR H c fp H2 c2 fp2 :=
 ⟨a.le.trans b.le, a.nn.trans b.nn, fun x hx hc => b.out x (fun z => hx (a.nn.free z)) (a.out x hx hc), fun x e => a.th x (b.th x e)⟩
def OwnV (K : PySem.W.Frag) (E : En) (H : Hp) (c : Co) (fp : List Addr) (x : V) : D -> Prop
 | .lst ds => ∃ a xs, x = .ref a /\ c.h a = none /\ a ∉ fp /\ E.H a = none /\ H a = some (.lst xs) /\ Reps K c xs ds
 | .dic kvs => ∃ (a : Addr) (ys : List (Key × V)), x = .ref a /\ c.h a = none /\ a ∉ fp /\ E.H a = none /\ H a = some (.dK ys) /\ ys.map (·.1) = kvs.map (·.1) /\ (kvs.map (·.1)).Nodup /\ Reps K c (ys.map (·.2)) (kvs.map (·.2))
 | .dit kvs => ∃ (a : Addr) (ys : List (List Key × V)), x = .ref a /\ c.h a = none /\ a ∉ fp /\ E.H a = none /\ H a = some (.dT ys) /\ ys.map (·.1) = kvs.map (·.1) /\ (kvs.map (·.1)).Nodup /\ Reps K c (ys.map (·.2)) (kvs.map (·.2))
 | d => Rep K c x d
def jH : D -> Bool
 | .lst _ => true
 | .dic _ => true
 | .dit _ => true
 | _ => false
structure SE (W : Wo) (E : En) (b : W.BS) (H : Hp) (c : Co) (fp : List Addr) : Prop where
 core : Same c.h (Hn H fp)
 br : W.BR b H c fp
 tab : W.tabs H
 fph : ∀ a ∈ fp, ∃ u, H a = some u /\ isT u = false
 fr0 : FR E.H E.c E.fp H c fp
structure SR (W : Wo) (K : PySem.W.Frag) (E : En) (O : List Nat) (g : SS W) (σ : L2.St) (H : Hp) (c : Co) (fp : List Addr) : Prop extends SE W E g.b H c fp where
 frz : ∀ (i : Nat) d, i ∉ O -> g.v[i]? = some (some d) -> ∃ x, σ[i]? = some (some x) /\ Rep K c x d
 own : ∀ (i : Nat) d, i ∈ O -> g.v[i]? = some (some d) -> ∃ x, σ[i]? = some (some x) /\ OwnV K E H c fp x d
 dis : ∀ (i j : Nat) d e a, i ∈ O -> j ∈ O -> i ≠ j -> g.v[i]? = some (some d) -> g.v[j]? = some (some e) -> jH d = true -> jH e = true -> σ[i]? = some (some (.ref a)) -> σ[j]? = some (some (.ref a)) -> False
 len : g.v.length = σ.length
def cm (m : Bool) (H : Hp) (c : Co) (fp : List Addr) : Co := if m = true then c else ⟨Hn H fp, c.ob⟩
theorem FR.cm {m : Bool} {H H' : Hp} {c c' : Co} {fp fp' : List Addr} (f : FR H c fp H' c' fp') : Co.Le (cm m H c fp) (cm m H' c' fp') := by
 cases m with
 | true => exact f.le
 | false => exact ⟨f.nn, f.le.ob⟩
section
variable {W : Wo} {K : PySem.W.Frag} {E : En} {O : List Nat} {g : SS W} {b b' : W.BS} {σ : L2.St} {H H' : Hp} {c c' : Co} {fp fp' : List Addr}
theorem SE.bor (S : SE W E b H c fp) {m : Bool} : Co.Le (cm m H c fp) ⟨Hn H fp, c.ob⟩ := by
 cases m with
 | true => exact ⟨S.core, fun _ _ e => e⟩
 | false => exact .refl _
theorem SE.all (S : SE W E b H c fp) {m : Bool} : Same (cm m H c fp).h H := S.bor.h.trans Hn.same
theorem OwnV.step (f : FR H c fp H' c' fp') {x : V} {d : D} (h : OwnV K E H c fp x d) : OwnV K E H' c' fp' x d := by
 cases d with
 | lst ds =>
  obtain ⟨a, xs, e, hc, hf, he, hh, r⟩ := h
  have hn : Hn H fp a = some (.lst xs) := Hn.mk hh hf rfl
  obtain ⟨h1, h2, _⟩ := Hn.of (f.nn _ _ hn)
  exact ⟨a, xs, e, f.out a (by rw [hn]; simp) hc, h2, he, h1, r.mono f.le⟩
 | dic kvs =>
  obtain ⟨a, ys, e, hc, hf, he, hh, l, nd, r⟩ := h
  have hn : Hn H fp a = some (.dK ys) := Hn.mk hh hf rfl
  obtain ⟨h1, h2, _⟩ := Hn.of (f.nn _ _ hn)
  exact ⟨a, ys, e, f.out a (by rw [hn]; simp) hc, h2, he, h1, l, nd, r.mono f.le⟩
 | dit kvs =>
  obtain ⟨a, ys, e, hc, hf, he, hh, l, nd, r⟩ := h
  have hn : Hn H fp a = some (.dT ys) := Hn.mk hh hf rfl
  obtain ⟨h1, h2, _⟩ := Hn.of (f.nn _ _ hn)
  exact ⟨a, ys, e, f.out a (by rw [hn]; simp) hc, h2, he, h1, l, nd, r.mono f.le⟩
 | non => exact Rep.mono f.le h
 | bl b => exact Rep.mono f.le h
 | int i => exact Rep.mono f.le h
 | str x => exact Rep.mono f.le h
 | tup ds => exact Rep.mono f.le h
 | obj n => exact Rep.mono f.le h
 | scr n => exact Rep.mono f.le h
theorem SR.step (S : SR W K E O g σ H c fp) (f : FR H c fp H' c' fp') (S' : SE W E b H' c' fp') : SR W K E O ⟨g.v, b⟩ σ H' c' fp' :=
 ⟨S', fun i d hi e => let ⟨x, h1, h2⟩ := S.frz i d hi e; ⟨x, h1, h2.mono f.le⟩, fun i d hi e => let ⟨x, h1, h2⟩ := S.own i d hi e; ⟨x, h1, h2.step f⟩, S.dis, S.len⟩
theorem SE.fpc (S : SE W E b H c fp) : ∀ a ∈ fp, c.h a = none := fun a ha => by
 cases e : c.h a with
 | none => rfl
 | some u => exact absurd ha (Hn.of (S.core _ _ e)).2.1
def Co.add (c : Co) (p : Addr) (u : HO) : Co := ⟨upd c.h p u, c.ob⟩
theorem Co.add_le {c : Co} {p : Addr} {u : HO} (h : c.h p = none) : Co.Le c (c.add p u) := ⟨zQ h u, fun _ _ e => e⟩
theorem SE.free (S : SE W E b H c fp) {p : Addr} (hp : H p = none) : c.h p = none /\ p ∉ fp := by
 refine ⟨S.core.trans Hn.same |>.free hp, fun hf => ?_⟩
 obtain ⟨u, e, _⟩ := S.fph p hf
 rw [hp] at e
 cases e
theorem jI {H : Hp} {fp : List Addr} {p : Addr} (hp : H p = none) : Hn H fp p = none := by
 unfold Hn
 rw [hp]
 split <;> rfl
theorem SE.freeE (S : SE W E b H c fp) {p : Addr} (hp : H p = none) : E.H p = none := S.fr0.th p hp
theorem yO {H : Hp} {fp : List Addr} {p : Addr} {u : HO} (hp : H p = none) : Same (Hn H fp) (Hn (upd H p u) fp) := Hn.grow (zQ hp u)
theorem FR.new (S : SE W E b H c fp) {p : Addr} (hp : H p = none) (u : HO) : FR H c fp (upd H p u) (c.add p u) fp :=
 ⟨Co.add_le (S.free hp).1, yO hp, fun a ha hc => by
  show upd c.h p u a = none
  rw [qu ?_]
  ·exact hc
  ·rintro rfl
   exact ha (jI hp), fun _ e => (zQ hp u).free e⟩
theorem FR.newO {p : Addr} (hp : H p = none) (u : HO) : FR H c fp (upd H p u) c fp :=
 ⟨.refl _, yO hp, fun a _ hc => hc, fun _ e => (zQ hp u).free e⟩
theorem Qr {p : Addr} {u : HO} (t : W.tabs H) (hp : H p = none) : W.tabs (upd H p u) := W.tabS _ _ t fun a w e _ _ _ => by rw [qu (qV e hp)]; exact e
theorem SE.new (S : SE W E b H c fp) {p : Addr} (hp : H p = none) {u : HO} (hu : isT u = false) : SE W E b (upd H p u) (c.add p u) fp := by
 obtain ⟨hc, hf⟩ := S.free hp
 have ne : ∀ a ∈ fp, a ≠ p := fun a ha z => hf (z ▸ ha)
 refine ⟨fun a w e => ?_, W.brS _ _ _ _ _ _ S.br (fun a ha => qu (ne a ha)) (Co.add_le hc) fun a ha => ?_, Qr S.tab hp, fun a ha => ?_, S.fr0.trans (FR.new S hp u)⟩
 ·by_cases h : a = p
  ·subst h
   have e' : upd c.h a u a = some w := e
   rw [qv] at e'
   cases e'
   exact Hn.mk qv hf hu
  ·have e' : upd c.h p u a = some w := e
   rw [qu h] at e'
   exact yO hp _ _ (S.core _ _ e')
 ·show upd c.h p u a = none
  rw [qu (ne a ha)]
  exact S.fpc a ha
 ·obtain ⟨w, e, z⟩ := S.fph a ha
  exact ⟨w, (qu (ne a ha)).trans e, z⟩
theorem SE.newO (S : SE W E b H c fp) {p : Addr} (hp : H p = none) {u : HO} : SE W E b (upd H p u) c fp := by
 obtain ⟨hc, hf⟩ := S.free hp
 have ne : ∀ a ∈ fp, a ≠ p := fun a ha z => hf (z ▸ ha)
 refine ⟨S.core.trans (yO hp), W.brS _ _ _ _ _ _ S.br (fun a ha => qu (ne a ha)) (.refl _) S.fpc, Qr S.tab hp, fun a ha => ?_, S.fr0.trans (FR.newO hp u)⟩
 obtain ⟨w, e, z⟩ := S.fph a ha
 exact ⟨w, (qu (ne a ha)).trans e, z⟩
theorem SR.new (S : SR W K E O g σ H c fp) {p : Addr} (hp : H p = none) {u : HO} (hu : isT u = false) : SR W K E O g σ (upd H p u) (c.add p u) fp := S.step (b := g.b) (FR.new S.toSE hp u) (S.toSE.new hp hu)
theorem SR.newO (S : SR W K E O g σ H c fp) {p : Addr} (hp : H p = none) {u : HO} : SR W K E O g σ (upd H p u) c fp := S.step (b := g.b) (FR.newO hp u) (S.toSE.newO hp)
end
def W1 (T : Hp -> Prop) (hT : ∀ H H', T H -> (∀ a u, H a = some u -> (∀ xs, u ≠ .lst xs) -> (∀ xs, u ≠ .dK xs) -> (∀ xs, u ≠ .dT xs) -> H' a = some u) -> T H') (B : Hp -> Co -> List Addr -> Prop) (hB : ∀ H c fp H' c', B H c fp -> (∀ a ∈ fp, H' a = H a) -> Co.Le c c' -> (∀ a ∈ fp, c'.h a = none) -> B H' c' fp) : Wo where
 BS := Unit
 BR := fun _ H c fp => B H c fp
 EA := fun _ _ _ _ _ => False
 XV := fun _ _ _ _ _ => False
 tabs := T
 brS := fun _ H c fp H' c' => hB H c fp H' c'
 xvS := fun _ _ _ _ _ _ h _ => h
 tabS := hT
def B0 : Hp -> Co -> List Addr -> Prop := fun _ _ fp => fp = []
theorem hB0 : ∀ H c fp H' c', B0 H c fp -> (∀ a ∈ fp, H' a = H a) -> Co.Le c c' -> (∀ a ∈ fp, c'.h a = none) -> B0 H' c' fp := fun _ _ _ _ _ h _ _ _ => h
abbrev W0 (T : Hp -> Prop) (hT : ∀ H H', T H -> (∀ a u, H a = some u -> (∀ xs, u ≠ .lst xs) -> (∀ xs, u ≠ .dK xs) -> (∀ xs, u ≠ .dT xs) -> H' a = some u) -> T H') : Wo := W1 T hT B0 hB0
def qG {W : Wo} {α β : Type} (f : SS W -> R W α) (k : α -> SS W -> R W β) : SS W -> R W β := fun g => match f g with
 | .ok a b => k a ⟨g.v, b⟩
 | .exc x b => .exc x b
 | .bad => .bad
def eOpt {W : Wo} {α : Type} (o : Option α) : SS W -> R W α := fun g => match o with
 | some d => .ok d g.b
 | none => .bad
def eRet {W : Wo} {α : Type} (a : α) : SS W -> R W α := fun g => .ok a g.b
def tG {W : Wo} {ν α : Type} (X : Cx) (E : En) (rel : Co -> ν -> α -> Prop) (m : Bool) (O : List Nat) (f : SS W -> R W α) (g : SS W) (c : Co) (fp : List Addr) (σ : L2.St) (H : Hp) (Q : ν -> Hp -> Prop) : Prop :=
 SR W X.K E O g σ H c fp /\ match f g with
  | .ok d b => ∀ v H' c' fp', SR W X.K E O ⟨g.v, b⟩ σ H' c' fp' -> FR H c fp H' c' fp' -> rel (cm m H' c' fp') v d -> Q v H'
  | .exc x b => ∀ ev s' H' c' fp', Inv X [] σ H' s' -> SR W X.K E O ⟨g.v, b⟩ σ H' c' fp' -> FR H c fp H' c' fp' -> W.EX x ev s' H' c' -> X.xe ev s'
  | .bad => False
section
variable {W : Wo} {X : Cx} {E : En} {ν ν' α β : Type} {rel : Co -> ν -> α -> Prop} {rel' : Co -> ν' -> β -> Prop} {m m' : Bool} {O : List Nat} {g : SS W} {c : Co} {fp : List Addr} {σ : L2.St} {H : Hp} {Q : ν -> Hp -> Prop} {Q' : ν' -> Hp -> Prop}
theorem tG.bind {f : SS W -> R W α} {k : α -> SS W -> R W β} (h : tG X E rel' m' O (qG f k) g c fp σ H Q')
  (cont : ∀ d b v H1 c1 fp1, SR W X.K E O ⟨g.v, b⟩ σ H1 c1 fp1 -> FR H c fp H1 c1 fp1 -> rel (cm m H1 c1 fp1) v d -> tG X E rel' m' O (k d) ⟨g.v, b⟩ c1 fp1 σ H1 Q' -> Q v H1) : tG X E rel m O f g c fp σ H Q := by
 obtain ⟨S, h⟩ := h
 unfold qG at h
 refine ⟨S, ?_⟩
 cases e : f g with
 | bad => rw [e] at h; exact h
 | exc x b => rw [e] at h; exact h
 | ok d b =>
  rw [e] at h
  intro v H1 c1 fp1 S1 F1 r1
  refine cont d b v H1 c1 fp1 S1 F1 r1 ⟨S1, ?_⟩
  have h : match k d ⟨g.v, b⟩ with
   | .ok d b => ∀ v H' c' fp', SR W X.K E O ⟨g.v, b⟩ σ H' c' fp' -> FR H c fp H' c' fp' -> rel' (cm m' H' c' fp') v d -> Q' v H'
   | .exc x b => ∀ ev s' H' c' fp', Inv X [] σ H' s' -> SR W X.K E O ⟨g.v, b⟩ σ H' c' fp' -> FR H c fp H' c' fp' -> W.EX x ev s' H' c' -> X.xe ev s'
   | .bad => False := h
  cases e2 : k d ⟨g.v, b⟩ with
  | bad => rw [e2] at h; exact h
  | exc x b2 => rw [e2] at h; exact fun ev s' H' c' fp' I S' F' x' => h ev s' H' c' fp' I S' (F1.trans F') x'
  | ok d2 b2 => rw [e2] at h; exact fun v H' c' fp' S' F' r' => h v H' c' fp' S' (F1.trans F') r'
theorem tG.opt {o : Option β} (h : tG X E rel' m' O (eOpt o) g c fp σ H Q') : ∃ d, o = some d /\ ∀ v H' c' fp', SR W X.K E O g σ H' c' fp' -> FR H c fp H' c' fp' -> rel' (cm m' H' c' fp') v d -> Q' v H' := by
 obtain ⟨S, h⟩ := h
 cases o with
 | none => exact h.elim
 | some d => exact ⟨d, rfl, h⟩
theorem tG.ret {d : β} (h : tG X E rel' m' O (eRet d) g c fp σ H Q') : ∀ v H' c' fp', SR W X.K E O g σ H' c' fp' -> FR H c fp H' c' fp' -> rel' (cm m' H' c' fp') v d -> Q' v H' := h.2
end
def DE (W : Wo) (E : En) (m : Bool) (X : Cx) (O : List Nat) (e : Expr) (f : SS W -> R W D) : Prop := PE X e fun σ H Q => ∃ g c fp, tG X E (Rep X.K) m O f g c fp σ H Q
def DA (W : Wo) (E : En) (m : Bool) (X : Cx) (O : List Nat) (es : List Expr) (f : SS W -> R W (List D)) : Prop := PA X es fun σ H Q => ∃ g c fp, tG X E (Reps X.K) m O f g c fp σ H Q
def relB (_ : Co) (x b : Bool) : Prop := x = b
def DT (W : Wo) (E : En) (X : Cx) (O : List Nat) (e : Expr) (f : SS W -> R W Bool) : Prop := PT X e fun σ H Q => ∃ g c fp, tG X E relB true O f g c fp σ H Q
def DW (W : Wo) (E : En) (X : Cx) (O : List Nat) (e : Expr) (f : SS W -> R W Bool) : Prop := PW X e fun σ H Q => ∃ g c fp, tG X E relB true O f g c fp σ H Q
theorem zg {X : Cx} {e : Expr} {t t' : TE} (h : PE X e t) (w : ∀ σ H Q, t' σ H Q -> t σ H Q) : PE X e t' := fun pins s σ H Q I q => h pins s σ H Q I (w σ H Q q)
theorem xz {X : Cx} {e : Expr} {t t' : TT} (h : PT X e t) (w : ∀ σ H Q, t' σ H Q -> t σ H Q) : PT X e t' := fun pins s σ H Q I q => h pins s σ H Q I (w σ H Q q)
theorem KC {X : Cx} {e : Expr} {t t' : TT} (h : PW X e t) (w : ∀ σ H Q, t' σ H Q -> t σ H Q) : PW X e t' := fun whole pins s σ H Q I q => h whole pins s σ H Q I (w σ H Q q)
theorem Q5 {X : Cx} {es : List Expr} {t t' : TA} (h : PA X es t) (w : ∀ σ H Q, t' σ H Q -> t σ H Q) : PA X es t' := fun pos pins s σ H Q I q => h pos pins s σ H Q I (w σ H Q q)
section
variable {W : Wo} {X : Cx} {E : En} {O : List Nat} {m m1 m2 : Bool} {e a b : Expr} {f fa fb : SS W -> R W D} {pos : Pos}
theorem Wc {H : Hp} {c : Co} {fp : List Addr} {g : SS W} {σ : L2.St} (S : SR W X.K E O g σ H c fp) : Co.Le (cm true H c fp) (cm m H c fp) := by
 cases m with
 | true => exact .refl _
 | false => exact S.toSE.bor (m := true)
def eVar (i : Nat) : SS W -> R W D := fun g => eOpt ((g.v[i]?).join) g
theorem KR {K : PySem.W.Frag} {H : Hp} {c : Co} {fp : List Addr} (hc : Same c.h (Hn H fp)) {x : V} {d : D} (h : OwnV K E H c fp x d) : Rep K ⟨Hn H fp, c.ob⟩ x d := by
 have le : Co.Le c ⟨Hn H fp, c.ob⟩ := ⟨hc, fun _ _ e => e⟩
 cases d with
 | lst ds =>
  obtain ⟨a, xs, rfl, _, hf, _, hh, r⟩ := h
  exact .lst (Hn.mk hh hf rfl) r.l (r.mono le).r
 | dic kvs =>
  obtain ⟨a, ys, rfl, _, hf, _, hh, l, nd, r⟩ := h
  refine .dic (Hn.mk hh hf rfl) l nd fun i p q h1 h2 => (r.mono le).r i _ _ (by rw [List.getElem?_map, h1]; rfl) (by rw [List.getElem?_map, h2]; rfl)
 | dit kvs =>
  obtain ⟨a, ys, rfl, _, hf, _, hh, l, nd, r⟩ := h
  refine .dit (Hn.mk hh hf rfl) l nd fun i p q h1 h2 => (r.mono le).r i _ _ (by rw [List.getElem?_map, h1]; rfl) (by rw [List.getElem?_map, h2]; rfl)
 | non => exact Rep.mono le h
 | bl b => exact Rep.mono le h
 | int i => exact Rep.mono le h
 | str x => exact Rep.mono le h
 | tup ds => exact Rep.mono le h
 | obj n => exact Rep.mono le h
 | scr n => exact Rep.mono le h
theorem join_some {α : Type} {o : Option (Option α)} {a : α} (h : o.join = some a) : o = some (some a) := by
 cases o with
 | none => cases h
 | some o => exact congrArg some h
theorem qb {i : Nat} (h : PE X e (tVar i)) (hi : i ∉ O) : DE W E true X O e (eVar i) := zg h fun σ H Q ⟨g, c, fp, q⟩ => by
 obtain ⟨d, e, k⟩ := tG.opt (o := (g.v[i]?).join) q
 obtain ⟨x, h1, h2⟩ := q.1.frz i d hi (join_some e)
 exact ⟨x, h1, k x H c fp q.1 .refl h2⟩
theorem vM {i : Nat} (h : PE X e (tVar i)) (hi : i ∈ O) : DE W E false X O e (eVar i) := zg h fun σ H Q ⟨g, c, fp, q⟩ => by
 obtain ⟨d, e, k⟩ := tG.opt (o := (g.v[i]?).join) q
 obtain ⟨x, h1, h2⟩ := q.1.own i d hi (join_some e)
 exact ⟨x, h1, k x H c fp q.1 .refl (KR q.1.core h2)⟩
def isAt : D -> Option V
 | .non => some .non
 | .bl b => some (.bl b)
 | .int i => some (.int i)
 | .str x => some (.str x)
 | _ => none
theorem y7 {K : PySem.W.Frag} {c : Co} {d : D} {v : V} (h : isAt d = some v) : Rep K c v d := by
 cases d <;> cases h <;> constructor
theorem wd {K : PySem.W.Frag} {c : Co} {d : D} {v x : V} (h : isAt d = some v) (r : Rep K c x d) : x = v := by
 cases r <;> cases h <;> rfl
def eC (d : D) : SS W -> R W D := eRet d
theorem de_c {d : D} {v : V} (h : PE X e (tC v)) (hd : isAt d = some v) : DE W E true X O e (eC d) := zg h fun σ H Q ⟨g, c, fp, q⟩ => q.ret v H c fp q.1 .refl (y7 hd)
def e1 (op : D -> Option D) (fa : SS W -> R W D) : SS W -> R W D := qG fa fun x => eOpt (op x)
def e2 (op : D -> D -> Option D) (fa fb : SS W -> R W D) : SS W -> R W D := qG fa fun x => qG fb fun y => eOpt (op x y)
def Op2 (X : Cx) (r : R2) (op : D -> D -> Option D) : Prop := ∀ (H : Hp) (c : Co) (x y : V) (dx dy d : D) (Q : VK), Same c.h H -> Rep X.K c x dx -> Rep X.K c y dy -> op dx dy = some d -> (∀ v, isAt d = some v -> Q v H) -> r x y H Q
theorem two {Q : VK} {op : D -> D -> Option D} {σ : L2.St} {H : Hp} {g : SS W} {c : Co} {fp : List Addr} {r : R2} (h : tG X E (Rep X.K) true O (e2 op fa fb) g c fp σ H Q) (hr : Op2 X r op) :
  tG X E (Rep X.K) m1 O fa g c fp σ H fun x H1 => ∃ g c fp, tG X E (Rep X.K) m2 O fb g c fp σ H1 fun y H2 => r x y H2 Q := by
 refine h.bind fun d b v H1 c1 fp1 S1 F1 r1 h1 => ⟨_, c1, fp1, h1.bind fun d' b' v' H2 c2 fp2 S2 F2 r2 h2 => ?_⟩
 obtain ⟨z, ez, k⟩ := h2.opt
 refine hr H2 ⟨Hn H2 fp2, c2.ob⟩ v v' d d' z Q Hn.same ((r1.mono F2.cm).mono S2.toSE.bor) (r2.mono S2.toSE.bor) ez fun u hu => k u H2 c2 fp2 S2 .refl (y7 hu)
theorem qP {o : Operator} {r : R2} {op : D -> D -> Option D} (ho : OpR X (binaryOp o) r) (hr : Op2 X r op) (ha : DE W E m1 X O a fa) (hb : DE W E m2 X O b fb) : DE W E true X O (.BinOp a o b pos) (e2 op fa fb) :=
 zg (KO ho ha hb) fun σ H Q ⟨g, c, fp, q⟩ => ⟨g, c, fp, two q hr⟩
theorem wC {o : CmpOp} {r : R2} {op : D -> D -> Option D} (ho : OpR X (compareOp o) r) (hr : Op2 X r op) (ha : DE W E m1 X O a fa) (hb : DE W E m2 X O b fb) (hm : behindInMarks o b = false) : DE W E true X O (.Compare a [o] [b] pos) (e2 op fa fb) :=
 zg (Q2 ho ha hb hm) fun σ H Q ⟨g, c, fp, q⟩ => ⟨g, c, fp, two q hr⟩
end
def NewV (H : Hp) (v : V) (d : D) : Prop := jH d = true -> ∀ a, v = .ref a -> H a = none
def tO {W : Wo} (X : Cx) (E : En) (O : List Nat) (f : SS W -> R W D) (g : SS W) (c : Co) (fp : List Addr) (σ : L2.St) (H : Hp) (Q : VK) : Prop :=
 SR W X.K E O g σ H c fp /\ match f g with
  | .ok d b => ∀ v H' c' fp', SR W X.K E O ⟨g.v, b⟩ σ H' c' fp' -> FR H c fp H' c' fp' -> OwnV X.K E H' c' fp' v d -> NewV H v d -> Q v H'
  | .exc x b => ∀ ev s' H' c' fp', Inv X [] σ H' s' -> SR W X.K E O ⟨g.v, b⟩ σ H' c' fp' -> FR H c fp H' c' fp' -> W.EX x ev s' H' c' -> X.xe ev s'
  | .bad => False
def DO (W : Wo) (E : En) (X : Cx) (O : List Nat) (e : Expr) (f : SS W -> R W D) : Prop := PE X e fun σ H Q => ∃ g c fp, tO X E O f g c fp σ H Q
section
variable {W : Wo} {K : PySem.W.Frag} {X : Cx} {E : En} {O : List Nat} {g : SS W} {b : W.BS} {σ : L2.St} {H H' : Hp} {c c' : Co} {fp fp' : List Addr}
theorem SE.give (S : SE W E b H c fp) {a : Addr} {u : HO} (ha : H a = some u) (hu : isT u = false) (hc : c.h a = none) (hf : a ∉ fp) (he : E.H a = none) : SE W E b H (c.add a u) fp := by
 have ne : ∀ z ∈ fp, z ≠ a := fun z hz q => hf (q ▸ hz)
 refine ⟨fun z w e => ?_, W.brS _ _ _ _ _ _ S.br (fun z hz => rfl) (Co.add_le hc) fun z hz => ?_, S.tab, S.fph, S.fr0.le.trans (Co.add_le hc), S.fr0.nn, fun z hz hq => ?_, S.fr0.th⟩
 ·by_cases h : z = a
  ·subst h
   have e' : upd c.h z u z = some w := e
   rw [qv] at e'
   cases e'
   exact Hn.mk ha hf hu
  ·have e' : upd c.h a u z = some w := e
   rw [qu h] at e'
   exact S.core _ _ e'
 ·show upd c.h a u z = none
  rw [qu (ne z hz)]
  exact S.fpc z hz
 ·show upd c.h a u z = none
  rw [qu (fun q => by subst q; exact hz (jI he))]
  exact S.fr0.out z hz hq
theorem v8 {x : V} {d : D} (h : OwnV K E H c fp x d) (hm : jH d = true) : ∃ a u, x = .ref a /\ H a = some u /\ isT u = false /\ c.h a = none /\ a ∉ fp /\ E.H a = none /\ ∀ c' : Co, Co.Le c c' -> c'.h a = some u -> Rep K c' x d := by
 cases d with
 | lst ds =>
  obtain ⟨a, xs, rfl, hc, hf, he, hh, r⟩ := h
  exact ⟨a, _, rfl, hh, rfl, hc, hf, he, fun c' le e => .lst e r.l (r.mono le).r⟩
 | dic kvs =>
  obtain ⟨a, ys, rfl, hc, hf, he, hh, l, nd, r⟩ := h
  exact ⟨a, _, rfl, hh, rfl, hc, hf, he, fun c' le e => .dic e l nd fun i p q h1 h2 => (r.mono le).r i _ _ (by rw [List.getElem?_map, h1]; rfl) (by rw [List.getElem?_map, h2]; rfl)⟩
 | dit kvs =>
  obtain ⟨a, ys, rfl, hc, hf, he, hh, l, nd, r⟩ := h
  exact ⟨a, _, rfl, hh, rfl, hc, hf, he, fun c' le e => .dit e l nd fun i p q h1 h2 => (r.mono le).r i _ _ (by rw [List.getElem?_map, h1]; rfl) (by rw [List.getElem?_map, h2]; rfl)⟩
 | non => cases hm
 | bl b => cases hm
 | int i => cases hm
 | str x => cases hm
 | tup ds => cases hm
 | obj n => cases hm
 | scr n => cases hm
theorem wV {x : V} {d : D} (h : OwnV K E H c fp x d) (hm : jH d = false) : Rep K c x d := by
 cases d with
 | lst ds => cases hm
 | dic kvs => cases hm
 | dit kvs => cases hm
 | non => exact h
 | bl b => exact h
 | int i => exact h
 | str x => exact h
 | tup ds => exact h
 | obj n => exact h
 | scr n => exact h
theorem DO.de {e : Expr} {f : SS W -> R W D} (h : DO W E X O e f) : DE W E true X O e f := zg h fun σ H Q ⟨g, c, fp, S, q⟩ => by
 refine ⟨g, c, fp, S, ?_⟩
 cases e2 : f g with
 | bad => rw [e2] at q; exact q
 | exc x b2 => rw [e2] at q; exact q
 | ok d b2 =>
  rw [e2] at q
  intro v H' c' fp' S' F' o nw
  cases hm : jH d with
  | false => exact q v H' c' fp' S' F' (wV o hm)
  | true =>
   obtain ⟨a, u, rfl, ha, hu, hc, hf, he, r⟩ := v8 o hm
   have le := Co.add_le (u := u) hc
   have nH : H a = none := nw hm a rfl
   have F2 : FR H c fp H' (c'.add a u) fp' := ⟨F'.le.trans le, F'.nn, fun z hz hq => by
    show upd c'.h a u z = none
    rw [qu (fun t => by subst t; exact hz (jI nH))]
    exact F'.out z hz hq, F'.th⟩
   have S2 : SR W X.K E O ⟨g.v, b2⟩ σ H' (c'.add a u) fp' := S.step F2 (S'.toSE.give ha hu hc hf he)
   exact q (.ref a) H' (c'.add a u) fp' S2 F2 (r _ le qv)
variable {m m1 m2 : Bool} {e a : Expr} {es : List Expr} {f fa fb : SS W -> R W D} {fs : SS W -> R W (List D)} {pos : Pos}
def aNil : SS W -> R W (List D) := eRet []
def qd (f : SS W -> R W D) (fs : SS W -> R W (List D)) : SS W -> R W (List D) := qG f fun x => qG fs fun xs => eRet (x :: xs)
theorem qB : DA W E m X O [] aNil := Q5 jF fun σ H Q ⟨g, c, fp, q⟩ => q.ret [] H c fp q.1 .refl .nil
theorem qc (ha : DE W E m1 X O e f) (hr : DA W E m X O es fs) (hm : m1 = true \/ m = false := by first | exact Or.inl rfl | exact Or.inr rfl) (hs : starEach (e :: es) X.env = (false, eval e X.env) :: starEach es X.env := by rfl) : DA W E m X O (e :: es) (qd f fs) :=
 Q5 (zL ha hr hs) fun σ H Q ⟨g, c, fp, q⟩ => ⟨g, c, fp, q.bind fun d b v H1 c1 fp1 S1 F1 r1 h1 => ⟨_, c1, fp1, h1.bind fun d' b' v' H2 c2 fp2 S2 F2 r2 h2 => by
  refine h2.ret (v :: v') H2 c2 fp2 S2 .refl (.cons ((r1.mono F2.cm).mono ?_) r2)
  rcases hm with rfl | rfl
  ·exact Wc S2
  ·exact S2.toSE.bor⟩⟩
def eTup (fs : SS W -> R W (List D)) : SS W -> R W D := qG fs fun ds => eOpt (if ds.length <= 1000 then some (.tup ds) else none)
def eLst (fs : SS W -> R W (List D)) : SS W -> R W D := qG fs fun ds => eOpt (if ds.length <= 1000 then some (.lst ds) else none)
theorem QE {xs : List V} {ds : List D} {p : Addr} (h : c.h p = some (.tup xs)) (r : Reps K c xs ds) : Rep K c (.ref p) (.tup ds) := .tup h r.l r.r
theorem zC {α : Type} {p : Prop} [Decidable p] {x y : α} (h : (if p then some x else none) = some y) : p /\ x = y := by
 split at h
 ·rename_i hp; exact ⟨hp, Option.some.inj h⟩
 ·cases h
theorem ky {k : Nat} (h : DA W E true X O es fs) : DE W E true X O (.Tuple es k pos) (eTup fs) := zg (V4 h) fun σ H Q ⟨g, c, fp, q⟩ => ⟨g, c, fp, q.bind fun ds b xs H1 c1 fp1 S1 F1 r1 h1 => by
 obtain ⟨d, e, k⟩ := h1.opt
 obtain ⟨hl, rfl⟩ := zC e
 refine ⟨by rw [r1.l]; exact X2.small hl, fun p hp => k _ _ (c1.add p _) fp1 (S1.new hp rfl) (FR.new S1.toSE hp _) (QE qv (r1.mono (Co.add_le (S1.toSE.free hp).1)))⟩⟩
theorem tO.bind {α ν : Type} {rel : Co -> ν -> α -> Prop} {f : SS W -> R W α} {k : α -> SS W -> R W D} {Q : VK} {Q1 : ν -> Hp -> Prop} (h : tO X E O (qG f k) g c fp σ H Q)
  (cont : ∀ d b v H1 c1 fp1, SR W X.K E O ⟨g.v, b⟩ σ H1 c1 fp1 -> FR H c fp H1 c1 fp1 -> rel (cm m H1 c1 fp1) v d -> tO X E O (k d) ⟨g.v, b⟩ c1 fp1 σ H1 Q -> Q1 v H1) : tG X E rel m O f g c fp σ H Q1 := by
 obtain ⟨S, h⟩ := h
 unfold qG at h
 refine ⟨S, ?_⟩
 cases e : f g with
 | bad => rw [e] at h; exact h
 | exc x b => rw [e] at h; exact h
 | ok d b =>
  rw [e] at h
  intro v H1 c1 fp1 S1 F1 r1
  refine cont d b v H1 c1 fp1 S1 F1 r1 ⟨S1, ?_⟩
  have h : match k d ⟨g.v, b⟩ with
   | .ok d b => ∀ v H' c' fp', SR W X.K E O ⟨g.v, b⟩ σ H' c' fp' -> FR H c fp H' c' fp' -> OwnV X.K E H' c' fp' v d -> NewV H v d -> Q v H'
   | .exc x b => ∀ ev s' H' c' fp', Inv X [] σ H' s' -> SR W X.K E O ⟨g.v, b⟩ σ H' c' fp' -> FR H c fp H' c' fp' -> W.EX x ev s' H' c' -> X.xe ev s'
   | .bad => False := h
  cases e2 : k d ⟨g.v, b⟩ with
  | bad => rw [e2] at h; exact h
  | exc x b2 => rw [e2] at h; exact fun ev s' H' c' fp' I S' F' x' => h ev s' H' c' fp' I S' (F1.trans F') x'
  | ok d2 b2 =>
   rw [e2] at h
   exact fun v H' c' fp' S' F' r' nw => h v H' c' fp' S' (F1.trans F') r' fun hm a ha => F1.th a (nw hm a ha)
theorem tO.opt {o : Option D} {Q : VK} (h : tO X E O (eOpt o) g c fp σ H Q) : ∃ d, o = some d /\ ∀ v H' c' fp', SR W X.K E O g σ H' c' fp' -> FR H c fp H' c' fp' -> OwnV X.K E H' c' fp' v d -> NewV H v d -> Q v H' := by
 obtain ⟨S, h⟩ := h
 cases o with
 | none => exact h.elim
 | some d => exact ⟨d, rfl, h⟩
theorem tO.list {ds : List D} {xs : List V} {Q : VK} (h : tO X E O (eOpt (some (.lst ds))) g c fp σ H Q) (r : Reps X.K c xs ds) (p : Addr) (hp : H p = none) : Q (.ref p) (upd H p (.lst xs)) := by
 obtain ⟨S, k⟩ := h
 exact k (.ref p) _ c fp (S.newO hp) (FR.newO hp _) ⟨p, xs, rfl, (S.toSE.free hp).1, (S.toSE.free hp).2, S.toSE.freeE hp, qv, r⟩ fun _ a e => by cases e; exact hp
theorem jj (h : DA W E true X O es fs) : DO W E X O (.List es pos) (eLst fs) := zg (V6 h) fun σ H Q ⟨g, c, fp, q⟩ => ⟨g, c, fp, q.bind (rel := Reps X.K) fun ds b xs H1 c1 fp1 S1 F1 r1 h1 => by
 obtain ⟨d, e, k⟩ := h1.opt
 obtain ⟨hl, rfl⟩ := zC e
 rw [if_pos hl] at h1
 exact ⟨by rw [r1.l]; exact X2.small hl, fun p hp => h1.list r1 p hp⟩⟩
def ke : SS W -> R W D := eRet (.dic [])
theorem Vl (h : PE X e J0) : DO W E X O e ke := zg h fun σ H Q ⟨g, c, fp, S, k⟩ => fun p hp =>
 k (.ref p) _ c fp (S.newO hp) (FR.newO hp _) ⟨p, [], rfl, (S.toSE.free hp).1, (S.toSE.free hp).2, S.toSE.freeE hp, qv, rfl, .nil, .nil⟩ fun _ a e => by cases e; exact hp
end
def allE (f : D -> D -> Option Bool) : List D -> List D -> Option Bool
 | [], [] => some true
 | x :: xs, y :: ys => match f x y, allE f xs ys with
  | some b, some r => some (b && r)
  | _, _ => none
 | _, _ => none
def eqN : Nat -> D -> D -> Option Bool
 | 0, _, _ => none
 | n + 1, d, e => match d, e with
  | .lst xs, .lst ys => if xs.length = ys.length then allE (eqN n) xs ys else some false
  | .tup xs, .tup ys => if xs.length = ys.length then allE (eqN n) xs ys else none
  | .non, .non => some true
  | .bl a, .bl b => some (a == b)
  | .int a, .int b => some (a == b)
  | .str a, .str b => some (a == b)
  | .non, .int _ => some false
  | .non, .str _ => some false
  | .non, .bl _ => some false
  | .non, .tup _ => some false
  | .non, .lst _ => some false
  | .int _, .non => some false
  | .int _, .str _ => some false
  | .int _, .tup _ => some false
  | .int _, .lst _ => some false
  | .str _, .non => some false
  | .str _, .int _ => some false
  | .str _, .bl _ => some false
  | .str _, .tup _ => some false
  | .str _, .lst _ => some false
  | .bl _, .non => some false
  | .bl _, .str _ => some false
  | .tup _, .non => some false
  | .tup _, .int _ => some false
  | .tup _, .str _ => some false
  | .tup _, .lst _ => some false
  | .lst _, .non => some false
  | .lst _, .int _ => some false
  | .lst _, .str _ => some false
  | .lst _, .tup _ => some false
  | _, _ => none
theorem kh {f : D -> D -> Option Bool} : ∀ {xs ys : List D} {b : Bool}, allE f xs ys = some b -> ∃ e : Nat -> Bool, (∀ (j : Nat) x y, xs[j]? = some x -> ys[j]? = some y -> f x y = some (e j)) /\ b = (List.range xs.length).all e
 | [], [], b, h => by cases h; exact ⟨fun _ => true, fun j x y h => by simp at h, rfl⟩
 | [], _ :: _, _, h => by cases h
 | _ :: _, [], _, h => by cases h
 | x :: xs, y :: ys, b, h => by
  unfold allE at h
  cases e1 : f x y with
  | none => rw [e1] at h; cases h
  | some b1 =>
   cases e2 : allE f xs ys with
   | none => rw [e1, e2] at h; cases h
   | some r =>
    rw [e1, e2] at h
    cases h
    obtain ⟨e, k, hr⟩ := kh e2
    refine ⟨fun j => match j with | 0 => b1 | j + 1 => e j, fun j u v hu hv => ?_, ?_⟩
    ·cases j with
     | zero => cases hu; cases hv; exact e1
     | succ j => exact k j u v (by simpa using hu) (by simpa using hv)
    ·rw [hr, List.length_cons, List.range_succ_eq_map, List.all_cons, List.all_map]
     rfl
section
variable {X : Cx} {pins : List (Addr × Obj)} {σ : L2.St} {H : Hp} {s : Shared} {A : Around} {c : Co}
theorem zV : ∀ {xs : List V} {us : List Value} {j : Nat} {u : Value}, Vals xs us -> us[j]? = some u -> ∃ x, xs[j]? = some x /\ RelV x u
 | _, _, _, _, .nil, h => by simp at h
 | _, _, 0, _, .cons r _, h => by cases h; exact ⟨_, rfl, r⟩
 | _, _, j + 1, u, .cons _ t, h => by
  obtain ⟨x, h1, h2⟩ := zV (j := j) (u := u) t (by simpa using h)
  exact ⟨x, by simpa using h1, h2⟩
open SeqAt
theorem QF (I : Inv X pins σ H s) (hs : Same c.h H) {x : V} {d e : D} (r : Rep X.K c x d) : Rep X.K c x e -> ∀ n b, eqN n d e = some b -> b = true := by
 induction r generalizing e with
 | non => intro q n b h; cases q; cases n <;> cases h; rfl
 | bl b => intro q n b' h; cases q; cases n <;> cases h; simp
 | int i => intro q n b h; cases q; cases n <;> cases h; simp
 | str x => intro q n b h; cases q; cases n <;> cases h; simp
 | @tup a xs ds ex l r ih =>
  intro q n b h
  cases q with
  | @tup _ xs' es ex' l' r' =>
   obtain rfl := I.tuple_inj (tupT hs ex) (tupT hs ex')
   cases n with
   | zero => cases h
   | succ n =>
    have h' : (if ds.length = es.length then allE (eqN n) ds es else none) = some b := h
    rw [if_pos (l.symm.trans l')] at h'
    obtain ⟨e, k, hb⟩ := kh h'
    rw [hb, List.all_eq_true]
    intro j hj
    have hj' : j < ds.length := by simpa using hj
    have hx : j < xs.length := by omega
    have he : j < es.length := by omega
    exact ih j _ _ (List.getElem?_eq_getElem hx) (List.getElem?_eq_getElem hj') (r' j _ _ (List.getElem?_eq_getElem hx) (List.getElem?_eq_getElem he)) n _ (k j _ _ (List.getElem?_eq_getElem hj') (List.getElem?_eq_getElem he))
  | @lst _ xs' es ex' l' r' => cases n with
   | zero => cases h
   | succ n =>
    exfalso
    obtain ⟨_, _, ⟨o, e1, e2, _⟩, _⟩ := I.tuple (tupT hs ex)
    obtain ⟨_, _, ⟨o', n', e1', e2', _⟩, _⟩ := I.list (lstT hs ex')
    rw [e1] at e1'; cases e1'; rw [e2] at e2'; injection e2' with z; exact absurd z (by decide)
  | dic => cases n <;> cases h
  | dit => cases n <;> cases h
  | obj => cases n <;> cases h
  | scr => cases n <;> cases h
 | @lst a xs ds ex l r ih =>
  intro q n b h
  cases q with
  | @lst _ xs' es ex' l' r' =>
   obtain rfl := I.list_inj (lstT hs ex) (lstT hs ex')
   cases n with
   | zero => cases h
   | succ n =>
    have h' : (if ds.length = es.length then allE (eqN n) ds es else some false) = some b := h
    rw [if_pos (l.symm.trans l')] at h'
    obtain ⟨e, k, hb⟩ := kh h'
    rw [hb, List.all_eq_true]
    intro j hj
    have hj' : j < ds.length := by simpa using hj
    have hx : j < xs.length := by omega
    have he : j < es.length := by omega
    exact ih j _ _ (List.getElem?_eq_getElem hx) (List.getElem?_eq_getElem hj') (r' j _ _ (List.getElem?_eq_getElem hx) (List.getElem?_eq_getElem he)) n _ (k j _ _ (List.getElem?_eq_getElem hj') (List.getElem?_eq_getElem he))
  | @tup _ xs' es ex' l' r' => cases n with
   | zero => cases h
   | succ n =>
    exfalso
    obtain ⟨_, _, ⟨o, e1, e2, _⟩, _⟩ := I.tuple (tupT hs ex')
    obtain ⟨_, _, ⟨o', n', e1', e2', _⟩, _⟩ := I.list (lstT hs ex)
    rw [e1] at e1'; cases e1'; rw [e2] at e2'; injection e2' with z; exact absurd z (by decide)
  | dic => cases n <;> cases h
  | dit => cases n <;> cases h
  | obj => cases n <;> cases h
  | scr => cases n <;> cases h
 | dic => intro q n b h; cases n <;> cases e <;> cases h
 | dit => intro q n b h; cases n <;> cases e <;> cases h
 | obj => intro q n b h; cases n <;> cases e <;> cases h
 | scr => intro q n b h; cases n <;> cases e <;> cases h
theorem kK (I : Inv X pins σ H s) (hs : Same c.h H) : ∀ (n : Nat) (A : Around) (x y : V) (u v : Value) (d e : D) (b : Bool), A.units + n < cLine -> Rep X.K c x d -> Rep X.K c y e -> RelV x u -> RelV y v -> eqN n d e = some b -> RcAt A s u v b /\ EqAt A s u v b
 | 0, _, _, _, _, _, _, _, _, _, _, _, _, _, h => by cases h
 | n + 1, A, x, y, u, v, d, e, b, hu, rx, ry, ru, rv, h => by
  have hu0 : A.units < cLine := by omega
  have hl : ∀ {a : Addr} {xs : List V}, c.h a = some (.lst xs) -> ∃ its : List Value, Vals xs its /\ s.heap.IsList a its.toArray := fun h => by
   obtain ⟨its, r, p, _⟩ := I.list (lstT hs h)
   exact ⟨its, r, p.isList⟩
  have ht : ∀ {a : Addr} {xs : List V}, c.h a = some (.tup xs) -> ∃ its : List Value, Vals xs its /\ s.heap.IsTuple a its.toArray := fun h => by
   obtain ⟨its, r, p, _⟩ := I.tuple (tupT hs h)
   exact ⟨its, r, p⟩
  cases rx with
  | non =>
   cases ru
   cases ry with
   | non => cases rv; cases h; exact ⟨.none_none, .same _⟩
   | bl q => cases rv; cases h; exact ⟨.none_bool q, .none_bool q⟩
   | int q => obtain ⟨t, rfl⟩ := rv; cases h; exact ⟨.none_int q t, .none_int q t⟩
   | str q => obtain ⟨t, rfl⟩ := rv; cases h; exact ⟨.none_str q t, .none_str q t⟩
   | tup e' l r => cases rv; cases h; obtain ⟨its, _, p⟩ := ht e'; exact ⟨.none_tuple p hu0, .none_tuple p hu0⟩
   | lst e' l r => cases rv; cases h; obtain ⟨its, _, p⟩ := hl e'; exact ⟨.none_list p hu0, .none_list p hu0⟩
   | dic => cases h
   | dit => cases h
   | obj => cases h
   | scr => cases h
  | bl a =>
   cases ru
   cases ry with
   | non => cases rv; cases h; exact ⟨.bool_none a, .bool_none a⟩
   | bl q => cases rv; cases h; exact ⟨.bool_bool a q, .bool_bool a q⟩
   | int q => cases h
   | str q => obtain ⟨t, rfl⟩ := rv; cases h; exact ⟨.bool_str a q t, .bool_str a q t⟩
   | tup e' l r => cases h
   | lst e' l r => cases h
   | dic => cases h
   | dit => cases h
   | obj => cases h
   | scr => cases h
  | int a =>
   obtain ⟨t', rfl⟩ := ru
   cases ry with
   | non => cases rv; cases h; exact ⟨.int_none a t', .int_none a t'⟩
   | bl q => cases h
   | int q => obtain ⟨t, rfl⟩ := rv; cases h; exact ⟨.int_int a t' q t, .int_int a t' q t⟩
   | str q => obtain ⟨t, rfl⟩ := rv; cases h; exact ⟨.int_str a t' q t, .int_str a t' q t⟩
   | tup e' l r => cases rv; cases h; obtain ⟨its, _, p⟩ := ht e'; exact ⟨.int_tuple a t' p hu0, .int_tuple a t' p hu0⟩
   | lst e' l r => cases rv; cases h; obtain ⟨its, _, p⟩ := hl e'; exact ⟨.int_list a t' p hu0, .int_list a t' p hu0⟩
   | dic => cases h
   | dit => cases h
   | obj => cases h
   | scr => cases h
  | str a =>
   obtain ⟨t', rfl⟩ := ru
   cases ry with
   | non => cases rv; cases h; exact ⟨.str_none a t', .str_none a t'⟩
   | bl q => cases rv; cases h; exact ⟨.str_bool a t' q, .str_bool a t' q⟩
   | int q => obtain ⟨t, rfl⟩ := rv; cases h; exact ⟨.str_int a t' q t, .str_int a t' q t⟩
   | str q => obtain ⟨t, rfl⟩ := rv; cases h; exact ⟨.str_str a t' q t, .str_str a t' q t⟩
   | tup e' l r => cases rv; cases h; obtain ⟨its, _, p⟩ := ht e'; exact ⟨.str_tuple a t' p hu0, .str_tuple a t' p hu0⟩
   | lst e' l r => cases rv; cases h; obtain ⟨its, _, p⟩ := hl e'; exact ⟨.str_list a t' p hu0, .str_list a t' p hu0⟩
   | dic => cases h
   | dit => cases h
   | obj => cases h
   | scr => cases h
  | @tup a xs ds ex l r =>
   cases ru
   obtain ⟨its, vr, p⟩ := ht ex
   cases ry with
   | non => cases rv; cases h; exact ⟨.tuple_none p hu0, .tuple_none p hu0⟩
   | bl q => cases h
   | int q => obtain ⟨t, rfl⟩ := rv; cases h; exact ⟨.tuple_int q t p hu0, .tuple_int q t p hu0⟩
   | str q => obtain ⟨t, rfl⟩ := rv; cases h; exact ⟨.tuple_str q t p hu0, .tuple_str q t p hu0⟩
   | lst e' l r => cases rv; cases h; obtain ⟨its', _, p'⟩ := hl e'; exact ⟨.tuple_list p p' hu0, .tuple_list p p' hu0⟩
   | @tup a' xs' ds' ex' l' r' =>
    cases rv
    obtain ⟨its', vr', p'⟩ := ht ex'
    have h' : (if ds.length = ds'.length then allE (eqN n) ds ds' else none) = some b := h
    split at h'
    ·rename_i hlen
     obtain ⟨e, k, hb⟩ := kh h'
     have s1 : its.toArray.size = ds.length := by rw [List.size_toArray, <- vr.length, l]
     have s2 : its'.toArray.size = ds'.length := by rw [List.size_toArray, <- vr'.length, l']
     have q := RcAt.tuples (e := e) p p' hu0 fun j h1 h2 => by
      obtain ⟨x1, g1, w1⟩ := zV vr (j := j) (u := its[j]) (List.getElem?_eq_getElem (by simpa using h1))
      obtain ⟨x2, g2, w2⟩ := zV vr' (j := j) (u := its'[j]) (List.getElem?_eq_getElem (by simpa using h2))
      have d1 : j < ds.length := by omega
      have d2 : j < ds'.length := by omega
      have := (kK I hs n A.in1 x1 x2 _ _ ds[j] ds'[j] (e j) (by show A.units + 1 + n < _; omega) (r j _ _ g1 (List.getElem?_eq_getElem d1)) (r' j _ _ g2 (List.getElem?_eq_getElem d2)) w1 w2 (k j _ _ (List.getElem?_eq_getElem d1) (List.getElem?_eq_getElem d2))).2
      simpa using this
     have hm : min its.toArray.size its'.toArray.size = ds.length := by rw [s1, s2, hlen, Nat.min_self]
     rw [hm, s1, s2, hlen, beq_self_eq_true, Bool.and_true] at q
     rw [hlen] at hb
     rw [<- hb] at q
     refine ⟨q, ?_⟩
     by_cases haa : a = a'
     ·subst haa
      have := QF I hs (.tup ex l r) (.tup ex' l' r') (n + 1) b h
      subst this
      exact .same _
     ·exact .of_refs haa q
    ·cases h'
   | dic => cases h
   | dit => cases h
   | obj => cases h
   | scr => cases h
  | @lst a xs ds ex l r =>
   cases ru
   obtain ⟨its, vr, p⟩ := hl ex
   cases ry with
   | non => cases rv; cases h; exact ⟨.list_none p hu0, .list_none p hu0⟩
   | bl q => cases h
   | int q => obtain ⟨t, rfl⟩ := rv; cases h; exact ⟨.list_int q t p hu0, .list_int q t p hu0⟩
   | str q => obtain ⟨t, rfl⟩ := rv; cases h; exact ⟨.list_str q t p hu0, .list_str q t p hu0⟩
   | tup e' l r => cases rv; cases h; obtain ⟨its', _, p'⟩ := ht e'; exact ⟨.list_tuple p p' hu0, .list_tuple p p' hu0⟩
   | @lst a' xs' ds' ex' l' r' =>
    cases rv
    obtain ⟨its', vr', p'⟩ := hl ex'
    have s1 : its.toArray.size = ds.length := by rw [List.size_toArray, <- vr.length, l]
    have s2 : its'.toArray.size = ds'.length := by rw [List.size_toArray, <- vr'.length, l']
    have h' : (if ds.length = ds'.length then allE (eqN n) ds ds' else some false) = some b := h
    split at h'
    ·rename_i hlen
     obtain ⟨e, k, hb⟩ := kh h'
     have q := RcAt.lists (e := e) p p' (by rw [s1, s2, hlen]) hu0 fun j h1 h2 => by
      obtain ⟨x1, g1, w1⟩ := zV vr (j := j) (u := its[j]) (List.getElem?_eq_getElem (by simpa using h1))
      obtain ⟨x2, g2, w2⟩ := zV vr' (j := j) (u := its'[j]) (List.getElem?_eq_getElem (by simpa using h2))
      have d1 : j < ds.length := by omega
      have d2 : j < ds'.length := by omega
      have := (kK I hs n A.in1 x1 x2 _ _ ds[j] ds'[j] (e j) (by show A.units + 1 + n < _; omega) (r j _ _ g1 (List.getElem?_eq_getElem d1)) (r' j _ _ g2 (List.getElem?_eq_getElem d2)) w1 w2 (k j _ _ (List.getElem?_eq_getElem d1) (List.getElem?_eq_getElem d2))).2
      simpa using this
     rw [s1, <- hb] at q
     refine ⟨q, ?_⟩
     by_cases haa : a = a'
     ·subst haa
      have := QF I hs (.lst ex l r) (.lst ex' l' r') (n + 1) b h
      subst this
      exact .same _
     ·exact .of_refs haa q
    ·rename_i hlen
     cases h'
     have q := RcAt.lists_lengths p p' (by rw [s1, s2]; simpa using hlen) hu0
     refine ⟨q, ?_⟩
     by_cases haa : a = a'
     ·subst haa
      obtain rfl := I.list_inj (lstT hs ex) (lstT hs ex')
      exact absurd (l.symm.trans l') hlen
     ·exact .of_refs haa q
   | dic => cases h
   | dit => cases h
   | obj => cases h
   | scr => cases h
  | dic => cases e <;> cases h
  | dit => cases e <;> cases h
  | obj => cases e <;> cases h
  | scr => cases e <;> cases h
end
def ordE (e r : Nat -> Bool) (t : Bool) : Nat -> Nat -> Bool
 | _, 0 => t
 | i, k + 1 => if e i = true then ordE e r t (i + 1) k else r i
def RcO (op : CmpOp) (A : Around) (s : Shared) (y x : Value) (b : Bool) : Prop := ∀ (prog : Program) (w : World) (E : Value -> Shared -> Prop) (Q : Value -> Shared -> Prop), Q (.bool b) s -> wpAny (model prog w) A (richCompare op y x) Q E s
section
open PySem.SeqAt
open PySem.AutoSeq1 (wpAny_loadPart')
open PySem.MeetsSeq PySem.MeetsSeq2 PySem.MeetsSeq3 SeqRoads2
theorem VB (l b : Addr) (items items2 : Array Value) (n n2 : Nat) (dd dd2 : Option Addr) (sl sl2 : Array (Option Value)) (e r : Nat -> Bool) :
  Meets (Builtin.«tuple.__lt__» ⟨[.ref l, .ref b], []⟩)
   (fun A R s => s.heap.get? l = some { cls := .type "tuple", dict := dd, data := .seq items n, slots := sl } /\ s.heap.get? b = some { cls := .type "tuple", dict := dd2, data := .seq items2 n2, slots := sl2 } /\
    (∀ j (h1 : j < items.size) (h2 : j < items2.size), (∀ k, k < j -> e k = true) -> EqAt A.in1 s items[j] items2[j] (e j)) /\ (∀ j (h1 : j < items.size) (h2 : j < items2.size), (∀ k, k < j -> e k = true) -> e j = false -> RcO .Lt A.in1 s items[j] items2[j] (r j)) /\
    R (.ok (.ret (.bool (ordE e r (decide (items.size < items2.size)) 0 (min items.size items2.size))))) s) :=
 .of_wp fun prog w A R s h => by
  obtain ⟨hp, g, d, tk, os⟩ := s; obtain ⟨hl, hb, he, hr, h⟩ := h
  have f2 := AutoSeq1.sub_tuple_tuple
  have zl : (items.toList.zip items2.toList).length = min items.size items2.size := by rw [List.length_zip, Array.length_toList, Array.length_toList]
  wp_walk using wpAny_loadPart' hl, wpAny_loadPart' hb, wpAny_forIn_list _ (fun rest b s' => b.1 = none /\ s' = ⟨hp, g, d, tk, os⟩ /\ ∃ i k, i + k = min items.size items2.size /\ rest = (items.toList.zip items2.toList).drop i /\ (∀ q, q < i -> e q = true) /\
   R (.ok (.ret (.bool (ordE e r (decide (items.size < items2.size)) i k)))) ⟨hp, g, d, tk, os⟩) _
  case turn =>
   rintro ⟨y, x⟩ rest b s' ⟨hb', rfl, i, k, hik, hz, hq, hR⟩
   have lt0 : i < (items.toList.zip items2.toList).length := by
    by_cases q : i < (items.toList.zip items2.toList).length
    ·exact q
    ·rw [List.drop_eq_nil_of_le (by omega)] at hz; cases hz
   have a1 : i < items.size := by omega
   have a2 : i < items2.size := by omega
   rw [List.drop_eq_getElem_cons lt0] at hz
   injection hz with ez hrest
   rw [List.getElem_zip] at ez
   injection ez with ey ex
   have ey : y = items[i] := by rw [ey]; simp
   have ex : x = items2[i] := by rw [ex]; simp
   subst ey ex
   cases k with
   | zero => omega
   | succ k =>
    have hR : R (.ok (.ret (.bool (if e i = true then ordE e r (decide (items.size < items2.size)) (i + 1) k else r i)))) _ := hR
    refine wpAny_bind (he i a1 a2 hq prog w _ _ ?_)
    cases ei : e i with
    | true =>
     rw [if_pos ei] at hR
     wp_walk
     exact ⟨rfl, rfl, i + 1, k, by omega, hrest, fun q hq' => by by_cases z : q = i; (subst z; exact ei); exact hq q (by omega), hR⟩
    | false =>
     rw [ei, if_neg (by decide)] at hR
     have hri := hr i a1 a2 hq ei prog w
     wp_walk using hri
     exact ⟨_, rfl, by simpa using hR⟩
  case fin =>
   rintro ⟨b1, b2⟩ s' ⟨hb', rfl, i, k, hik, hz, hq, hR⟩
   simp only at hb'
   subst hb'
   have k0 : k = 0 := by
    by_cases q : i < (items.toList.zip items2.toList).length
    ·rw [List.drop_eq_getElem_cons q] at hz; cases hz
    ·omega
   subst k0
   have hR : R (.ok (.ret (.bool (decide (items.size < items2.size))))) _ := hR
   wp_walk
   exact ⟨_, rfl, by simpa [Builtin.Tuple.tupleCompareSizes] using hR⟩
  case h =>
   exact ⟨rfl, rfl, 0, min items.size items2.size, by omega, rfl, fun q hq => absurd hq (Nat.not_lt_zero _), h⟩
theorem w9 (l b : Addr) (items items2 : Array Value) (n n2 : Nat) (dd dd2 : Option Addr) (sl sl2 : Array (Option Value)) (e r : Nat -> Bool) (k : Nat) :
  ∀ i : Nat, i + k = min items.size items2.size -> Meets (Builtin.«list.__eq__.loop» ⟨[.ref l, .ref b, rawInt i, rawInt (0)], []⟩)
   (fun A R s => s.heap.get? l = some { cls := .type "list", dict := dd, data := .seq items n, slots := sl } /\ s.heap.get? b = some { cls := .type "list", dict := dd2, data := .seq items2 n2, slots := sl2 } /\
    (∀ j (h1 : j < items.size) (h2 : j < items2.size), (∀ k, k < j -> e k = true) -> EqAt A.in1 s items[j] items2[j] (e j)) /\ (∀ j (h1 : j < items.size) (h2 : j < items2.size), (∀ k, k < j -> e k = true) -> e j = false -> RcO .Lt A.in1 s items[j] items2[j] (r j)) /\ (∀ q, q < i -> e q = true) /\
    R (.ok (.ret (.bool (ordE e r (decide (items.size < items2.size)) i k)))) s) := by
 induction k with
 | zero =>
  intro i hk prog w A R s h
  obtain ⟨hp, g, d, tk, os⟩ := s; obtain ⟨hl, hb, he, hr, hq, h⟩ := h
  wp_walk using wpAny_loadPart' hl, wpAny_loadPart' hb
  have h : R (.ok (.ret (.bool (decide (items.size < items2.size))))) _ := h
  have zz : items[((i : Nat) : Int).toNat]? = none \/ items2[((i : Nat) : Int).toNat]? = none := by
   simp only [Int.toNat_natCast, Array.getElem?_eq_none_iff]
   omega
  cases z1 : items[((i : Nat) : Int).toNat]? with
  | none =>
   wp_walk using wpAny_loadPart' hl, wpAny_loadPart' hb
   exact h
  | some v1 =>
   cases z2 : items2[((i : Nat) : Int).toNat]? with
   | none =>
    wp_walk using wpAny_loadPart' hl, wpAny_loadPart' hb
    exact h
   | some v2 => rw [z1, z2] at zz; rcases zz with zz | zz <;> cases zz
 | succ k ih =>
  intro i hk prog w A R s h
  obtain ⟨hp, g, d, tk, os⟩ := s; obtain ⟨hl, hb, he, hr, hq, h⟩ := h
  wp_walk using wpAny_loadPart' hl, wpAny_loadPart' hb
  have a1 : i < items.size := by omega
  have a2 : i < items2.size := by omega
  have z1 : items[((i : Nat) : Int).toNat]? = some items[i] := by simp [a1]
  have z2 : items2[((i : Nat) : Int).toNat]? = some items2[i] := by simp [a2]
  have hc : ((i : Int) + 1) = ((i + 1 : Nat) : Int) := by push_cast; rfl
  have h : R (.ok (.ret (.bool (if e i = true then ordE e r (decide (items.size < items2.size)) (i + 1) k else r i)))) _ := h
  rw [z1, z2]
  refine wpAny_bind (he i a1 a2 hq prog w _ _ ?_)
  cases ei : e i with
  | true =>
   rw [if_pos ei] at h
   wp_walk
   rw [hc]
   refine ⟨plainId_quiet plain_eq_loop _, codeAny_builtin entry_eq_loop ?_⟩
   rw [Around.under_plainId plain_eq_loop _]
   exact ih (i + 1) (by omega) prog w A R _ ⟨hl, hb, he, hr, fun q hq' => by by_cases z : q = i; (subst z; exact ei); exact hq q (by omega), h⟩
  | false =>
   rw [ei, if_neg (by decide)] at h
   have hri := hr i a1 a2 hq ei prog w
   wp_walk using wpAny_loadPart' hl, wpAny_loadPart' hb
   rw [z1, z2]
   wp_walk using hri
   simpa using h
theorem Xj (l b : Addr) (items items2 : Array Value) (n n2 : Nat) (dd dd2 : Option Addr) (sl sl2 : Array (Option Value)) (e r : Nat -> Bool) :
  Meets (Builtin.«list.__lt__» ⟨[.ref l, .ref b], []⟩)
   (fun A R s => s.heap.get? l = some { cls := .type "list", dict := dd, data := .seq items n, slots := sl } /\ s.heap.get? b = some { cls := .type "list", dict := dd2, data := .seq items2 n2, slots := sl2 } /\
    (∀ j (h1 : j < items.size) (h2 : j < items2.size), (∀ k, k < j -> e k = true) -> EqAt A.in1 s items[j] items2[j] (e j)) /\ (∀ j (h1 : j < items.size) (h2 : j < items2.size), (∀ k, k < j -> e k = true) -> e j = false -> RcO .Lt A.in1 s items[j] items2[j] (r j)) /\
    R (.ok (.ret (.bool (ordE e r (decide (items.size < items2.size)) 0 (min items.size items2.size))))) s) := by
 intro prog w A R s h
 obtain ⟨hp, g, d, tk, os⟩ := s; obtain ⟨hl, hb, he, hr, h⟩ := h
 have f3 := AutoSeq1.sub_list_list
 wp_walk using wpAny_loadPart' hl, wpAny_loadPart' hb
 refine ⟨plainId_quiet plain_eq_loop _, codeAny_builtin entry_eq_loop ?_⟩
 rw [Around.under_plainId plain_eq_loop _]
 exact w9 l b items items2 n n2 dd dd2 sl sl2 e r _ 0 (by omega) prog w A R _ ⟨hl, hb, he, hr, fun q hq => absurd hq (Nat.not_lt_zero _), h⟩
theorem VC (l b : Addr) (items items2 : Array Value) (n n2 : Nat) (dd dd2 : Option Addr) (sl sl2 : Array (Option Value)) (e r : Nat -> Bool) :
  Meets (Builtin.«tuple.__gt__» ⟨[.ref l, .ref b], []⟩)
   (fun A R s => s.heap.get? l = some { cls := .type "tuple", dict := dd, data := .seq items n, slots := sl } /\ s.heap.get? b = some { cls := .type "tuple", dict := dd2, data := .seq items2 n2, slots := sl2 } /\
    (∀ j (h1 : j < items.size) (h2 : j < items2.size), (∀ k, k < j -> e k = true) -> EqAt A.in1 s items[j] items2[j] (e j)) /\ (∀ j (h1 : j < items.size) (h2 : j < items2.size), (∀ k, k < j -> e k = true) -> e j = false -> RcO .Gt A.in1 s items[j] items2[j] (r j)) /\
    R (.ok (.ret (.bool (ordE e r (decide (items.size > items2.size)) 0 (min items.size items2.size))))) s) :=
 .of_wp fun prog w A R s h => by
  obtain ⟨hp, g, d, tk, os⟩ := s; obtain ⟨hl, hb, he, hr, h⟩ := h
  have f2 := AutoSeq1.sub_tuple_tuple
  have zl : (items.toList.zip items2.toList).length = min items.size items2.size := by rw [List.length_zip, Array.length_toList, Array.length_toList]
  wp_walk using wpAny_loadPart' hl, wpAny_loadPart' hb, wpAny_forIn_list _ (fun rest b s' => b.1 = none /\ s' = ⟨hp, g, d, tk, os⟩ /\ ∃ i k, i + k = min items.size items2.size /\ rest = (items.toList.zip items2.toList).drop i /\ (∀ q, q < i -> e q = true) /\
   R (.ok (.ret (.bool (ordE e r (decide (items.size > items2.size)) i k)))) ⟨hp, g, d, tk, os⟩) _
  case turn =>
   rintro ⟨y, x⟩ rest b s' ⟨hb', rfl, i, k, hik, hz, hq, hR⟩
   have lt0 : i < (items.toList.zip items2.toList).length := by
    by_cases q : i < (items.toList.zip items2.toList).length
    ·exact q
    ·rw [List.drop_eq_nil_of_le (by omega)] at hz; cases hz
   have a1 : i < items.size := by omega
   have a2 : i < items2.size := by omega
   rw [List.drop_eq_getElem_cons lt0] at hz
   injection hz with ez hrest
   rw [List.getElem_zip] at ez
   injection ez with ey ex
   have ey : y = items[i] := by rw [ey]; simp
   have ex : x = items2[i] := by rw [ex]; simp
   subst ey ex
   cases k with
   | zero => omega
   | succ k =>
    have hR : R (.ok (.ret (.bool (if e i = true then ordE e r (decide (items.size > items2.size)) (i + 1) k else r i)))) _ := hR
    refine wpAny_bind (he i a1 a2 hq prog w _ _ ?_)
    cases ei : e i with
    | true =>
     rw [if_pos ei] at hR
     wp_walk
     exact ⟨rfl, rfl, i + 1, k, by omega, hrest, fun q hq' => by by_cases z : q = i; (subst z; exact ei); exact hq q (by omega), hR⟩
    | false =>
     rw [ei, if_neg (by decide)] at hR
     have hri := hr i a1 a2 hq ei prog w
     wp_walk using hri
     exact ⟨_, rfl, by simpa using hR⟩
  case fin =>
   rintro ⟨b1, b2⟩ s' ⟨hb', rfl, i, k, hik, hz, hq, hR⟩
   simp only at hb'
   subst hb'
   have k0 : k = 0 := by
    by_cases q : i < (items.toList.zip items2.toList).length
    ·rw [List.drop_eq_getElem_cons q] at hz; cases hz
    ·omega
   subst k0
   have hR : R (.ok (.ret (.bool (decide (items.size > items2.size))))) _ := hR
   wp_walk
   exact ⟨_, rfl, by simpa [Builtin.Tuple.tupleCompareSizes] using hR⟩
  case h =>
   exact ⟨rfl, rfl, 0, min items.size items2.size, by omega, rfl, fun q hq => absurd hq (Nat.not_lt_zero _), h⟩
theorem w_ (l b : Addr) (items items2 : Array Value) (n n2 : Nat) (dd dd2 : Option Addr) (sl sl2 : Array (Option Value)) (e r : Nat -> Bool) (k : Nat) :
  ∀ i : Nat, i + k = min items.size items2.size -> Meets (Builtin.«list.__eq__.loop» ⟨[.ref l, .ref b, rawInt i, rawInt (4)], []⟩)
   (fun A R s => s.heap.get? l = some { cls := .type "list", dict := dd, data := .seq items n, slots := sl } /\ s.heap.get? b = some { cls := .type "list", dict := dd2, data := .seq items2 n2, slots := sl2 } /\
    (∀ j (h1 : j < items.size) (h2 : j < items2.size), (∀ k, k < j -> e k = true) -> EqAt A.in1 s items[j] items2[j] (e j)) /\ (∀ j (h1 : j < items.size) (h2 : j < items2.size), (∀ k, k < j -> e k = true) -> e j = false -> RcO .Gt A.in1 s items[j] items2[j] (r j)) /\ (∀ q, q < i -> e q = true) /\
    R (.ok (.ret (.bool (ordE e r (decide (items.size > items2.size)) i k)))) s) := by
 induction k with
 | zero =>
  intro i hk prog w A R s h
  obtain ⟨hp, g, d, tk, os⟩ := s; obtain ⟨hl, hb, he, hr, hq, h⟩ := h
  wp_walk using wpAny_loadPart' hl, wpAny_loadPart' hb
  have h : R (.ok (.ret (.bool (decide (items.size > items2.size))))) _ := h
  have zz : items[((i : Nat) : Int).toNat]? = none \/ items2[((i : Nat) : Int).toNat]? = none := by
   simp only [Int.toNat_natCast, Array.getElem?_eq_none_iff]
   omega
  cases z1 : items[((i : Nat) : Int).toNat]? with
  | none =>
   wp_walk using wpAny_loadPart' hl, wpAny_loadPart' hb
   exact h
  | some v1 =>
   cases z2 : items2[((i : Nat) : Int).toNat]? with
   | none =>
    wp_walk using wpAny_loadPart' hl, wpAny_loadPart' hb
    exact h
   | some v2 => rw [z1, z2] at zz; rcases zz with zz | zz <;> cases zz
 | succ k ih =>
  intro i hk prog w A R s h
  obtain ⟨hp, g, d, tk, os⟩ := s; obtain ⟨hl, hb, he, hr, hq, h⟩ := h
  wp_walk using wpAny_loadPart' hl, wpAny_loadPart' hb
  have a1 : i < items.size := by omega
  have a2 : i < items2.size := by omega
  have z1 : items[((i : Nat) : Int).toNat]? = some items[i] := by simp [a1]
  have z2 : items2[((i : Nat) : Int).toNat]? = some items2[i] := by simp [a2]
  have hc : ((i : Int) + 1) = ((i + 1 : Nat) : Int) := by push_cast; rfl
  have h : R (.ok (.ret (.bool (if e i = true then ordE e r (decide (items.size > items2.size)) (i + 1) k else r i)))) _ := h
  rw [z1, z2]
  refine wpAny_bind (he i a1 a2 hq prog w _ _ ?_)
  cases ei : e i with
  | true =>
   rw [if_pos ei] at h
   wp_walk
   rw [hc]
   refine ⟨plainId_quiet plain_eq_loop _, codeAny_builtin entry_eq_loop ?_⟩
   rw [Around.under_plainId plain_eq_loop _]
   exact ih (i + 1) (by omega) prog w A R _ ⟨hl, hb, he, hr, fun q hq' => by by_cases z : q = i; (subst z; exact ei); exact hq q (by omega), h⟩
  | false =>
   rw [ei, if_neg (by decide)] at h
   have hri := hr i a1 a2 hq ei prog w
   wp_walk using wpAny_loadPart' hl, wpAny_loadPart' hb
   rw [z1, z2]
   wp_walk using hri
   simpa using h
theorem Xk (l b : Addr) (items items2 : Array Value) (n n2 : Nat) (dd dd2 : Option Addr) (sl sl2 : Array (Option Value)) (e r : Nat -> Bool) :
  Meets (Builtin.«list.__gt__» ⟨[.ref l, .ref b], []⟩)
   (fun A R s => s.heap.get? l = some { cls := .type "list", dict := dd, data := .seq items n, slots := sl } /\ s.heap.get? b = some { cls := .type "list", dict := dd2, data := .seq items2 n2, slots := sl2 } /\
    (∀ j (h1 : j < items.size) (h2 : j < items2.size), (∀ k, k < j -> e k = true) -> EqAt A.in1 s items[j] items2[j] (e j)) /\ (∀ j (h1 : j < items.size) (h2 : j < items2.size), (∀ k, k < j -> e k = true) -> e j = false -> RcO .Gt A.in1 s items[j] items2[j] (r j)) /\
    R (.ok (.ret (.bool (ordE e r (decide (items.size > items2.size)) 0 (min items.size items2.size))))) s) := by
 intro prog w A R s h
 obtain ⟨hp, g, d, tk, os⟩ := s; obtain ⟨hl, hb, he, hr, h⟩ := h
 have f3 := AutoSeq1.sub_list_list
 wp_walk using wpAny_loadPart' hl, wpAny_loadPart' hb
 refine ⟨plainId_quiet plain_eq_loop _, codeAny_builtin entry_eq_loop ?_⟩
 rw [Around.under_plainId plain_eq_loop _]
 exact w_ l b items items2 n n2 dd dd2 sl sl2 e r _ 0 (by omega) prog w A R _ ⟨hl, hb, he, hr, fun q hq => absurd hq (Nat.not_lt_zero _), h⟩
end
def ordL (g : Bool) (eq od : D -> D -> Option Bool) : List D -> List D -> Option Bool
 | x :: xs, y :: ys => match eq x y with
  | some true => ordL g eq od xs ys
  | some false => od x y
  | none => none
 | xs, ys => some (if g then decide (xs.length < ys.length) else decide (ys.length < xs.length))
def ordN (g : Bool) : Nat -> D -> D -> Option Bool
 | 0, _, _ => none
 | n + 1, d, e => match d, e with
  | .int a, .int b => some (if g then decide (a < b) else decide (b < a))
  | .str a, .str b => some (if g then decide (a.cps.toList < b.cps.toList) else decide (b.cps.toList < a.cps.toList))
  | .tup xs, .tup ys => ordL g (eqN n) (ordN g n) xs ys
  | .lst xs, .lst ys => ordL g (eqN n) (ordN g n) xs ys
  | _, _ => none
theorem wW {g : Bool} {eq od : D -> D -> Option Bool} : ∀ {xs ys : List D} {b : Bool}, ordL g eq od xs ys = some b -> ∃ e r : Nat -> Bool,
  (∀ (j : Nat) x y, xs[j]? = some x -> ys[j]? = some y -> (∀ k, k < j -> e k = true) -> eq x y = some (e j)) /\ (∀ (j : Nat) x y, xs[j]? = some x -> ys[j]? = some y -> (∀ k, k < j -> e k = true) -> e j = false -> od x y = some (r j)) /\
  b = ordE e r (if g then decide (xs.length < ys.length) else decide (ys.length < xs.length)) 0 (min xs.length ys.length)
 | [], ys, b, h => by
  have h' : some (if g = true then decide (([] : List D).length < ys.length) else decide (ys.length < ([] : List D).length)) = some b := by cases ys <;> exact h
  cases h'
  exact ⟨fun _ => true, fun _ => true, fun j x y h => by simp at h, fun j x y h => by simp at h, by rw [List.length_nil, Nat.zero_min]; rfl⟩
 | x :: xs, [], b, h => by
  have h' : some (if g = true then decide ((x :: xs).length < ([] : List D).length) else decide (([] : List D).length < (x :: xs).length)) = some b := h
  cases h'
  exact ⟨fun _ => true, fun _ => true, fun j x y _ h => by simp at h, fun j x y _ h => by simp at h, by rw [List.length_nil, Nat.min_zero]; rfl⟩
 | x :: xs, y :: ys, b, h => by
  have h' : (match eq x y with | some true => ordL g eq od xs ys | some false => od x y | none => none) = some b := h
  have hm : min (x :: xs).length (y :: ys).length = min xs.length ys.length + 1 := by simp only [List.length_cons]; omega
  cases q : eq x y with
  | none => rw [q] at h'; cases h'
  | some c =>
   rw [q] at h'
   cases c with
   | true =>
    obtain ⟨e, r, h1, h2, h3⟩ := wW (show ordL g eq od xs ys = some b from h')
    have shift : ∀ (t : Bool) k i, ordE (fun j => match j with | 0 => true | j + 1 => e j) (fun j => match j with | 0 => true | j + 1 => r j) t (i + 1) k = ordE e r t i k := fun t k => by
     induction k with
     | zero => intro i; rfl
     | succ k ih => intro i; show (if e i = true then _ else _) = (if e i = true then _ else _); rw [ih (i + 1)]
    refine ⟨fun j => match j with | 0 => true | j + 1 => e j, fun j => match j with | 0 => true | j + 1 => r j, fun j u v hu hv hk => ?_, fun j u v hu hv hk hf => ?_, ?_⟩
    ·cases j with
     | zero => cases hu; cases hv; exact q
     | succ j => exact h1 j u v (by simpa using hu) (by simpa using hv) fun k hk' => hk (k + 1) (by omega)
    ·cases j with
     | zero => cases hf
     | succ j => exact h2 j u v (by simpa using hu) (by simpa using hv) (fun k hk' => hk (k + 1) (by omega)) hf
    ·rw [hm, h3]
     show _ = (if true = true then _ else _)
     rw [if_pos rfl, shift]
     simp only [List.length_cons, Nat.add_lt_add_iff_right]
   | false =>
    have h' : od x y = some b := h'
    refine ⟨fun _ => false, fun _ => b, fun j u v hu hv hk => ?_, fun j u v hu hv hk _ => ?_, ?_⟩
    ·cases j with
     | zero => cases hu; cases hv; exact q
     | succ j => exact absurd (hk 0 (by omega)) (by decide)
    ·cases j with
     | zero => cases hu; cases hv; exact h'
     | succ j => exact absurd (hk 0 (by omega)) (by decide)
    ·rw [hm]; rfl
def cop (g : Bool) : CmpOp := if g then .Lt else .Gt
section
variable {X : Cx} {pins : List (Addr × Obj)} {σ : L2.St} {H : Hp} {s : Shared} {c : Co}
open SeqAt
theorem xD (I : Inv X pins σ H s) (hs : Same c.h H) (g : Bool) : ∀ (n : Nat) (A : Around) (x y : V) (u v : Value) (d e : D) (b : Bool), A.units + n < cLine -> Rep X.K c x d -> Rep X.K c y e -> RelV x u -> RelV y v -> ordN g n d e = some b -> RcO (cop g) A s u v b
 | 0, _, _, _, _, _, _, _, _, _, _, _, _, _, h => by cases h
 | n + 1, A, x, y, u, v, d, e, b, hu, rx, ry, ru, rv, h => by
  have hu0 : A.units < cLine := by omega
  have items : ∀ {xs xs' : List V} {ds ds' : List D} {its its' : List Value} {e r : Nat -> Bool}, xs.length = ds.length -> xs'.length = ds'.length -> (∀ (i : Nat) x d, xs[i]? = some x -> ds[i]? = some d -> Rep X.K c x d) -> (∀ (i : Nat) x d, xs'[i]? = some x -> ds'[i]? = some d -> Rep X.K c x d) -> Vals xs its -> Vals xs' its' ->
    (∀ (j : Nat) x y, ds[j]? = some x -> ds'[j]? = some y -> (∀ k, k < j -> e k = true) -> eqN n x y = some (e j)) -> (∀ (j : Nat) x y, ds[j]? = some x -> ds'[j]? = some y -> (∀ k, k < j -> e k = true) -> e j = false -> ordN g n x y = some (r j)) ->
    (∀ j (h1 : j < its.toArray.size) (h2 : j < its'.toArray.size), (∀ k, k < j -> e k = true) -> EqAt A.in1 s its.toArray[j] its'.toArray[j] (e j)) /\ (∀ j (h1 : j < its.toArray.size) (h2 : j < its'.toArray.size), (∀ k, k < j -> e k = true) -> e j = false -> RcO (cop g) A.in1 s its.toArray[j] its'.toArray[j] (r j)) := by
   intro xs xs' ds ds' its its' e r l l' r1 r2 vr vr' k1 k2
   have w : ∀ j (h1 : j < its.toArray.size) (h2 : j < its'.toArray.size), ∃ x1 x2 d1 d2, Rep X.K c x1 d1 /\ Rep X.K c x2 d2 /\ RelV x1 its.toArray[j] /\ RelV x2 its'.toArray[j] /\ ds[j]? = some d1 /\ ds'[j]? = some d2 := fun j h1 h2 => by
    obtain ⟨x1, g1, w1⟩ := zV vr (j := j) (u := its[j]) (List.getElem?_eq_getElem (by simpa using h1))
    obtain ⟨x2, g2, w2⟩ := zV vr' (j := j) (u := its'[j]) (List.getElem?_eq_getElem (by simpa using h2))
    have s1 : its.toArray.size = ds.length := by rw [List.size_toArray, <- vr.length, l]
    have s2 : its'.toArray.size = ds'.length := by rw [List.size_toArray, <- vr'.length, l']
    have d1 : j < ds.length := by omega
    have d2 : j < ds'.length := by omega
    exact ⟨x1, x2, ds[j], ds'[j], r1 j _ _ g1 (List.getElem?_eq_getElem d1), r2 j _ _ g2 (List.getElem?_eq_getElem d2), by simpa using w1, by simpa using w2, List.getElem?_eq_getElem d1, List.getElem?_eq_getElem d2⟩
   refine ⟨fun j h1 h2 hk => ?_, fun j h1 h2 hk hf => ?_⟩
   ·obtain ⟨x1, x2, d1, d2, a1, a2, a3, a4, a5, a6⟩ := w j h1 h2
    exact (kK I hs n A.in1 x1 x2 _ _ d1 d2 (e j) (by show A.units + 1 + n < _; omega) a1 a2 a3 a4 (k1 j _ _ a5 a6 hk)).2
   ·obtain ⟨x1, x2, d1, d2, a1, a2, a3, a4, a5, a6⟩ := w j h1 h2
    exact xD I hs g n A.in1 x1 x2 _ _ d1 d2 (r j) (by show A.units + 1 + n < _; omega) a1 a2 a3 a4 (k2 j _ _ a5 a6 hk hf)
  cases rx with
  | int a =>
   obtain ⟨t', rfl⟩ := ru
   cases ry with
   | int q =>
    obtain ⟨t, rfl⟩ := rv
    cases h
    intro prog w E Q hq
    cases g with
    | true => exact (PyProof.Rows.lt_int hq : wpAny (model prog w) A (compareOp .Lt (.int a t') (.int q t)) Q E s)
    | false => exact (PyProof.Rows.gt_int hq : wpAny (model prog w) A (compareOp .Gt (.int a t') (.int q t)) Q E s)
   | _ => cases h
  | str a =>
   obtain ⟨t', rfl⟩ := ru
   cases ry with
   | str q =>
    obtain ⟨t, rfl⟩ := rv
    cases h
    intro prog w E Q hq
    cases g with
    | true => exact (PyProof.Rows.lt_str hq : wpAny (model prog w) A (compareOp .Lt (.str a t') (.str q t)) Q E s)
    | false => exact (PySem.P.gt_str hq : wpAny (model prog w) A (compareOp .Gt (.str a t') (.str q t)) Q E s)
   | _ => cases h
  | @tup a xs ds ex l r =>
   cases ru
   cases ry with
   | @tup a' xs' ds' ex' l' r' =>
    cases rv
    obtain ⟨its, vr, p, _⟩ := I.tuple (tupT hs ex)
    obtain ⟨its', vr', p', _⟩ := I.tuple (tupT hs ex')
    obtain ⟨e, q, k1, k2, hb⟩ := wW (show ordL g (eqN n) (ordN g n) ds ds' = some b from h)
    obtain ⟨m1, m2⟩ := items l l' r r' vr vr' k1 k2
    have s1 : its.toArray.size = ds.length := by rw [List.size_toArray, <- vr.length, l]
    have s2 : its'.toArray.size = ds'.length := by rw [List.size_toArray, <- vr'.length, l']
    obtain ⟨⟨cls, dd, data, sl⟩, ho, hc, n1, hd⟩ := id p
    obtain ⟨⟨cls2, dd2, data2, sl2⟩, ho2, hc2, n2, hd2⟩ := id p'
    simp only at hc hd hc2 hd2
    subst hc hd hc2 hd2
    intro prog w E Q hq
    cases g with
    | true =>
     refine richCompare_meets_room (op := .Lt) ⟨_, ho, rfl⟩ ⟨_, ho2, rfl⟩ PySem.F.slot_tuple_lt PySem.F.entry_tuple_lt (PySem.F.args_tuple_lt_2 _ _) (VB a a' its.toArray its'.toArray n1 n2 dd dd2 sl sl2 e q) ⟨ho, ho2, m1, m2, (fun z => nomatch z), ?_⟩ hu0
     rw [s1, s2]; rw [hb] at hq; exact hq
    | false =>
     refine richCompare_meets_room (op := .Gt) ⟨_, ho, rfl⟩ ⟨_, ho2, rfl⟩ PySem.F.slot_tuple_gt PySem.F.entry_tuple_gt (PySem.F.args_tuple_gt_2 _ _) (VC a a' its.toArray its'.toArray n1 n2 dd dd2 sl sl2 e q) ⟨ho, ho2, m1, m2, (fun z => nomatch z), ?_⟩ hu0
     rw [s1, s2]; rw [hb] at hq; exact hq
   | _ => cases h
  | @lst a xs ds ex l r =>
   cases ru
   cases ry with
   | @lst a' xs' ds' ex' l' r' =>
    cases rv
    obtain ⟨its, vr, p, _⟩ := I.list (lstT hs ex)
    obtain ⟨its', vr', p', _⟩ := I.list (lstT hs ex')
    obtain ⟨e, q, k1, k2, hb⟩ := wW (show ordL g (eqN n) (ordN g n) ds ds' = some b from h)
    obtain ⟨m1, m2⟩ := items l l' r r' vr vr' k1 k2
    have s1 : its.toArray.size = ds.length := by rw [List.size_toArray, <- vr.length, l]
    have s2 : its'.toArray.size = ds'.length := by rw [List.size_toArray, <- vr'.length, l']
    obtain ⟨⟨cls, dd, data, sl⟩, n1, ho, hc, hdd, hd⟩ := id p
    obtain ⟨⟨cls2, dd2, data2, sl2⟩, n2, ho2, hc2, hdd2, hd2⟩ := id p'
    simp only at hc hd hc2 hd2
    subst hc hd hc2 hd2
    intro prog w E Q hq
    cases g with
    | true =>
     refine richCompare_meets_room (op := .Lt) ⟨_, ho, rfl⟩ ⟨_, ho2, rfl⟩ PySem.F.slot_list_lt PySem.F.entry_list_lt (PySem.F.args_list_lt_2 _ _) (Xj a a' its.toArray its'.toArray n1 n2 dd dd2 sl sl2 e q) ⟨ho, ho2, m1, m2, (fun z => nomatch z), ?_⟩ hu0
     rw [s1, s2]; rw [hb] at hq; exact hq
    | false =>
     refine richCompare_meets_room (op := .Gt) ⟨_, ho, rfl⟩ ⟨_, ho2, rfl⟩ PySem.F.slot_list_gt PySem.F.entry_list_gt (PySem.F.args_list_gt_2 _ _) (Xk a a' its.toArray its'.toArray n1 n2 dd dd2 sl sl2 e q) ⟨ho, ho2, m1, m2, (fun z => nomatch z), ?_⟩ hu0
     rw [s1, s2]; rw [hb] at hq; exact hq
   | _ => cases h
  | _ => cases e <;> cases h
end
inductive Ou (W : Wo) where
 | nx (g : SS W)
 | rt (d : D) (b : W.BS)
 | bk (g : SS W)
 | ct (g : SS W)
 | ex (x : Xn) (g : SS W)
 | bad
section
variable {W : Wo} {K : PySem.W.Frag} {X : Cx} {E : En} {O O' O1 O2 OL : List Nat} {g : SS W} {b : W.BS} {σ : L2.St} {H H' : Hp} {c c' : Co} {fp fp' : List Addr}
theorem SR.congr (S : SR W K E O g σ H c fp) (h : ∀ i, i ∈ O ↔ i ∈ O') : SR W K E O' g σ H c fp :=
 ⟨S.toSE, fun i d hi e => S.frz i d (fun z => hi ((h i).mp z)) e, fun i d hi e => S.own i d ((h i).mpr hi) e, fun i j d e a hi hj => S.dis i j d e a ((h i).mpr hi) ((h j).mpr hj), S.len⟩
theorem SR.freeze1 (S : SR W K E O g σ H c fp) (i : Nat) : ∃ c', Co.Le c c' /\ SR W K E (O.filter (· ≠ i)) g σ H c' fp := by
 have mem : ∀ j, j ∈ O.filter (· ≠ i) ↔ j ∈ O /\ j ≠ i := fun j => by simp [List.mem_filter]
 by_cases hi : i ∈ O
 ·by_cases hd : ∃ d, g.v[i]? = some (some d) /\ jH d = true
  ·obtain ⟨d, hg, hm⟩ := hd
   obtain ⟨x, hx, ow⟩ := S.own i d hi hg
   obtain ⟨a, u, rfl, ha, hu, hc, hf, he, r⟩ := v8 ow hm
   have le := Co.add_le (u := u) hc
   refine ⟨c.add a u, le, S.toSE.give ha hu hc hf he, fun j e hj hq => ?_, fun j e hj hq => ?_, fun j k d e b hj hk => S.dis j k d e b ((mem j).mp hj).1 ((mem k).mp hk).1, S.len⟩
   ·by_cases hji : j = i
    ·subst hji
     rw [hg] at hq
     cases hq
     exact ⟨_, hx, r _ le qv⟩
    ·obtain ⟨y, h1, h2⟩ := S.frz j e (fun z => hj ((mem j).mpr ⟨z, hji⟩)) hq
     exact ⟨y, h1, h2.mono le⟩
   ·obtain ⟨hjO, hji⟩ := (mem j).mp hj
    obtain ⟨y, h1, h2⟩ := S.own j e hjO hq
    refine ⟨y, h1, ?_⟩
    cases hme : jH e with
    | false =>
     have := (wV h2 hme).mono le
     cases e <;> first | exact this | cases hme
    | true =>
     have ne : ∀ z, y = .ref z -> z ≠ a := fun z ez q => by subst q; subst ez; exact S.dis j i e d z hjO hi hji hq hg hme hm h1 hx
     have out : ∀ z, y = .ref z -> c.h z = none -> (c.add a u).h z = none := fun z ez q => by
      show upd c.h a u z = none
      rw [qu (ne z ez)]
      exact q
     cases e with
     | lst ds => obtain ⟨z, xs, e1, e2, e3, e4, e5, e6⟩ := h2; exact ⟨z, xs, e1, out z e1 e2, e3, e4, e5, e6.mono le⟩
     | dic ds => obtain ⟨z, xs, e1, e2, e3, e4, e5, e6, e7, e8⟩ := h2; exact ⟨z, xs, e1, out z e1 e2, e3, e4, e5, e6, e7, e8.mono le⟩
     | dit ds => obtain ⟨z, xs, e1, e2, e3, e4, e5, e6, e7, e8⟩ := h2; exact ⟨z, xs, e1, out z e1 e2, e3, e4, e5, e6, e7, e8.mono le⟩
     | non => cases hme
     | bl _ => cases hme
     | int _ => cases hme
     | str _ => cases hme
     | tup _ => cases hme
     | obj _ => cases hme
     | scr _ => cases hme
  ·refine ⟨c, .refl _, S.toSE, fun j e hj hq => ?_, fun j e hj hq => S.own j e ((mem j).mp hj).1 hq, fun j k d e b hj hk => S.dis j k d e b ((mem j).mp hj).1 ((mem k).mp hk).1, S.len⟩
   by_cases hji : j = i
   ·subst hji
    obtain ⟨y, h1, h2⟩ := S.own j e hi hq
    cases hme : jH e with
    | false => exact ⟨y, h1, wV h2 hme⟩
    | true => exact absurd ⟨e, hq, hme⟩ hd
   ·exact S.frz j e (fun z => hj ((mem j).mpr ⟨z, hji⟩)) hq
 ·exact ⟨c, .refl _, S.congr fun j => by rw [mem]; exact ⟨fun h => ⟨h, fun z => hi (z ▸ h)⟩, fun h => h.1⟩⟩
theorem SR.freeze (S : SR W K E O g σ H c fp) (hs : ∀ i ∈ O', i ∈ O) : ∃ c', Co.Le c c' /\ SR W K E O' g σ H c' fp := by
 have go : ∀ (l P : List Nat) (c : Co), SR W K E P g σ H c fp -> (∀ i ∈ O', i ∈ P) -> (∀ i ∈ P, i ∈ l \/ i ∈ O') -> ∃ c', Co.Le c c' /\ SR W K E O' g σ H c' fp := by
  intro l
  induction l with
  | nil => intro P c S h1 h2; exact ⟨c, .refl _, S.congr fun i => ⟨fun h => (h2 i h).elim (fun z => nomatch z) id, h1 i⟩⟩
  | cons j l ih =>
   intro P c S h1 h2
   by_cases hj : j ∈ O'
   ·exact ih P c S h1 fun i hi => (h2 i hi).elim (fun z => by rcases List.mem_cons.mp z with rfl | z; exact .inr hj; exact .inl z) .inr
   ·obtain ⟨c1, l1, S1⟩ := S.freeze1 j
    obtain ⟨c2, l2, S2⟩ := ih _ c1 S1 (fun i hi => by simp only [List.mem_filter, ne_eq, decide_not, Bool.not_eq_eq_eq_not, Bool.not_true, decide_eq_false_iff_not]; exact ⟨h1 i hi, fun z => hj (z ▸ hi)⟩)
     (fun i hi => by
      simp only [List.mem_filter, ne_eq, decide_not, Bool.not_eq_eq_eq_not, Bool.not_true, decide_eq_false_iff_not] at hi
      rcases h2 i hi.1 with z | z
      ·rcases List.mem_cons.mp z with z | z
       ·exact absurd z hi.2
       ·exact .inl z
      ·exact .inr z)
    exact ⟨c2, l1.trans l2, S2⟩
 exact go O O c S hs fun i hi => .inl hi
def tSq (X : Cx) (E : En) (fr : Bool) (OL O' : List Nat) (D : Ends) (c : Co) (o : Ou W) : Prop := match o with
 | .nx g' => ∀ σ' H' c' fp', SR W X.K E O' g' σ' H' c' fp' -> Co.Le c c' -> D.nx σ' H'
 | .rt d b => ∀ v H' c' fp', SE W E b H' c' fp' -> (if fr = true then OwnV X.K E H' c' fp' v d else Rep X.K c' v d) -> D.rt v H'
 | .bk g' => ∀ σ' H' c' fp', SR W X.K E OL g' σ' H' c' fp' -> Co.Le c c' -> D.bk σ' H'
 | .ct g' => ∀ σ' H' c' fp', SR W X.K E OL g' σ' H' c' fp' -> Co.Le c c' -> D.ct σ' H'
 | .ex x g' => ∀ ev σ' s' H' c' fp', Inv X [] σ' H' s' -> SR W X.K E [] g' σ' H' c' fp' -> W.EX x ev s' H' c' -> X.xe ev s'
 | .bad => False
theorem tSq.mono {fr : Bool} {D : Ends} {o : Ou W} (l : Co.Le c c') (q : tSq X E fr OL O' D c o) : tSq X E fr OL O' D c' o := by
 cases o with
 | nx g' => exact fun σ' H' c2 fp' S' l' => q σ' H' c2 fp' S' (l.trans l')
 | rt d b => exact q
 | bk g' => exact fun σ' H' c2 fp' S' l' => q σ' H' c2 fp' S' (l.trans l')
 | ct g' => exact fun σ' H' c2 fp' S' l' => q σ' H' c2 fp' S' (l.trans l')
 | ex x g' => exact q
 | bad => exact q
def tSx (X : Cx) (E : En) (fr : Bool) (OL O : List Nat) (f : SS W -> Ou W) (O' : List Nat) (g : SS W) (c : Co) (fp : List Addr) : TS := fun D σ H => SR W X.K E O g σ H c fp /\ tSq X E fr OL O' D c (f g)
def tS (X : Cx) (E : En) (fr : Bool) (OL O : List Nat) (f : SS W -> Ou W) (O' : List Nat) : TS := fun D σ H => ∃ g c fp, tSx X E fr OL O f O' g c fp D σ H
def DS (W : Wo) (E : En) (fr : Bool) (OL : List Nat) (X : Cx) (O : List Nat) (st : Stmt) (f : SS W -> Ou W) (O' : List Nat) : Prop := PS X st (tS X E fr OL O f O')
def DSs (W : Wo) (E : En) (fr : Bool) (OL : List Nat) (X : Cx) (O : List Nat) (sts : List Stmt) (f : SS W -> Ou W) (O' : List Nat) : Prop := PSs X sts (tS X E fr OL O f O')
theorem zK {st : Stmt} {t t' : TS} (h : PS X st t) (w : ∀ D σ H, t' D σ H -> t D σ H) : PS X st t' := fun pins s σ H D I q => h pins s σ H D I (w D σ H q)
theorem jV {st : List Stmt} {t t' : TS} (h : PSs X st t) (w : ∀ D σ H, t' D σ H -> t D σ H) : PSs X st t' := fun pins s σ H D I q => h pins s σ H D I (w D σ H q)
variable {fr : Bool} {st : Stmt} {sts rest : List Stmt} {f h : SS W -> Ou W}
theorem tS.weak (hs : ∀ i ∈ O1, i ∈ O) (hp : ∀ i ∈ O2, i ∈ O') {D : Ends} (q : tS X E fr OL O f O2 D σ H) : tS X E fr OL O1 f O' D σ H := by
 obtain ⟨g, c, fp, S, q⟩ := q
 obtain ⟨c', le, S'⟩ := S.freeze hs
 refine ⟨g, c', fp, S', ?_⟩
 cases e : f g with
 | nx g' =>
  rw [e] at q
  intro σ2 H2 c2 fp2 S2 l2
  obtain ⟨c3, l3, S3⟩ := S2.freeze hp
  exact q _ _ _ _ S3 ((le.trans l2).trans l3)
 | rt d b => rw [e] at q; exact q
 | bk g' => rw [e] at q; exact q.mono le
 | ct g' => rw [e] at q; exact q.mono le
 | ex x g' => rw [e] at q; exact q
 | bad => rw [e] at q; exact q
theorem DS.weak (hh : DS W E fr OL X O1 st f O') (hs : ∀ i ∈ O1, i ∈ O := by decide) (hp : ∀ i ∈ O2, i ∈ O' := by decide) : DS W E fr OL X O st f O2 := zK hh fun D σ H q => q.weak hs hp
theorem DSs.weak (hh : DSs W E fr OL X O1 sts f O') (hs : ∀ i ∈ O1, i ∈ O := by decide) (hp : ∀ i ∈ O2, i ∈ O' := by decide) : DSs W E fr OL X O sts f O2 := jV hh fun D σ H q => q.weak hs hp
def sNil : SS W -> Ou W := fun g => .nx g
def sSeq (f h : SS W -> Ou W) : SS W -> Ou W := fun g => match f g with
 | .nx g' => h g'
 | .rt d b => .rt d b
 | .bk g' => .bk g'
 | .ct g' => .ct g'
 | .ex x g' => .ex x g'
 | .bad => .bad
theorem zB : DSs W E fr OL X O [] sNil O := jV wR fun D σ H ⟨g, c, fp, S, q⟩ => q σ H c fp S (.refl _)
theorem qA (h1 : DS W E fr OL X O st f O') : DSs W E fr OL X O [st] f O' := kI h1
theorem qm (h1 : DS W E fr OL X O st f O1) (h2 : DSs W E fr OL X O1 rest h O') : DSs W E fr OL X O (st :: rest) (sSeq f h) O' := jV (jt h1 h2) fun D σ H ⟨g, c, fp, S, q⟩ => by
 refine ⟨g, c, fp, S, ?_⟩
 unfold sSeq at q
 cases e : f g with
 | nx g' => rw [e] at q; exact fun σ' H' c' fp' S' l' => ⟨g', c', fp', S', q.mono l'⟩
 | rt d b => rw [e] at q; exact q
 | bk g' => rw [e] at q; exact q
 | ct g' => rw [e] at q; exact q
 | ex x g' => rw [e] at q; exact q
 | bad => rw [e] at q; exact q
def zx {α : Type} (f : SS W -> R W α) (k : α -> SS W -> Ou W) : SS W -> Ou W := fun g => match f g with
 | .ok a b => k a ⟨g.v, b⟩
 | .exc x b => .ex x ⟨g.v, b⟩
 | .bad => .bad
theorem tSx.bind {ν α : Type} {rel : Co -> ν -> α -> Prop} {m : Bool} {fa : SS W -> R W α} {k : α -> SS W -> Ou W} {D : Ends} {Q : ν -> Hp -> Prop} (q : tSx X E fr OL O (zx fa k) O' g c fp D σ H)
  (cont : ∀ d b v H1 c1 fp1, FR H c fp H1 c1 fp1 -> rel (cm m H1 c1 fp1) v d -> tSx X E fr OL O (k d) O' ⟨g.v, b⟩ c1 fp1 D σ H1 -> Q v H1) : tG X E rel m O fa g c fp σ H Q := by
 obtain ⟨S, q⟩ := q
 refine ⟨S, ?_⟩
 unfold zx at q
 cases e : fa g with
 | bad => rw [e] at q; exact q
 | exc x b =>
  rw [e] at q
  intro ev s' H' c' fp' I S' F' x'
  obtain ⟨c2, l2, S2⟩ := S'.freeze (O' := []) (fun i h => nomatch h)
  exact q ev σ s' H' c2 fp' I S2 (W.exS _ _ _ _ _ _ x' l2)
 | ok d b =>
  rw [e] at q
  exact fun v H1 c1 fp1 S1 F1 r1 => cont d b v H1 c1 fp1 F1 r1 ⟨S1, q.mono F1.le⟩
theorem tSx.bindO {fa : SS W -> R W D} {k : D -> SS W -> Ou W} {D : Ends} {Q : VK} (q : tSx X E fr OL O (zx fa k) O' g c fp D σ H)
  (cont : ∀ d b v H1 c1 fp1, FR H c fp H1 c1 fp1 -> OwnV X.K E H1 c1 fp1 v d -> NewV H v d -> tSx X E fr OL O (k d) O' ⟨g.v, b⟩ c1 fp1 D σ H1 -> Q v H1) : tO X E O fa g c fp σ H Q := by
 obtain ⟨S, q⟩ := q
 refine ⟨S, ?_⟩
 unfold zx at q
 cases e : fa g with
 | bad => rw [e] at q; exact q
 | exc x b =>
  rw [e] at q
  intro ev s' H' c' fp' I S' F' x'
  obtain ⟨c2, l2, S2⟩ := S'.freeze (O' := []) (fun i h => nomatch h)
  exact q ev σ s' H' c2 fp' I S2 (W.exS _ _ _ _ _ _ x' l2)
 | ok d b =>
  rw [e] at q
  exact fun v H1 c1 fp1 S1 F1 r1 nw => cont d b v H1 c1 fp1 F1 r1 nw ⟨S1, q.mono F1.le⟩
def put (g : SS W) (i : Nat) (d : D) : SS W := ⟨g.v.set i (some d), g.b⟩
theorem SR.set (S : SR W K E O g σ H c fp) {i : Nat} {d : D} {x : V} (r : Rep K c x d) : SR W K E (O.filter (· ≠ i)) (put g i d) (σ.set i (some x)) H c fp := by
 have mem : ∀ j, j ∈ O.filter (· ≠ i) ↔ j ∈ O /\ j ≠ i := fun j => by simp [List.mem_filter]
 have other : ∀ {j : Nat} {e : D}, j ≠ i -> (g.v.set i (some d))[j]? = some (some e) -> g.v[j]? = some (some e) := fun hj h => by rw [List.getElem?_set_ne (Ne.symm hj)] at h; exact h
 refine ⟨S.toSE, fun j e hj hq => ?_, fun j e hj hq => ?_, fun j k d1 e a hj hk hjk h1 h2 m1 m2 h3 h4 => ?_, by show (g.v.set i (some d)).length = _; rw [List.length_set, List.length_set]; exact S.len⟩
 ·by_cases hji : j = i
  ·subst hji
   have hq : (g.v.set j (some d))[j]? = some (some e) := hq
   have hl : j < g.v.length := by
    have := (List.getElem?_eq_some_iff.mp hq).1
    rw [List.length_set] at this
    exact this
   rw [List.getElem?_set_self hl] at hq
   cases hq
   exact ⟨x, List.getElem?_set_self (by rw [<- S.len]; exact hl), r⟩
  ·obtain ⟨y, h1, h2⟩ := S.frz j e (fun z => hj ((mem j).mpr ⟨z, hji⟩)) (other hji hq)
   exact ⟨y, by rw [List.getElem?_set_ne (Ne.symm hji)]; exact h1, h2⟩
 ·obtain ⟨hjO, hji⟩ := (mem j).mp hj
  obtain ⟨y, h1, h2⟩ := S.own j e hjO (other hji hq)
  exact ⟨y, by rw [List.getElem?_set_ne (Ne.symm hji)]; exact h1, h2⟩
 ·obtain ⟨hjO, hji⟩ := (mem j).mp hj
  obtain ⟨hkO, hki⟩ := (mem k).mp hk
  rw [List.getElem?_set_ne (Ne.symm hji)] at h3
  rw [List.getElem?_set_ne (Ne.symm hki)] at h4
  exact S.dis j k d1 e a hjO hkO hjk (other hji h1) (other hki h2) m1 m2 h3 h4
theorem wU {x : V} {d : D} (h : OwnV K E H c fp x d) (hm : jH d = true) {a : Addr} (e : x = .ref a) : H a ≠ none := by
 obtain ⟨a', u, e', ha, _⟩ := v8 h hm
 cases e.symm.trans e'
 rw [ha]
 simp
theorem SR.setO (S : SR W K E O g σ H c fp) {i : Nat} {d : D} {x : V} (o : OwnV K E H c fp x d) (nw : ∀ j e y, j ∈ O -> g.v[j]? = some (some e) -> jH e = true -> σ[j]? = some (some y) -> jH d = true -> y ≠ x) : SR W K E (i :: O) (put g i d) (σ.set i (some x)) H c fp := by
 have other : ∀ {j : Nat} {e : D}, j ≠ i -> (g.v.set i (some d))[j]? = some (some e) -> g.v[j]? = some (some e) := fun hj h => by rw [List.getElem?_set_ne (Ne.symm hj)] at h; exact h
 have self : ∀ {e : D}, (g.v.set i (some d))[i]? = some (some e) -> e = d /\ i < σ.length := fun hq => by
  have hl : i < g.v.length := by
   have := (List.getElem?_eq_some_iff.mp hq).1
   rw [List.length_set] at this
   exact this
  rw [List.getElem?_set_self hl] at hq
  cases hq
  exact ⟨rfl, by rw [<- S.len]; exact hl⟩
 refine ⟨S.toSE, fun j e hj hq => ?_, fun j e hj hq => ?_, fun j k d1 e a hj hk hjk h1 h2 m1 m2 h3 h4 => ?_, by show (g.v.set i (some d)).length = _; rw [List.length_set, List.length_set]; exact S.len⟩
 ·have hji : j ≠ i := fun z => hj (by rw [z]; exact List.mem_cons_self ..)
  obtain ⟨y, h1, h2⟩ := S.frz j e (fun z => hj (List.mem_cons_of_mem _ z)) (other hji hq)
  exact ⟨y, by rw [List.getElem?_set_ne (Ne.symm hji)]; exact h1, h2⟩
 ·by_cases hji : j = i
  ·subst hji
   obtain ⟨rfl, hl⟩ := self hq
   exact ⟨x, List.getElem?_set_self hl, o⟩
  ·obtain ⟨y, h1, h2⟩ := S.own j e ((List.mem_cons.mp hj).resolve_left hji) (other hji hq)
   exact ⟨y, by rw [List.getElem?_set_ne (Ne.symm hji)]; exact h1, h2⟩
 ·by_cases hji : j = i
  ·subst hji
   have hki : k ≠ j := Ne.symm hjk
   obtain ⟨rfl, hl⟩ := self h1
   rw [List.getElem?_set_self hl] at h3
   rw [List.getElem?_set_ne (Ne.symm hki)] at h4
   cases h3
   exact nw k e _ ((List.mem_cons.mp hk).resolve_left hki) (other hki h2) m2 h4 m1 rfl
  ·rw [List.getElem?_set_ne (Ne.symm hji)] at h3
   by_cases hki : k = i
   ·subst hki
    obtain ⟨rfl, hl⟩ := self h2
    rw [List.getElem?_set_self hl] at h4
    cases h4
    exact nw j d1 _ ((List.mem_cons.mp hj).resolve_left hji) (other hji h1) m1 h3 m2 rfl
   ·rw [List.getElem?_set_ne (Ne.symm hki)] at h4
    exact S.dis j k d1 e a ((List.mem_cons.mp hj).resolve_left hji) ((List.mem_cons.mp hk).resolve_left hki) hjk (other hji h1) (other hki h2) m1 m2 h3 h4
def sSet (i : Nat) (f : SS W -> R W D) : SS W -> Ou W := zx f fun d g => .nx (put g i d)
variable {e : Expr} {fe : SS W -> R W D} {pos pos' : Pos} {i : Nat} {x : Str}
theorem zc (hN : X.N.Nodup) (hi : X.N[i]? = some x) (hx : Loc X.env.scope x) (he : DE W E true X O e fe) (hs : swapsWith e (some (.Name x pos')) pos.line X.env = pure false := by rfl) (hf : X.fn x = true \/ X.env.scope.names.lookup x = some .local := by first | exact .inl rfl | exact .inr rfl | assumption) :
  DS W E fr OL X O (.Assign [.Name x pos'] e pos) (sSet i fe) (O.filter (· ≠ i)) := zK (yD hN hi hx he hs hf) fun D σ H ⟨g, c, fp, q⟩ => ⟨g, c, fp, q.bind fun d b v H1 c1 fp1 F1 r1 q1 => q1.2 _ _ c1 fp1 (q1.1.set r1) (.refl _)⟩
theorem kL (hN : X.N.Nodup) (hi : X.N[i]? = some x) (hx : Loc X.env.scope x) (he : DO W E X O e fe) (hs : swapsWith e (some (.Name x pos')) pos.line X.env = pure false := by rfl) (hf : X.fn x = true \/ X.env.scope.names.lookup x = some .local := by first | exact .inl rfl | exact .inr rfl | assumption) :
  DS W E fr OL X O (.Assign [.Name x pos'] e pos) (sSet i fe) (i :: O) := zK (yD hN hi hx he hs hf) fun D σ H ⟨g, c, fp, q⟩ => ⟨g, c, fp, q.bindO fun d b v H1 c1 fp1 F1 o1 nw q1 => q1.2 _ _ c1 fp1 (q1.1.setO o1 fun j e y hj hg hm hy hd => by
   rintro rfl
   obtain ⟨z, hz, ow⟩ := q.1.own j e hj hg
   cases hy.symm.trans hz
   obtain ⟨a, u, rfl, _⟩ := v8 o1 hd
   exact wU ow hm rfl (nw hd a rfl)) (.refl _)⟩
def sRet (f : SS W -> R W D) : SS W -> Ou W := zx f fun d g => .rt d g.b
theorem z5 (he : DE W E true X O e fe) : DS W E false OL X O (.Return (some e) pos) (sRet fe) O' := zK (yE he) fun D σ H ⟨g, c, fp, q⟩ => ⟨g, c, fp, q.bind fun d b v H1 c1 fp1 F1 r1 q1 => q1.2 v _ c1 fp1 q1.1.toSE r1⟩
theorem ZJ (h : PE X e (tVar i)) (hi : i ∈ O) : DS W E true OL X O (.Return (some e) pos) (sRet (eVar i)) O' := zK (yE h) fun D σ H ⟨g, c, fp, S, q⟩ => by
 unfold sRet zx eVar eOpt at q
 cases e : (g.v[i]?).join with
 | none => rw [e] at q; exact q.elim
 | some d =>
  rw [e] at q
  obtain ⟨x, h1, h2⟩ := S.own i d hi (join_some e)
  exact ⟨x, h1, q x H c fp S.toSE h2⟩
def vd : SS W -> Ou W := fun g => .rt .non g.b
def sIf (t : SS W -> R W Bool) (f h : SS W -> Ou W) : SS W -> Ou W := zx t fun b g => if b = true then f g else h g
theorem jw {t : SS W -> R W Bool} {e : Expr} {as bs : List Stmt} (ht : DT W E X O e t) (ha : DSs W E fr OL X O as f O') (hb : DSs W E fr OL X O bs h O') : DS W E fr OL X O (.If e as bs pos) (sIf t f h) O' := zK (KJ ht ha hb) fun D σ H ⟨g, c, fp, q⟩ => ⟨g, c, fp, q.bind fun d b v H1 c1 fp1 F1 r1 q1 => by
 have r1 : v = d := r1
 subst r1
 cases v with
 | true => exact ⟨_, c1, fp1, q1⟩
 | false => exact ⟨_, c1, fp1, q1⟩⟩
def ve (f : SS W -> R W D) : SS W -> Ou W := zx f fun _ g => .nx g
end
section
variable {W : Wo} {K : PySem.W.Frag} {X : Cx} {E : En} {O O' O1 O2 OL : List Nat} {g : SS W} {b : W.BS} {σ : L2.St} {H H' : Hp} {c c' : Co} {fp fp' : List Addr} {fr : Bool} {m m1 m2 : Bool} {pos : Pos} {e a : Expr} {es : List Expr}
variable {fa fb fe : SS W -> R W D} {ta tb : SS W -> R W Bool}
def asB : D -> Option Bool
 | .bl b => some b
 | _ => none
def qCmp (op : D -> D -> Option D) (fa fb : SS W -> R W D) : SS W -> R W Bool := qG (e2 op fa fb) fun d => eOpt (asB d)
theorem bind_assoc {α β γ : Type} (f : SS W -> R W α) (k : α -> SS W -> R W β) (h : β -> SS W -> R W γ) : qG (qG f k) h = qG f fun a => qG (k a) h := by
 funext g
 unfold qG
 cases f g <;> rfl
theorem zA {o : CmpOp} {r : R2} {op : D -> D -> Option D} {a b : Expr} (ho : OpR X (compareOp o) r) (hr : Op2 X r op) (ha : DE W E m1 X O a fa) (hb : DE W E m2 X O b fb) (hm : behindInMarks o b = false) : DT W E X O (.Compare a [o] [b] pos) (qCmp op fa fb) :=
 xz (QL ho ha hb hm) fun σ H Q ⟨g, c, fp, q⟩ => ⟨g, c, fp, by
  unfold qCmp e2 at q
  simp only [bind_assoc] at q
  refine q.bind fun d b v H1 c1 fp1 S1 F1 r1 h1 => ⟨_, c1, fp1, h1.bind fun d' b' v' H2 c2 fp2 S2 F2 r2 h2 => ?_⟩
  obtain ⟨S, h2⟩ := h2
  unfold qG at h2
  cases ez : op d d' with
  | none => rw [ez] at h2; exact h2.elim
  | some z =>
   rw [ez] at h2
   refine hr H2 ⟨Hn H2 fp2, c2.ob⟩ v v' d d' z _ Hn.same ((r1.mono F2.cm).mono S2.toSE.bor) (r2.mono S2.toSE.bor) ez fun u hu => ?_
   cases z with
   | bl k => cases hu; exact ⟨k, rfl, h2 k H2 c2 fp2 S2 .refl rfl⟩
   | _ => exact h2.elim⟩
def truD : D -> Option Bool
 | .non => some false
 | .bl b => some b
 | .int i => some (i != 0)
 | .str y => if y.length <= 1000000 then some (!(y.cps.toList.isEmpty)) else none
 | .lst ds => some (!ds.isEmpty)
 | .tup ds => some (!ds.isEmpty)
 | .dic ds => some (!ds.isEmpty)
 | _ => none
theorem xK {α β : Type} {xs : List α} {ys : List β} (h : xs.length = ys.length) : xs.isEmpty = ys.isEmpty := by
 cases xs <;> cases ys <;> simp at h ⊢
theorem Kw {x : V} {d : D} {k : Bool} (hs : Same c.h H) (r : Rep K c x d) (h : truD d = some k) : TruV K x H k := by
 cases r with
 | non => cases h; rfl
 | bl b => cases h; rfl
 | int i => cases h; rfl
 | str y =>
  obtain ⟨h1, h2⟩ := zC (show (if y.length <= 1000000 then some (!(y.cps.toList.isEmpty)) else none) = some k from h)
  refine ⟨Nat.le_trans h1 (by decide), ?_⟩
  rw [<- h2]
  have e : y.length = y.cps.toList.length := (Array.length_toList).symm
  rw [e]
  cases y.cps.toList with
  | nil => rfl
  | cons a l => simp; omega
 | tup e l r => cases h; exact .inr (.inl ⟨_, tupT hs e, by rw [xK l]⟩)
 | lst e l r => cases h; exact .inl ⟨_, lstT hs e, by rw [xK l]⟩
 | dic e l nd r =>
  have hl := congrArg List.length l
  rw [List.length_map, List.length_map] at hl
  cases h
  exact .inr (.inr ⟨_, hs _ _ e, by rw [xK hl]⟩)
 | dit e l nd r => cases h
 | obj e => cases h
 | scr e => cases h
def qTru (f : SS W -> R W D) : SS W -> R W Bool := qG f fun d => eOpt (truD d)
theorem yR (h : DE W E m X O e fe) (he : ∀ whole, isTrue e X.env whole = (do let v <- whole; standAt e.pos; holding [v] (truthy v)) := by intro _; rfl) : DT W E X O e (qTru fe) := xz (Ja h he) fun σ H Q ⟨g, c, fp, q⟩ => ⟨g, c, fp, q.bind fun d b v H1 c1 fp1 S1 F1 r1 h1 => by
 obtain ⟨k, ek, hq⟩ := h1.opt
 exact ⟨k, Kw S1.toSE.all r1 ek, hq k H1 c1 fp1 S1 .refl rfl⟩⟩
def qNot (t : SS W -> R W Bool) : SS W -> R W Bool := qG t fun b => eRet (!b)
theorem XA (h : DT W E X O e ta) : DT W E X O (.UnaryOp .Not e pos) (qNot ta) := xz (J7 h) fun σ H Q ⟨g, c, fp, q⟩ => ⟨g, c, fp, q.bind fun d b v H1 c1 fp1 S1 F1 r1 h1 => by
 have r1 : v = d := r1
 subst r1
 exact h1.ret _ H1 c1 fp1 S1 .refl rfl⟩
def qAnd (t u : SS W -> R W Bool) : SS W -> R W Bool := qG t fun b => if b = true then u else eRet false
def qOr (t u : SS W -> R W Bool) : SS W -> R W Bool := qG t fun b => if b = true then eRet true else u
theorem yh (h : DT W E X O a ta) : DW W E X O (.BoolOp .And [a] pos) ta := KD h
theorem ZG {b : Expr} {rest : List Expr} (ha : DT W E X O a ta) (hb : DW W E X O (.BoolOp .And (b :: rest) pos) tb) : DW W E X O (.BoolOp .And (a :: b :: rest) pos) (qAnd ta tb) := KC (VX ha hb) fun σ H Q ⟨g, c, fp, q⟩ => ⟨g, c, fp, q.bind fun d b v H1 c1 fp1 S1 F1 r1 h1 => by
 have r1 : v = d := r1
 subst r1
 cases v with
 | true => exact ⟨_, c1, fp1, h1⟩
 | false => exact h1.ret _ H1 c1 fp1 S1 .refl rfl⟩
theorem DW.dt (h : DW W E X O e ta) : DT W E X O e ta := PW.pt h
def eAnd (fa fb : SS W -> R W D) : SS W -> R W D := qG fa fun d => match d with
 | .bl true => fb
 | .bl false => eRet (.bl false)
 | _ => fun _ => .bad
def eOr (fa fb : SS W -> R W D) : SS W -> R W D := qG fa fun d => match d with
 | .bl true => eRet (.bl true)
 | .bl false => fb
 | _ => fun _ => .bad
def eNot (fa : SS W -> R W D) : SS W -> R W D := qG fa fun d => eOpt (match d with | .bl b => some (.bl (!b)) | _ => none)
theorem XB {op} (h : DE W E m X O a fa) : DE W E m X O (.BoolOp op [a] pos) fa := Ka h
theorem VR {x : V} {k : Bool} (r : Rep K c x (.bl k)) : x = .bl k := by cases r; rfl
theorem XC {b : Expr} {rest : List Expr} (ha : DE W E m1 X O a fa) (hb : DE W E true X O (.BoolOp .And (b :: rest) pos) fb) : DE W E true X O (.BoolOp .And (a :: b :: rest) pos) (eAnd fa fb) := zg (Kc ha hb) fun σ H Q ⟨g, c, fp, q⟩ => ⟨g, c, fp, q.bind fun d b v H1 c1 fp1 S1 F1 r1 h1 => by
 cases d with
 | bl k =>
  cases VR r1
  cases k with
  | true => exact ⟨true, rfl, ⟨_, c1, fp1, h1⟩⟩
  | false => exact ⟨false, rfl, h1.ret _ H1 c1 fp1 S1 .refl (.bl false)⟩
 | _ => exact h1.2.elim⟩
def eIf (t : SS W -> R W Bool) (fa fb : SS W -> R W D) : SS W -> R W D := qG t fun b => if b = true then fa else fb
def addI : D -> D -> Option D | .int i, .int j => some (.int (i + j)) | _, _ => none
def subI : D -> D -> Option D | .int i, .int j => some (.int (i - j)) | _, _ => none
def mulI : D -> D -> Option D | .int i, .int j => if (-(2 ^ 64) < i /\ i < 2 ^ 64) \/ (-(2 ^ 64) < j /\ j < 2 ^ 64) then some (.int (i * j)) else none | _, _ => none
def vJ : D -> D -> Option D | .int i, .int j => if 0 < j /\ j < 1073741824 then some (.int (i / j)) else none | _, _ => none
def modI : D -> D -> Option D | .int i, .int j => if 0 < j then some (.int (i % j)) else none | _, _ => none
def powI : D -> D -> Option D | .int i, .int j => if 0 <= j /\ j <= 1000000 /\ i.natAbs < 2 ^ 64 then some (.int (i ^ j.toNat)) else none | _, _ => none
def ltI : D -> D -> Option D | .int i, .int j => some (.bl (decide (i < j))) | _, _ => none
def gtI : D -> D -> Option D | .int i, .int j => some (.bl (decide (j < i))) | _, _ => none
def geI : D -> D -> Option D | .int i, .int j => some (.bl (decide (j <= i))) | _, _ => none
theorem kH {x : V} {i : Int} (r : Rep K c x (.int i)) : x = .int i := by cases r; rfl
theorem xy {x : V} {i : Str} (r : Rep K c x (.str i)) : x = .str i := by cases r; rfl
theorem int2 {op : D -> D -> Option D} (h : ∀ x y z, op x y = some z -> ∃ i j, x = .int i /\ y = .int j) {dx dy d : D} {x y : V} (rx : Rep K c x dx) (ry : Rep K c y dy) (e : op dx dy = some d) : ∃ i j, x = .int i /\ y = .int j /\ dx = .int i /\ dy = .int j := by
 obtain ⟨i, j, rfl, rfl⟩ := h _ _ _ e
 exact ⟨i, j, kH rx, kH ry, rfl, rfl⟩
theorem Qf : Op2 X (rI0 fun i j => .int (i - j)) subI := fun H c x y dx dy d Q hs rx ry e k => by
 obtain ⟨i, j, rfl, rfl, rfl, rfl⟩ := int2 (op := subI) (fun x y z h => by cases x <;> cases y <;> cases h; exact ⟨_, _, rfl, rfl⟩) rx ry e
 cases e; exact ⟨i, j, rfl, rfl, k _ rfl⟩
theorem o_lt : Op2 X (rI0 fun i j => .bl (decide (i < j))) ltI := fun H c x y dx dy d Q hs rx ry e k => by
 obtain ⟨i, j, rfl, rfl, rfl, rfl⟩ := int2 (op := ltI) (fun x y z h => by cases x <;> cases y <;> cases h; exact ⟨_, _, rfl, rfl⟩) rx ry e
 cases e; exact ⟨i, j, rfl, rfl, k _ rfl⟩
theorem o_gt : Op2 X (rI0 fun i j => .bl (decide (j < i))) gtI := fun H c x y dx dy d Q hs rx ry e k => by
 obtain ⟨i, j, rfl, rfl, rfl, rfl⟩ := int2 (op := gtI) (fun x y z h => by cases x <;> cases y <;> cases h; exact ⟨_, _, rfl, rfl⟩) rx ry e
 cases e; exact ⟨i, j, rfl, rfl, k _ rfl⟩
theorem o_ge : Op2 X (rI0 fun i j => .bl (decide (j <= i))) geI := fun H c x y dx dy d Q hs rx ry e k => by
 obtain ⟨i, j, rfl, rfl, rfl, rfl⟩ := int2 (op := geI) (fun x y z h => by cases x <;> cases y <;> cases h; exact ⟨_, _, rfl, rfl⟩) rx ry e
 cases e; exact ⟨i, j, rfl, rfl, k _ rfl⟩
theorem xp {op : D -> D -> Option D} (h : ∀ x y, (∃ i j, x = .int i /\ y = .int j) \/ op x y = none) : ∀ x y z, op x y = some z -> ∃ i j, x = .int i /\ y = .int j := fun x y z e => by
 rcases h x y with q | q
 ·exact q
 ·rw [q] at e; cases e
theorem vU : Op2 X (rI CMul fun i j => .int (i * j)) mulI := fun H c x y dx dy d Q hs rx ry e k => by
 obtain ⟨i, j, rfl, rfl, rfl, rfl⟩ := int2 (op := mulI) (xp fun x y => by cases x <;> cases y <;> first | exact .inr rfl | exact .inl ⟨_, _, rfl, rfl⟩) rx ry e
 obtain ⟨h, rfl⟩ := zC e; exact ⟨i, j, rfl, rfl, h, k _ rfl⟩
theorem Zg : Op2 X (rI CDiv fun i j => .int (i / j)) vJ := fun H c x y dx dy d Q hs rx ry e k => by
 obtain ⟨i, j, rfl, rfl, rfl, rfl⟩ := int2 (op := vJ) (xp fun x y => by cases x <;> cases y <;> first | exact .inr rfl | exact .inl ⟨_, _, rfl, rfl⟩) rx ry e
 obtain ⟨h, rfl⟩ := zC e; exact ⟨i, j, rfl, rfl, h, k _ rfl⟩
theorem zu : Op2 X (rI (fun _ j => 0 < j) fun i j => .int (i % j)) modI := fun H c x y dx dy d Q hs rx ry e k => by
 obtain ⟨i, j, rfl, rfl, rfl, rfl⟩ := int2 (op := modI) (xp fun x y => by cases x <;> cases y <;> first | exact .inr rfl | exact .inl ⟨_, _, rfl, rfl⟩) rx ry e
 obtain ⟨h, rfl⟩ := zC e; exact ⟨i, j, rfl, rfl, h, k _ rfl⟩
theorem Jp : Op2 X (rI CPow fun i j => .int (i ^ j.toNat)) powI := fun H c x y dx dy d Q hs rx ry e k => by
 obtain ⟨i, j, rfl, rfl, rfl, rfl⟩ := int2 (op := powI) (xp fun x y => by cases x <;> cases y <;> first | exact .inr rfl | exact .inl ⟨_, _, rfl, rfl⟩) rx ry e
 obtain ⟨h, rfl⟩ := zC e; exact ⟨i, j, rfl, rfl, h, k _ rfl⟩
def deep : Nat := 30
def rEqG (X : Cx) : R2 := fun x y H Q => ∃ c dx dy b, Same c.h H /\ Rep X.K c x dx /\ Rep X.K c y dy /\ eqN deep dx dy = some b /\ Q (.bl b) H
def rNeG (X : Cx) : R2 := fun x y H Q => ∃ c dx dy b, Same c.h H /\ Rep X.K c x dx /\ Rep X.K c y dy /\ eqN deep dx dy = some b /\ Q (.bl (!b)) H
theorem jG (hu : X.A.units + deep < cLine) : OpR X (compareOp .Eq) (rEqG X) := fun pins s σ H x y v u Q I rx ry ⟨c, dx, dy, b, hs, r1, r2, he, q⟩ =>
 (kK I hs deep X.A x y v u dx dy b hu r1 r2 rx ry he).1 X.prog X.w X.xe _ ⟨.bl b, H, I, rfl, q⟩
def eqD (d e : D) : Option D := (eqN deep d e).map .bl
def neD (d e : D) : Option D := (eqN deep d e).map fun b => .bl (!b)
theorem o_eq : Op2 X (rEqG X) eqD := fun H c x y dx dy d Q hs rx ry e k => by
 unfold eqD at e
 cases q : eqN deep dx dy with
 | none => rw [q] at e; cases e
 | some b => rw [q] at e; cases e; exact ⟨c, dx, dy, b, hs, rx, ry, q, k _ rfl⟩
open SeqAt in
theorem K4 {pins : List (Addr × Obj)} {s : Shared} (I : Inv X pins σ H s) (hs : Same c.h H) (n : Nat) (A : Around) (x y : V) (u v : Value) (d e : D) (b : Bool) (hu : A.units + n < cLine) (rx : Rep X.K c x d) (ry : Rep X.K c y e) (ru : RelV x u) (rv : RelV y v) (h : eqN n d e = some b) : RcNeAt A s u v (!b) := by
 cases n with
 | zero => cases h
 | succ n =>
  have hu0 : A.units < cLine := by omega
  have hl : ∀ {a : Addr} {xs : List V}, c.h a = some (.lst xs) -> ∃ its : List Value, Vals xs its /\ s.heap.IsList a its.toArray := fun h => by
   obtain ⟨its, r, p, _⟩ := I.list (lstT hs h)
   exact ⟨its, r, p.isList⟩
  have ht : ∀ {a : Addr} {xs : List V}, c.h a = some (.tup xs) -> ∃ its : List Value, Vals xs its /\ s.heap.IsTuple a its.toArray := fun h => by
   obtain ⟨its, r, p, _⟩ := I.tuple (tupT hs h)
   exact ⟨its, r, p⟩
  have items : ∀ {xs xs' : List V} {ds ds' : List D} {its its' : List Value} {e : Nat -> Bool}, xs.length = ds.length -> xs'.length = ds'.length -> (∀ (i : Nat) x d, xs[i]? = some x -> ds[i]? = some d -> Rep X.K c x d) -> (∀ (i : Nat) x d, xs'[i]? = some x -> ds'[i]? = some d -> Rep X.K c x d) -> Vals xs its -> Vals xs' its' ->
    (∀ (j : Nat) x y, ds[j]? = some x -> ds'[j]? = some y -> eqN n x y = some (e j)) -> ∀ j (h1 : j < its.toArray.size) (h2 : j < its'.toArray.size), EqAt A.in1 s its.toArray[j] its'.toArray[j] (e j) := by
   intro xs xs' ds ds' its its' e l l' r r' vr vr' k j h1 h2
   obtain ⟨x1, g1, w1⟩ := zV vr (j := j) (u := its[j]) (List.getElem?_eq_getElem (by simpa using h1))
   obtain ⟨x2, g2, w2⟩ := zV vr' (j := j) (u := its'[j]) (List.getElem?_eq_getElem (by simpa using h2))
   have s1 : its.toArray.size = ds.length := by rw [List.size_toArray, <- vr.length, l]
   have s2 : its'.toArray.size = ds'.length := by rw [List.size_toArray, <- vr'.length, l']
   have d1 : j < ds.length := by omega
   have d2 : j < ds'.length := by omega
   have := (kK I hs n A.in1 x1 x2 _ _ ds[j] ds'[j] (e j) (by show A.units + 1 + n < _; omega) (r j _ _ g1 (List.getElem?_eq_getElem d1)) (r' j _ _ g2 (List.getElem?_eq_getElem d2)) w1 w2 (k j _ _ (List.getElem?_eq_getElem d1) (List.getElem?_eq_getElem d2))).2
   simpa using this
  cases rx with
  | non =>
   cases ru
   cases ry with
   | non => cases rv; cases h; exact .none_none
   | bl q => cases rv; cases h; exact .none_bool q
   | int q => obtain ⟨t, rfl⟩ := rv; cases h; exact .none_int q t
   | str q => obtain ⟨t, rfl⟩ := rv; cases h; exact .none_str q t
   | tup e' l r => cases rv; cases h; obtain ⟨its, _, p⟩ := ht e'; exact .none_tuple p hu0
   | lst e' l r => cases rv; cases h; obtain ⟨its, _, p⟩ := hl e'; exact .none_list p hu0
   | dic => cases h
   | dit => cases h
   | obj => cases h
   | scr => cases h
  | bl a =>
   cases ru
   cases ry with
   | non => cases rv; cases h; exact .bool_none a
   | bl q => cases rv; cases h; exact .bool_bool a q
   | str q => obtain ⟨t, rfl⟩ := rv; cases h; exact .bool_str a q t
   | _ => cases h
  | int a =>
   obtain ⟨t', rfl⟩ := ru
   cases ry with
   | non => cases rv; cases h; exact .int_none a t'
   | bl q => cases h
   | int q => obtain ⟨t, rfl⟩ := rv; cases h; exact .int_int a t' q t
   | str q => obtain ⟨t, rfl⟩ := rv; cases h; exact .int_str a t' q t
   | tup e' l r => cases rv; cases h; obtain ⟨its, _, p⟩ := ht e'; exact .int_tuple a t' p hu0
   | lst e' l r => cases rv; cases h; obtain ⟨its, _, p⟩ := hl e'; exact .int_list a t' p hu0
   | dic => cases h
   | dit => cases h
   | obj => cases h
   | scr => cases h
  | str a =>
   obtain ⟨t', rfl⟩ := ru
   cases ry with
   | non => cases rv; cases h; exact .str_none a t'
   | bl q => cases rv; cases h; exact .str_bool a t' q
   | int q => obtain ⟨t, rfl⟩ := rv; cases h; exact .str_int a t' q t
   | str q => obtain ⟨t, rfl⟩ := rv; cases h; exact .str_str a t' q t
   | tup e' l r => cases rv; cases h; obtain ⟨its, _, p⟩ := ht e'; exact .str_tuple a t' p hu0
   | lst e' l r => cases rv; cases h; obtain ⟨its, _, p⟩ := hl e'; exact .str_list a t' p hu0
   | dic => cases h
   | dit => cases h
   | obj => cases h
   | scr => cases h
  | @tup a xs ds ex l r =>
   cases ru
   obtain ⟨its, vr, p⟩ := ht ex
   cases ry with
   | non => cases rv; cases h; exact .tuple_none p hu0
   | bl q => cases h
   | int q => obtain ⟨t, rfl⟩ := rv; cases h; exact .tuple_int q t p hu0
   | str q => obtain ⟨t, rfl⟩ := rv; cases h; exact .tuple_str q t p hu0
   | lst e' l r => cases rv; cases h; obtain ⟨its', _, p'⟩ := hl e'; exact .tuple_list p p' hu0
   | @tup a' xs' ds' ex' l' r' =>
    cases rv
    obtain ⟨its', vr', p'⟩ := ht ex'
    have h' : (if ds.length = ds'.length then allE (eqN n) ds ds' else none) = some b := h
    split at h'
    ·rename_i hlen
     obtain ⟨e, k, hb⟩ := kh h'
     have s1 : its.toArray.size = ds.length := by rw [List.size_toArray, <- vr.length, l]
     have s2 : its'.toArray.size = ds'.length := by rw [List.size_toArray, <- vr'.length, l']
     have q := RcNeAt.tuples (e := e) p p' hu0 (items l l' r r' vr vr' k)
     have hm : min its.toArray.size its'.toArray.size = ds.length := by rw [s1, s2, hlen, Nat.min_self]
     rw [hm, s1, s2, hlen, beq_self_eq_true, Bool.and_true] at q
     rw [hlen] at hb
     rw [<- hb] at q
     exact q
    ·cases h'
   | dic => cases h
   | dit => cases h
   | obj => cases h
   | scr => cases h
  | @lst a xs ds ex l r =>
   cases ru
   obtain ⟨its, vr, p⟩ := hl ex
   cases ry with
   | non => cases rv; cases h; exact .list_none p hu0
   | bl q => cases h
   | int q => obtain ⟨t, rfl⟩ := rv; cases h; exact .list_int q t p hu0
   | str q => obtain ⟨t, rfl⟩ := rv; cases h; exact .list_str q t p hu0
   | tup e' l r => cases rv; cases h; obtain ⟨its', _, p'⟩ := ht e'; exact .list_tuple p p' hu0
   | @lst a' xs' ds' ex' l' r' =>
    cases rv
    obtain ⟨its', vr', p'⟩ := hl ex'
    have s1 : its.toArray.size = ds.length := by rw [List.size_toArray, <- vr.length, l]
    have s2 : its'.toArray.size = ds'.length := by rw [List.size_toArray, <- vr'.length, l']
    have h' : (if ds.length = ds'.length then allE (eqN n) ds ds' else some false) = some b := h
    split at h'
    ·rename_i hlen
     obtain ⟨e, k, hb⟩ := kh h'
     have q := RcNeAt.lists (e := e) p p' (by rw [s1, s2, hlen]) hu0 (items l l' r r' vr vr' k)
     rw [s1, <- hb] at q
     exact q
    ·rename_i hlen
     cases h'
     exact RcNeAt.lists_lengths p p' (by rw [s1, s2]; simpa using hlen) hu0
   | dic => cases h
   | dit => cases h
   | obj => cases h
   | scr => cases h
  | dic => cases e <;> cases h
  | dit => cases e <;> cases h
  | obj => cases e <;> cases h
  | scr => cases e <;> cases h
theorem Xb (hu : X.A.units + deep < cLine) : OpR X (compareOp .NotEq) (rNeG X) := fun pins s σ H x y v u Q I rx ry ⟨c, dx, dy, b, hs, r1, r2, he, q⟩ =>
 K4 I hs deep X.A x y v u dx dy b hu r1 r2 rx ry he X.prog X.w X.xe _ ⟨.bl (!b), H, I, rfl, q⟩
theorem o_ne : Op2 X (rNeG X) neD := fun H c x y dx dy d Q hs rx ry e k => by
 unfold neD at e
 cases q : eqN deep dx dy with
 | none => rw [q] at e; cases e
 | some b => rw [q] at e; cases e; exact ⟨c, dx, dy, b, hs, rx, ry, q, k _ rfl⟩
def isND : D -> D -> Option D | d, .non => some (.bl (match d with | .non => true | _ => false)) | _, _ => none
def K3 : D -> D -> Option D | d, .non => some (.bl (match d with | .non => false | _ => true)) | _, _ => none
theorem X0 : Op2 X (fun x y H Q => y = .non /\ Q (.bl (decide (x = .non))) H) isND := fun H c x y dx dy d Q hs rx ry e k => by
 cases ry <;> first | cases e | skip
 refine ⟨rfl, ?_⟩
 cases rx <;> exact k _ rfl
theorem Xf : Op2 X (fun x y H Q => y = .non /\ Q (.bl (!decide (x = .non))) H) K3 := fun H c x y dx dy d Q hs rx ry e k => by
 cases ry <;> first | cases e | skip
 refine ⟨rfl, ?_⟩
 cases rx <;> exact k _ rfl
def z9 : D -> Option Key
 | .int i => some (.inl i)
 | .str x => some (.inr x)
 | _ => none
def zM : List D -> Option (List Key)
 | [] => some []
 | d :: ds => match z9 d, zM ds with | some k, some ks => some (k :: ks) | _, _ => none
def anyE (f : D -> Option Bool) : List D -> Option Bool
 | [] => some false
 | x :: xs => match f x, anyE f xs with
  | some b, some r => some (b || r)
  | _, _ => none
def qW {κ : Type} [DecidableEq κ] (kvs : List (κ × D)) (k : κ) : Option D := (kvs.find? fun p => decide (p.1 = k)).map (·.2)
def inD (x : D) : D -> Option Bool
 | .lst ds => anyE (fun d => eqN deep d x) ds
 | .tup ds => anyE (fun d => eqN deep d x) ds
 | .dic kvs => match z9 x with | some k => some (qW kvs k).isSome | none => none
 | .dit kvs => match x with | .tup ks => (match zM ks with | some k => some (qW kvs k).isSome | none => none) | _ => none
 | .str z => match x with | .str y => some (!(Builtin.Str.occurrences z y 0 z.length 1).isEmpty) | _ => none
 | _ => none
theorem ZY {f : D -> Option Bool} : ∀ {xs : List D} {b : Bool}, anyE f xs = some b -> (∀ x ∈ xs, ∃ v, f x = some v) /\ (b = true ↔ ∃ x ∈ xs, f x = some true)
 | [], b, h => by cases h; exact ⟨fun _ h => (nomatch h), by simp⟩
 | x :: xs, b, h => by
  unfold anyE at h
  cases e1 : f x with
  | none => rw [e1] at h; cases h
  | some b1 =>
   cases e2 : anyE f xs with
   | none => rw [e1, e2] at h; cases h
   | some r =>
    rw [e1, e2] at h
    cases h
    obtain ⟨k1, k2⟩ := ZY e2
    refine ⟨fun y hy => ?_, ?_⟩
    ·rcases List.mem_cons.mp hy with rfl | hy
     ·exact ⟨_, e1⟩
     ·exact k1 y hy
    ·rw [Bool.or_eq_true, k2]
     constructor
     ·rintro (rfl | ⟨y, hy, q⟩)
      ·exact ⟨x, List.mem_cons_self .., e1⟩
      ·exact ⟨y, List.mem_cons_of_mem _ hy, q⟩
     ·rintro ⟨y, hy, q⟩
      rcases List.mem_cons.mp hy with rfl | hy
      ·rw [e1] at q; cases q; exact .inl rfl
      ·exact .inr ⟨y, hy, q⟩
theorem wQ {x : V} {d : D} {k : Key} (r : Rep K c x d) (h : z9 d = some k) : x = kV k := by
 cases r <;> cases h <;> rfl
theorem vx : ∀ {ds : List D} {xs : List V} {ks : List Key}, Reps K c xs ds -> zM ds = some ks -> xs = ks.map kV
 | [], xs, ks, r, h => by cases h; rw [r.unnil]; rfl
 | d :: ds, xs, ks, r, h => by
  obtain ⟨x, t, rfl, r1, r2⟩ := r.uncons
  unfold zM at h
  cases e1 : z9 d with
  | none => rw [e1] at h; cases h
  | some k =>
   cases e2 : zM ds with
   | none => rw [e1, e2] at h; cases h
   | some kk =>
    rw [e1, e2] at h
    cases h
    rw [wQ r1 e1, vx r2 e2]
    rfl
theorem yP {κ : Type} [DecidableEq κ] {ys : List (κ × V)} {kvs : List (κ × D)} {k : κ} (l : ys.map (·.1) = kvs.map (·.1)) (r : ∀ (i : Nat) p q, ys[i]? = some p -> kvs[i]? = some q -> Rep K c p.2 q.2) : (qW kvs k = none /\ valV ys k = none) \/ ∃ d v, qW kvs k = some d /\ valV ys k = some v /\ Rep K c v d := by
 induction ys generalizing kvs with
 | nil =>
  cases kvs with
  | nil => exact .inl ⟨rfl, rfl⟩
  | cons q kvs => cases l
 | cons p ys ih =>
  cases kvs with
  | nil => cases l
  | cons q kvs =>
   simp only [List.map_cons, List.cons.injEq] at l
   obtain ⟨hk, l⟩ := l
   unfold qW valV
   rw [List.find?_cons, List.find?_cons]
   by_cases e : q.1 = k
   ·have e' : p.1 = k := hk.trans e
    simp only [e, e', decide_true]
    exact .inr ⟨q.2, p.2, rfl, rfl, r 0 p q rfl rfl⟩
   ·have e' : ¬ p.1 = k := fun z => e (hk.symm.trans z)
    simp only [e, e', decide_false]
    exact ih l fun i p' q' h1 h2 => r (i + 1) p' q' (by simpa using h1) (by simpa using h2)
theorem kM {a : Addr} {x : V} {d dk : D} {o : Option D} (hs : Same c.h H) (rd : Rep K c (.ref a) d) {c2 : Co} (hs2 : Same c2.h H) (rx : Rep K c2 x dk) (h : (∃ kvs k, d = .dic kvs /\ z9 dk = some k /\ o = qW kvs k) \/ (∃ kvs ks k, d = .dit kvs /\ dk = .tup ks /\ zM ks = some k /\ o = qW kvs k)) :
  (o = none /\ DGet H a x none) \/ ∃ dv v, o = some dv /\ DGet H a x (some v) /\ Rep K c v dv := by
 rcases h with ⟨kvs, k, rfl, hk, ho⟩ | ⟨kvs, ks, k, rfl, rfl, hk, ho⟩
 ·cases rd with
  | dic e l nd r =>
   have ex := wQ rx hk
   have g := DGet.k (k := k) (hs _ _ e)
   rw [<- ex] at g
   rcases yP (k := k) l r with ⟨h1, h2⟩ | ⟨dv, v, h1, h2, h3⟩
   ·rw [h2] at g; exact .inl ⟨ho.trans h1, g⟩
   ·rw [h2] at g; exact .inr ⟨dv, v, ho.trans h1, g, h3⟩
 ·cases rd with
  | dit e l nd r =>
   cases rx with
   | tup e2 l2 r2 =>
    have ex := vx ⟨l2, r2⟩ hk
    subst ex
    have g := DGet.t (k := k) (hs _ _ e) (hs2 _ _ e2)
    rcases yP (k := k) l r with ⟨h1, h2⟩ | ⟨dv, v, h1, h2, h3⟩
    ·rw [h2] at g; exact .inl ⟨ho.trans h1, g⟩
    ·rw [h2] at g; exact .inr ⟨dv, v, ho.trans h1, g, h3⟩
def rInG (X : Cx) (neg : Bool) : R2 := fun x y H Q => ∃ c dx dy b, Same c.h H /\ Rep X.K c x dx /\ Rep X.K c y dy /\ inD dx dy = some b /\ Q (.bl (if neg then !b else b)) H
open SeqAt in
open Classical in
theorem km {pins : List (Addr × Obj)} {s : Shared} {A : Around} (I : Inv X pins σ H s) (hs : Same c.h H) (hu : A.units + deep < cLine) {x : V} {v : Value} {dx : D} {xs : List V} {ds : List D} {its : List Value} {b : Bool} (rx : Rep X.K c x dx) (rv : RelV x v) (rs : Reps X.K c xs ds) (vr : Vals xs its) (h : anyE (fun d => eqN deep d dx) ds = some b) :
  ∃ e : Value -> Bool, (∀ y, y ∈ its.toArray -> EqAt A s y v (e y)) /\ its.toArray.any e = b := by
 obtain ⟨k1, k2⟩ := ZY h
 have at' : ∀ j u, its[j]? = some u -> ∃ y d, ds[j]? = some d /\ Rep X.K c y d /\ RelV y u := fun j u hj => by
  obtain ⟨y, h1, h2⟩ := zV vr hj
  obtain ⟨d, h3, h4⟩ := rs.atV h1
  exact ⟨y, d, h3, h4, h2⟩
 have eqv : ∀ {y : V} {u : Value} {d : D} {q : Bool}, Rep X.K c y d -> RelV y u -> eqN deep d dx = some q -> EqAt A s u v q := fun r1 r2 q => (kK I hs deep A _ x _ v _ dx _ hu r1 rx r2 rv q).2
 refine ⟨fun u => decide (∃ (j : Nat) (d : D) (y : V), its[j]? = some u /\ ds[j]? = some d /\ Rep X.K c y d /\ RelV y u /\ eqN deep d dx = some true), fun u hu' => ?_, ?_⟩
 ·have hu' : u ∈ its := by simpa using hu'
  obtain ⟨j, hj⟩ := List.mem_iff_getElem?.mp hu'
  obtain ⟨y, d, h1, h2, h3⟩ := at' j u hj
  by_cases q : ∃ (j : Nat) (d : D) (y : V), its[j]? = some u /\ ds[j]? = some d /\ Rep X.K c y d /\ RelV y u /\ eqN deep d dx = some true
  ·show EqAt A s u v (decide _)
   rw [decide_eq_true q]
   obtain ⟨_, d', y', _, _, z1, z2, z3⟩ := q
   exact eqv z1 z2 z3
  ·show EqAt A s u v (decide _)
   rw [decide_eq_false q]
   obtain ⟨w, hw⟩ := k1 d (List.mem_of_getElem? h1)
   cases w with
   | true => exact absurd ⟨j, d, y, hj, h1, h2, h3, hw⟩ q
   | false => exact eqv h2 h3 hw
 ·apply Bool.eq_iff_iff.mpr
  rw [k2, Array.any_eq_true']
  constructor
  ·rintro ⟨u, hu', hd⟩
   obtain ⟨j, d, y, z0, z1, z2, z3, z4⟩ := of_decide_eq_true hd
   exact ⟨d, List.mem_of_getElem? z1, z4⟩
  ·rintro ⟨d, hd, q⟩
   obtain ⟨j, hj⟩ := List.mem_iff_getElem?.mp hd
   obtain ⟨y, h1, h2⟩ := rs.at hj
   obtain ⟨u, h3, h4⟩ := vr.get h1
   exact ⟨u, by simpa using List.mem_of_getElem? h3, decide_eq_true ⟨j, d, y, h3, hj, h2, h4, q⟩⟩
theorem vI {A : Around} (hu : A.units + 40 < cLine) : A.in1.units + deep < cLine := by
 show A.units + 1 + 30 < _
 omega
theorem Q7 (hu : X.A.units + 40 < cLine) : OpR X (compareOp .In) (rInG X false) := by
 rintro pins s σ H x y v u Q I rx ry ⟨c, dx, dy, b, hs, r1, r2, he, q⟩
 have fin : EP X pins σ Q (.bool b) s := ⟨.bl b, H, I, rfl, q⟩
 cases r2 with
 | lst ex l r =>
  cases ry
  obtain ⟨its, vr, p, _⟩ := I.list (lstT hs ex)
  obtain ⟨e, h1, h2⟩ := km I hs (vI hu) r1 rx ⟨l, r⟩ vr he
  exact SeqAt.in_listAt e p.isList h1 (by rw [h2]; exact fin)
 | tup ex l r =>
  cases ry
  obtain ⟨its, vr, p, _⟩ := I.tuple (tupT hs ex)
  obtain ⟨e, h1, h2⟩ := km I hs (vI hu) r1 rx ⟨l, r⟩ vr he
  exact SeqAt.in_tupleAt e p h1 (by rw [h2]; exact fin)
 | @dic a ys kvs ex l nd r =>
  cases ry
  unfold inD at he
  cases hk : z9 dx with
  | none => rw [hk] at he; cases he
  | some k =>
   rw [hk] at he
   have he : some (qW kvs k).isSome = some b := he
   cases he
   rcases kM hs (.dic ex l nd r) hs r1 (.inl ⟨kvs, k, rfl, hk, rfl⟩) with ⟨h1, h2⟩ | ⟨dv, w, h1, h2, h3⟩
   ·refine d_in (by omega) I h2 rx fun s3 I3 => ⟨.bl false, H, I3, rfl, ?_⟩
    rw [h1] at q; exact q
   ·refine d_in (by omega) I h2 rx fun s3 I3 => ⟨.bl true, H, I3, rfl, ?_⟩
    rw [h1] at q; exact q
 | @dit a ys kvs ex l nd r =>
  cases ry
  cases dx with
  | tup ks =>
   have he : (match zM ks with | some k => some (qW kvs k).isSome | none => none) = some b := he
   cases hk : zM ks with
   | none => rw [hk] at he; cases he
   | some k =>
    rw [hk] at he
    have he : some (qW kvs k).isSome = some b := he
    cases he
    rcases kM hs (.dit ex l nd r) hs r1 (.inr ⟨kvs, ks, k, rfl, rfl, hk, rfl⟩) with ⟨h1, h2⟩ | ⟨dv, w, h1, h2, h3⟩
    ·refine d_in (by omega) I h2 rx fun s3 I3 => ⟨.bl false, H, I3, rfl, ?_⟩
     rw [h1] at q; exact q
    ·refine d_in (by omega) I h2 rx fun s3 I3 => ⟨.bl true, H, I3, rfl, ?_⟩
     rw [h1] at q; exact q
  | _ => cases he
 | str z =>
  obtain ⟨t, rfl⟩ := ry
  cases dx with
  | str y =>
   cases xy r1
   obtain ⟨t', rfl⟩ := rx
   cases he
   exact in_str fin
  | _ => cases he
 | _ => cases he
theorem wm (hu : X.A.units + 40 < cLine) : OpR X (compareOp .NotIn) (rInG X true) := by
 rintro pins s σ H x y v u Q I rx ry ⟨c, dx, dy, b, hs, r1, r2, he, q⟩
 have fin : EP X pins σ Q (.bool (!b)) s := ⟨.bl (!b), H, I, rfl, q⟩
 cases r2 with
 | lst ex l r =>
  cases ry
  obtain ⟨its, vr, p, _⟩ := I.list (lstT hs ex)
  obtain ⟨e, h1, h2⟩ := km I hs (vI hu) r1 rx ⟨l, r⟩ vr he
  exact SeqAt.notIn_listAt e p.isList h1 (by rw [h2]; exact fin)
 | tup ex l r =>
  cases ry
  obtain ⟨its, vr, p, _⟩ := I.tuple (tupT hs ex)
  obtain ⟨e, h1, h2⟩ := km I hs (vI hu) r1 rx ⟨l, r⟩ vr he
  exact SeqAt.notIn_tupleAt e p h1 (by rw [h2]; exact fin)
 | @dic a ys kvs ex l nd r =>
  cases ry
  unfold inD at he
  cases hk : z9 dx with
  | none => rw [hk] at he; cases he
  | some k =>
   rw [hk] at he
   have he : some (qW kvs k).isSome = some b := he
   cases he
   rcases kM hs (.dic ex l nd r) hs r1 (.inl ⟨kvs, k, rfl, hk, rfl⟩) with ⟨h1, h2⟩ | ⟨dv, w, h1, h2, h3⟩
   ·refine xM (by omega) I h2 rx fun s3 I3 => ⟨.bl true, H, I3, rfl, ?_⟩
    rw [h1] at q; exact q
   ·refine xM (by omega) I h2 rx fun s3 I3 => ⟨.bl false, H, I3, rfl, ?_⟩
    rw [h1] at q; exact q
 | @dit a ys kvs ex l nd r =>
  cases ry
  cases dx with
  | tup ks =>
   have he : (match zM ks with | some k => some (qW kvs k).isSome | none => none) = some b := he
   cases hk : zM ks with
   | none => rw [hk] at he; cases he
   | some k =>
    rw [hk] at he
    have he : some (qW kvs k).isSome = some b := he
    cases he
    rcases kM hs (.dit ex l nd r) hs r1 (.inr ⟨kvs, ks, k, rfl, rfl, hk, rfl⟩) with ⟨h1, h2⟩ | ⟨dv, w, h1, h2, h3⟩
    ·refine xM (by omega) I h2 rx fun s3 I3 => ⟨.bl true, H, I3, rfl, ?_⟩
     rw [h1] at q; exact q
    ·refine xM (by omega) I h2 rx fun s3 I3 => ⟨.bl false, H, I3, rfl, ?_⟩
     rw [h1] at q; exact q
  | _ => cases he
 | str z =>
  obtain ⟨t, rfl⟩ := ry
  cases dx with
  | str y =>
   cases xy r1
   obtain ⟨t', rfl⟩ := rx
   cases he
   exact notIn_str fin
  | _ => cases he
 | _ => cases he
def inO (x y : D) : Option D := (inD x y).map .bl
def ninO (x y : D) : Option D := (inD x y).map fun b => .bl (!b)
theorem o_in : Op2 X (rInG X false) inO := fun H c x y dx dy d Q hs rx ry e k => by
 unfold inO at e
 cases q : inD dx dy with
 | none => rw [q] at e; cases e
 | some b => rw [q] at e; cases e; exact ⟨c, dx, dy, b, hs, rx, ry, q, k _ rfl⟩
theorem Xg : Op2 X (rInG X true) ninO := fun H c x y dx dy d Q hs rx ry e k => by
 unfold ninO at e
 cases q : inD dx dy with
 | none => rw [q] at e; cases e
 | some b => rw [q] at e; cases e; exact ⟨c, dx, dy, b, hs, rx, ry, q, k _ rfl⟩
def ixD : D -> D -> Option D
 | .scr ds, .int i => atI ds i
 | .lst ds, .int i => atI ds i
 | .tup ds, .int i => atI ds i
 | .str z, .int i => if z.length <= 1000000 then (atI z.cps.toList i).map fun c => .str ⟨#[c]⟩ else none
 | .dic kvs, k => match z9 k with | some k => qW kvs k | none => none
 | .dit kvs, .tup ks => match zM ks with | some k => qW kvs k | none => none
 | _, _ => none
def rIxG (X : Cx) : R2 := fun x y H Q => rIx X.K x y H Q \/ ∃ a v, x = .ref a /\ DGet H a y (some v) /\ Q v H
theorem Va (hu : X.A.units + 1 < cLine) : IxR X (fun x y H Q => ∃ a v, x = .ref a /\ DGet H a y (some v) /\ Q v H) := by
 intro value slice pins s σ H x y v u Q I rx ry h hs
 obtain ⟨a, w, rfl, g, q⟩ := h
 cases rx
 exact tail_any (vL I g) PySem.F.slot_dict_getitem.lookup (wD hu I g ry fun w' s3 I3 rw' => ⟨w, H, I3, rw', q⟩) hs
theorem ixG (hu : X.A.units + 1 < cLine) : IxR X (rIxG X) := ix_seq.or (Va hu)
theorem xX {xs : List V} {ds : List D} {i : Int} {d : D} (r : Reps K c xs ds) (h : atI ds i = some d) : ∃ x, atI xs i = some x /\ Rep K c x d := by
 unfold atI at h ⊢
 rw [r.l]
 cases e : ixN ds.length i with
 | none => rw [e] at h; cases h
 | some j =>
  rw [e] at h
  obtain ⟨x, h1, h2⟩ := r.at (show ds[j]? = some d from h)
  exact ⟨x, h1, h2⟩
theorem Xt {x y : V} {dx dy d : D} {Q : VK} (hs : Same c.h H) (rx : Rep X.K c x dx) {c2 : Co} (hs2 : Same c2.h H) (ry : Rep X.K c2 y dy) (h : ixD dx dy = some d) (k : ∀ v, Rep X.K c v d -> Q v H) : rIxG X x y H Q := by
 cases rx with
 | lst ex l r =>
  cases ry <;> first | cases h | skip
  obtain ⟨v, h1, h2⟩ := xX ⟨l, r⟩ (show atI _ _ = some d from h)
  exact .inl (.inl ⟨_, _, _, v, rfl, rfl, lstT hs ex, h1, k v h2⟩)
 | scr ex l r =>
  cases ry <;> first | cases h | skip
  obtain ⟨v, h1, h2⟩ := xX ⟨l, r⟩ (show atI _ _ = some d from h)
  exact .inl (.inl ⟨_, _, _, v, rfl, rfl, xv hs ex, h1, k v h2⟩)
 | tup ex l r =>
  cases ry <;> first | cases h | skip
  obtain ⟨v, h1, h2⟩ := xX ⟨l, r⟩ (show atI _ _ = some d from h)
  exact .inl (.inr (.inl ⟨_, _, _, v, rfl, rfl, tupT hs ex, h1, k v h2⟩))
 | str z =>
  cases ry with
  | int i =>
   have h' : (if z.length <= 1000000 then (atI z.cps.toList i).map fun c => D.str ⟨#[c]⟩ else none) = some d := h
   split at h'
   ·rename_i hz
    cases e : atI z.cps.toList i with
    | none => rw [e] at h'; cases h'
    | some q =>
     rw [e] at h'
     cases h'
     exact .inl (.inr (.inr ⟨z, i, q, rfl, rfl, Nat.le_trans hz (by decide), e, k _ (.str _)⟩))
   ·cases h'
  | _ => cases h
 | @dic a ys kvs ex l nd r =>
  have h' : (match z9 dy with | some k => qW kvs k | none => none) = some d := h
  cases hk : z9 dy with
  | none => rw [hk] at h'; cases h'
  | some q =>
   rw [hk] at h'
   rcases kM hs (.dic ex l nd r) hs2 ry (.inl ⟨kvs, q, rfl, hk, rfl⟩) with ⟨h1, h2⟩ | ⟨dv, w, h1, h2, h3⟩
   ·rw [show qW kvs q = some d from h'] at h1; cases h1
   ·rw [show qW kvs q = some d from h'] at h1
    cases h1
    exact .inr ⟨a, w, rfl, h2, k w h3⟩
 | @dit a ys kvs ex l nd r =>
  cases dy with
  | tup ks =>
   have h' : (match zM ks with | some k => qW kvs k | none => none) = some d := h
   cases hk : zM ks with
   | none => rw [hk] at h'; cases h'
   | some q =>
    rw [hk] at h'
    rcases kM hs (.dit ex l nd r) hs2 ry (.inr ⟨kvs, ks, q, rfl, rfl, hk, rfl⟩) with ⟨h1, h2⟩ | ⟨dv, w, h1, h2, h3⟩
    ·rw [show qW kvs q = some d from h'] at h1; cases h1
    ·rw [show qW kvs q = some d from h'] at h1
     cases h1
     exact .inr ⟨a, w, rfl, h2, k w h3⟩
  | _ => cases h
 | _ => cases h
theorem qL {b : Expr} (hu : X.A.units + 1 < cLine) (ha : DE W E m X O a fa) (hb : DE W E m2 X O b fb) (hs : ZZ b := by intro _ _; rfl) : DE W E m X O (.Subscript a b pos) (e2 ixD fa fb) :=
 zg (XW (ixG hu) ha hb hs) fun σ H Q ⟨g, c, fp, q⟩ => ⟨g, c, fp, q.bind fun d b v H1 c1 fp1 S1 F1 r1 h1 => ⟨_, c1, fp1, h1.bind fun d' b' v' H2 c2 fp2 S2 F2 r2 h2 => by
  obtain ⟨z, ez, k⟩ := h2.opt
  exact Xt S2.toSE.all (r1.mono F2.cm) S2.toSE.all r2 ez fun u hu => k u H2 c2 fp2 S2 .refl hu⟩⟩
end
def spP (K : PySem.W.Frag) (T : Hp -> Prop) (n : Nat) (fr : Bool) (F : List D -> Option D) : Sp := fun vs H Q EX => vs.length = n /\ ∃ c ds, Same c.h (Hn H []) /\ T H /\ Reps K c vs ds /\ ∃ d, F ds = some d /\
 ∀ v H' c', FR H c [] H' c' [] -> Same c'.h (Hn H' []) -> T H' -> (if fr = true then OwnV K ⟨H, c, []⟩ H' c' [] v d else Rep K c' v d) -> Q v H'
def qY {W : Wo} (n : Nat) (ds : List D) (b : W.BS) : SS W := ⟨ds.map some ++ List.replicate (n - ds.length) none, b⟩
section
variable {W : Wo} {K : PySem.W.Frag} {X : Cx} {E : En} {O O' O1 O2 OL : List Nat} {g : SS W} {b : W.BS} {σ : L2.St} {H H' : Hp} {c c' : Co} {fp fp' : List Addr} {fr : Bool} {m m1 m2 : Bool} {pos : Pos} {e a : Expr} {es : List Expr}
variable {fa fb fe : SS W -> R W D} {fs : SS W -> R W (List D)} {ta tb : SS W -> R W Bool}
theorem xr {N : List Str} {vs : List V} {ds : List D} (S : SE W E b H c fp) (r : Reps K c vs ds) : SR W K E [] (qY N.length ds b) (L2.start N vs) H c fp := by
 refine ⟨S, fun i d _ h => ?_, fun i d hi => (nomatch hi), fun i j d e a hi => (nomatch hi), ?_⟩
 ·unfold qY at h
  have h : (ds.map some ++ List.replicate (N.length - ds.length) none)[i]? = some (some d) := h
  by_cases hi : i < ds.length
  ·rw [List.getElem?_append_left (by simpa using hi), List.getElem?_map] at h
   have hd : ds[i]? = some d := by
    cases q : ds[i]? with
    | none => rw [q] at h; cases h
    | some z => rw [q] at h; cases h; rfl
   obtain ⟨x, h1, h2⟩ := r.at hd
   refine ⟨x, ?_, h2⟩
   unfold L2.start
   rw [List.getElem?_append_left (by rw [List.length_map, r.l]; exact hi), List.getElem?_map, h1]
   rfl
  ·rw [List.getElem?_append_right (by simpa using hi), List.getElem?_replicate] at h
   split at h <;> cases h
 ·unfold qY L2.start
  rw [List.length_append, List.length_append, List.length_map, List.length_map, List.length_replicate, List.length_replicate, r.l]
def zr {T : Hp -> Prop} {hT} {B : Hp -> Co -> List Addr -> Prop} {hB} (n : Nat) (f : SS (W1 T hT B hB) -> Ou (W1 T hT B hB)) : List D -> Option D := fun ds => match f (qY n ds ()) with
 | .rt d _ => some d
 | .nx _ => some .non
 | _ => none
theorem vW {T : Hp -> Prop} {hT} {P : Program} {w : World} {mg : Str -> Option Value} {base : Heap} {x qual : Str} {st : Stmt} {f : Addr} {fd : FuncData} {N ps : List Str} {k n : Nat} {body : SS (W0 T hT) -> Ou (W0 T hT)} (F : Fun K x qual st f fd) (Sc : FnScope N ps (ql st)) (hn : n = ps.length)
  (h : ∀ (cdv : Value) (A : Around) (outer : List Env) (s : Shared) (H : Hp) (EX : XK) (E : En), Room k (A.deeper (envOfC qual (ql st) s.heap.objs.size f cdv)) -> DSs (W0 T hT) E fr [] (cxOf CX0 P w K mg base N qual (ql st) f cdv A outer s H EX).nox [] (qT st) body O') :
  FnOk P w K mg base CX0 (k + 1) f fd ps (spP K T n fr (zr N.length body)) := by
 refine F.ok Sc (fun vs H Q EX q => by rw [<- hn]; exact q.1) fun cdv A outer s H vs Q EX hr q => ?_
 obtain ⟨_, c, ds, co, tb, r, d, e, q⟩ := q
 refine ⟨_, h cdv A outer s H EX ⟨H, c, []⟩ hr, qY N.length ds (W := W0 T hT) (), c, [], xr ⟨co, rfl, tb, fun a ha => (nomatch ha), .refl⟩ r, ?_⟩
 unfold zr at e
 cases eb : body (qY N.length ds ()) with
 | rt d' b' =>
  rw [eb] at e
  cases e
  intro v H' c' fp' S' r'
  cases (show fp' = [] from S'.br)
  exact q v H' c' S'.fr0 S'.core S'.tab r'
 | nx g' =>
  rw [eb] at e
  cases e
  intro σ' H' c' fp' S' _
  cases (show fp' = [] from S'.br)
  exact q .non H' c' S'.fr0 S'.core S'.tab (by cases fr with | true => exact Rep.non (K := K) (c := c') | false => exact Rep.non (K := K) (c := c'))
 | ex x g' => rw [eb] at e; cases e
 | bk g' => rw [eb] at e; cases e
 | ct g' => rw [eb] at e; cases e
 | bad => rw [eb] at e; cases e
def qX (n : Nat) (F : List D -> Option D) (fs : SS W -> R W (List D)) : SS W -> R W D := qG fs fun ds => eOpt (if ds.length = n then F ds else none)
def atO (o : Option D) : Option D := o.bind fun d => (isAt d).bind fun _ => some d
def jA (n : Nat) (F : List D -> Option D) (fs : SS W -> R W (List D)) : SS W -> R W D := qG fs fun ds => eOpt (if ds.length = n then atO (F ds) else none)
theorem hn_nil {H : Hp} {fp : List Addr} : Same (Hn H fp) (Hn H []) := fun a u e => by
 obtain ⟨h1, _, h3⟩ := Hn.of e
 exact Hn.mk h1 (List.not_mem_nil) h3
theorem vZ (S : SE W E b H c fp) (f : FR H c [] H' c' []) (co : Same c'.h (Hn H' [])) (tab : W.tabs H') : SE W E b H' c' fp /\ FR H c fp H' c' fp := by
 have keep : ∀ a u, H a = some u -> isT u = false -> H' a = some u := fun a u e z => (Hn.of (f.nn _ _ (Hn.mk e (List.not_mem_nil) z))).1
 have fpo : ∀ a ∈ fp, c'.h a = none := fun a ha => by
  obtain ⟨u, e, z⟩ := S.fph a ha
  exact f.out a (by rw [Hn.mk e (List.not_mem_nil) z]; simp) (S.fpc a ha)
 have F : FR H c fp H' c' fp := ⟨f.le, fun a u e => by
  obtain ⟨h1, h2, h3⟩ := Hn.of e
  exact Hn.mk (keep a u h1 h3) h2 h3, fun a ha hc => f.out a (fun z => ha (hn_nil.free z)) hc, f.th⟩
 refine ⟨⟨fun a u e => ?_, W.brS _ _ _ _ _ _ S.br (fun a ha => ?_) f.le fpo, tab, fun a ha => ?_, S.fr0.trans F⟩, F⟩
 ·obtain ⟨h1, _, h3⟩ := Hn.of (co _ _ e)
  exact Hn.mk h1 (fun z => by rw [fpo a z] at e; cases e) h3
 ·obtain ⟨u, e, z⟩ := S.fph a ha
  rw [keep a u e z, e]
 ·obtain ⟨u, e, z⟩ := S.fph a ha
  exact ⟨u, keep a u e z, z⟩
theorem Jl (S : SE W E b H c fp) (hf : ∀ a, (∃ u, H' a = some u) -> H a = none -> a ∉ fp) {v : V} {d : D} (o : OwnV K ⟨H, c, []⟩ H' c' [] v d) : OwnV K E H' c' fp v d := by
 cases d with
 | lst ds => obtain ⟨a, xs, e1, e2, e3, e4, e5, e6⟩ := o; exact ⟨a, xs, e1, e2, hf a ⟨_, e5⟩ e4, S.fr0.th a e4, e5, e6⟩
 | dic ds => obtain ⟨a, xs, e1, e2, e3, e4, e5, e6⟩ := o; exact ⟨a, xs, e1, e2, hf a ⟨_, e5⟩ e4, S.fr0.th a e4, e5, e6⟩
 | dit ds => obtain ⟨a, xs, e1, e2, e3, e4, e5, e6⟩ := o; exact ⟨a, xs, e1, e2, hf a ⟨_, e5⟩ e4, S.fr0.th a e4, e5, e6⟩
 | non => exact o
 | bl _ => exact o
 | int _ => exact o
 | str _ => exact o
 | tup _ => exact o
 | obj _ => exact o
 | scr _ => exact o
theorem KS {v : V} {d : D} (o : OwnV K ⟨H, c, fp⟩ H' c' fp' v d) : NewV H v d := fun hm a ea => by
 cases d with
 | lst ds => obtain ⟨a', xs, e1, e2, e3, e4, e5⟩ := o; cases ea.symm.trans e1; exact e4
 | dic ds => obtain ⟨a', xs, e1, e2, e3, e4, e5⟩ := o; cases ea.symm.trans e1; exact e4
 | dit ds => obtain ⟨a', xs, e1, e2, e3, e4, e5⟩ := o; cases ea.symm.trans e1; exact e4
 | non => cases hm
 | bl _ => cases hm
 | int _ => cases hm
 | str _ => cases hm
 | tup _ => cases hm
 | obj _ => cases hm
 | scr _ => cases hm
variable {k n : Nat} {f : Addr} {fd : FuncData} {ps : List Str} {F : List D -> Option D} {x : Str} {p : Pos} {T : Hp -> Prop}
theorem Vr {Q : VK} {ds : List D} {vs : List V} (hT : W.tabs = T) (r1 : Reps X.K c vs ds) (h1 : tG X E (Rep X.K) true O (eOpt (if ds.length = n then F ds else none)) g c fp σ H Q) : spP X.K T n false F (vs ++ []) H Q E0 := by
 subst hT
 have S := h1.1
 obtain ⟨d, e, k⟩ := h1.opt
 rw [List.append_nil]
 split at e
 ·rename_i hl
  refine ⟨by rw [r1.l]; exact hl, c, ds, S.core.trans hn_nil, S.tab, r1, d, e, fun v H' c' f co tb r => ?_⟩
  obtain ⟨S', F'⟩ := vZ S.toSE f co tb
  exact k v H' c' fp (S.step F' S') F' r
 ·cases e
theorem JT {Q : VK} {ds : List D} {vs : List V} (hT : W.tabs = T) (r1 : Reps X.K c vs ds) (h1 : tO X E O (eOpt (if ds.length = n then F ds else none)) g c fp σ H Q) : spP X.K T n true F (vs ++ []) H Q E0 := by
 subst hT
 have S := h1.1
 obtain ⟨d, e, k⟩ := h1.opt
 rw [List.append_nil]
 split at e
 ·rename_i hl
  refine ⟨by rw [r1.l]; exact hl, c, ds, S.core.trans hn_nil, S.tab, r1, d, e, fun v H' c' f co tb r => ?_⟩
  obtain ⟨S', F'⟩ := vZ S.toSE f co tb
  exact k v H' c' fp (S.step F' S') F' (Jl S.toSE (fun a _ q => (S.toSE.free q).2) r) (KS r)
 ·cases e
section
variable (hr : Room k X.A) (hg : Gl X x) (hm : X.mg x = some (.ref f)) (hk : PySem.W.keepIn X.K (.ref f) = true) (hb : Binds X.K fd ps []) (hT : W.tabs = T := by rfl) (hd : (x == ("__debug__" : Str)) = false := by decide)
  (hs : starEach (e :: es) X.env = (false, eval e X.env) :: starEach es X.env := by rfl) (hplain : (backTo pos (starEach es X.env)).any (·.1) = false := by rfl)
include hr hg hm hk hb hT hd hs hplain
theorem z8 (G : FnOk X.prog X.w X.K X.mg X.base CX0 k f fd ps (spP X.K T n false F)) (ha : DA W E true X O (e :: es) fs) : DE W E true X O (.Call (.Name x p) (e :: es) [] pos) (qX n F fs) :=
 zg (j9 G hr hg hm hk hb .nil wT ha hd hs hplain) fun σ H Q ⟨g, c, fp, q⟩ => ⟨g, c, fp, q.bind fun ds b vs H1 c1 fp1 S1 F1 r1 h1 => Vr hT r1 h1⟩
theorem jd (G : FnOk X.prog X.w X.K X.mg X.base CX0 k f fd ps (spP X.K T n true F)) (ha : DA W E true X O (e :: es) fs) : DO W E X O (.Call (.Name x p) (e :: es) [] pos) (qX n F fs) :=
 zg (j9 G hr hg hm hk hb .nil wT ha hd hs hplain) fun σ H Q ⟨g, c, fp, q⟩ => ⟨g, c, fp, q.bind (rel := Reps X.K) fun ds b vs H1 c1 fp1 S1 F1 r1 h1 => JT hT r1 h1⟩
end
end
def Vd : HO -> Bool
 | .lst _ => true
 | .dK _ => true
 | .dT _ => true
 | _ => false
section
variable {W : Wo} {K : PySem.W.Frag} {X : Cx} {E : En} {O O' O1 O2 OL : List Nat} {g : SS W} {b : W.BS} {σ : L2.St} {H H' : Hp} {c c' : Co} {fp fp' : List Addr} {fr : Bool} {m m1 m2 : Bool} {pos : Pos} {e a : Expr} {es : List Expr}
variable {fa fb fe : SS W -> R W D} {fs : SS W -> R W (List D)} {ta tb : SS W -> R W Bool}
theorem SE.mut (S : SE W E b H c fp) {a : Addr} {u u' : HO} (ha : H a = some u) (hu : Vd u = true) (hc : c.h a = none) (hf : a ∉ fp) (he : Hn E.H E.fp a = none) : SE W E b (upd H a u') c fp := by
 have ne : ∀ z ∈ fp, z ≠ a := fun z hz q => hf (q ▸ hz)
 refine ⟨fun z w e => ?_, W.brS _ _ _ _ _ _ S.br (fun z hz => qu (ne z hz)) (.refl _) S.fpc, W.tabS _ _ S.tab fun z w e n1 n2 n3 => ?_, fun z hz => ?_, S.fr0.le, fun z w e => ?_, S.fr0.out, fun z e => ?_⟩
 ·obtain ⟨h1, h2, h3⟩ := Hn.of (S.core _ _ e)
  exact Hn.mk ((qu fun q => by subst q; rw [hc] at e; cases e).trans h1) h2 h3
 ·refine (qu fun q => ?_).trans e
  subst q
  rw [ha] at e
  cases e
  cases u <;> first | exact n1 _ rfl | exact n2 _ rfl | exact n3 _ rfl | cases hu
 ·obtain ⟨w, e, q⟩ := S.fph z hz
  exact ⟨w, (qu (ne z hz)).trans e, q⟩
 ·obtain ⟨h1, h2, h3⟩ := Hn.of (S.fr0.nn _ _ e)
  refine Hn.mk ((qu fun q => ?_).trans h1) h2 h3
  subst q
  rw [he] at e
  cases e
 ·apply S.fr0.th
  by_cases q : z = a
  ·subst q; rw [qv] at e; cases e
  ·rw [qu q] at e; exact e
theorem Q6 {x : V} {d : D} {a : Addr} {u : HO} (o : OwnV K E H c fp x d) (h : jH d = true -> x ≠ .ref a) : OwnV K E (upd H a u) c fp x d := by
 cases d with
 | lst ds => obtain ⟨z, xs, e1, e2, e3, e4, e5, e6⟩ := o; exact ⟨z, xs, e1, e2, e3, e4, (qu fun q => h rfl (by rw [e1, q])).trans e5, e6⟩
 | dic ds => obtain ⟨z, xs, e1, e2, e3, e4, e5, e6⟩ := o; exact ⟨z, xs, e1, e2, e3, e4, (qu fun q => h rfl (by rw [e1, q])).trans e5, e6⟩
 | dit ds => obtain ⟨z, xs, e1, e2, e3, e4, e5, e6⟩ := o; exact ⟨z, xs, e1, e2, e3, e4, (qu fun q => h rfl (by rw [e1, q])).trans e5, e6⟩
 | non => exact o
 | bl _ => exact o
 | int _ => exact o
 | str _ => exact o
 | tup _ => exact o
 | obj _ => exact o
 | scr _ => exact o
theorem SR.mutT (S : SR W K E O g σ H c fp) {a : Addr} {u u' : HO} (ha : H a = some u) (hu : Vd u = true) (hc : c.h a = none) (hf : a ∉ fp) (he : Hn E.H E.fp a = none) (hE : E.H a ≠ none) : SR W K E O g σ (upd H a u') c fp := by
 refine ⟨S.toSE.mut ha hu hc hf he, S.frz, fun j e hj hq => ?_, S.dis, S.len⟩
 obtain ⟨y, h1, h2⟩ := S.own j e hj hq
 refine ⟨y, h1, Q6 h2 fun q z => ?_⟩
 subst z
 cases e with
 | lst ds => obtain ⟨z, xs, e1, e2, e3, e4, e5, e6⟩ := h2; cases e1; exact hE e4
 | dic ds => obtain ⟨z, xs, e1, e2, e3, e4, e5, e6⟩ := h2; cases e1; exact hE e4
 | dit ds => obtain ⟨z, xs, e1, e2, e3, e4, e5, e6⟩ := h2; cases e1; exact hE e4
 | _ => cases q
theorem SR.mut (S : SR W K E O g σ H c fp) {i : Nat} {d d' : D} {a : Addr} {u u' : HO} (hi : i ∈ O) (hg : g.v[i]? = some (some d)) (hm : jH d = true) (hx : σ[i]? = some (some (.ref a))) (ha : H a = some u) (hu : Vd u = true) (hc : c.h a = none) (hf : a ∉ fp) (he : E.H a = none) (o : OwnV K E (upd H a u') c fp (.ref a) d') :
  SR W K E O (put g i d') σ (upd H a u') c fp := by
 have hl : i < g.v.length := (List.getElem?_eq_some_iff.mp hg).1
 have other : ∀ {j : Nat} {e : D}, j ≠ i -> (g.v.set i (some d'))[j]? = some (some e) -> g.v[j]? = some (some e) := fun hj h => by rw [List.getElem?_set_ne (Ne.symm hj)] at h; exact h
 have old : ∀ {j : Nat} {e : D}, (g.v.set i (some d'))[j]? = some (some e) -> jH e = true -> ∃ e', g.v[j]? = some (some e') /\ jH e' = true := fun {j e} h q => by
  by_cases hj : j = i
  ·subst hj; exact ⟨d, hg, hm⟩
  ·exact ⟨e, other hj h, q⟩
 refine ⟨S.toSE.mut ha hu hc hf (jI he), fun j e hj hq => ?_, fun j e hj hq => ?_, fun j k d1 e b hj hk hjk h1 h2 m1 m2 h3 h4 => ?_, by show (g.v.set i (some d')).length = _; rw [List.length_set]; exact S.len⟩
 ·have hji : j ≠ i := fun z => hj (z ▸ hi)
  exact S.frz j e hj (other hji hq)
 ·by_cases hji : j = i
  ·subst hji
   have hq : (g.v.set j (some d'))[j]? = some (some e) := hq
   rw [List.getElem?_set_self hl] at hq
   cases hq
   exact ⟨_, hx, o⟩
  ·obtain ⟨y, h1, h2⟩ := S.own j e hj (other hji hq)
   refine ⟨y, h1, Q6 h2 fun q z => ?_⟩
   subst z
   exact S.dis j i e d a hj hi hji (other hji hq) hg q hm h1 hx
 ·obtain ⟨e1, q1, q2⟩ := old h1 m1
  obtain ⟨e2, q3, q4⟩ := old h2 m2
  exact S.dis j k e1 e2 b hj hk hjk q1 q3 q2 q4 h3 h4
def jp (i : Nat) (k : D -> SS W -> Ou W) : SS W -> Ou W := fun g => match (g.v[i]?).join with
 | some d => k d g
 | none => .bad
theorem tSx.recv {fr : Bool} {i : Nat} {k : D -> SS W -> Ou W} {Dn : Ends} (q : tSx X E fr OL O (jp i k) O' g c fp Dn σ H) : ∃ d, g.v[i]? = some (some d) /\ tSx X E fr OL O (k d) O' g c fp Dn σ H := by
 obtain ⟨S, q⟩ := q
 unfold jp at q
 cases e : (g.v[i]?).join with
 | none => rw [e] at q; exact q.elim
 | some d => rw [e] at q; exact ⟨d, join_some e, S, q⟩
def big : Nat := 10000000
theorem xQ {n : Nat} (h : n < big) : n < sizeLine := Nat.lt_trans h (by decide)
def sPut (i : Nat) (o : Option D) : SS W -> Ou W := fun g => match o with
 | some d => .nx (put g i d)
 | none => .bad
theorem tSx.put {fr : Bool} {i : Nat} {o : Option D} {Dn : Ends} (q : tSx X E fr OL O (sPut i o) O' g c fp Dn σ H) : ∃ d, o = some d /\ ∀ σ' H' c' fp', SR W X.K E O' (put g i d) σ' H' c' fp' -> Co.Le c c' -> Dn.nx σ' H' := by
 cases o with
 | none => exact q.2.elim
 | some d => exact ⟨d, rfl, q.2⟩
def sApp (i : Nat) (f : SS W -> R W D) : SS W -> Ou W := jp i fun d => match d with
 | .lst ds => zx f fun y => sPut i (if ds.length < big then some (.lst (ds ++ [y])) else none)
 | _ => fun _ => .bad
theorem vK {i : Nat} {apos cpos : Pos} (hx : PE X a (tVar i)) (hi : i ∈ O) (he : DE W E true X O e fe)
  (hbase : attributeBase a "append" X.env (eval a X.env) = eval a X.env := by rfl)
  (hfew : ((backTo cpos (starEach [e] X.env)).all (fun x => !x.1) && (backToKw cpos (keywordEach [] X.env)).all (fun x => x.1.isSome) && decide ([e].length + ([] : List Keyword).length + (if ([] : List Keyword).isEmpty then 0 else 1) < 30)) = true := by rfl)
  (hline : (apos.endLine == cpos.line) = true := by rfl) (hs : starEach [e] X.env = (false, eval e X.env) :: starEach [] X.env := by rfl) (hplain : (backTo cpos (starEach [] X.env)).any (·.1) = false := by rfl)
  (hsw : swapsWith (.Call (.Attribute a "append" apos) [e] [] cpos) none pos.line X.env = pure false := by rfl) : DS W E fr OL X O (.Expr (.Call (.Attribute a "append" apos) [e] [] cpos) pos) (sApp i fe) O :=
 zK (KL (V9 PySem.F.plainAttrs_list PySem.F.slot_list_append PySem.F.type_list_append vD hx (zL he jF hs) hbase hfew hline hs hplain) hsw) fun Dn σ H ⟨g, c, fp, q⟩ => by
  obtain ⟨d, hg, q1⟩ := q.recv
  cases d with
  | lst ds =>
   obtain ⟨v, hv, o⟩ := q.1.own i _ hi hg
   obtain ⟨z, xs, rfl, hc, hf, he', hh, rs⟩ := id o
   refine ⟨_, hv, .inl ⟨rfl, _, SqL.of hh⟩, g, c, fp, q1.bind fun y b vy H1 c1 fp1 F1 r1 q2 => ?_⟩
   obtain ⟨d', ed, k⟩ := q2.put
   obtain ⟨hl, rfl⟩ := zC ed
   obtain ⟨z', xs', ez, hc', hf', he'', hh', rs'⟩ := o.step F1
   cases ez
   refine ⟨z, xs', vy, rfl, rfl, hh', by rw [rs'.l]; exact xQ hl, k σ _ c1 fp1 (q2.1.mut hi hg rfl hv hh' rfl hc' hf' he'' ⟨z, _, rfl, hc', hf', he'', qv, rs'.append (.cons r1 .nil)⟩) (.refl _)⟩
  | _ => exact q1.2.elim
def putD {κ : Type} [DecidableEq κ] (kvs : List (κ × D)) (k : κ) (v : D) : List (κ × D) := if (kvs.any fun kv => decide (kv.1 = k)) = true then kvs.map fun kv => if kv.1 = k then (kv.1, v) else kv else kvs ++ [(k, v)]
theorem QJ {κ : Type} [DecidableEq κ] {ys : List (κ × V)} {kvs : List (κ × D)} {k : κ} {v : V} {d : D} (l : ys.map (·.1) = kvs.map (·.1)) (r : Reps K c (ys.map (·.2)) (kvs.map (·.2))) (rv : Rep K c v d) : (putK ys k v).map (·.1) = (putD kvs k d).map (·.1) /\ Reps K c ((putK ys k v).map (·.2)) ((putD kvs k d).map (·.2)) := by
 have ea : (ys.any fun kv => decide (kv.1 = k)) = (kvs.any fun kv => decide (kv.1 = k)) := by
  have h1 : (ys.any fun kv => decide (kv.1 = k)) = (ys.map (·.1)).any fun z => decide (z = k) := by rw [List.any_map]; rfl
  have h2 : (kvs.any fun kv => decide (kv.1 = k)) = (kvs.map (·.1)).any fun z => decide (z = k) := by rw [List.any_map]; rfl
  rw [h1, h2, l]
 unfold putK putD
 rw [ea]
 split
 ·rename_i h0
  clear ea h0
  induction ys generalizing kvs with
  | nil => cases kvs with
   | nil => exact ⟨rfl, .nil⟩
   | cons q kvs => cases l
  | cons p ys ih => cases kvs with
   | nil => cases l
   | cons q kvs =>
    simp only [List.map_cons, List.cons.injEq] at l
    obtain ⟨hk, l⟩ := l
    obtain ⟨w, t, e, r1, r2⟩ := Reps.uncons (show Reps K c (p.2 :: ys.map (·.2)) (q.2 :: kvs.map (·.2)) from r)
    cases e
    obtain ⟨i1, i2⟩ := ih l r2
    by_cases hq : q.1 = k
    ·have hp : p.1 = k := hk.trans hq
     simp only [List.map_cons, if_pos hq, if_pos hp]
     exact ⟨by rw [hk, i1], .cons rv i2⟩
    ·have hp : ¬ p.1 = k := fun z => hq (hk.symm.trans z)
     simp only [List.map_cons, if_neg hq, if_neg hp]
     exact ⟨by rw [hk, i1], .cons r1 i2⟩
 ·rw [List.map_append, List.map_append, List.map_append, List.map_append, l]
  exact ⟨rfl, r.append (.cons rv .nil)⟩
theorem wn {κ : Type} [DecidableEq κ] {kvs : List (κ × D)} {k : κ} {d : D} (h : (kvs.map (·.1)).Nodup) : ((putD kvs k d).map (·.1)).Nodup := by
 unfold putD
 split
 ·rw [List.map_map]
  have : (Prod.fst ∘ fun kv : κ × D => if kv.1 = k then (kv.1, d) else kv) = Prod.fst := by
   funext p
   show (if p.1 = k then (p.1, d) else p).1 = p.1
   split <;> rfl
  rw [this]
  exact h
 ·rename_i q
  rw [List.map_append, List.nodup_append]
  refine ⟨h, by simp, fun z hz y hy => ?_⟩
  simp only [List.map_cons, List.map_nil, List.mem_singleton] at hy
  subst hy
  obtain ⟨p, hp, rfl⟩ := List.mem_map.mp hz
  exact fun w => q (List.any_eq_true.mpr ⟨p, hp, by simpa using w⟩)
def putO (d k v : D) : Option D := match d with
 | .dic kvs => (match z9 k with | some k => if kvs.length < big then some (.dic (putD kvs k v)) else none | none => none)
 | .dit kvs => (match k with | .tup ks => (match zM ks with | some k => if kvs.length < big then some (.dit (putD kvs k v)) else none | none => none) | _ => none)
 | _ => none
def jD (i : Nat) (fk fv : SS W -> R W D) : SS W -> Ou W := zx fv fun v => jp i fun d => zx fk fun k => sPut i (putO d k v)
theorem Vk {i : Nat} {ix : Expr} {fk fv : SS W -> R W D} {value : Expr} {pos' : Pos} (hu : X.A.units + 1 < cLine) (hx : PE X a (tVar i)) (hi : i ∈ O) (hk : DE W E true X O ix fk) (hv : DE W E true X O value fv) (hs : swapsWith value (some (.Subscript a ix pos')) pos.line X.env = pure false := by rfl) :
  DS W E fr OL X O (.Assign [.Subscript a ix pos'] value pos) (jD i fk fv) O := zK (QO hu hx hk hv hs) fun Dn σ H ⟨g, c, fp, q⟩ => ⟨g, c, fp, q.bind fun dv b v H1 c1 fp1 F1 r1 q1 => by
 have S1 := q1.1
 obtain ⟨d, hg, q1⟩ := q1.recv
 obtain ⟨x, hx1, o⟩ := S1.own i d hi hg
 refine ⟨x, hx1, _, c1, fp1, q1.bind fun dk b2 k H2 c2 fp2 F2 r2 q3 => ?_⟩
 obtain ⟨d', ed, kk⟩ := q3.put
 have o2 := o.step F2
 have r1' := r1.mono F2.cm
 cases d with
 | dic kvs =>
  obtain ⟨z, ys, rfl, hc, hf, he, hh, l, nd, rs⟩ := o2
  unfold putO at ed
  cases ek : z9 dk with
  | none => simp only [ek] at ed; cases ed
  | some kq =>
   simp only [ek] at ed
   obtain ⟨hl, rfl⟩ := zC ed
   have len : ys.length = kvs.length := by simpa using congrArg List.length l
   obtain ⟨p1, p2⟩ := QJ (k := kq) l rs r1'
   refine ⟨z, _, rfl, (wQ r2 ek) ▸ DPut.k (k := kq) (v := v) hh (by rw [len]; exact xQ hl), kk σ _ c2 fp2 (q3.1.mut hi hg rfl hx1 hh rfl hc hf he ⟨z, _, rfl, hc, hf, he, qv, p1, wn nd, p2⟩) (.refl _)⟩
 | dit kvs =>
  obtain ⟨z, ys, rfl, hc, hf, he, hh, l, nd, rs⟩ := o2
  unfold putO at ed
  cases r2 with
  | @tup a2 xs2 ks ex2 l2 rr2 =>
   cases ek : zM ks with
   | none => simp only [ek] at ed; cases ed
   | some kq =>
    simp only [ek] at ed
    obtain ⟨hl, rfl⟩ := zC ed
    have len : ys.length = kvs.length := by simpa using congrArg List.length l
    have ex := vx ⟨l2, rr2⟩ ek
    subst ex
    obtain ⟨p1, p2⟩ := QJ (k := kq) l rs r1'
    refine ⟨z, _, rfl, DPut.t (k := kq) (v := v) hh (q3.1.toSE.all (m := true) _ _ ex2) (by rw [len]; exact xQ hl), kk σ _ c2 fp2 (q3.1.mut hi hg rfl hx1 hh rfl hc hf he ⟨z, _, rfl, hc, hf, he, qv, p1, wn nd, p2⟩) (.refl _)⟩
  | _ => cases ed
 | _ => cases ed⟩
def gD (W : Wo) (K : PySem.W.Frag) (E : En) (O : List Nat) (p : D -> SS W -> Option (SS W)) (O' : List Nat) : TG := fun v σ H Q => ∃ g c fp d g', SR W K E O g σ H c fp /\ Rep K c v d /\ p d g = some g' /\ g'.b = g.b /\ ∀ σ', SR W K E O' g' σ' H c fp -> Q σ' H
def DG (W : Wo) (E : En) (X : Cx) (O : List Nat) (tg : Expr) (p : D -> SS W -> Option (SS W)) (O' : List Nat) : Prop := PG X tg (gD W X.K E O p O')
def DGs (W : Wo) (E : En) (X : Cx) (O : List Nat) (ts : List Expr) (p : List D -> SS W -> Option (SS W)) (O' : List Nat) : Prop := PGs X ts fun vs σ H Q => ∃ g c fp ds g', SR W X.K E O g σ H c fp /\ Reps X.K c vs ds /\ p ds g = some g' /\ g'.b = g.b /\ ∀ σ', SR W X.K E O' g' σ' H c fp -> Q σ' H
theorem QW {tg : Expr} {t t' : TG} (h : PG X tg t) (w : ∀ v σ H Q, t' v σ H Q -> t v σ H Q) : PG X tg t' := fun pins s σ H v u Q I r q => h pins s σ H v u Q I r (w v σ H Q q)
theorem yF {ts : List Expr} {t t' : TGs} (h : PGs X ts t) (w : ∀ v σ H Q, t' v σ H Q -> t v σ H Q) : PGs X ts t' := fun pins s σ H v u Q I r q => h pins s σ H v u Q I r (w v σ H Q q)
def qx (i : Nat) : D -> SS W -> Option (SS W) := fun d g => some (put g i d)
theorem qH {i : Nat} (h : PG X e (JG i)) : DG W E X O e (qx i) (O.filter (· ≠ i)) := QW h fun v σ H Q ⟨g, c, fp, d, g', S, r, e, _, k⟩ => by
 cases e
 exact k _ (S.set r)
def pNil : List D -> SS W -> Option (SS W) := fun ds g => match ds with | [] => some g | _ => none
def zd (p : D -> SS W -> Option (SS W)) (ps : List D -> SS W -> Option (SS W)) : List D -> SS W -> Option (SS W) := fun ds g => match ds with | d :: r => (p d g).bind (ps r) | [] => none
def kQ (p : D -> SS W -> Option (SS W)) : Prop := ∀ d g g', p d g = some g' -> g'.b = g.b
theorem qg {i : Nat} : kQ (W := W) (qx i) := fun d g g' e => by cases e; rfl
theorem jO : DGs W E X O [] pNil O := yF QV fun v σ H Q ⟨g, c, fp, ds, g', S, r, e, _, k⟩ => by
 cases ds with
 | nil => cases e; exact ⟨r.unnil, k σ S⟩
 | cons => cases e
theorem qN {ts : List Expr} {p : D -> SS W -> Option (SS W)} {ps : List D -> SS W -> Option (SS W)} (kp : kQ p) (h1 : DG W E X O e p O1) (h2 : DGs W E X O1 ts ps O') (hs : (assignEach (e :: ts) X.env).map (·.2) = assign e X.env :: (assignEach ts X.env).map (·.2) := by rfl) : DGs W E X O (e :: ts) (zd p ps) O' := yF (jW h1 h2 hs) fun v σ H Q ⟨g, c, fp, ds, g', S, r, e, eb, k⟩ => by
 cases ds with
 | nil => cases e
 | cons d ds =>
  obtain ⟨x, t, rfl, r1, r2⟩ := r.uncons
  unfold zd at e
  cases q : p d g with
  | none => simp only [q] at e; cases e
  | some g1 =>
   simp only [q] at e
   have b1 := kp _ _ _ q
   exact ⟨x, t, rfl, g, c, fp, d, g1, S, r1, q, b1, fun σ' S' => ⟨g1, c, fp, ds, g', S', r2, e, eb.trans b1.symm, k⟩⟩
def pTup (n : Nat) (ps : List D -> SS W -> Option (SS W)) : D -> SS W -> Option (SS W) := fun d g => match d with | .tup ds => if ds.length = n then ps ds g else none | _ => none
theorem kX {ts : List Expr} {n k : Nat} {ps : List D -> SS W -> Option (SS W)} (hc : X.calm = true) (h : DGs W E X O ts ps O') (hn : (assignEach ts X.env).length = n := by rfl) (hst : (assignEach ts X.env).findIdx? (·.1) = none := by rfl) : DG W E X O (.Tuple ts k pos) (pTup n ps) O' := QW (J_ hc h hn hst) fun v σ H Q ⟨g, c, fp, d, g', S, r, e, eb, kk⟩ => by
 cases r with
 | @tup z xs ds ex l rr =>
  have e : (if ds.length = n then ps ds g else none) = some g' := e
  split at e
  ·rename_i hl
   exact ⟨z, xs, rfl, SqT.of (S.toSE.all (m := true) _ _ ex), by rw [l]; exact hl, g, c, fp, ds, g', S, ⟨l, rr⟩, e, eb, kk⟩
  ·cases e
 | _ => cases e
theorem ji {n : Nat} {ps : List D -> SS W -> Option (SS W)} (h : ∀ ds g g', ps ds g = some g' -> g'.b = g.b) : kQ (W := W) (pTup n ps) := fun d g g' e => by
 cases d with
 | tup ds =>
  have e : (if ds.length = n then ps ds g else none) = some g' := e
  split at e
  ·exact h _ _ _ e
  ·cases e
 | _ => cases e
theorem zY : ∀ ds g g', pNil (W := W) ds g = some g' -> g'.b = g.b := fun ds g g' e => by
 cases ds with
 | nil => cases e; rfl
 | cons => cases e
theorem qz {p : D -> SS W -> Option (SS W)} {ps : List D -> SS W -> Option (SS W)} (kp : kQ p) (h : ∀ ds g g', ps ds g = some g' -> g'.b = g.b) : ∀ ds g g', zd p ps ds g = some g' -> g'.b = g.b := fun ds g g' e => by
 cases ds with
 | nil => cases e
 | cons d ds =>
  unfold zd at e
  cases q : p d g with
  | none => simp only [q] at e; cases e
  | some g1 => simp only [q] at e; exact (h _ _ _ e).trans (kp _ _ _ q)
def sAsg (p : D -> SS W -> Option (SS W)) (f : SS W -> R W D) : SS W -> Ou W := zx f fun d g => match p d g with
 | some g' => .nx g'
 | none => .bad
theorem yT {tg : Expr} {p : D -> SS W -> Option (SS W)} (kp : kQ p) (he : DE W E true X O e fe) (hg : DG W E X O tg p O') (hs : swapsWithSole [tg] e pos.line X.env = pure false := by rfl) (hw : swappedStores [tg] e X.env = pure none := by rfl) (h1 : (assignEach [tg] X.env).map (·.2) = [assign tg X.env] := by rfl) :
  DS W E fr OL X O (.Assign [tg] e pos) (sAsg p fe) O' := zK (VZ he hg hs hw h1) fun Dn σ H ⟨g, c, fp, q⟩ => ⟨g, c, fp, q.bind fun d b v H1 c1 fp1 F1 r1 q1 => by
 obtain ⟨S1, q1⟩ := q1
 cases e : p d ⟨g.v, b⟩ with
 | none => simp only [e] at q1; exact q1.elim
 | some g' =>
  simp only [e] at q1
  exact ⟨_, c1, fp1, d, g', S1, r1, e, kp _ _ _ e, fun σ' S' => q1 σ' H1 c1 fp1 S' (.refl _)⟩⟩
structure Walk (K : PySem.W.Frag) (J : It) (c : Co) (ds : List D) : Prop where
 go : ∀ i H1 c1, Co.Le c c1 -> Same c1.h H1 -> i < ds.length -> J.go i H1 /\ ∀ x H2, J.yld i H1 x H2 -> ∃ d, ds[i]? = some d /\ ((H2 = H1 /\ Rep K c1 x d) \/ ∃ p u, H1 p = none /\ isT u = false /\ H2 = upd H1 p u /\ Rep K (c1.add p u) x d)
 stop : ∀ i H1 c1, Co.Le c c1 -> Same c1.h H1 -> ds.length <= i -> J.stop i H1
def tI (X : Cx) (E : En) (O : List Nat) (f : SS W -> R W (List D)) (g : SS W) (c : Co) (fp : List Addr) (σ : L2.St) (H : Hp) (Rr : It -> Hp -> Prop) : Prop :=
 SR W X.K E O g σ H c fp /\ match f g with
  | .ok ds b => ∀ J H' c' fp', SR W X.K E O ⟨g.v, b⟩ σ H' c' fp' -> FR H c fp H' c' fp' -> Walk X.K J c' ds -> Rr J H'
  | .exc x b => ∀ ev s' H' c' fp', Inv X [] σ H' s' -> SR W X.K E O ⟨g.v, b⟩ σ H' c' fp' -> FR H c fp H' c' fp' -> W.EX x ev s' H' c' -> X.xe ev s'
  | .bad => False
def DI (W : Wo) (E : En) (X : Cx) (O : List Nat) (tg iter : Expr) (f : SS W -> R W (List D)) : Prop := PI X tg iter fun σ H Rr => ∃ g c fp, tI X E O f g c fp σ H Rr
theorem j8 {tg iter : Expr} {t t' : TI} (h : PI X tg iter t) (w : ∀ σ H Rr, t' σ H Rr -> t σ H Rr) : PI X tg iter t' := fun pins s σ H Rr I q => h pins s σ H Rr I (w σ H Rr q)
theorem PI.or {tg iter : Expr} {t t' : TI} (h : PI X tg iter t) (h' : PI X tg iter t') : PI X tg iter (fun σ H Rr => t σ H Rr \/ t' σ H Rr) := fun pins s σ H Rr I q => q.elim (h pins s σ H Rr I) (h' pins s σ H Rr I)
theorem tI.bind {ν α : Type} {rel : Co -> ν -> α -> Prop} {f : SS W -> R W α} {k : α -> SS W -> R W (List D)} {Rr : It -> Hp -> Prop} {Q : ν -> Hp -> Prop} (h : tI X E O (qG f k) g c fp σ H Rr)
  (cont : ∀ d b v H1 c1 fp1, SR W X.K E O ⟨g.v, b⟩ σ H1 c1 fp1 -> FR H c fp H1 c1 fp1 -> rel (cm m H1 c1 fp1) v d -> tI X E O (k d) ⟨g.v, b⟩ c1 fp1 σ H1 Rr -> Q v H1) : tG X E rel m O f g c fp σ H Q := by
 obtain ⟨S, h⟩ := h
 unfold qG at h
 refine ⟨S, ?_⟩
 cases e : f g with
 | bad => rw [e] at h; exact h
 | exc x b => rw [e] at h; exact h
 | ok d b =>
  rw [e] at h
  intro v H1 c1 fp1 S1 F1 r1
  refine cont d b v H1 c1 fp1 S1 F1 r1 ⟨S1, ?_⟩
  have h : match k d ⟨g.v, b⟩ with
   | .ok ds b => ∀ J H' c' fp', SR W X.K E O ⟨g.v, b⟩ σ H' c' fp' -> FR H c fp H' c' fp' -> Walk X.K J c' ds -> Rr J H'
   | .exc x b => ∀ ev s' H' c' fp', Inv X [] σ H' s' -> SR W X.K E O ⟨g.v, b⟩ σ H' c' fp' -> FR H c fp H' c' fp' -> W.EX x ev s' H' c' -> X.xe ev s'
   | .bad => False := h
  cases e2 : k d ⟨g.v, b⟩ with
  | bad => rw [e2] at h; exact h
  | exc x b2 => rw [e2] at h; exact fun ev s' H' c' fp' I S' F' x' => h ev s' H' c' fp' I S' (F1.trans F') x'
  | ok d2 b2 => rw [e2] at h; exact fun J H' c' fp' S' F' w => h J H' c' fp' S' (F1.trans F') w
theorem tI.opt {o : Option (List D)} {Rr : It -> Hp -> Prop} (h : tI X E O (eOpt o) g c fp σ H Rr) : ∃ ds, o = some ds /\ ∀ J H' c' fp', SR W X.K E O g σ H' c' fp' -> FR H c fp H' c' fp' -> Walk X.K J c' ds -> Rr J H' := by
 cases o with
 | none => exact h.2.elim
 | some ds => exact ⟨ds, rfl, h.2⟩
def ki : D -> Option (List D)
 | .lst ds => some ds
 | .tup ds => some ds
 | _ => none
theorem vq {z : Addr} {xs : List V} {ds : List D} (e : c.h z = some (.lst xs)) (r : Reps K c xs ds) : Walk K (Itl K z) c ds := by
 refine ⟨fun i H1 c1 le s hi => ?_, fun i H1 c1 le s hi => ⟨xs, SqL.of (s _ _ (le.h _ _ e)), by rw [r.l]; exact hi⟩⟩
 have hx : i < xs.length := by rw [r.l]; exact hi
 have sq : SqL K H1 z xs := SqL.of (s _ _ (le.h _ _ e))
 refine ⟨⟨xs, xs[i], sq, List.getElem?_eq_getElem hx⟩, fun x H2 ⟨eH, y⟩ => ⟨ds[i], List.getElem?_eq_getElem hi, .inl ⟨eH, ?_⟩⟩⟩
 exact (r.mono le).r i x _ (y xs sq) (List.getElem?_eq_getElem hi)
theorem Z3 {z : Addr} {xs : List V} {ds : List D} (e : c.h z = some (.tup xs)) (r : Reps K c xs ds) : Walk K (Itt K z) c ds := by
 refine ⟨fun i H1 c1 le s hi => ?_, fun i H1 c1 le s hi => ⟨xs, SqT.of (s _ _ (le.h _ _ e)), by rw [r.l]; exact hi⟩⟩
 have hx : i < xs.length := by rw [r.l]; exact hi
 have sq : SqT K H1 z xs := SqT.of (s _ _ (le.h _ _ e))
 refine ⟨⟨xs, xs[i], sq, List.getElem?_eq_getElem hx⟩, fun x H2 ⟨eH, y⟩ => ⟨ds[i], List.getElem?_eq_getElem hi, .inl ⟨eH, ?_⟩⟩⟩
 exact (r.mono le).r i x _ (y xs sq) (List.getElem?_eq_getElem hi)
def iSeq (f : SS W -> R W D) : SS W -> R W (List D) := qG f fun d => eOpt (ki d)
theorem wB {tg : Expr} (h : DE W E true X O e fe) : DI W E X O tg e (iSeq fe) := j8 (PI.or (vB h) (V2 h)) fun σ H Rr ⟨g, c, fp, q⟩ => by
 obtain ⟨S, q⟩ := q
 have q0 : tI X E O (iSeq fe) g c fp σ H Rr := ⟨S, q⟩
 unfold iSeq qG at q
 cases ef : fe g with
 | bad => rw [ef] at q; exact q.elim
 | exc y b => exact .inl ⟨g, c, fp, S, by rw [ef] at q ⊢; exact q⟩
 | ok d b =>
  rw [ef] at q
  cases d with
  | lst ds => exact .inl ⟨g, c, fp, S, by rw [ef]; intro v H1 c1 fp1 S1 F1 r1; cases r1 with | lst ex l r => exact ⟨_, rfl, ⟨_, SqL.of (S1.toSE.all (m := true) _ _ ex)⟩, q _ H1 c1 fp1 S1 F1 (vq ex ⟨l, r⟩)⟩⟩
  | tup ds => exact .inr ⟨g, c, fp, S, by rw [ef]; intro v H1 c1 fp1 S1 F1 r1; cases r1 with | tup ex l r => exact ⟨_, rfl, ⟨_, SqT.of (S1.toSE.all (m := true) _ _ ex)⟩, q _ H1 c1 fp1 S1 F1 (Z3 ex ⟨l, r⟩)⟩⟩
  | _ => exact q.elim
def rngD (lo : Int) (n : Nat) : List D := (List.range n).map fun (k : Nat) => D.int (lo + (k : Int))
theorem Z4 {lo : Int} {n : Nat} : Walk K (Itr lo n) c (rngD lo n) := by
 have hl : (rngD lo n).length = n := by unfold rngD; rw [List.length_map, List.length_range]
 refine ⟨fun i H1 c1 le s hi => ?_, fun i H1 c1 le s hi => by rw [hl] at hi; exact hi⟩
 rw [hl] at hi
 refine ⟨hi, fun x H2 ⟨eH, ex⟩ => ⟨.int (lo + (i : Int)), ?_, .inl ⟨eH, by rw [ex]; exact .int _⟩⟩⟩
 unfold rngD
 rw [List.getElem?_map, List.getElem?_range hi]
 rfl
def rng1 : List D -> Option (List D)
 | [.int j] => if -(2 ^ 62) <= j /\ j < 2 ^ 62 then some (rngD 0 j.toNat) else none
 | _ => none
def rng2 : List D -> Option (List D)
 | [.int i, .int j] => if -(2 ^ 62) <= i /\ i < 2 ^ 62 /\ -(2 ^ 62) <= j /\ j < 2 ^ 62 then some (rngD i (j - i).toNat) else none
 | _ => none
def qS (fs : SS W -> R W (List D)) : SS W -> R W (List D) := qG fs fun ds => eOpt (rng1 ds)
def z7 (fs : SS W -> R W (List D)) : SS W -> R W (List D) := qG fs fun ds => eOpt (rng2 ds)
theorem je {tg x : Expr} {p : Pos} (hg : Gl X "range") (hm : X.mg "range" = none) (ha : DA W E m X O [x] fs) (hs : starEach [x] X.env = [(false, eval x X.env)] := by rfl) : DI W E X O tg (.Call (.Name "range" p) [x] [] pos) (qS fs) := j8 (QT hg hm ha hs) fun σ H Rr ⟨g, c, fp, q⟩ => ⟨g, c, fp, q.bind (rel := Reps X.K) fun ds b vs H1 c1 fp1 S1 F1 r1 h1 => by
 obtain ⟨l, el, k⟩ := h1.opt
 cases ds with
 | nil => cases el
 | cons d ds =>
  cases d with
  | int j =>
   cases ds with
   | nil =>
    obtain ⟨y, t, rfl, r2, r3⟩ := r1.uncons
    cases kH r2
    cases r3.unnil
    obtain ⟨hb, rfl⟩ := zC el
    exact ⟨j, rfl, hb.1, hb.2, k _ H1 c1 fp1 S1 .refl Z4⟩
   | cons => cases el
  | _ => cases el⟩
def forD (p : D -> SS W -> Option (SS W)) (f : SS W -> Ou W) : List D -> SS W -> Ou W
 | [], g => .nx g
 | d :: ds, g => match p d g with
  | none => .bad
  | some g1 => match f g1 with
   | .nx g2 => forD p f ds g2
   | .ct g2 => forD p f ds g2
   | .bk g2 => .nx g2
   | .rt d b => .rt d b
   | .ex x g2 => .ex x g2
   | .bad => .bad
def sFor (fi : SS W -> R W (List D)) (p : D -> SS W -> Option (SS W)) (f : SS W -> Ou W) : SS W -> Ou W := zx fi fun ds => forD p f ds
theorem tSx.bindI {fr : Bool} {fi : SS W -> R W (List D)} {k : List D -> SS W -> Ou W} {Dn : Ends} {Rr : It -> Hp -> Prop} (q : tSx X E fr OL O (zx fi k) O' g c fp Dn σ H)
  (cont : ∀ ds b J H1 c1 fp1, Walk X.K J c1 ds -> tSx X E fr OL O (k ds) O' ⟨g.v, b⟩ c1 fp1 Dn σ H1 -> Rr J H1) : tI X E O fi g c fp σ H Rr := by
 obtain ⟨S, q⟩ := q
 refine ⟨S, ?_⟩
 unfold zx at q
 cases e : fi g with
 | bad => rw [e] at q; exact q
 | exc x b =>
  rw [e] at q
  intro ev s' H' c' fp' I S' F' x'
  obtain ⟨c2, l2, S2⟩ := S'.freeze (O' := []) (fun i h => nomatch h)
  exact q ev σ s' H' c2 fp' I S2 (W.exS _ _ _ _ _ _ x' l2)
 | ok ds b =>
  rw [e] at q
  exact fun J H1 c1 fp1 S1 F1 w => cont ds b J H1 c1 fp1 w ⟨S1, q.mono F1.le⟩
theorem SR.yield (S : SR W K E O g σ H c fp) {x : V} {d : D} (h : (H' = H /\ Rep K c x d) \/ ∃ p u, H p = none /\ isT u = false /\ H' = upd H p u /\ Rep K (c.add p u) x d) : ∃ c', SR W K E O g σ H' c' fp /\ Rep K c' x d /\ Co.Le c c' /\ FR H c fp H' c' fp := by
 rcases h with ⟨rfl, r⟩ | ⟨p, u, hp, hu, rfl, r⟩
 ·exact ⟨c, S, r, .refl _, .refl⟩
 ·exact ⟨c.add p u, S.new hp hu, r, Co.add_le (S.toSE.free hp).1, FR.new S.toSE hp u⟩
theorem Km {fi : SS W -> R W (List D)} {p : D -> SS W -> Option (SS W)} {f : SS W -> Ou W} {Dn : Ends} (kp : kQ p) (q : tSx X E fr OL O (sFor fi p f) O g c fp Dn σ H) : tFor (fun σ H Rr => tI X E O fi g c fp σ H Rr) (gD W X.K E O p O1) (tS X E fr O O1 f O) Dn σ H := q.bindI fun ds b J H1 c1 fp1 w q1 => by
 have all : ∀ {g : SS W} {σ : L2.St} {H : Hp} {c : Co} {fp : List Addr}, SR W X.K E O g σ H c fp -> Same c.h H := fun S => S.toSE.all (m := true)
 refine ⟨fun i mm σ2 H2 => mm = ds.length - i /\ i <= ds.length /\ ∃ g2 c2 fp2, Co.Le c1 c2 /\ tSx X E fr OL O (forD p f (ds.drop i)) O g2 c2 fp2 Dn σ2 H2, ⟨ds.length, by simp, Nat.zero_le _, _, c1, fp1, .refl _, by rw [List.drop_zero]; exact q1⟩, ?_⟩
 rintro i mm σ2 H2 ⟨rfl, hi', g2, c2, fp2, le, S2, q2⟩
 by_cases hlt : i < ds.length
 ·right
  obtain ⟨go, yl⟩ := w.go i H2 c2 le (all S2) hlt
  refine ⟨go, fun σ3 H3 => ∃ m', m' < ds.length - i /\ m' = ds.length - (i + 1) /\ i + 1 <= ds.length /\ ∃ g2 c2 fp2, Co.Le c1 c2 /\ tSx X E fr OL O (forD p f (ds.drop (i + 1))) O g2 c2 fp2 Dn σ3 H3, fun σ3 H3 h => h, fun x H3 y => ?_⟩
  obtain ⟨d, hd, yy⟩ := yl x H3 y
  obtain ⟨c3, S3, r3, le3, _⟩ := S2.yield yy
  have ed : ds.drop i = d :: ds.drop (i + 1) := by
   obtain ⟨h1, h2⟩ := List.getElem?_eq_some_iff.mp hd
   rw [<- h2]
   exact List.drop_eq_getElem_cons h1
  rw [ed] at q2
  unfold forD at q2
  cases ep : p d g2 with
  | none => simp only [ep] at q2; exact q2.elim
  | some g3 =>
   simp only [ep] at q2
   refine ⟨g2, c3, fp2, d, g3, S3, r3, ep, kp _ _ _ ep, fun σ4 S4 => ⟨g3, c3, fp2, S4, ?_⟩⟩
   have next : ∀ {g5 : SS W} {σ5 : L2.St} {H5 : Hp} {c5 : Co} {fp5 : List Addr}, Co.Le c3 c5 -> SR W X.K E O g5 σ5 H5 c5 fp5 -> tSq X E fr OL O Dn c2 (forD p f (ds.drop (i + 1)) g5) -> ∃ m', m' < ds.length - i /\ m' = ds.length - (i + 1) /\ i + 1 <= ds.length /\ ∃ g2 c2 fp2, Co.Le c1 c2 /\ tSx X E fr OL O (forD p f (ds.drop (i + 1))) O g2 c2 fp2 Dn σ5 H5 :=
    fun l5 S5 q5 => ⟨_, by omega, rfl, hlt, _, _, _, (le.trans le3).trans l5, S5, q5.mono (le3.trans l5)⟩
   cases ef : f g3 with
   | nx g5 => simp only [ef] at q2; exact fun σ5 H5 c5 fp5 S5 l5 => next l5 S5 q2
   | ct g5 => simp only [ef] at q2; exact fun σ5 H5 c5 fp5 S5 l5 => next l5 S5 q2
   | bk g5 => simp only [ef] at q2; exact fun σ5 H5 c5 fp5 S5 l5 => q2 σ5 H5 c5 fp5 S5 (le3.trans l5)
   | rt d5 b5 => simp only [ef] at q2; exact q2
   | ex x5 g5 => simp only [ef] at q2; exact q2
   | bad => simp only [ef] at q2; exact q2
 ·left
  have e : i = ds.length := by omega
  subst e
  rw [List.drop_length] at q2
  exact ⟨w.stop _ H2 c2 le (all S2) (Nat.le_refl _), q2 σ2 H2 c2 fp2 S2 (.refl _)⟩
theorem xh {tg iter : Expr} {fi : SS W -> R W (List D)} {p : D -> SS W -> Option (SS W)} {body : List Stmt} {f : SS W -> Ou W} (hp : PassesOwn (model X.prog X.w) X.A X.env X.xe) (hc : X.calm = true) (kp : kQ p) (hi : DI W E X O tg iter fi) (hg : DG W E X O tg p O1) (hb : DSs W E fr O X O1 body f O)
  (hs : ∀ x, foldedSetIterable iter X.env x = pure x := by intro _; rfl) : DS W E fr OL X O (.For tg iter body [] pos) (sFor fi p f) O := zK (QN hp hc hi hg hb hs) fun Dn σ H ⟨g, c, fp, q⟩ => ⟨g, c, fp, Km kp q⟩
end
end M
namespace X2
open PySem PySem.Spec PyProof.Rows L2
theorem kA {X : Cx} {elt tg iter : Expr} {ifs : List Expr} {scope : Scope} {pos pos2 : Pos} {cl : List (Str × Addr)} {T caps : List Str} {ix : List Nat} {wi : TI} {g : TG} {tt : TT} {te : TE}
  (O : CompOk X scope cl T caps ix) (hc : X.calm = true) (hi : PI X tg iter wi) (hg : ∀ C s H fp, PG (qQ X scope cl (T ++ caps) C s H fp) tg g) (ht : ∀ C s H fp, PTs (qQ X scope cl (T ++ caps) C s H fp) ifs tt)
  (he : ∀ C s H fp, PE (qQ X scope cl (T ++ caps) C s H fp) elt te) (hs : ∀ x, foldedSetIterable iter X.env x = pure x)
  {pins : List (Addr × Obj)} {s : Shared} {σ : L2.St} {H : Hp} {Q : VK} {use : Option (Value -> Sem Unit)} {QQ : Value -> Shared -> Prop} (I : Inv X pins σ H s) (h : Qt wi g tt te T ix σ H Q)
  (fin : ∀ (D C : Addr) (H3 : Hp) (s4 : Shared) (m : Str -> Option Value), Inv X pins σ H3 s4 -> s4.heap.Ns C m -> H3 C = none -> C ≠ X.env.locals -> X.s₀.heap.objs.size <= C -> (∀ x c, X.env.cells.lookup x = some c -> c ≠ C) -> (∀ p ∈ X.pn ++ pins, p.1 ≠ C) -> Q (.ref D) H3 -> compPost (model X.prog X.w) X.A X.xe use QQ (.ref D) C (.ok .next) s4) :
  wpAny (model X.prog X.w) X.A (comprehension (.ListComp elt [⟨tg, iter, ifs, 0⟩] scope pos) scope X.env pos2 (newList []) false (eval iter X.env) use) QQ X.xe s := by
 refine wpAny_comprehension_free (use := use) rfl hs O.clos O.kind O.names (thn (hi pins s σ H _ I h) fun v s1 h1 => thn h1 fun itv s2 h2 => ?_)
 obtain ⟨it, fp, tn, J, H2, e, I2, T2, st2, f2, R2⟩ := h2
 subst e
 have hfp : ∀ b ∈ fp, FpOk X pins H2 b /\ b < s2.heap.objs.size := fun b hb => ⟨f2 b hb, by obtain ⟨o, e, _⟩ := T2.obj _ _ st2 b hb; exact Heap.lt_size e⟩
 refine wpAny_newObj_type (wpAny_newFunctionEnv O.nocell (fun y hy => absurd hy (by simp)) (fun h₁ hns hsb => ?_) O.kind)
 dsimp only at hns hsb ⊢
 generalize hG : s2.heap.push { cls := .type "list", dict := none, data := .seq ([] : List Value).toArray } = G at hns hsb ⊢
 have hCz : s2.heap.objs.size < G.objs.size := by rw [<- hG, Heap.size_push]; exact Nat.lt_succ_self _
 have old : ∀ b o, s2.heap.get? b = some o -> h₁.get? b = some o := fun b o e => by
  have lt := Heap.lt_size e
  exact hsb.extBut b o (Nat.ne_of_lt (Nat.lt_trans lt hCz)) (Heap.get?_push_of_some _ (hG ▸ Heap.get?_push_of_some _ e))
 have hD : h₁.get? s2.heap.objs.size = some { cls := .type "list", dict := none, data := .seq ([] : List Value).toArray } := hsb.extBut _ _ (Nat.ne_of_lt hCz) (Heap.get?_push_of_some _ (hG ▸ Heap.get?_push_size _ rfl))
 have nD : H2 s2.heap.objs.size = none := I2.hok.fresh (Nat.le_refl _)
 have nC : H2 G.objs.size = none := I2.hok.fresh (Nat.le_of_lt hCz)
 obtain ⟨W, ⟨m0, w0⟩, turn⟩ := R2 s2.heap.objs.size nD
 have J1 : Inv X pins σ (upd H2 s2.heap.objs.size (.lst [])) { s2 with heap := h₁, toks := s2.toks + ([] : List (Str × Value)).length } :=
  I2.laid (t' := s2.toks + ([] : List (Str × Value)).length) old (Nat.le_refl _) (show ObjOk X.prog X.w _ h₁ _ (.lst []) from ⟨Nat.zero_le _, [], 0, .nil, hD⟩)
 have un : Un (frs X.stack) fp H2 (upd H2 s2.heap.objs.size (.lst [])) s2.heap h₁ := Un.laid old (Nat.le_refl _) nD
 have hCn : (upd H2 s2.heap.objs.size (.lst [])) G.objs.size = none := by rw [qu (Nat.ne_of_lt hCz).symm]; exact nC
 have K1 := xi (s := { s2 with heap := h₁, toks := s2.toks + ([] : List (Str × Value)).length }) O I2 J1 un rfl hns (Nat.le_of_lt hCz) hCn hfp
 have stat : ∀ {H' : Hp}, (∀ b ∈ fp, H' b = none) -> ∀ b ∈ fp, FpOk (qQ X scope cl (T ++ caps) G.objs.size s2 H2 fp) [] H' b := fun hn b hb =>
  ⟨hn b hb, Nat.ne_of_lt (Nat.lt_trans (hfp b hb).2 hCz), K1.ok.exfs b hb, .inl hb, fun x c e => (K1.ok.exf b hb).2 x c e, fun p hp => absurd (show p ∈ ([] : List (Addr × Obj)) from hp) (by simp)⟩
 have start : ∃ (i : Nat) (σ' : L2.St) (xs : List V) (H' : Hp), Inv (qQ X scope cl (T ++ caps) G.objs.size s2 H2 fp) [] σ' H' { s2 with heap := h₁, toks := s2.toks + ([] : List (Str × Value)).length } /\ tn i h₁ /\ (∀ b ∈ fp, H' b = none) /\ W i m0 σ' xs H' :=
  ⟨0, _, [], _, K1, T2.keep _ _ _ st2 fun b _ o e => old b o e, fun b hb => by rw [qu (Nat.ne_of_lt (hfp b hb).2)]; exact (f2 b hb).1, w0⟩
 have loop : codeAny (model X.prog X.w) X.A (.compLoop (.ListComp elt [⟨tg, iter, ifs, 0⟩] scope pos) 0 (.ref it) (.ref s2.heap.objs.size) (compEnvC scope cl G.objs.size X.env))
   (compPost (model X.prog X.w) X.A X.xe use QQ (.ref s2.heap.objs.size) G.objs.size) { s2 with heap := h₁, toks := s2.toks + ([] : List (Str × Value)).length } := by
  refine wE (fun n s' => ∃ (i : Nat) (σ' : L2.St) (xs : List V) (H' : Hp), Inv (qQ X scope cl (T ++ caps) G.objs.size s2 H2 fp) [] σ' H' s' /\ tn i s'.heap /\ (∀ b ∈ fp, H' b = none) /\ W i n σ' xs H') ?_ m0 start
  rintro n s3 ⟨i, σ3, xs, H3, I3, st3, fr3, w3⟩
  obtain ⟨hD3, hz3, tn3⟩ := turn i n σ3 xs H3 w3
  rcases tn3 with ⟨stop, qn⟩ | ⟨go, step⟩
  ·refine thn (T2.done (qQ X scope cl (T ++ caps) G.objs.size s2 H2 fp) rfl rfl rfl hc i [] s3 σ3 H3 _ I3 (stat fr3) st3 stop) fun r s4 ⟨hr, I4⟩ => ?_
   subst hr
   obtain ⟨m, hm, _⟩ := I4.loc
   have B : Inv X pins σ H3 s4 := I2.call' I4.os I4.base I4.hok I4.bare fun b hb => ⟨(f2 b hb).2.2.2.1, (f2 b hb).2.1, (f2 b hb).2.2.2.2.1, (f2 b hb).2.2.2.2.2⟩
   refine fin s2.heap.objs.size G.objs.size H3 s4 m B hm I4.free ?_ (Nat.le_of_lt (Nat.lt_of_le_of_lt I2.sz hCz)) (fun x c e z => ?_) (fun p hp z => ?_) qn
   ·exact (Nat.ne_of_lt (Nat.lt_trans I2.lt hCz)).symm
   ·obtain ⟨v, q⟩ := I2.cell x c e
    exact absurd z (Nat.ne_of_lt (Nat.lt_trans q.lt hCz))
   ·exact absurd z (Nat.ne_of_lt (Nat.lt_trans (Heap.lt_size (I2.pin p hp).1) hCz))
  ·refine thn (T2.item (qQ X scope cl (T ++ caps) G.objs.size s2 H2 fp) rfl rfl rfl hc i [] s3 σ3 H3 _ I3 (stat fr3) st3 go) fun r s4 ⟨u, hr, h4⟩ => ?_
   subst hr
   refine thn h4 fun _ s5 ⟨x, H5, I5, r5, y5, st5, fr5⟩ => ?_
   have I5' := I5.pinned (stat fr5) (T2.obj _ _ st5)
   have back : ∀ {σ7 : L2.St} {H7 : Hp} {s7 : Shared}, Inv (qQ X scope cl (T ++ caps) G.objs.size s2 H2 fp) ([] ++ v4 fp s5.heap) σ7 H7 s7 -> Inv (qQ X scope cl (T ++ caps) G.objs.size s2 H2 fp) [] σ7 H7 s7 /\ tn (i + 1) s7.heap /\ ∀ b ∈ fp, H7 b = none := fun {σ7 H7 s7} I7 => by
    refine ⟨I7.unpinned, T2.keep _ _ _ st5 fun b hb o e => (I7.pin (b, o) (List.mem_append_right _ (List.mem_append_right _ (ja hb e)))).1, fun b hb => ?_⟩
    obtain ⟨o, e, d⟩ := T2.obj _ _ st5 b hb
    exact (I7.pin (b, o) (List.mem_append_right _ (List.mem_append_right _ (ja hb e)))).2.1
   refine thn (hg G.objs.size s2 H2 fp _ s5 σ3 H5 x u _ I5' r5 (step x H5 y5)) fun _ s6 ⟨σ6, H6, I6, q6⟩ => ?_
   refine thn (ht G.objs.size s2 H2 fp _ s6 σ6 H6 _ I6 q6) fun ok s7 ⟨H7, I7, q7⟩ => ?_
   cases ok with
   | true =>
    rw [if_pos rfl] at q7
    rw [if_pos rfl]
    refine thn (he G.objs.size s2 H2 fp _ s7 σ6 H7 _ I7 q7) fun z s8 ⟨y, H8, I8, r8, hD8, m', hm', w8⟩ => ?_
    refine thn (vD _ s8 σ6 H8 (.ref s2.heap.objs.size) [y] _ [z] (fun _ H9 => H9 = upd H8 s2.heap.objs.size (.lst (xs ++ [y]))) I8 rfl (.cons r8 .nil) ⟨_, xs, y, rfl, rfl, hD8, hz3, rfl⟩) fun _ s9 ⟨_, H9, I9, _, e9⟩ => ?_
    subst e9
    obtain ⟨a1, a2, a3⟩ := back I9
    exact ⟨m', hm', i + 1, σ6, xs ++ [y], _, a1, a2, a3, w8⟩
   | false =>
    rw [if_neg (by decide)] at q7
    rw [if_neg (by decide)]
    obtain ⟨m', hm', w7⟩ := q7
    obtain ⟨a1, a2, a3⟩ := back I7
    exact ⟨m', hm', i + 1, σ6, xs, H7, a1, a2, a3, w7⟩
 exact codeAny_compStart_list loop (T2.self _ 0 _ _ _ (T2.keep _ _ _ st2 fun b _ o e => old b o e) loop)
theorem QM {X : Cx} {elt tg iter : Expr} {ifs : List Expr} {scope : Scope} {pos spos py : Pos} {cl : List (Str × Addr)} {T caps : List Str} {ix : List Nat} {wi : TI} {g : TG} {tt : TT} {te : TE} {i : Nat} {y : Str} (hN : X.N.Nodup) (hi' : X.N[i]? = some y) (hx : Loc X.env.scope y)
  (O : CompOk X scope cl T caps ix) (hc : X.calm = true) (hi : PI X tg iter wi) (hg : ∀ C s H fp, PG (qQ X scope cl (T ++ caps) C s H fp) tg g) (ht : ∀ C s H fp, PTs (qQ X scope cl (T ++ caps) C s H fp) ifs tt)
  (he : ∀ C s H fp, PE (qQ X scope cl (T ++ caps) C s H fp) elt te) (hs : ∀ x, foldedSetIterable iter X.env x = pure x := by intro _; rfl)
  (hsw : swapsWith (.ListComp elt [⟨tg, iter, ifs, 0⟩] scope pos) (some (.Name y py)) spos.line X.env = pure true := by rfl)
  (hf : X.fn y = true \/ X.env.scope.names.lookup y = some .local := by first | exact .inl rfl | exact .inr rfl | assumption) :
  PS X (.Assign [.Name y py] (.ListComp elt [⟨tg, iter, ifs, 0⟩] scope pos) spos) (tAsg (Qt wi g tt te T ix) (JG i)) := by
 intro pins s σ H D I h
 rw [exec_Assign_Name_used _ _ _ _ hsw]
 refine wpAny_bind (wpAny_standAt (wpAny_bind ?_))
 show wpAny _ X.A (do let _ <- comprehension (.ListComp elt [⟨tg, iter, ifs, 0⟩] scope pos) scope X.env _ (newList []) false (eval iter X.env) (some (assign (.Name y py) X.env))) _ _ s
 refine wpAny_bind (wpAny_mono (kA (QQ := fun _ s' => SP X pins D .next s') O hc hi hg ht he hs I h ?_) (fun _ s' hq => wpAny_pure (wpAny_pure hq)) fun _ _ e => e)
 intro A C H3 s4 m B hm nC cL cs cc cp q
 show wpAny _ _ (assign (.Name y py) X.env (.ref A)) _ _ _
 refine wpAny_assign_Name (wb B hN hi' hx (v := .ref A) rfl (fun s5 I5 hsb => ?_) hf)
 obtain ⟨a, sb, ha⟩ := hsb
 have ne : C ≠ a := by
  rcases ha with z | z
  ·rw [z]; exact cL
  ·exact (cc _ _ z).symm
 refine ⟨m, hm.sameBut sb ne, fun h' hs' => ?_⟩
 exact ⟨_, H3, I5.turned (t' := s5.toks) (it := C) (fun b o hb e => hs'.extBut b o hb e) nC cL (.inr cs) cc cp, q⟩
end X2
namespace M
open PySem PySem.Spec PyProof.Rows L2 X2
section
variable {W : Wo} {K : PySem.W.Frag} {X : Cx} {E : En} {O O' O1 O2 OL : List Nat} {g : SS W} {b : W.BS} {σ : L2.St} {H H' : Hp} {c c' : Co} {fp fp' : List Addr} {fr : Bool} {m m1 m2 : Bool} {pos : Pos} {e a : Expr} {es : List Expr}
variable {fa fb fe : SS W -> R W D} {fs : SS W -> R W (List D)} {ta tb : SS W -> R W Bool}
def kU (t : SS W -> R W Bool) (f : SS W -> Ou W) : Nat -> SS W -> Ou W
 | 0, _ => .bad
 | n + 1, g => match t g with
  | .ok true b => (match f ⟨g.v, b⟩ with
   | .nx g2 => kU t f n g2
   | .ct g2 => kU t f n g2
   | .bk g2 => .nx g2
   | .rt d b => .rt d b
   | .ex x g2 => .ex x g2
   | .bad => .bad)
  | .ok false b => .nx ⟨g.v, b⟩
  | .exc x b => .ex x ⟨g.v, b⟩
  | .bad => .bad
def ye : Nat := 5000000
def vX (t : SS W -> R W Bool) (f : SS W -> Ou W) : SS W -> Ou W := fun g => kU t f ye g
theorem yS {tst : Expr} {body : List Stmt} {t : SS W -> R W Bool} {f : SS W -> Ou W} (hp : PassesOwn (model X.prog X.w) X.A X.env X.xe) (ht : DT W E X O tst t) (hb : DSs W E fr O X O body f O) : DS W E fr OL X O (.While tst body [] pos) (vX t f) O := zK (Jb hp ht hb) fun Dn σ H ⟨g, c, fp, S, q⟩ => by
 refine ⟨fun n σ2 H2 => ∃ g2 c2 fp2, SR W X.K E O g2 σ2 H2 c2 fp2 /\ tSq X E fr OL O Dn c2 (kU t f n g2), ⟨ye, g, c, fp, S, q⟩, ?_⟩
 rintro n σ2 H2 ⟨g2, c2, fp2, S2, q2⟩
 cases n with
 | zero => exact q2.elim
 | succ n =>
  refine ⟨g2, c2, fp2, S2, ?_⟩
  unfold kU at q2
  cases et : t g2 with
  | bad => simp only [et] at q2; exact q2
  | exc x b =>
   simp only [et] at q2
   intro ev s' H' c' fp' I S' F' x'
   obtain ⟨c3, l3, S3⟩ := S'.freeze (O' := []) (fun i h => nomatch h)
   exact q2 ev σ2 s' H' c3 fp' I S3 (W.exS _ _ _ _ _ _ x' l3)
  | ok k b =>
   intro v H3 c3 fp3 S3 F3 r3
   have r3 : v = k := r3
   subst r3
   cases v with
   | false => simp only [et] at q2; exact q2 σ2 H3 c3 fp3 S3 F3.le
   | true =>
    simp only [et] at q2
    show if true = true then _ else _
    rw [if_pos rfl]
    refine ⟨fun σ4 H4 => ∃ m', m' < n + 1 /\ ∃ g2 c2 fp2, SR W X.K E O g2 σ4 H4 c2 fp2 /\ tSq X E fr OL O Dn c2 (kU t f m' g2), fun _ _ h => h, ⟨_, c3, fp3, S3, ?_⟩⟩
    cases ef : f ⟨g2.v, b⟩ with
    | nx g5 => simp only [ef] at q2; exact fun σ5 H5 c5 fp5 S5 l5 => ⟨n, Nat.lt_succ_self _, g5, c5, fp5, S5, q2.mono (F3.le.trans l5)⟩
    | ct g5 => simp only [ef] at q2; exact fun σ5 H5 c5 fp5 S5 l5 => ⟨n, Nat.lt_succ_self _, g5, c5, fp5, S5, q2.mono (F3.le.trans l5)⟩
    | bk g5 => simp only [ef] at q2; exact fun σ5 H5 c5 fp5 S5 l5 => q2 σ5 H5 c5 fp5 S5 (F3.le.trans l5)
    | rt d5 b5 => simp only [ef] at q2; exact q2
    | ex x5 g5 => simp only [ef] at q2; exact q2
    | bad => simp only [ef] at q2; exact q2
def capD (T : Nat) (ix : List Nat) (g : SS W) : SS W := ⟨List.replicate T none ++ ix.map (fun i => (g.v[i]?).join), g.b⟩
def vi (p : D -> SS W -> Option (SS W)) (t : SS W -> R W Bool) (f : SS W -> R W D) : List D -> SS W -> List D -> R W (List D)
 | [], g, acc => .ok acc g.b
 | d :: ds, g, acc => match p d g with
  | none => .bad
  | some g1 => match t g1 with
   | .ok true b => (match f ⟨g1.v, b⟩ with
    | .ok y b2 => if acc.length < big then vi p t f ds ⟨g1.v, b2⟩ (acc ++ [y]) else .bad
    | _ => .bad)
   | .ok false b => vi p t f ds ⟨g1.v, b⟩ acc
   | _ => .bad
theorem vN {p : D -> SS W -> Option (SS W)} {t : SS W -> R W Bool} {f : SS W -> R W D} {g : SS W} {acc : List D} : vi p t f [] g acc = .ok acc g.b := rfl
theorem kO {p : D -> SS W -> Option (SS W)} {t : SS W -> R W Bool} {f : SS W -> R W D} {g : SS W} {acc : List D} {d : D} {ds : List D} : vi p t f (d :: ds) g acc = match p d g with
  | none => .bad
  | some g1 => match t g1 with
   | .ok true b => (match f ⟨g1.v, b⟩ with
    | .ok y b2 => if acc.length < big then vi p t f ds ⟨g1.v, b2⟩ (acc ++ [y]) else .bad
    | _ => .bad)
   | .ok false b => vi p t f ds ⟨g1.v, b⟩ acc
   | _ => .bad := rfl
def zq (T : Nat) (ix : List Nat) (fi : SS W -> R W (List D)) (p : D -> SS W -> Option (SS W)) (t : SS W -> R W Bool) (f : SS W -> R W D) : SS W -> R W D := qG fi fun ds g => match vi p t f ds (capD T ix g) [] with
 | .ok out b => .ok (.lst out) b
 | .exc x b => .exc x b
 | .bad => .bad
def capO (T : Nat) (ix O : List Nat) : List Nat := (List.range ix.length).filterMap fun j => if ix.getD j 0 ∈ O then some (T + j) else none
theorem mem_capO {T : Nat} {ix O : List Nat} {q : Nat} : q ∈ capO T ix O ↔ ∃ j, j < ix.length /\ q = T + j /\ ix.getD j 0 ∈ O := by
 unfold capO
 rw [List.mem_filterMap]
 constructor
 ·rintro ⟨j, hj, h⟩
  split at h
  ·rename_i h2; cases h; exact ⟨j, List.mem_range.mp hj, rfl, h2⟩
  ·cases h
 ·rintro ⟨j, hj, rfl, h⟩
  exact ⟨j, List.mem_range.mpr hj, by rw [if_pos h]⟩
theorem xP {T : Nat} {ix : List Nat} {q : Nat} {d : D} (h : (capD T ix g).v[q]? = some (some d)) : ∃ j, j < ix.length /\ q = T + j /\ g.v[ix.getD j 0]? = some (some d) := by
 unfold capD at h
 have h : (List.replicate T none ++ ix.map (fun i => (g.v[i]?).join))[q]? = some (some d) := h
 by_cases hq : q < T
 ·rw [List.getElem?_append_left (by simpa using hq), List.getElem?_replicate] at h
  split at h <;> cases h
 ·rw [List.getElem?_append_right (by simpa using hq), List.length_replicate, List.getElem?_map] at h
  cases e : ix[q - T]? with
  | none => rw [e] at h; cases h
  | some i =>
   rw [e] at h
   have h : (g.v[i]?).join = some d := by simpa using h
   have hj := (List.getElem?_eq_some_iff.mp e).1
   refine ⟨q - T, hj, by omega, ?_⟩
   have : ix.getD (q - T) 0 = i := by rw [List.getD_eq_getElem?_getD, e]; rfl
   rw [this]
   exact join_some h
theorem capσ {T : List Str} {ix : List Nat} {j : Nat} {x : V} (hj : j < ix.length) (h : σ[ix.getD j 0]? = some (some x)) : (σC T ix σ)[T.length + j]? = some (some x) := by
 unfold σC
 rw [List.getElem?_append_right (by simp), List.length_map, Nat.add_sub_cancel_left, List.getElem?_map, List.getElem?_eq_getElem hj]
 have : ix.getD j 0 = ix[j] := by rw [List.getD_eq_getElem?_getD, List.getElem?_eq_getElem hj]; rfl
 rw [this] at h
 simp [h]
theorem SR.enter {T : List Str} {ix : List Nat} (nd : ix.Nodup) (S : SR W K E O g σ H c fp) : SR W K E (capO T.length ix O) (capD T.length ix g) (σC T ix σ) H c fp := by
 refine ⟨S.toSE, fun q d hq h => ?_, fun q d hq h => ?_, fun q r d e a hq hr hqr h1 h2 m1 m2 h3 h4 => ?_, ?_⟩
 ·obtain ⟨j, hj, rfl, hg⟩ := xP h
  obtain ⟨x, h1, h2⟩ := S.frz _ d (fun z => hq (mem_capO.mpr ⟨j, hj, rfl, z⟩)) hg
  exact ⟨x, capσ hj h1, h2⟩
 ·obtain ⟨j, hj, rfl, hg⟩ := xP h
  obtain ⟨j', hj', e, hO⟩ := mem_capO.mp hq
  have : j' = j := by omega
  subst this
  obtain ⟨x, h1, h2⟩ := S.own _ d hO hg
  exact ⟨x, capσ hj h1, h2⟩
 ·obtain ⟨j, hj, rfl, hg⟩ := xP h1
  obtain ⟨k, hk, rfl, hg2⟩ := xP h2
  obtain ⟨j', hj', e1, hO⟩ := mem_capO.mp hq
  obtain ⟨k', hk', e2, hO2⟩ := mem_capO.mp hr
  have : j' = j := by omega
  subst this
  have : k' = k := by omega
  subst this
  obtain ⟨x, x1, x2⟩ := S.own _ d hO hg
  obtain ⟨y, y1, y2⟩ := S.own _ e hO2 hg2
  rw [capσ hj x1] at h3
  rw [capσ hk y1] at h4
  cases h3
  cases h4
  refine S.dis _ _ d e a hO hO2 (fun z => hqr ?_) hg hg2 m1 m2 x1 y1
  rw [List.getD_eq_getElem?_getD, List.getD_eq_getElem?_getD, List.getElem?_eq_getElem hj, List.getElem?_eq_getElem hk] at z
  have z : ix[j'] = ix[k'] := z
  have z2 : ix[j']? = ix[k']? := by rw [List.getElem?_eq_getElem hj, List.getElem?_eq_getElem hk, z]
  rw [(List.getElem?_inj hj nd).mp z2]
 ·unfold capD σC
  show (List.replicate T.length none ++ ix.map _).length = _
  rw [List.length_append, List.length_append, List.length_map, List.length_map, List.length_replicate, List.length_map]
def DTs (W : Wo) (E : En) (X : Cx) (O : List Nat) (ifs : List Expr) (t : SS W -> R W Bool) : Prop := PTs X ifs fun σ H Q => ∃ g c fp, tG X E relB true O t g c fp σ H Q
def qAll : SS W -> R W Bool := eRet true
theorem Vj : DTs W E X O [] qAll := fun pins s σ H Q I ⟨g, c, fp, q⟩ => KI pins s σ H Q I (q.ret true H c fp q.1 .refl rfl)
theorem kf (h : DT W E X O e ta) : DTs W E X O [e] ta := fun pins s σ H Q I q => KH h pins s σ H Q I q
def tN {ν α : Type} (K : PySem.W.Frag) (E : En) (rel : Co -> ν -> α -> Prop) (O : List Nat) (f : SS W -> R W α) (g : SS W) (c : Co) (fp : List Addr) (σ : L2.St) (H : Hp) (Q : ν -> Hp -> Prop) : Prop :=
 SR W K E O g σ H c fp /\ match f g with
  | .ok d b => ∀ v H' c' fp', SR W K E O ⟨g.v, b⟩ σ H' c' fp' -> FR H c fp H' c' fp' -> rel c' v d -> Q v H'
  | _ => False
theorem tN.tG {ν α : Type} {rel : Co -> ν -> α -> Prop} {f : SS W -> R W α} {Q : ν -> Hp -> Prop} (h : tN X.K E rel O f g c fp σ H Q) : tG X E rel true O f g c fp σ H Q := by
 obtain ⟨S, h⟩ := h
 refine ⟨S, ?_⟩
 cases e : f g with
 | bad => rw [e] at h; exact h
 | exc x b => rw [e] at h; exact h.elim
 | ok d b => rw [e] at h; exact h
def Ent (E : En) (z : Addr) : En := ⟨upd E.H z (.tbl #[]), E.c, E.fp⟩
theorem ZE {z : Addr} (he : E.H z = none) : Hn (Ent E z).H (Ent E z).fp = Hn E.H E.fp := by
 funext a
 unfold Hn Ent
 show (if a ∈ E.fp then none else noTb (upd E.H z (.tbl #[]) a)) = _
 by_cases h : a = z
 ·subst h
  rw [qv, he]
  rfl
 ·rw [qu h]
theorem SR.into {z : Addr} (S : SR W K E O g σ H c fp) (hz : H z = none) {u : HO} : SR W K (Ent E z) O g σ (upd H z u) c fp := by
 have S' := S.newO hz (u := u)
 have he := S.toSE.freeE hz
 refine ⟨⟨S'.core, S'.br, S'.tab, S'.fph, S'.fr0.le, by rw [ZE he]; exact S'.fr0.nn, fun a ha hc => S'.fr0.out a (by rw [<- ZE he]; exact ha) hc, fun a ha => ?_⟩, S'.frz, fun j e hj hq => ?_, S'.dis, S'.len⟩
 ·have na : a ≠ z := fun q => by subst q; rw [qv] at ha; cases ha
  show upd E.H z (.tbl #[]) a = none
  rw [qu na]
  exact S'.fr0.th a ha
 ·obtain ⟨y, h1, h2⟩ := S.own j e hj hq
  refine ⟨y, h1, ?_⟩
  have ne : ∀ a, H a ≠ none -> a ≠ z := fun a h q => h (q ▸ hz)
  have ee : ∀ a, a ≠ z -> E.H a = none -> (Ent E z).H a = none := fun a n q => (qu n).trans q
  cases e with
  | lst ds => obtain ⟨a, xs, e1, e2, e3, e4, e5, e6⟩ := h2; have n := ne a (by rw [e5]; simp); exact ⟨a, xs, e1, e2, e3, ee a n e4, (qu n).trans e5, e6⟩
  | dic ds => obtain ⟨a, xs, e1, e2, e3, e4, e5, e6⟩ := h2; have n := ne a (by rw [e5]; simp); exact ⟨a, xs, e1, e2, e3, ee a n e4, (qu n).trans e5, e6⟩
  | dit ds => obtain ⟨a, xs, e1, e2, e3, e4, e5, e6⟩ := h2; have n := ne a (by rw [e5]; simp); exact ⟨a, xs, e1, e2, e3, ee a n e4, (qu n).trans e5, e6⟩
  | non => exact h2
  | bl _ => exact h2
  | int _ => exact h2
  | str _ => exact h2
  | tup _ => exact h2
  | obj _ => exact h2
  | scr _ => exact h2
abbrev gDA (W : Wo) (K : PySem.W.Frag) (O : List Nat) (p : D -> SS W -> Option (SS W)) (O' : List Nat) : TG := fun v σ H Q => ∃ E, gD W K E O p O' v σ H Q
abbrev tNA (K : PySem.W.Frag) (O : List Nat) (t : SS W -> R W Bool) : TT := fun σ H Q => ∃ E g c fp, tN K E relB O t g c fp σ H Q
abbrev tNE (K : PySem.W.Frag) (O : List Nat) (f : SS W -> R W D) : TE := fun σ H Q => ∃ E g c fp, tN K E (Rep K) O f g c fp σ H Q
structure WalkC (K : PySem.W.Frag) (J : It) (H : Hp) (c : Co) (fp : List Addr) (ds : List D) : Prop where
 go : ∀ i H1 c1 fp1, FR H c fp H1 c1 fp1 -> Same c1.h H1 -> i < ds.length -> J.go i H1 /\ ∀ x H2, J.yld i H1 x H2 -> ∃ d, ds[i]? = some d /\ ((H2 = H1 /\ Rep K c1 x d) \/ ∃ p u, H1 p = none /\ isT u = false /\ H2 = upd H1 p u /\ Rep K (c1.add p u) x d)
 stop : ∀ i H1 c1 fp1, FR H c fp H1 c1 fp1 -> Same c1.h H1 -> ds.length <= i -> J.stop i H1
theorem Walk.toC {J : It} {ds : List D} (w : Walk K J c ds) : WalkC K J H c fp ds := ⟨fun i H1 c1 fp1 f s hi => w.go i H1 c1 f.le s hi, fun i H1 c1 fp1 f s hi => w.stop i H1 c1 f.le s hi⟩
def tIC (X : Cx) (E : En) (O : List Nat) (f : SS W -> R W (List D)) (g : SS W) (c : Co) (fp : List Addr) (σ : L2.St) (H : Hp) (Rr : It -> Hp -> Prop) : Prop :=
 SR W X.K E O g σ H c fp /\ match f g with
  | .ok ds b => ∀ J H' c' fp', SR W X.K E O ⟨g.v, b⟩ σ H' c' fp' -> FR H c fp H' c' fp' -> WalkC X.K J H' c' fp' ds -> Rr J H'
  | .exc x b => ∀ ev s' H' c' fp', Inv X [] σ H' s' -> SR W X.K E O ⟨g.v, b⟩ σ H' c' fp' -> FR H c fp H' c' fp' -> W.EX x ev s' H' c' -> X.xe ev s'
  | .bad => False
theorem tIC.toI {f : SS W -> R W (List D)} {Rr : It -> Hp -> Prop} (q : tIC X E O f g c fp σ H Rr) : tI X E O f g c fp σ H Rr := by
 obtain ⟨S, q⟩ := q
 refine ⟨S, ?_⟩
 cases e : f g with
 | bad => rw [e] at q; exact q
 | exc x b => rw [e] at q; exact q
 | ok ds b => rw [e] at q; exact fun J H' c' fp' S' F' w => q J H' c' fp' S' F' w.toC
def DIC (W : Wo) (E : En) (X : Cx) (O : List Nat) (tg iter : Expr) (f : SS W -> R W (List D)) : Prop := PI X tg iter fun σ H Rr => ∃ g c fp, tIC X E O f g c fp σ H Rr
theorem DI.toC {tg iter : Expr} {f : SS W -> R W (List D)} (h : DI W E X O tg iter f) : DIC W E X O tg iter f := j8 h fun σ H Rr ⟨g, c, fp, q⟩ => ⟨g, c, fp, q.toI⟩
def X1 : D -> Option (List D) | .lst ds => some ds | _ => none
def iLst (f : SS W -> R W D) : SS W -> R W (List D) := qG f fun d => eOpt (X1 d)
theorem Vm {tg : Expr} {i : Nat} (h : PE X e (tVar i)) (hi : i ∈ O) : DIC W E X O tg e (iLst (eVar i)) := j8 (vB h) fun σ H Rr ⟨g, c, fp, S, q⟩ => by
 unfold iLst qG eVar eOpt at q
 cases ev : (g.v[i]?).join with
 | none => rw [ev] at q; exact q.elim
 | some d =>
  rw [ev] at q
  obtain ⟨x, hx, ow⟩ := S.own i d hi (join_some ev)
  cases d with
  | lst ds =>
   obtain ⟨a, xs, rfl, hc, hf, he, hh, rs⟩ := ow
   have hn : Hn H fp a = some (.lst xs) := Hn.mk hh hf rfl
   refine ⟨.ref a, hx, a, rfl, ⟨xs, SqL.of hh⟩, q (Itl X.K a) H c fp S .refl ⟨fun j H1 c1 fp1 f s hj => ?_, fun j H1 c1 fp1 f s hj => ⟨xs, SqL.of (Hn.of (f.nn _ _ hn)).1, by rw [rs.l]; exact hj⟩⟩⟩
   have hx' : j < xs.length := by rw [rs.l]; exact hj
   have sq : SqL X.K H1 a xs := SqL.of (Hn.of (f.nn _ _ hn)).1
   refine ⟨⟨xs, xs[j], sq, List.getElem?_eq_getElem hx'⟩, fun x H2 ⟨eH, y⟩ => ⟨ds[j], List.getElem?_eq_getElem hj, .inl ⟨eH, ?_⟩⟩⟩
   exact (rs.mono f.le).r j x _ (y xs sq) (List.getElem?_eq_getElem hj)
  | _ => exact q.elim
theorem yV {T : List Str} {ix : List Nat} {fi : SS W -> R W (List D)} {p : D -> SS W -> Option (SS W)} {t : SS W -> R W Bool} {f : SS W -> R W D} {Q : VK} (nd : ix.Nodup) (kp : kQ p) (hsub : ∀ i ∈ capO T.length ix O, i ∈ O1) (hsup : ∀ i ∈ O1, i ∈ capO T.length ix O)
  (q : tO X E O (zq T.length ix fi p t f) g c fp σ H Q) : Qt (fun σ H Rr => tIC X E O fi g c fp σ H Rr) (gDA W X.K (capO T.length ix O) p O1) (tNA X.K O1 t) (tNE X.K O1 f) T ix σ H Q := by
 obtain ⟨S, q⟩ := q
 unfold zq qG at q
 refine ⟨S, ?_⟩
 cases ei : fi g with
 | bad => rw [ei] at q; exact q
 | exc x b => rw [ei] at q; exact q
 | ok ds b =>
  rw [ei] at q
  intro J H1 c1 fp1 S1 F1 w z nz
  have hz : c1.h z = none /\ z ∉ fp1 := S1.toSE.free nz
  have ez : E.H z = none := S1.toSE.freeE nz
  have nH : H z = none := F1.th z nz
  have ez1 : Hn (Ent E z).H (Ent E z).fp z = none := by rw [ZE ez]; exact jI ez
  have ez2 : (Ent E z).H z ≠ none := by show upd E.H z (.tbl #[]) z ≠ none; rw [qv]; simp
  have q : match (match vi p t f ds (capD T.length ix ⟨g.v, b⟩) [] with
    | .ok out b => R.ok (D.lst out) b
    | .exc x b => .exc x b
    | .bad => .bad) with
   | .ok d b => ∀ v H' c' fp', SR W X.K E O ⟨g.v, b⟩ σ H' c' fp' -> FR H c fp H' c' fp' -> OwnV X.K E H' c' fp' v d -> NewV H v d -> Q v H'
   | .exc x b => ∀ ev s' H' c' fp', Inv X [] σ H' s' -> SR W X.K E O ⟨g.v, b⟩ σ H' c' fp' -> FR H c fp H' c' fp' -> W.EX x ev s' H' c' -> X.xe ev s'
   | .bad => False := q
  refine ⟨fun i mm σ2 xs H2 => mm = ds.length - i /\ i <= ds.length /\ ∃ g2 c2 fp2 acc, SR W X.K (Ent E z) (capO T.length ix O) g2 σ2 H2 c2 fp2 /\ FR H1 c1 fp1 H2 c2 fp2 /\ H2 z = some (.lst xs) /\ c2.h z = none /\ z ∉ fp2 /\ Reps X.K c2 xs acc /\ acc.length <= big /\ vi p t f ds (capD T.length ix ⟨g.v, b⟩) [] = vi p t f (ds.drop i) g2 acc,
   ⟨ds.length, by simp, Nat.zero_le _, _, c1, fp1, [], (S1.into nz).enter nd, FR.newO nz _, qv, hz.1, hz.2, .nil, Nat.zero_le _, by rw [List.drop_zero]⟩, ?_⟩
  rintro i mm σ2 xs H2 ⟨rfl, hi', g2, c2, fp2, acc, S2, F2, h2D, hc2, hf2, rs, hacc, eq⟩
  refine ⟨h2D, by rw [rs.l]; exact Nat.lt_of_le_of_lt hacc (by decide), ?_⟩
  by_cases hlt : i < ds.length
  ·right
   obtain ⟨go, yl⟩ := w.go i H2 c2 fp2 F2 (S2.toSE.all (m := true)) hlt
   refine ⟨go, fun x H3 y => ?_⟩
   obtain ⟨d, hd, yy⟩ := yl x H3 y
   obtain ⟨c3, S3, r3, le3, F3⟩ := S2.yield yy
   have ed : ds.drop i = d :: ds.drop (i + 1) := by
    obtain ⟨h1, h2⟩ := List.getElem?_eq_some_iff.mp hd
    rw [<- h2]
    exact List.drop_eq_getElem_cons h1
   have kD : ∀ {Ha Hb : Hp} {ca cb : Co} {fa fb : List Addr}, FR Ha ca fa Hb cb fb -> Ha z = some (.lst xs) -> ca.h z = none -> z ∉ fa -> Hb z = some (.lst xs) /\ cb.h z = none /\ z ∉ fb := fun F h1 h2 h3 => by
    have hn := Hn.mk h1 h3 rfl
    obtain ⟨z1, z2, _⟩ := Hn.of (F.nn _ _ hn)
    exact ⟨z1, F.out z (by rw [hn]; simp) h2, z2⟩
   obtain ⟨h3D, hc3, hf3⟩ := kD F3 h2D hc2 hf2
   rw [ed, kO] at eq
   cases ep : p d g2 with
   | none => simp only [ep] at eq; rw [eq] at q; exact q.elim
   | some g3 =>
    simp only [ep] at eq
    refine ⟨Ent E z, g2, c3, fp2, d, g3, S3, r3, ep, kp _ _ _ ep, fun σ4 S4 => ?_⟩
    refine ⟨Ent E z, g3, c3, fp2, S4, ?_⟩
    cases et : t g3 with
    | bad => simp only [et] at eq; rw [eq] at q; exact q.elim
    | exc x5 b5 => simp only [et] at eq; rw [eq] at q; exact q.elim
    | ok k b5 =>
     intro v H5 c5 fp5 S5 F5 rv
     have rv : v = k := rv
     subst rv
     obtain ⟨h5D, hc5, hf5⟩ := kD F5 h3D hc3 hf3
     have F15 : FR H1 c1 fp1 H5 c5 fp5 := F2.trans (F3.trans F5)
     cases v with
     | false =>
      simp only [et] at eq
      show if false = true then _ else _
      rw [if_neg (by decide)]
      exact ⟨_, by omega, rfl, hlt, ⟨g3.v, b5⟩, c5, fp5, acc, S5.congr fun i => ⟨hsup i, hsub i⟩, F15, h5D, hc5, hf5, rs.mono (F3.le.trans F5.le), hacc, eq⟩
     | true =>
      simp only [et] at eq
      show if true = true then _ else _
      rw [if_pos rfl]
      refine ⟨Ent E z, _, c5, fp5, S5, ?_⟩
      cases ef : f ⟨g3.v, b5⟩ with
      | bad => simp only [ef] at eq; rw [eq] at q; exact q.elim
      | exc x6 b6 => simp only [ef] at eq; rw [eq] at q; exact q.elim
      | ok y6 b6 =>
       simp only [ef] at eq
       intro vy H6 c6 fp6 S6 F6 r6
       obtain ⟨h6D, hc6, hf6⟩ := kD F6 h5D hc5 hf5
       by_cases hb : acc.length < big
       ·rw [if_pos hb] at eq
        refine ⟨h6D, _, by omega, rfl, hlt, ⟨g3.v, b6⟩, c6, fp6, acc ++ [y6], (S6.mutT h6D rfl hc6 hf6 ez1 ez2).congr fun i => ⟨hsup i, hsub i⟩, ?_, qv, hc6, hf6, (rs.mono ((F3.le.trans F5.le).trans F6.le)).append (.cons r6 .nil), by rw [List.length_append, List.length_singleton]; exact hb, eq⟩
        have F16 := F15.trans F6
        refine ⟨F16.le, fun a u e => ?_, F16.out, fun a e => F16.th a ?_⟩
        ·obtain ⟨h1, h2, h3⟩ := Hn.of (F16.nn _ _ e)
         exact Hn.mk ((qu fun qq => by subst qq; rw [jI nz] at e; cases e).trans h1) h2 h3
        ·by_cases qq : a = z
         ·subst qq; rw [qv] at e; cases e
         ·rw [qu qq] at e; exact e
       ·rw [if_neg hb] at eq; rw [eq] at q; exact q.elim
  ·left
   have e : i = ds.length := by omega
   subst e
   rw [List.drop_length, vN] at eq
   rw [eq] at q
   have SE2 : SE W E g2.b H2 c2 fp2 := ⟨S2.core, S2.br, S2.tab, S2.fph, S1.fr0.trans F2⟩
   refine ⟨w.stop _ H2 c2 fp2 F2 (S2.toSE.all (m := true)) (Nat.le_refl _), q (.ref z) H2 c2 fp2 (S1.step F2 SE2) (F1.trans F2) ⟨z, xs, rfl, hc2, hf2, ez, h2D, rs⟩ fun _ a ea => by cases ea; exact nH⟩
theorem ZQ {T : List Str} {ix : List Nat} {fi : SS W -> R W (List D)} {p : D -> SS W -> Option (SS W)} {t : SS W -> R W Bool} {f : SS W -> R W D} {Q : VK} (nd : ix.Nodup) (kp : kQ p) (hsub : ∀ i ∈ capO T.length ix O, i ∈ O1) (hsup : ∀ i ∈ O1, i ∈ capO T.length ix O)
  (q : tO X E O (zq T.length ix fi p t f) g c fp σ H Q) : Qt (fun σ H Rr => ∃ g c fp, tIC X E O fi g c fp σ H Rr) (gDA W X.K (capO T.length ix O) p O1) (tNA X.K O1 t) (tNE X.K O1 f) T ix σ H Q := ⟨g, c, fp, yV nd kp hsub hsup q⟩
section
variable {elt tg iter : Expr} {ifs : List Expr} {scope : Scope} {cl : List (Str × Addr)} {T caps : List Str} {ix : List Nat} {fi : SS W -> R W (List D)} {p : D -> SS W -> Option (SS W)} {t : SS W -> R W Bool} {f : SS W -> R W D}
theorem Vp (hg : ∀ E C s H fp, DG W E (qQ X scope cl (T ++ caps) C s H fp) (capO T.length ix O) tg p O1) : ∀ C s H fp, PG (qQ X scope cl (T ++ caps) C s H fp) tg (gDA W X.K (capO T.length ix O) p O1) := fun C s H fp pins s' σ H' v u Q I r ⟨E, q⟩ => hg E C s H fp pins s' σ H' v u Q I r q
theorem Vo (ht : ∀ E C s H fp, DTs W E (qQ X scope cl (T ++ caps) C s H fp) O1 ifs t) : ∀ C s H fp, PTs (qQ X scope cl (T ++ caps) C s H fp) ifs (tNA X.K O1 t) := fun C s H fp pins s' σ H' Q I ⟨E, g, c, fp', q⟩ => ht E C s H fp pins s' σ H' Q I ⟨g, c, fp', tN.tG (X := qQ X scope cl (T ++ caps) C s H fp) q⟩
theorem Vq (he : ∀ E C s H fp, DE W E true (qQ X scope cl (T ++ caps) C s H fp) O1 elt f) : ∀ C s H fp, PE (qQ X scope cl (T ++ caps) C s H fp) elt (tNE X.K O1 f) := fun C s H fp pins s' σ H' Q I ⟨E, g, c, fp', q⟩ => he E C s H fp pins s' σ H' Q I ⟨g, c, fp', tN.tG (X := qQ X scope cl (T ++ caps) C s H fp) q⟩
theorem yi (Ok : CompOk X scope cl T caps ix) (hc : X.calm = true) (nd : ix.Nodup) (kp : kQ p) (hi : DIC W E X O tg iter fi) (hg : ∀ E C s H fp, DG W E (qQ X scope cl (T ++ caps) C s H fp) (capO T.length ix O) tg p O1) (hsub : ∀ i ∈ capO T.length ix O, i ∈ O1) (hsup : ∀ i ∈ O1, i ∈ capO T.length ix O)
  (ht : ∀ E C s H fp, DTs W E (qQ X scope cl (T ++ caps) C s H fp) O1 ifs t) (he : ∀ E C s H fp, DE W E true (qQ X scope cl (T ++ caps) C s H fp) O1 elt f) (hs : ∀ x, foldedSetIterable iter X.env x = pure x := by intro _; rfl) :
  DO W E X O (.ListComp elt [⟨tg, iter, ifs, 0⟩] scope pos) (zq T.length ix fi p t f) := zg (KQ Ok hc hi (Vp hg) (Vo ht) (Vq he) hs) fun σ H Q ⟨g, c, fp, q⟩ => ZQ nd kp hsub hsup q
theorem vm {i : Nat} {y : Str} {spos py : Pos} (hN : X.N.Nodup) (hi' : X.N[i]? = some y) (hx : Loc X.env.scope y) (Ok : CompOk X scope cl T caps ix) (hc : X.calm = true) (nd : ix.Nodup) (kp : kQ p) (hi : DIC W E X O tg iter fi) (hg : ∀ E C s H fp, DG W E (qQ X scope cl (T ++ caps) C s H fp) (capO T.length ix O) tg p O1) (hsub : ∀ i ∈ capO T.length ix O, i ∈ O1) (hsup : ∀ i ∈ O1, i ∈ capO T.length ix O)
  (ht : ∀ E C s H fp, DTs W E (qQ X scope cl (T ++ caps) C s H fp) O1 ifs t) (he : ∀ E C s H fp, DE W E true (qQ X scope cl (T ++ caps) C s H fp) O1 elt f) (hs : ∀ x, foldedSetIterable iter X.env x = pure x := by intro _; rfl)
  (hsw : swapsWith (.ListComp elt [⟨tg, iter, ifs, 0⟩] scope pos) (some (.Name y py)) spos.line X.env = pure true := by rfl) (hf : X.fn y = true \/ X.env.scope.names.lookup y = some .local := by first | exact .inl rfl | exact .inr rfl | assumption) :
  DS W E fr OL X O (.Assign [.Name y py] (.ListComp elt [⟨tg, iter, ifs, 0⟩] scope pos) spos) (sSet i (zq T.length ix fi p t f)) (i :: O) := zK (QM hN hi' hx Ok hc hi (Vp hg) (Vo ht) (Vq he) hs hsw hf) fun D σ H ⟨g, c, fp, q⟩ => ZQ nd kp hsub hsup (q.bindO fun d b v H1 c1 fp1 F1 o1 nw q1 => q1.2 _ _ c1 fp1 (q1.1.setO o1 fun j e y hj hg hm hy hd => by
   rintro rfl
   obtain ⟨z, hz, ow⟩ := q.1.own j e hj hg
   cases hy.symm.trans hz
   obtain ⟨a, u, rfl, _⟩ := v8 o1 hd
   exact wU ow hm rfl (nw hd a rfl)) (.refl _))
end
end
section
variable {prog : Program} {w : World} {A : Around} {R : Result -> Shared -> Prop} {it : Addr} {fs ws : List Addr} {n : Nat} {Pv : Nat -> Value -> Prop} {St : Nat -> Heap -> Prop}
theorem Zk (Wk : Walks prog w A.in1 it fs ws n Pv St) (G : Shared -> Prop) (z : Addr) (hz : z ∉ fs) (kG : ∀ (t : Shared) (h2 : Heap) (tk : Nat), G t -> (∀ q o, q ∉ ws -> q ≠ z -> t.heap.get? q = some o -> h2.get? q = some o) -> G { t with heap := h2, toks := tk }) (bt : Nat -> Nat -> Bool)
  (cmp : ∀ i j u v (t : Shared) (Q : Value -> Shared -> Prop) (E : Value -> Shared -> Prop), Pv i u -> Pv j v -> G t -> Q (.bool (bt i j)) t -> wpAny (model prog w) A.in1 (richCompare .Lt u v) Q E t) (pos : 0 < n) :
  ∀ (left j : Nat) (s : Shared) (its : Array Value) (ep : Nat), j + left = n -> St j s.heap -> G s -> ((j = 0 /\ its = #[]) \/ ∃ u, 0 < j /\ Pv (argBest bt (j - 1)) u /\ its = #[u, u]) -> s.heap.get? z = some { cls := .type "list", dict := none, data := .seq its ep, slots := #[] } ->
  (∀ v h2 tk, Pv (argBest bt (n - 1)) v -> G { s with heap := h2, toks := tk } -> (∀ q o, q ∉ ws -> q ≠ z -> s.heap.get? q = some o -> h2.get? q = some o) -> R (.ok (.ret v)) { s with heap := h2, toks := tk }) -> codeAny (model prog w) A (.builtin "min.loop" ⟨[.ref it, .none, .ref z], []⟩) R s := by
 have zw : z ∉ ws := fun q => hz (Wk.sub _ q)
 have nm : (toString "min" ++ toString ".loop" : String) = "min.loop" := by decide
 intro left
 induction left with
 | zero =>
  intro j s its ep hj st hG hb hS fin
  obtain rfl : j = n := by omega
  rcases hb with ⟨e, _⟩ | ⟨u, _, hu, rfl⟩
  ·omega
  refine codeAny_builtin F.entry_min_loop ?_
  rw [Around.under_plainId F.plain_min_loop _]
  show wpAny _ A.in1 (seqItems? (.ref z) >>= _) _ _ s
  refine wpAny_bind (wpAny_seqItems hS rfl ?_)
  show wpAny _ A.in1 (tryCatch (pyNext (.ref it)) _ >>= _) _ _ s
  refine wpAny_bind (wpAny_tryCatch (Wk.done s _ _ st fun h1 tk k1 => ?_))
  have hS1 := k1 z _ zw hS
  show wpAny _ A.in1 (updateSeq z (fun _ => #[]) >>= _) _ _ _
  refine wpAny_bind (wpAny_updateSeq hS1 rfl (wpAny_bind (wpAny_letGo (wpAny_pure ?_))))
  have keep : ∀ q o, q ∉ ws -> q ≠ z -> s.heap.get? q = some o -> (h1.update z (Obj.mapSeq fun _ => #[])).get? q = some o := fun q o a1 a2 e => (Heap.get?_update_other _ _ (Ne.symm a2)).trans (k1 q o a1 e)
  exact fin u _ tk hu (kG _ _ _ hG keep) keep
 | succ left ih =>
  intro j s its ep hj st hG hb hS fin
  refine codeAny_builtin F.entry_min_loop ?_
  rw [Around.under_plainId F.plain_min_loop _]
  show wpAny _ A.in1 (seqItems? (.ref z) >>= _) _ _ s
  refine wpAny_bind (wpAny_seqItems hS rfl ?_)
  have go : ∀ v h1 tk, Pv j v -> St (j + 1) h1 -> (∀ q o, q ∉ ws -> s.heap.get? q = some o -> h1.get? q = some o) -> ∀ (its2 : Array Value) (ep2 : Nat) (h2 : Heap), (∀ q o, q ≠ z -> h1.get? q = some o -> h2.get? q = some o) -> h2.get? z = some { cls := .type "list", dict := none, data := .seq its2 ep2, slots := #[] } ->
    (∃ u, Pv (argBest bt j) u /\ its2 = #[u, u]) -> codeAny (model prog w) A (.builtin "min.loop" ⟨[.ref it, .none, .ref z], []⟩) R { s with heap := h2, toks := tk } := fun v h1 tk hP st1 k1 its2 ep2 h2 k2 hS2 ⟨u, hu, e2⟩ => by
   have keep : ∀ q o, q ∉ ws -> q ≠ z -> s.heap.get? q = some o -> h2.get? q = some o := fun q o a1 a2 e => k2 q o a2 (k1 q o a1 e)
   refine ih (j + 1) _ its2 ep2 (by omega) (Wk.frame _ _ _ st1 fun q hq o e => k2 q o (fun y => hz (y ▸ hq)) e) (kG _ _ _ hG keep) (.inr ⟨u, by omega, hu, e2⟩) hS2 fun v' h3 tk' hP' G3 k3 => ?_
   exact fin v' h3 tk' hP' G3 fun q o a1 a2 e => k3 q o a1 a2 (keep q o a1 a2 e)
  rcases hb with ⟨rfl, rfl⟩ | ⟨u, j0, hu, rfl⟩
  ·show wpAny _ A.in1 (tryCatch (pyNext (.ref it)) _ >>= _) _ _ s
   refine wpAny_bind (wpAny_tryCatch (Wk.item 0 s _ _ pos st fun v h1 tk hP st1 k1 => ?_))
   have hS1 := k1 z _ zw hS
   show wpAny _ A.in1 (updateSeq z (fun _ => #[v, v]) >>= _) _ _ _
   refine wpAny_bind (wpAny_updateSeq hS1 rfl ?_)
   rw [nm]
   exact wpAny_pure ⟨plainId_quiet F.plain_min_loop _, go v h1 tk hP st1 k1 _ _ _ (fun q o a2 e => (Heap.get?_update_other _ _ (Ne.symm a2)).trans e) (Heap.get?_update_self _ hS1 rfl) ⟨v, hP, rfl⟩⟩
  ·show wpAny _ A.in1 (tryCatch (pyNext (.ref it)) _ >>= _) _ _ s
   refine wpAny_bind (wpAny_tryCatch (Wk.item j s _ _ (by omega) st fun v h1 tk hP st1 k1 => ?_))
   have hS1 := k1 z _ zw hS
   have G1 : G { s with heap := h1, toks := tk } := kG _ _ _ hG fun q o a1 _ e => k1 q o a1 e
   show wpAny _ A.in1 (tryCatch (holding [v, v] (richCompare .Lt v u >>= _)) _ >>= _) _ _ _
   refine wpAny_bind (wpAny_tryCatch (wpAny_holding (wpAny_bind (cmp j (argBest bt (j - 1)) v u _ _ _ hP hu G1 ?_))))
   refine wpAny_bind (wpAny_holding (wpAny_truthy_bool (wpAny_bind (wpAny_letGo (wpAny_pure ?_)))))
   have eb : argBest bt j = if bt j (argBest bt (j - 1)) = true then j else argBest bt (j - 1) := by
    obtain ⟨i, rfl⟩ : ∃ i, j = i + 1 := ⟨j - 1, by omega⟩
    rfl
   cases hbt : bt j (argBest bt (j - 1)) with
   | true =>
    rw [hbt, if_pos rfl] at eb
    simp only [if_true]
    refine wpAny_bind (wpAny_updateSeq hS1 rfl (wpAny_bind (wpAny_letGo ?_)))
    rw [nm]
    exact wpAny_pure ⟨plainId_quiet F.plain_min_loop _, go v h1 tk hP st1 k1 _ _ _ (fun q o a2 e => (Heap.get?_update_other _ _ (Ne.symm a2)).trans e) (Heap.get?_update_self _ hS1 rfl) ⟨v, by rw [eb]; exact hP, rfl⟩⟩
   | false =>
    rw [hbt, if_neg (by decide)] at eb
    simp only [Bool.false_eq_true, if_false]
    refine wpAny_bind (wpAny_letGo ?_)
    rw [nm]
    exact wpAny_pure ⟨plainId_quiet F.plain_min_loop _, go v h1 tk hP st1 k1 _ _ h1 (fun q o _ e => e) hS1 ⟨u, by rw [eb]; exact hu, rfl⟩⟩
end
def xR (g : Bool) (ds : List D) : Nat -> Option Nat
 | 0 => some 0
 | k + 1 => match xR g ds k with
  | none => none
  | some j => match ds[k + 1]?, ds[j]? with
   | some d, some e => (match ordN g deep d e with | some true => some (k + 1) | some false => some j | none => none)
   | _, _ => none
def minD (g : Bool) (ds : List D) : Option D := if ds.isEmpty = true then none else (xR g ds (ds.length - 1)).bind fun j => ds[j]?
def btD (g : Bool) (ds : List D) (i j : Nat) : Bool := match ds[i]?, ds[j]? with
 | some d, some e => (match ordN g deep d e with | some true => true | _ => false)
 | _, _ => false
theorem Vs {g : Bool} {ds : List D} {i j : Nat} {d e : D} {b : Bool} (h1 : ds[i]? = some d) (h2 : ds[j]? = some e) (h : ordN g deep d e = some b) : btD g ds i j = b := by
 unfold btD
 rw [h1, h2]
 simp only [h]
 cases b <;> rfl
theorem Qj {prog : Program} {w : World} {A : Around} {E : Value -> Shared -> Prop} {s : Shared} {l : Addr} {its : Array Value} {Q : Value -> Shared -> Prop} (hl : s.heap.IsList l its)
  (h : ∀ t : Shared, t = { s with heap := s.heap.push { cls := .type "list_iterator", data := .fields #[.ref l, .int 0 0] } } -> (t.heap.IsListIter s.heap.objs.size l 0 /\ t.heap.IsList l its) -> (∀ q ∈ [s.heap.objs.size, l], q < t.heap.objs.size) -> l ≠ s.heap.objs.size -> Q (.ref s.heap.objs.size) t) :
  wpAny (model prog w) A (pyIter (.ref l)) Q E s := by
 have lt : l < s.heap.objs.size := by obtain ⟨_, e, _⟩ := hl; exact Heap.lt_size e
 refine wpAny_pyIter_list hl (h _ rfl ⟨⟨_, Heap.get?_push_size _ rfl, rfl, rfl⟩, hl.push _⟩ (fun q hq => ?_) (Nat.ne_of_lt lt))
 have sz : (s.heap.push { cls := .type "list_iterator", data := .fields #[.ref l, .int 0 0] }).objs.size = s.heap.objs.size + 1 := Heap.size_push ..
 show q < (s.heap.push _).objs.size
 rw [sz]
 simp only [List.mem_cons, List.not_mem_nil, or_false] at hq
 rcases hq with rfl | rfl
 ·exact Nat.lt_succ_self _
 ·exact Nat.lt_succ_of_lt lt
theorem yY {g : Bool} {ds : List D} : ∀ {k j : Nat}, xR g ds k = some j -> argBest (btD g ds) k = j
 | 0, j, h => by cases h; rfl
 | k + 1, j, h => by
  unfold xR at h
  cases e1 : xR g ds k with
  | none => simp only [e1] at h; cases h
  | some i =>
   simp only [e1] at h
   have ih := yY e1
   cases e2 : ds[k + 1]? with
   | none => simp only [e2] at h; cases h
   | some d =>
    cases e3 : ds[i]? with
    | none => simp only [e2, e3] at h; cases h
    | some e =>
     simp only [e2, e3] at h
     show (if btD g ds (k + 1) (argBest (btD g ds) k) = true then k + 1 else argBest (btD g ds) k) = j
     rw [ih]
     cases e4 : ordN g deep d e with
     | none => simp only [e4] at h; cases h
     | some q =>
      cases q with
      | true =>
       simp only [e4] at h
       cases h
       rw [Vs e2 e3 e4, if_pos rfl]
      | false =>
       simp only [e4] at h
       cases h
       rw [Vs e2 e3 e4, if_neg (by decide)]
section
variable {W : Wo} {K : PySem.W.Frag} {X : Cx} {E : En} {O : List Nat} {g : SS W} {σ : L2.St} {H : Hp} {c : Co} {fp : List Addr} {m : Bool} {pos : Pos} {e : Expr} {es : List Expr} {fs : SS W -> R W (List D)}
theorem ZR (hcm : X.calm = true) (hu : X.A.units + 40 < cLine) : CallR X (.builtin "min") (fun vs H Q => ∃ c a xs ds d, vs = [.ref a] /\ Same c.h H /\ SqL X.K H a xs /\ Reps X.K c xs ds /\ minD true ds = some d /\ (∀ d ∈ ds, ∀ e ∈ ds, ∃ b, ordN true deep d e = some b) /\ ∀ v, Rep X.K c v d -> Q v H) := by
 rintro pins s σ H vs us Q I r ⟨c, a, xs, ds, d, rfl, hs, sq, rs, hmin, hall, q⟩
 obtain ⟨u, rfl, ru⟩ := vals1 r
 cases (show u = Value.ref a from ru)
 obtain ⟨its, vr, pl, hz⟩ := I.list sq
 have lds : its.toArray.size = ds.length := by rw [List.size_toArray, <- vr.length, rs.l]
 unfold minD at hmin
 split at hmin
 ·cases hmin
 rename_i hne
 cases hb : xR true ds (ds.length - 1) with
 | none => rw [hb] at hmin; cases hmin
 | some j =>
 rw [hb] at hmin
 have hmin : ds[j]? = some d := hmin
 have pos : 0 < ds.length := by
  cases ds with
  | nil => exact absurd rfl hne
  | cons => simp
 have bt : argBest (btD true ds) (its.toArray.size - 1) = j := by rw [lds]; exact yY hb
 refine call_function_tree F.kind_min F.plain_min F.entry_min (F.args_min1 _) ?_
 show wpAny _ X.A.in1 (Builtin.Builtins.bindParams "min" ["key", "default"] 0 ⟨[], []⟩ >>= _) _ _ s
 refine wpAny_bind (wpAny_of_eq (show Builtin.Builtins.bindParams "min" ["key", "default"] 0 ⟨[], []⟩ = pure [none, none] from rfl) (wpAny_bind (wpAny_pure (wpAny_bind ?_))))
 refine Qj pl.isList fun s2 e2 st hfp hlI => ?_
 subst e2
 refine wpAny_bind (wpAny_newObj_type ?_)
 have nm : (toString "min" ++ toString ".loop" : String) = "min.loop" := by decide
 rw [nm]
 have Wk := Walks.list (prog := X.prog) (w := X.w) (A := X.A.in1) (by exact I.ok.hd hcm) s.heap.objs.size a hlI its.toArray
 have old : ∀ b o, s.heap.get? b = some o -> b < s.heap.objs.size := fun b o e => Heap.lt_size e
 have kGs : ∀ (t : Shared) (h2 : Heap) (tk : Nat), (∃ h tk, t = { s with heap := h, toks := tk } /\ ∀ b o, s.heap.get? b = some o -> h.get? b = some o) -> (∀ q o, q ∉ [s.heap.objs.size] -> q ≠ (s.heap.push { cls := .type "list_iterator", data := .fields #[.ref a, .int 0 0] }).objs.size -> t.heap.get? q = some o -> h2.get? q = some o) -> ∃ h tk', ({ t with heap := h2, toks := tk } : Shared) = { s with heap := h, toks := tk' } /\ ∀ b o, s.heap.get? b = some o -> h.get? b = some o := by
  rintro t h2 tk ⟨h1, tk1, rfl, k1⟩ k2
  refine ⟨h2, tk, rfl, fun b o e => k2 b o (fun z => ?_) (fun z => ?_) (k1 b o e)⟩
  ·have := old b o e
   rw [List.mem_singleton.mp z] at this
   exact Nat.lt_irrefl _ this
  ·have := old b o e
   rw [z, Heap.size_push] at this
   exact Nat.lt_irrefl _ (Nat.lt_trans this (Nat.lt_succ_self _))
 refine wpAny_pure ⟨plainId_quiet F.plain_min_loop _, Zk Wk (fun t => ∃ h tk, t = { s with heap := h, toks := tk } /\ ∀ b o, s.heap.get? b = some o -> h.get? b = some o) _ (fun z => Nat.lt_irrefl _ (hfp _ z)) kGs (btD true ds) (fun i k u v t Q' E' hi hk hG hq => ?_) (by rw [lds]; exact pos) its.toArray.size 0 _ #[] _ (by omega) (Wk.frame 0 _ _ st fun b _ o e => Heap.get?_push_of_some _ e) ⟨_, _, rfl, fun b o e => Heap.get?_push_of_some _ (Heap.get?_push_of_some _ e)⟩ (.inl ⟨rfl, rfl⟩) (Heap.get?_push_size _ rfl) fun v h2 tk hP hG _ => ?_⟩
 ·obtain ⟨x1, g1, w1⟩ := zV vr (j := i) (u := u) (by simpa using hi)
  obtain ⟨x2, g2, w2⟩ := zV vr (j := k) (u := v) (by simpa using hk)
  obtain ⟨d1, e1, r1⟩ := rs.atV g1
  obtain ⟨d2, e2, r2⟩ := rs.atV g2
  obtain ⟨b, hb'⟩ := hall d1 (List.mem_of_getElem? e1) d2 (List.mem_of_getElem? e2)
  rw [Vs e1 e2 hb'] at hq
  obtain ⟨h, tk, rfl, hG⟩ := hG
  exact xD (I.kept (t' := tk) hG) hs true deep X.A.in1 x1 x2 u v d1 d2 b (vI hu) r1 r2 w1 w2 hb' X.prog X.w E' Q' hq
 ·rw [bt] at hP
  obtain ⟨x1, g1, w1⟩ := zV vr (j := j) (u := v) (by simpa using hP)
  obtain ⟨d1, e1, r1⟩ := rs.atV g1
  rw [hmin] at e1
  cases e1
  obtain ⟨h3, tk3, e3, k3⟩ := hG
  have e4 : h2 = h3 := congrArg Shared.heap e3
  subst e4
  exact ⟨x1, H, I.kept (t' := tk) k3, w1, q x1 r1⟩
end
end M
namespace X2
open PySem PySem.Spec PyProof.Rows L2
section
variable {X : Cx}
def tRev (K : PySem.W.Frag) (te ts : TE) : TE := fun σ H Q => te σ H fun x H1 => ts σ H1 fun y H2 => y = .int (-1) /\ ∃ a xs, x = .ref a /\ SqL K H2 a xs /\ ∀ p, H2 p = none -> Q (.ref p) (upd H2 p (.lst xs.reverse))
theorem V5 {e st : Expr} {te ts : TE} {p2 pos : Pos} (he : PE X e te) (hst : PE X st ts) (hsb : ∀ o i, ∃ ops, subscripted (.Slice none none (some st) p2) false o i = operate ops (getItem o i) := by intro o i; exact ⟨_, by with_unfolding_all rfl⟩) : PE X (.Subscript e (.Slice none none (some st) p2) pos) (tRev X.K te ts) := by
 intro pins s σ H Q I h
 refine Subscript_ (thn (he pins s σ H _ I h) fun v s1 ⟨x, H1, I1, r1, q1⟩ => ?_)
 refine wpAny_Slice ?_
 rw [evalPart_none]
 refine wpAny_pure (wpAny_pure ?_)
 show wpAny (model X.prog X.w) X.A (eval st X.env) _ X.xe s1
 refine thn (hst pins s1 σ H1 _ I1 q1) fun vk s3 ⟨y, H3, I3, r3, q3⟩ => ?_
 obtain ⟨rfl, a, xs, rfl, hx, q⟩ := q3
 obtain ⟨tk, rfl⟩ := r3
 cases (show v = Value.ref a from r1)
 have I4 : Inv X pins σ H3 { s3 with heap := s3.heap.push { cls := .type "slice", data := .fields #[.none, .none, .int (-1) tk] } } := I3.kept (t' := s3.toks) fun b ob q => Heap.get?_push_of_some _ q
 obtain ⟨its, r, ht, hz⟩ := I4.list hx
 have hlen := r.length
 show wpAny (model X.prog X.w) X.A (subscriptTail e (.Slice none none (some st) p2) (.ref a) (.ref s3.heap.objs.size)) (EP X pins σ Q) X.xe { s3 with heap := s3.heap.push { cls := .type "slice", data := .fields #[.none, .none, .int (-1) tk] } }
 obtain ⟨ops, hops⟩ := hsb (.ref a) (.ref s3.heap.objs.size)
 refine tail_any (ops := ops) ht.isList.typeIs slot_list_getitem.lookup (wpAny_getItem_list_slice ht.isList (Heap.IsSliceOf.new ..) .none .none (.int (-1) tk) (by decide) ?_ (by rw [List.size_toArray] <;> omega)) hops
 rw [PySem.W.krv_pick]
 refine ⟨.ref _, _, I4.laid (t' := s3.toks) (o := .lst xs.reverse) (fun b ob q => Heap.get?_push_of_some _ q) (Nat.le_refl _) ?_, rfl, q _ (I4.hok.fresh (Nat.le_refl _))⟩
 exact ⟨by rw [List.length_reverse]; exact hz, _, 0, r.reverse, Heap.get?_push_size _ rfl⟩
theorem vt : ∀ {texts : List Str} {us : List Value}, Vals (texts.map V.str) us -> ∃ l : List (Str × Tok), us = strValues l /\ l.map (·.1) = texts
 | [], _, .nil => ⟨[], rfl, rfl⟩
 | x :: r, _, .cons ⟨t, e⟩ q => by
  obtain ⟨l, h1, h2⟩ := vt q
  subst e h1 h2
  exact ⟨(x, t) :: l, rfl, rfl⟩
theorem K5 : MtR X "str.join" (fun x xs H Q => ∃ sep p texts, x = .str sep /\ xs = [.ref p] /\ H p = some (.lst (texts.map V.str)) /\ JoinOk sep texts = true /\ Q (.str (Txt.join sep texts)) H) := by
 intro pins s σ H x xs v us Q I rx rv h
 obtain ⟨sep, p, texts, rfl, rfl, hp, ok, q⟩ := h
 obtain ⟨t, rfl⟩ := rx
 obtain ⟨u, rfl, ru⟩ := vals1 rv
 cases (show u = Value.ref p from ru)
 obtain ⟨its, r, pl, _⟩ := I.list (SqL.of (K := X.K) hp)
 obtain ⟨l, rfl, h2⟩ := vt r
 exact SC.join pl.isList h2 ok fun t' k => ⟨.str _, H, I.tok _, ⟨t', rfl⟩, q⟩
end
theorem kY {X : Cx} {scope : Scope} {cl : List (Str × Addr)} {T caps : List Str} {ix : List Nat} (kind : scope.kind = .function) (clos : closureFor scope X.env = pure cl) (nocell : ∀ y ∈ scope.names, y.2 ≠ .cell)
  (names : ∀ y ∈ scope.names, y.2 = .local -> scope.names.lookup y.1 = some .local) (ixs : ix.map (fun i => X.N[i]?) = caps.map some)
  (capk : ∀ x ∈ caps, (relabel scope X.env).names.lookup x = some .cell /\ X.env.scope.names.lookup x = some .cell /\ cl.lookup x = X.env.cells.lookup x)
  (has : ((relabel scope X.env).names.all fun p => match p.2 with | .cell => (cl.lookup p.1).isSome | .free => (cl.lookup p.1).isSome | _ => true) = true)
  (sub : ∀ p ∈ cl, X.env.cells.lookup p.1 = some p.2) : CompOk X scope cl T caps ix := by
 refine ⟨kind, clos, nocell, names, ixs, capk, fun x h => ?_, fun x c h => sub (x, c) (PySem.mem_of_lookup h)⟩
 rcases h with h | h
 ·have q := List.all_eq_true.mp has _ (PySem.mem_of_lookup h)
  exact Option.isSome_iff_exists.mp q
 ·have q := List.all_eq_true.mp has _ (PySem.mem_of_lookup h)
  exact Option.isSome_iff_exists.mp q
theorem Qu (k : Nat) (p3 p4 p2 : Pos) (o i : Value) : ∃ ops, subscripted (.Slice none none (some (.UnaryOp .USub (.Constant (.int 1) k p3) p4)) p2) false o i = operate ops (getItem o i) := ⟨_, by with_unfolding_all rfl⟩
section
variable {X : Cx} {tg : Expr}
end
section
variable {prog : Program} {w : World} {A : Around} {E : Value -> Shared -> Prop} {s : Shared}
end
theorem XS {α : Type} {xs : List α} {i : Int} (h0 : 0 <= i) (h1 : i < xs.length) : ∃ v, atI xs i = some v := by
 obtain ⟨k, rfl⟩ := Int.eq_ofNat_of_zero_le h0
 have hk : k < xs.length := by omega
 exact ⟨xs[k], ZX (List.getElem?_eq_getElem hk)⟩
def abc : Str := "abcdefghijklmnopqrstuvwxyz"
def abc9 : Str := (abc ++ ("0123456789" : Str))
theorem Vz : abc.cps.toList.length = 26 := by decide +kernel
theorem JW : abc9.cps.toList.length = 36 := by decide +kernel
theorem K9 {ts : List Str} (h : ∀ t ∈ ts, t.length = 1) (hl : ts.length <= 20) : JoinOk ("" : Str) ts = true := by
 unfold JoinOk
 have e := PySem.StrLaws.joinFits (sep := ("" : Str)) (texts := ts) (B := 1) (fun y hy => by rw [h y hy]; exact Nat.le_refl _) (by
  have z : ("" : Str).length = 0 := by decide +kernel
  rw [z]
  omega)
 rw [e]
 rfl
theorem JB {ts : List Str} (h : ∀ t ∈ ts, t.length = 1) : (Txt.join ("" : Str) ts).length = ts.length := by
 have z : ("" : Str).length = 0 := by decide +kernel
 have e := size_glued ("" : Str) ts
 rw [z, Nat.mul_zero, Nat.add_zero] at e
 refine e.trans ?_
 clear e
 induction ts with
 | nil => rfl
 | cons t r ih =>
  rw [List.map_cons, List.sum_cons, List.length_cons, h t (List.mem_cons.mpr (.inl rfl)), ih fun t ht => h t (List.mem_cons.mpr (.inr ht))]
  omega
def XD (H : Hp) (q : Addr) (n : Int) (a b : Str) (l c : Int) : Prop := H q = some (.tup [.int n, .str a, .str b, .int l, .int c])
section
variable {X : Cx} {pins : List (Addr × Obj)} {σ : L2.St} {H : Hp} {s : Shared} {h' : Heap}
end
end X2
namespace M
open PySem PySem.Spec PyProof.Rows L2 X2
section
variable {W : Wo} {K : PySem.W.Frag} {X : Cx} {E : En} {O O' O1 O2 OL : List Nat} {g : SS W} {b : W.BS} {σ : L2.St} {H H' : Hp} {c c' : Co} {fp fp' : List Addr} {fr : Bool} {m m1 m2 : Bool} {pos : Pos} {e a : Expr} {es : List Expr}
variable {fa fb fe : SS W -> R W D} {fs : SS W -> R W (List D)} {ta tb : SS W -> R W Bool}
theorem OpR.or {f : Value -> Value -> Sem Value} {r r' : R2} (h : OpR X f r) (h' : OpR X f r') : OpR X f (fun x y H Q => r x y H Q \/ r' x y H Q) := fun pins s σ H x y v u Q I rx ry q => q.elim (h pins s σ H x y v u Q I rx ry) (h' pins s σ H x y v u Q I rx ry)
def addD : D -> D -> Option D
 | .int i, .int j => some (.int (i + j))
 | .str x, .str y => if x.length + y.length <= 1000000 then some (.str (x ++ y)) else none
 | .lst xs, .lst ys => if xs.length + ys.length <= big then some (.lst (xs ++ ys)) else none
 | .tup xs, .tup ys => if xs.length + ys.length <= big /\ xs.isEmpty = false then some (.tup (xs ++ ys)) else none
 | _, _ => none
def VW (X : Cx) : R2 := fun x y H Q => (rI0 fun i j => .int (i + j)) x y H Q \/ (∃ i j, x = .str i /\ y = .str j /\ i.length + j.length <= sizeLine /\ Q (.str (i ++ j)) H) \/ rCat x y H Q \/ VU X.K x y H Q
theorem K0 : OpR X (binaryOp .Add) (VW X) := OpR.or Kf (OpR.or Qd (OpR.or Xd KZ))
theorem Vy {x y : V} {dx dy d : D} {Q : VK} (S : SE W E b H c fp) (rx : Rep X.K c x dx) (ry : Rep X.K c y dy) (h : addD dx dy = some d) (k1 : ∀ v, Rep X.K c v d -> jH d = false -> Q v H) (k2 : ∀ p us ds, d = .tup ds -> H p = none -> Reps X.K c us ds -> Q (.ref p) (upd H p (.tup us))) (k3 : ∀ p us ds, d = .lst ds -> H p = none -> Reps X.K c us ds -> Q (.ref p) (upd H p (.lst us))) : VW X x y H Q := by
 have bl : big <= sizeLine := by decide
 cases rx with
 | int i =>
  cases ry <;> first | cases h | skip
  exact .inl ⟨_, _, rfl, rfl, k1 _ (.int _) rfl⟩
 | str i =>
  cases ry with
  | str j =>
   obtain ⟨hl, rfl⟩ := zC (show (if i.length + j.length <= 1000000 then some (D.str (i ++ j)) else none) = some d from h)
   exact .inr (.inl ⟨i, j, rfl, rfl, Nat.le_trans hl (by decide), k1 _ (.str _) rfl⟩)
  | _ => cases h
 | @lst p xs ds ex l r =>
  cases ry with
  | @lst p' xs' ds' ex' l' r' =>
   obtain ⟨hl, rfl⟩ := zC (show (if ds.length + ds'.length <= big then some (D.lst (ds ++ ds')) else none) = some d from h)
   exact .inr (.inr (.inl ⟨p, p', xs, xs', rfl, rfl, S.all (m := true) _ _ ex, S.all (m := true) _ _ ex', by rw [l, l']; exact Nat.le_trans hl bl, fun q hq => k3 q _ _ rfl hq (Reps.append ⟨l, r⟩ ⟨l', r'⟩)⟩))
  | _ => cases h
 | @tup p xs ds ex l r =>
  cases ry with
  | @tup p' xs' ds' ex' l' r' =>
   obtain ⟨⟨hl, hn⟩, rfl⟩ := zC (show (if ds.length + ds'.length <= big /\ ds.isEmpty = false then some (D.tup (ds ++ ds')) else none) = some d from h)
   refine .inr (.inr (.inr ⟨p, p', xs, xs', rfl, rfl, SqT.of (S.all (m := true) _ _ ex), SqT.of (S.all (m := true) _ _ ex'), ?_, by rw [l, l']; exact Nat.le_trans hl bl, fun e0 => ?_, fun _ q hq => k2 q _ _ rfl hq (Reps.append ⟨l, r⟩ ⟨l', r'⟩)⟩))
   ·intro z; subst z
    cases ds with
    | nil => cases hn
    | cons => cases l
   ·subst e0
    cases ds' with
    | nil => rw [List.append_nil] at k1; exact k1 _ (.tup ex l r) rfl
    | cons => cases l'
  | _ => cases h
 | _ => cases h
theorem q_ {b : Expr} (ha : DE W E true X O a fa) (hb : DE W E true X O b fb) : DO W E X O (.BinOp a .Add b pos) (e2 addD fa fb) :=
 zg (KO K0 ha hb) fun σ H Q ⟨g, c, fp, q⟩ => ⟨g, c, fp, q.bind (rel := Rep X.K) fun d b v H1 c1 fp1 S1 F1 r1 h1 => ⟨_, c1, fp1, h1.bind (rel := Rep X.K) fun d' b' v' H2 c2 fp2 S2 F2 r2 h2 => by
  obtain ⟨z, ez, k⟩ := h2.opt
  rw [ez] at h2
  refine Vy S2.toSE (r1.mono F2.le) r2 ez (fun u hu hm => k u H2 c2 fp2 S2 .refl ?_ (fun z => by rw [hm] at z; cases z)) (fun p us ds e hp rs => ?_) (fun p us ds e hp rs => ?_)
  ·cases z <;> first | exact hu | cases hm
  ·subst e
   exact k _ _ (c2.add p _) fp2 (S2.new hp rfl) (FR.new S2.toSE hp _) (QE qv (rs.mono (Co.add_le (S2.toSE.free hp).1))) (fun z => nomatch z)
  ·subst e
   exact h2.list rs p hp⟩⟩
def lenD : D -> Option D
 | .lst ds => some (.int ds.length)
 | .tup ds => some (.int ds.length)
 | .scr ds => some (.int ds.length)
 | .dic ds => some (.int ds.length)
 | .str x => if x.length <= 1000000 then some (.int x.length) else none
 | _ => none
theorem CallR.or {f : Value} {r r' : List V -> Hp -> VK -> Prop} (h : CallR X f r) (h' : CallR X f r') : CallR X f (fun xs H Q => r xs H Q \/ r' xs H Q) := fun pins s σ H xs us Q I rx q => q.elim (h pins s σ H xs us Q I rx) (h' pins s σ H xs us Q I rx)
theorem len_rep {x : V} {dx d : D} {Q : VK} (hs : Same c.h H) (rx : Rep X.K c x dx) (h : lenD dx = some d) (k : ∀ v, isAt d = some v -> Q v H) : (∃ y n, [x] = [y] /\ LenV X.K y H n /\ Q (.int n) H) \/ (∃ a kvs, [x] = [V.ref a] /\ H a = some (.dK kvs) /\ Q (.int kvs.length) H) := by
 cases rx with
 | lst ex l r => cases h; exact .inl ⟨_, _, rfl, .inl ⟨_, SqL.of (hs _ _ ex), rfl⟩, by rw [l]; exact k _ rfl⟩
 | tup ex l r => cases h; exact .inl ⟨_, _, rfl, .inr ⟨_, SqT.of (hs _ _ ex), rfl⟩, by rw [l]; exact k _ rfl⟩
 | scr ex l r => cases h; exact .inl ⟨_, _, rfl, .inl ⟨_, xv hs ex, rfl⟩, by rw [l]; exact k _ rfl⟩
 | str z =>
  obtain ⟨hl, rfl⟩ := zC (show (if z.length <= 1000000 then some (D.int z.length) else none) = some d from h)
  exact .inl ⟨_, _, rfl, ⟨Nat.le_trans hl (by decide), rfl⟩, k _ rfl⟩
 | dic ex l nd r =>
  cases h
  have hl := congrArg List.length l
  rw [List.length_map, List.length_map] at hl
  exact .inr ⟨_, _, rfl, hs _ _ ex, by rw [hl]; exact k _ rfl⟩
 | _ => cases h
theorem z6 {p : Pos} (hg : Gl X "len") (hm : X.mg "len" = none) (ha : DE W E m X O a fa) (hs : starEach [a] X.env = (false, eval a X.env) :: starEach [] X.env := by rfl) (h2 : (backTo pos (starEach [] X.env)).any (·.1) = false := by rfl) : DE W E true X O (.Call (.Name "len" p) [a] [] pos) (e1 lenD fa) :=
 zg (xB (CallR.or JR ZS) hg hm PySem.boot_len (zL ha jF hs) (he := hs)) fun σ H Q ⟨g, c, fp, q⟩ => ⟨g, c, fp, q.bind fun d b v H1 c1 fp1 S1 F1 r1 h1 => by
  obtain ⟨z, ez, k⟩ := h1.opt
  exact len_rep S1.toSE.all r1 ez fun u hu => k u H1 c1 fp1 S1 .refl (y7 hu)⟩
def eRev (f s : SS W -> R W D) : SS W -> R W D := qG f fun d => qG s fun k => eOpt (match d, k with
 | .lst ds, .int i => if i = -1 then some (.lst ds.reverse) else none
 | _, _ => none)
theorem Kq {st : Expr} {p2 : Pos} {fk : SS W -> R W D} (ha : DE W E true X O a fa) (hk : DE W E m X O st fk) (hsb : ∀ o i, ∃ ops, subscripted (.Slice none none (some st) p2) false o i = operate ops (getItem o i)) : DO W E X O (.Subscript a (.Slice none none (some st) p2) pos) (eRev fa fk) :=
 zg (V5 ha hk hsb) fun σ H Q ⟨g, c, fp, q⟩ => ⟨g, c, fp, q.bind (rel := Rep X.K) fun d b v H1 c1 fp1 S1 F1 r1 h1 => ⟨_, c1, fp1, h1.bind (rel := Rep X.K) fun d' b' v' H2 c2 fp2 S2 F2 r2 h2 => by
  obtain ⟨z, ez, k⟩ := h2.opt
  have rx := r1.mono F2.le
  cases rx with
  | @lst p xs ds ex ll rr =>
   cases d' with
   | int i =>
    obtain ⟨rfl, rfl⟩ := zC (show (if i = -1 then some (D.lst ds.reverse) else none) = some z from ez)
    exact ⟨kH r2, p, xs, rfl, SqL.of (S2.toSE.all (m := true) _ _ ex), fun q hq => h2.list (Reps.reverse ⟨ll, rr⟩) q hq⟩
   | _ => cases ez
  | _ => cases ez⟩⟩
def minO (gb : Bool) (d : D) : Option D := match d with
 | .lst ds => if ds.all (fun d => ds.all fun e => (ordN gb deep d e).isSome) = true then minD gb ds else none
 | _ => none
theorem Xi {gb : Bool} {x : V} {dx d : D} (hs : Same c.h H) (rx : Rep X.K c x dx) (h : minO gb dx = some d) : ∃ a xs ds, [x] = [V.ref a] /\ SqL X.K H a xs /\ Reps X.K c xs ds /\ minD gb ds = some d /\ (∀ d ∈ ds, ∀ e ∈ ds, ∃ b, ordN gb deep d e = some b) := by
 cases rx with
 | @lst p xs ds ex l r =>
  have h : (if ds.all (fun d => ds.all fun e => (ordN gb deep d e).isSome) = true then minD gb ds else none) = some d := h
  split at h
  ·rename_i ha
   refine ⟨p, xs, ds, rfl, SqL.of (hs _ _ ex), ⟨l, r⟩, h, fun d hd e he => ?_⟩
   exact Option.isSome_iff_exists.mp (List.all_eq_true.mp (List.all_eq_true.mp ha d hd) e he)
  ·cases h
 | _ => cases h
theorem Vt : bootBuiltins "min" = some (.builtin "min") := by decide +kernel
theorem Kr {p : Pos} (hcm : X.calm = true) (hu : X.A.units + 40 < cLine) (hg : Gl X "min") (hm : X.mg "min" = none) (ha : DE W E m X O a fa) (hs : starEach [a] X.env = (false, eval a X.env) :: starEach [] X.env := by rfl) : DE W E m X O (.Call (.Name "min" p) [a] [] pos) (e1 (minO true) fa) :=
 zg (xB (ZR hcm hu) hg hm Vt (zL ha jF hs) (he := hs)) fun σ H Q ⟨g, c, fp, q⟩ => ⟨g, c, fp, q.bind fun d b v H1 c1 fp1 S1 F1 r1 h1 => by
  obtain ⟨z, ez, k⟩ := h1.opt
  obtain ⟨z1, xs, ds, e1, e2, e3, e4, e5⟩ := Xi S1.toSE.all r1 ez
  exact ⟨_, z1, xs, ds, z, e1, S1.toSE.all, e2, e3, e4, e5, fun u hu => k u H1 c1 fp1 S1 .refl hu⟩⟩
def sAug (i : Nat) (op : D -> D -> Option D) (f : SS W -> R W D) : SS W -> Ou W := jp i fun d => zx f fun y => sPut i (op d y)
theorem ZK {i : Nat} {x : Str} {op : Operator} {f : Int -> Int -> Int} {po : D -> D -> Option D} {pos' : Pos} (hN : X.N.Nodup) (hi : X.N[i]? = some x) (hx : Loc X.env.scope x) (hO : i ∉ O) (he : DE W E m X O e fe) (ho : PIp X op (ipI f)) (hpo : ∀ d y z, po d y = some z -> ∃ p q, d = .int p /\ y = .int q /\ z = .int (f p q))
  (hf : X.fn x = true \/ X.env.scope.names.lookup x = some .local := by first | exact .inl rfl | exact .inr rfl | assumption) : DS W E fr OL X O (.AugAssign (.Name x pos') op e pos) (sAug i po fe) O := zK (VY hN hi hx he ho hf) fun Dn σ H ⟨g, c, fp, q⟩ => by
 obtain ⟨d, hg, q1⟩ := q.recv
 obtain ⟨v, hv, r⟩ := q.1.frz i d hO hg
 refine ⟨v, hv, g, c, fp, q1.bind fun y b vy H1 c1 fp1 F1 r1 q2 => ?_⟩
 obtain ⟨z, ez, k⟩ := q2.put
 obtain ⟨p, q', rfl, rfl, rfl⟩ := hpo _ _ _ ez
 cases kH r
 refine ⟨p, q', rfl, kH r1, k _ H1 c1 fp1 ((q2.1.set (.int _)).congr fun j => ?_) (.refl _)⟩
 simp only [List.mem_filter, ne_eq, decide_not, Bool.not_eq_eq_eq_not, Bool.not_true, decide_eq_false_iff_not]
 exact ⟨fun h => h.1, fun h => ⟨h, fun z => hO (z ▸ h)⟩⟩
theorem J8 : ∀ d y z, addI d y = some z -> ∃ p q, d = .int p /\ y = .int q /\ z = .int (p + q) := fun d y z h => by cases d <;> cases y <;> cases h; exact ⟨_, _, rfl, rfl, rfl⟩
theorem V1 : ∀ d y z, subI d y = some z -> ∃ p q, d = .int p /\ y = .int q /\ z = .int (p - q) := fun d y z h => by cases d <;> cases y <;> cases h; exact ⟨_, _, rfl, rfl, rfl⟩
def vR : List D -> Option (List Str)
 | [] => some []
 | d :: ds => match d, vR ds with | .str x, some r => some (x :: r) | _, _ => none
theorem wa : ∀ {ds : List D} {xs : List V} {ts : List Str}, Reps K c xs ds -> vR ds = some ts -> xs = ts.map V.str
 | [], xs, ts, r, h => by cases h; rw [r.unnil]; rfl
 | d :: ds, xs, ts, r, h => by
  obtain ⟨x, t, rfl, r1, r2⟩ := r.uncons
  unfold vR at h
  cases d with
  | str y =>
   cases e : vR ds with
   | none => simp only [e] at h; cases h
   | some q => simp only [e] at h; cases h; rw [xy r1, wa r2 e]; rfl
  | _ => cases h
def K_ (s d : D) : Option D := match s, d with
 | .str x, .lst ds => (vR ds).bind fun ts => if JoinOk x ts = true then some (.str (Txt.join x ts)) else none
 | _, _ => none
def ZF (fa fb : SS W -> R W D) : SS W -> R W D := qG fa fun s => match s with
 | .str x => qG fb fun d => eOpt (K_ (.str x) d)
 | _ => fun _ => .bad
theorem Vn {b : Expr} {apos cpos : Pos} (ha : DE W E m1 X O a fa) (hb : DE W E m2 X O b fb) (hbase : attributeBase a "join" X.env (eval a X.env) = eval a X.env := by rfl)
  (hfew : ((backTo cpos (starEach [b] X.env)).all (fun x => !x.1) && (backToKw cpos (keywordEach [] X.env)).all (fun x => x.1.isSome) && decide ([b].length + ([] : List Keyword).length + (if ([] : List Keyword).isEmpty then 0 else 1) < 30)) = true := by rfl)
  (hline : (apos.endLine == cpos.line) = true := by rfl) (hs : starEach [b] X.env = (false, eval b X.env) :: starEach [] X.env := by rfl) (hplain : (backTo cpos (starEach [] X.env)).any (·.1) = false := by rfl) : DE W E true X O (.Call (.Attribute a "join" apos) [b] [] cpos) (ZF fa fb) :=
 zg (V9 PySem.F.plainAttrs_str PySem.F.slot_str_join PySem.F.type_str_join K5 ha (zL hb jF hs) hbase hfew hline hs hplain) fun σ H Q ⟨g, c, fp, q⟩ => ⟨g, c, fp, q.bind fun d b v H1 c1 fp1 S1 F1 r1 h1 => by
  cases d with
  | str x =>
   cases xy r1
   refine ⟨rfl, _, c1, fp1, h1.bind fun d' b' v' H2 c2 fp2 S2 F2 r2 h2 => ?_⟩
   obtain ⟨z, ez, k⟩ := h2.opt
   cases r2 with
   | @lst p xs ds ex l r =>
    have ez : ((vR ds).bind fun ts => if JoinOk x ts = true then some (D.str (Txt.join x ts)) else none) = some z := ez
    cases e : vR ds with
    | none => rw [e] at ez; cases ez
    | some ts =>
     rw [e] at ez
     obtain ⟨hj, rfl⟩ := zC (show (if JoinOk x ts = true then some (D.str (Txt.join x ts)) else none) = some z from ez)
     have ex' := wa ⟨l, r⟩ e
     subst ex'
     exact ⟨x, p, ts, rfl, rfl, S2.toSE.all _ _ ex, hj, k _ H2 c2 fp2 S2 .refl (.str _)⟩
   | _ => cases ez
  | _ => exact h1.2.elim⟩
end
end M
namespace M
open PySem L2 X2
section
variable {W : Wo} {K : PySem.W.Frag} {X : Cx} {E : En} {O O' O1 O2 OL : List Nat} {g : SS W} {b : W.BS} {σ : L2.St} {H H' : Hp} {c c' : Co} {fp fp' : List Addr} {fr : Bool} {m m1 m2 : Bool} {pos : Pos} {e a : Expr} {es : List Expr}
variable {fa fb fe : SS W -> R W D} {fs : SS W -> R W (List D)} {ta tb : SS W -> R W Bool}
theorem huR {k n : Nat} {A : Around} (r : Room k A) (h : n <= 64 := by decide) : A.units + n < cLine := by have := r.units; omega
def negI : D -> Option D | .int i => some (.int (-i)) | _ => none
theorem ZN (ha : DE W E m X O a fa) : DE W E true X O (.UnaryOp .USub a pos) (e1 negI fa) := zg (XU VA ha) fun σ H Q ⟨g, c, fp, q⟩ => ⟨g, c, fp, q.bind fun d b v H1 c1 fp1 S1 F1 r1 h1 => by
 obtain ⟨z, ez, k⟩ := h1.opt
 cases d <;> try (cases ez; done)
 cases ez
 cases r1
 exact ⟨_, rfl, k _ H1 c1 fp1 S1 .refl (.int _)⟩⟩
end
abbrev HTb (T : Hp -> Prop) : Prop := ∀ H H', T H -> (∀ a u, H a = some u -> (∀ xs, u ≠ .lst xs) -> (∀ xs, u ≠ .dK xs) -> (∀ xs, u ≠ .dT xs) -> H' a = some u) -> T H'
abbrev HBb (B : Hp -> Co -> List Addr -> Prop) : Prop := ∀ H c fp H' c', B H c fp -> (∀ a ∈ fp, H' a = H a) -> Co.Le c c' -> (∀ a ∈ fp, c'.h a = none) -> B H' c' fp
end M
namespace X2
open PySem PySem.Spec PyProof.Rows L2
section
variable {X : Cx}
end
structure Rd where
 n : Int
 a : Str
 b : Str
 l : Int
 c : Int
def spn (kvs : List (Key × V)) (b : Str) : Int := match valV kvs (Sum.inr b : Key) with | some (.int z) => z | _ => 0
def RdAt (H : Hp) (kvs : List (Key × V)) (x : V) (r : Rd) : Prop := ∃ q, x = .ref q /\ XD H q r.n r.a r.b r.l r.c /\ valV kvs (Sum.inr r.b : Key) = some (.int (spn kvs r.b))
theorem RdAt.mono {H H' : Hp} (s : Same H H') {kvs : List (Key × V)} {x : V} {r : Rd} (h : RdAt H kvs x r) : RdAt H' kvs x r := by
 obtain ⟨q, e, h, v⟩ := h
 exact ⟨q, e, s _ _ h, v⟩
def hg (sp : Str -> Int) (e d : Rd) : Bool := decide (e.b = d.a /\ e.c + sp e.b <= d.l)
theorem take_snoc {α : Type} {xs : List α} {i : Nat} {x : α} (h : xs[i]? = some x) : xs.take (i + 1) = xs.take i ++ [x] := by
 rw [List.take_succ, h]
 rfl
def optD : Option Rd -> Dt
 | none => .non
 | some r => .tup [.int r.n, .str r.a, .str r.b, .int r.l, .int r.c]
def lv (now : Int) : Option Rd -> Bool
 | none => false
 | some d => decide (d.l <= now)
def two (ds : List Rd) : List (Rd × Rd) := ds.zip (ds.drop 1)
def Bm (base : Heap) (mg : Str -> Option Value) : Prop := ∃ bm ob, mg "__builtins__" = some (.ref bm) /\ bm ≠ builtinsNs /\ base.get? bm = some ob /\ ob.cls = .type "module" /\ ob.dict = some builtinsNs /\ ob.data = .plain
theorem Zp {P : Program} {w : World} {K : PySem.W.Frag} {mg mb : Str -> Option Value} {CX : CXT} {k : Nat} {fa a : Addr} {fd : FuncData} {x : Str} {sp : Sp} {s₁ : Shared} {vs : List Value} {ns : List Int} {ts : List Addr}
  (KX : K.In s₁.heap) (hns : s₁.heap.Ns mainGlobals mg) (hb : s₁.heap.Ns builtinsNs mb) (hbb : ∀ x : Str, x ≠ "__name__" -> mb x = bootBuiltins x) (hlim : s₁.heap.NoLimit) (hg : s₁.gens = #[])
  (ha : s₁.heap.get? a = some { cls := .type "list", data := .seq vs.toArray }) (hi : IntsAre vs ns) (hl : ns.length <= sizeLine) (hr : Room k callerA)
  (htab : ∀ P ∈ ts, s₁.heap.get? P = some (PySem.W.tabObj #[])) (hKt : ∀ P ∈ ts, K.lookup P = none) (hct : ∀ P ∈ ts, isCodeTable s₁.heap P) (hbm : Bm s₁.heap mg)
  (F : ∀ base : Heap, K.In base -> base.Ns mainGlobals mg -> Bm base mg -> FnOk P w K mg base CX k fa fd [x] sp) (hbind : ∀ (s : Shared) (u : Value), BindsTo s fd ⟨[u], []⟩ [(x, u)])
  (hsp : ∀ H : Hp, (∀ P ∈ ts, H P = some (.tbl #[])) -> SqL K H a (ns.map V.int) -> sp [.ref a] H (fun v _ => v = .bl true) fun _ _ _ => False)
  (hCX : ∀ H e s', CX [] H s₁ (fun _ _ _ => False) e s' -> False) :
  codeAny (model P w) callerA (.call (.ref fa) ⟨[.ref a], []⟩) (fun r s' => r = .ok (.ret (.bool true)) /\ OldK s₁.heap s'.heap /\ s'.os = s₁.os /\ AllBare s'.gens) s₁ := by
 have rv := x8 hi
 have lenV := hi.length
 have nat : a ∉ ts := fun z => by
  have q := htab a z
  rw [ha] at q
  cases q
 have core : ∀ H : Hp, (∀ b, H b = none \/ (∃ o xs, H b = some (.frz o (.lst xs))) \/ (b ∈ ts /\ H b = some (.tbl #[]))) -> (∀ P ∈ ts, H P = some (.tbl #[])) -> SqL K H a (ns.map V.int) -> HOk P w H s₁.heap -> (∀ b, H b ≠ none -> b = a \/ b ∈ ts) -> (∀ b, H b ≠ none -> K.lookup b = none) ->
   codeAny (model P w) callerA (.call (.ref fa) ⟨[.ref a], []⟩) (fun r s' => r = .ok (.ret (.bool true)) /\ OldK s₁.heap s'.heap /\ s'.os = s₁.os /\ AllBare s'.gens) s₁ := by
  intro H hO hT hS hok hA hK
  have base_of : ∀ {b : Addr} {o : Obj}, s₁.heap.get? b = some o -> H b = none -> (hidT s₁.heap H).get? b = some o := fun e n => JD e n
  have kindly : ∀ {b : Addr} {o : Obj}, s₁.heap.get? b = some o -> (∀ it n, o.data ≠ .seq it n) -> (∀ ps, o.data ≠ .fields ps) -> H b = none := fun {b o} e d1 d2 => by
   cases q : H b with
   | none => rfl
   | some u =>
    rcases hA b (by rw [q]; simp) with e' | e'
    ·subst e'
     rw [ha] at e; cases e
     exact absurd rfl (d1 _ _)
    ·rw [htab b e'] at e; cases e
     exact absurd rfl (d2 _)
  have nsK : ∀ {b : Addr} {m : Str -> Option Value}, s₁.heap.Ns b m -> (hidT s₁.heap H).Ns b m := fun {b m} ⟨o, es, ep, e, d, r⟩ => ⟨o, es, ep, base_of e (kindly e (fun _ _ z => by rw [d] at z; cases z) (fun _ z => by rw [d] at z; cases z)), d, r⟩
  have hKb : K.In (hidT s₁.heap H) := fun b o e => base_of (KX b o e) (by
   cases q : H b with
   | none => rfl
   | some u =>
    rw [hK b (by rw [q]; simp)] at e; cases e)
  have hM : Mod K mg (hidT s₁.heap H) := ⟨hKb, nsK hns, ⟨mb, nsK hb, hbb⟩, let ⟨mc, h1, h2⟩ := hlim; ⟨mc, nsK h1, h2⟩⟩
  have hB : Bm (hidT s₁.heap H) mg := by
   obtain ⟨bm, ob, b1, b2, b3, b4, b5, b6⟩ := hbm
   exact ⟨bm, ob, b1, b2, base_of b3 (kindly b3 (fun _ _ z => by rw [b6] at z; cases z) (fun _ z => by rw [b6] at z; cases z)), b4, b5, b6⟩
  have e0 : Env0 P w K mg (hidT s₁.heap H) callerA [] s₁ H := ⟨rfl, hM, fun b o e => K2 e, Nat.le_of_eq (Zy _ _), trivial, fun b hb => absurd (show b ∈ ([] : List Addr) from hb) (by simp), hok, .of_eq hg⟩
  refine codeAny_mono ((F _ hKb (nsK hns) hB).run callerA [] s₁ H ⟨[.ref a], []⟩ [.ref a] [.ref a] _ _ hr e0 (hbind s₁ (.ref a)) (.cons rfl .nil) (hsp H hT hS)) fun r s' h => ?_
  cases r with
  | error e => exact (hCX H e s' h).elim
  | ok fl =>
   cases fl with
   | next => exact False.elim h
   | brk => exact False.elim h
   | cont => exact False.elim h
   | ret u =>
    obtain ⟨v, H', os, bare, un, hok', r', q⟩ := h
    have q' : v = .bl true := q
    subst q'
    obtain rfl : u = Value.bool true := r'
    have main : ∀ b o, s₁.heap.get? b = some o -> asItWas s₁.heap s'.heap b o /\ ∃ o', s'.heap.get? b = some o' := fun b o e => by
     rcases hO b with q | ⟨ob, xs, z⟩ | ⟨hbt, z⟩
     ·have y := un.keep b o e q (by intro z; exact absurd (show b ∈ ([] : List Addr) from z) (by simp)) (by simp)
      exact ⟨.inl y, _, y⟩
     ·have z2 := un.frzs b ob _ z
      obtain ⟨e1, _⟩ := hok b _ z
      obtain ⟨e2, _⟩ := hok' b _ z2
      rw [e] at e1; cases e1
      exact ⟨.inl e2, _, e2⟩
     ·obtain ⟨more, z2⟩ := un.tbls b _ z
      have y : s'.heap.get? b = some { cls := .none, data := .fields (#[] ++ more) } := hok' b _ z2
      rw [htab b hbt] at e; cases e
      exact ⟨.inr (.inl ⟨hct b hbt, rfl, #[], more, rfl, y⟩), _, y⟩
    exact ⟨rfl, ⟨fun b o e => (main b o e).1, fun b o e => (main b o e).2⟩, os, bare⟩
 have tb : ∀ b, b ∈ ts -> ObjOk P w (fun c => if c ∈ ts then some (.tbl #[]) else none) s₁.heap b (.tbl #[]) := fun b hb => htab b hb
 cases hk : K.lookup a with
 | some o =>
  have e := KX a o hk
  rw [ha] at e
  cases e
  refine core (fun b => if b ∈ ts then some (.tbl #[]) else none) (fun b => ?_) (fun b hb => if_pos hb) (.inr ⟨_, vs.toArray, _, hk, rfl, rfl, rfl, by rw [List.size_toArray, lenV]; exact hl, by simpa using rv⟩) (fun b u z => ?_) (fun b z => ?_) fun b z => ?_
  ·by_cases hb : b ∈ ts
   ·exact .inr (.inr ⟨hb, if_pos hb⟩)
   ·exact .inl (if_neg hb)
  ·by_cases hb : b ∈ ts
   ·have z' := (if_pos hb).symm.trans z
    cases z'
    exact htab b hb
   ·have z' := (if_neg hb).symm.trans z
    cases z'
  ·by_cases hb : b ∈ ts
   ·exact .inr hb
   ·exact absurd (if_neg hb) z
  ·by_cases hb : b ∈ ts
   ·exact hKt b hb
   ·exact absurd (if_neg hb) z
 | none =>
  refine core (fun b => if b = a then some (.frz { cls := .type "list", data := .seq vs.toArray } (.lst (ns.map V.int))) else if b ∈ ts then some (.tbl #[]) else none) (fun b => ?_) (fun b hb => ?_) (.inl (.inr ⟨{ cls := .type "list", data := .seq vs.toArray }, if_pos rfl⟩)) (fun b u z => ?_) (fun b z => ?_) fun b z => ?_
  ·by_cases hb : b = a
   ·exact .inr (.inl ⟨_, _, if_pos hb⟩)
   ·by_cases ht : b ∈ ts
    ·exact .inr (.inr ⟨ht, (if_neg hb).trans (if_pos ht)⟩)
    ·exact .inl ((if_neg hb).trans (if_neg ht))
  ·have nb : b ≠ a := fun z => nat (z ▸ hb)
   exact (if_neg nb).trans (if_pos hb)
  ·by_cases hb : b = a
   ·have z' := (if_pos hb).symm.trans z
    cases z'
    subst hb
    exact ⟨ha, by rw [List.length_map]; exact hl, vs, _, rv, ha⟩
   ·by_cases ht : b ∈ ts
    ·have z' : some (HO.tbl #[]) = some u := ((if_neg hb).trans (if_pos ht)).symm.trans z
     cases z'
     exact htab b ht
    ·have z' : (none : Option HO) = some u := ((if_neg hb).trans (if_neg ht)).symm.trans z
     cases z'
  ·by_cases hb : b = a
   ·exact .inl hb
   ·by_cases ht : b ∈ ts
    ·exact .inr ht
    ·exact absurd ((if_neg hb).trans (if_neg ht)) z
  ·by_cases hb : b = a
   ·rw [hb]; exact hk
   ·by_cases ht : b ∈ ts
    ·exact hKt b ht
    ·exact absurd ((if_neg hb).trans (if_neg ht)) z
theorem vV {K : PySem.W.Frag} {as : List Addr} {P : Addr} (e : as = K.map (·.1)) (h : P ∉ as) : K.lookup P = none := by
 rw [e] at h
 clear e
 induction K with
 | nil => rfl
 | cons p r ih =>
  obtain ⟨k, o⟩ := p
  rw [List.map_cons, List.mem_cons, not_or] at h
  rw [List.lookup_cons]
  have : (P == k) = false := by simpa using h.1
  rw [this]
  exact ih h.2
theorem wF {K : PySem.W.Frag} {h : Heap} {c P : Addr} (X : K.In h) (e : PySem.W.codeHdIn K c P = true) : isCodeTable h P := by
 obtain ⟨o, vs, file, tf, flags, tg, inF, text, tt, e1, e2, e3, e4, _⟩ := PySem.W.codeHd_of_K X e
 exact ⟨c, o, vs, e1, e2, e3, e4⟩
theorem Z5 {l : PySem.W.OpenLaw} {n k : Nat} {q : Program} {loose : List Str} {XP : (Str -> Option Value) -> Heap -> Prop} {d : DefRec} {K : Params -> PySem.W.Frag} {as : List Addr} {e : ∀ P, as = (K P).map (·.1)} {ts : List Addr} {CX : World -> CXT} {sp : World -> Sp} {x : Str}
  (hn : l.most = some n) (hn2 : n <= sizeLine) (hdf : d.params.defaults = []) (hr : Room k callerA) (hts : ∀ P ∈ ts, P ∉ as)
  (hcs : ∀ (w : World), ∀ P ∈ ts, ∃ c, PySem.W.codeHdIn (K w.params) c P = true)
  (F : ∀ (w : World) (mg : Str -> Option Value) (fa : Addr) (h : Heap), (K w.params).In h -> h.Ns mainGlobals mg -> mg d.name = some (.ref fa) ->
   ∃ fd : FuncData, (∀ (s : Shared) (u : Value), BindsTo s fd ⟨[u], []⟩ [(x, u)]) /\
    ∀ base : Heap, (K w.params).In base -> base.Ns mainGlobals mg -> Bm base mg -> FnOk l.prog w (K w.params) mg base (CX w) k fa fd [x] (sp w))
  (hsp : ∀ (w : World) (H : Hp) (a : Addr) (ns : List Int), ns.length <= n -> (∀ P ∈ ts, H P = some (.tbl #[])) -> SqL (K w.params) H a (ns.map V.int) -> sp w [.ref a] H (fun v _ => v = .bl true) fun _ _ _ => False)
  (hCX : ∀ (w : World) (H : Hp) (s : Shared) (e : Value) (s' : Shared), CX w [] H s (fun _ _ _ => False) e s' -> False) :
  PySem.W.WalkO q loose XP (PySem.W.kmHook K as e ts).says l.row.toRowW d [] (fun f vs => PySem.call f vs) := by
 refine Att.attach_call hn hdf fun w s₀ s₁ mg mb fa o pm cd doc a vs ns G Y ho hd hcd hmg hobj hints hlen hg => ?_
 have KX := PySem.W.km_in_of Y
 obtain ⟨fd, hb, hF⟩ := F w mg fa _ KX G.T.g hmg
 exact Zp (ts := ts) KX G.T.g G.T.b G.T.builtins G.T.nolimit hg hobj hints (Nat.le_trans hlen hn2) hr (PySem.W.km_tabs_of Y) (fun P hP => vV (e _) (hts P hP)) (fun P hP => let ⟨c, hc⟩ := hcs w P hP; wF KX hc) G.T.bmain hF hb (fun H hO hS => hsp w H a ns hlen hO hS) fun H e s' => hCX w H s₁ e s'
theorem vP : bootBuiltins "sorted" = some (.builtin "sorted") := by decide +kernel
theorem ju {P : Program} {w : World} {H : Hp} {h : Heap} {a : Addr} {o : HO} (x : ObjOk P w H h a o) : ∃ u, h.get? a = some u := by
 cases o with
 | lst xs => obtain ⟨_, _, _, _, e⟩ := x; exact ⟨_, e⟩
 | tup xs => obtain ⟨_, _, _, o, e, _⟩ := x; exact ⟨_, e⟩
 | dK kvs => obtain ⟨_, _, _, _, o, _, _, e, _⟩ := x; exact ⟨_, e⟩
 | dT kvs => obtain ⟨_, _, _, _, o, _, _, e, _⟩ := x; exact ⟨_, e⟩
 | set S n => obtain ⟨o, _, _, _, e, _⟩ := x; exact ⟨_, e⟩
 | ins C dx fs => obtain ⟨_, _, _, e, _⟩ := x; exact ⟨_, e⟩
 | own b => exact x
 | xd fs => obtain ⟨_, ⟨o, _, _, e, _⟩, _⟩ := x; exact ⟨_, e⟩
 | rng lo hi => obtain ⟨_, _, _, e⟩ := x; exact ⟨_, e⟩
 | frz o u => exact ⟨_, x.1⟩
 | tbl ps => exact ⟨_, x⟩
 | met f y => exact ⟨_, x⟩
 | ext φ => exact x.2.1
section
variable {X : Cx} {pins : List (Addr × Obj)} {σ : L2.St} {H : Hp} {s : Shared} {h' : Heap}
theorem xJ {D : Addr} (I : Inv X pins σ H s) (h : s.heap.get? D = none) : H D = none := by
 cases e : H D with
 | none => rfl
 | some u =>
  obtain ⟨o, q⟩ := ju (I.hok D u e)
  rw [h] at q
  cases q
theorem _root_.L2.Inv.laidL {D : Addr} {o : HO} {t' : Nat} (I : Inv X pins σ H s) (k : ∀ b u, b ≠ X.env.locals -> s.heap.get? b = some u -> h'.get? b = some u) (ns : ∀ m, s.heap.Ns X.env.locals m -> h'.Ns X.env.locals m) (hD : s.heap.get? D = none) (new : ObjOk X.prog X.w (upd H D o) h' D o) :
  Inv X pins σ (upd H D o) { s with heap := h', toks := t' } := by
 have hn := xJ I hD
 have old : ∀ {b u}, s.heap.get? b = some u -> b ≠ D := fun e z => by rw [z, hD] at e; cases e
 refine I.step (g' := s.gens) (d' := s.drawn) (ch := []) (fun _ z => nomatch z) (fun b u hL _ _ e _ => k b u hL e) (fun b u hL _ _ e _ => ⟨u.slots, k b u hL e⟩) (fun b u _ e n => by rw [qu (old e)]; exact n)
  (fun b u _ e => ?_) (fun b xs q => by rw [qu (qV q hn)]; exact q) (fun b u xs q => by rw [qu (qV q hn)]; exact q) (fun b ps q => ⟨#[], by rw [qu (qV q hn), q]; simp⟩) ns (fun b u e => ?_) I.bare
 ·by_cases hL : b = X.env.locals
  ·obtain ⟨m, hm, _⟩ := I.loc
   obtain ⟨o', _, _, e', _⟩ := ns m hm
   exact ⟨o', hL ▸ e'⟩
  ·exact ⟨u, k b u hL e⟩
 ·by_cases hb : b = D
  ·subst hb
   rw [qv] at e
   cases e
   exact new
  ·rw [qu hb] at e
   refine (I.hok b u e).stay (fun c v hc q => k c v ?_ q) (fun c q => by rw [qu (qV q hn)]; exact q) fun c xs q => by rw [qu (qV q hn)]; exact q
   rintro rfl
   rcases hc with z | z
   ·rw [<- z, I.free] at e; cases e
   ·rw [I.free] at z; cases z
end
def isTb : HO -> Bool | .tbl _ => true | _ => false
structure SaT (P : Addr) (H H' : Hp) : Prop where
 keep : ∀ b u, H b = some u -> isTb u = false -> H' b = some u
 tbl : ∀ b ps, H b = some (.tbl ps) -> ∃ more, H' b = some (.tbl (ps ++ more))
 oth : ∀ b ps, H b = some (.tbl ps) -> b ≠ P -> H' b = some (.tbl ps)
theorem SaT.of {P : Addr} {H H' : Hp} (s : Same H H') : SaT P H H' := ⟨fun b u e _ => s b u e, fun b ps e => ⟨#[], by rw [s _ _ e]; simp⟩, fun b ps e _ => s _ _ e⟩
theorem SaT.trans {P : Addr} {H H1 H2 : Hp} (a : SaT P H H1) (b : SaT P H1 H2) : SaT P H H2 := ⟨fun c u e n => b.keep c u (a.keep c u e n) n, fun c ps e => by
 obtain ⟨m1, e1⟩ := a.tbl c ps e
 obtain ⟨m2, e2⟩ := b.tbl c _ e1
 exact ⟨m1 ++ m2, by rw [e2, Array.append_assoc]⟩, fun c ps e n => b.oth c ps (a.oth c ps e n) n⟩
theorem SaT.free {P : Addr} {H H' : Hp} (s : SaT P H H') {b : Addr} (h : H' b = none) : H b = none := by
 cases e : H b with
 | none => rfl
 | some u =>
  cases n : isTb u with
  | false => rw [s.keep b u e n] at h; cases h
  | true =>
   cases u with
   | tbl ps =>
    obtain ⟨m, q⟩ := s.tbl b ps e
    rw [h] at q; cases q
   | _ => cases n
theorem SaT.new {P : Addr} {H H' : Hp} (s : SaT P H H') {p : Addr} (h : H' p = none) (o : HO) : SaT P H (upd H' p o) := s.trans (SaT.of (zQ h o))
def k_ (c' : Addr) (lq : Str) : HO := .ext (fun h => h.CodeRec (.ref c') lq)
def TabOk (H : Hp) (P : Addr) (pos : Pos) (lq : Str) : Prop := ∃ ps, H P = some (.tbl ps) /\ TriplesOk ps.toList /\ (codeAmong pos ps.toList = none \/ ∃ c', codeAmong pos ps.toList = some (.ref c') /\ H c' = some (k_ c' lq))
theorem TabOk.mono {H H' : Hp} {P : Addr} {pos : Pos} {lq : Str} (s : Same H H') (t : TabOk H P pos lq) : TabOk H' P pos lq := by
 obtain ⟨ps, e, ht, q⟩ := t
 refine ⟨ps, s _ _ e, ht, ?_⟩
 rcases q with q | ⟨c', q, h⟩
 ·exact .inl q
 ·exact .inr ⟨c', q, s _ _ h⟩
theorem TabOk.nil {H : Hp} {P : Addr} {pos : Pos} {lq : Str} (h : H P = some (.tbl #[])) : TabOk H P pos lq := ⟨#[], h, trivial, .inl rfl⟩
theorem x_ {i j : Int} {a b : Tok} {v : Value} : ∀ (l : List Value), TriplesOk l -> TriplesOk (l ++ [.int i a, .int j b, v]) := by
 intro l h
 fun_induction TriplesOk l with
 | case1 => trivial
 | case2 _ _ _ _ _ rest ih => exact ih h
 | case3 => exact h.elim
def kZ (q : Addr) (lq : Str) (params : Arguments) (body : Expr) (scope : Scope) (pm : Value) (c' : Addr) : HO := .ext (fun h => ∃ ctv, h.get? q = some (PySem.W.kla_obj "<lambda>" lq params body scope [] pm c' ctv))
def tLam (P : Addr) (lpos : Pos) (lq : Str) (params : Arguments) (body : Expr) (scope : Scope) (pm : Value) : TE := fun _ H Q => TabOk H P lpos lq /\ ∀ q c' H1, SaT P H H1 -> TabOk H1 P lpos lq -> H q = none -> H1 q = some (kZ q lq params body scope pm c') -> H1 c' = some (k_ c' lq) -> Q (.ref q) H1
theorem Kb {X : Cx} {params : Arguments} {body : Expr} {scope : Scope} {lpos : Pos} {c P : Addr} (hcode : X.env.code = .ref c) (hc : PySem.W.codeHdIn X.K c P = true) (BM : Bm X.base X.mg) (hdef : defaultsOf params X.env = ([], []) := by rfl) (hcl : closureFor scope X.env = pure [] := by rfl) :
  PE X (.Lambda params body scope lpos) (tLam P lpos (X.env.qual ++ "<lambda>") params body scope ((X.mg "__name__").getD .none)) := by
 intro pins s σ H Q I h
 obtain ⟨⟨ps, hP, ht, hcase⟩, q⟩ := h
 have gP : s.heap.get? P = some (PySem.W.tabObj ps) := I.hok P _ hP
 have glob : s.heap.Ns mainGlobals X.mg := I.mod.glob.keeps I.bk
 have C : PySem.W.CodeHd s.heap c P := PySem.W.codeHd_of_K I.kIn hc
 obtain ⟨bm, ob, b1, b2, b3, b4, b5, b6⟩ := BM
 have b3' := I.bk _ _ b3
 have hgP : mainGlobals ≠ P := fun z => by
  obtain ⟨o, es, ep, e, d, _⟩ := glob
  rw [z, gP] at e; cases e; cases d
 have hbP : bm ≠ P := fun z => by rw [z, gP] at b3'; cases b3'; cases b4
 have hbG : bm ≠ mainGlobals := fun z => by
  obtain ⟨o, es, ep, e, d, _⟩ := glob
  rw [z, e] at b3'; cases b3'; rw [d] at b6; cases b6
 have hB : s.heap.BuiltinsAt X.mg P := ⟨bm, ob, b1, b2, hbG, hbP, b3', b4, b5, b6⟩
 have lamStay : ∀ (q c' : Addr) (h1 h2 : Heap), (∃ ctv, h1.get? q = some (PySem.W.kla_obj "<lambda>" (X.env.qual ++ "<lambda>") params body scope [] ((X.mg "__name__").getD .none) c' ctv)) -> (∀ o, h1.get? q = some o -> h2.get? q = some o) -> ∃ ctv, h2.get? q = some (PySem.W.kla_obj "<lambda>" (X.env.qual ++ "<lambda>") params body scope [] ((X.mg "__name__").getD .none) c' ctv) := fun q c' h1 h2 ⟨ctv, e⟩ k => ⟨ctv, k _ e⟩
 have codeStay : ∀ (c' : Addr) (h1 h2 : Heap), h1.CodeRec (.ref c') (X.env.qual ++ "<lambda>") -> (∀ o, h1.get? c' = some o -> h2.get? c' = some o) -> h2.CodeRec (.ref c') (X.env.qual ++ "<lambda>") := fun c' h1 h2 ⟨c2, o, vs, t, e1, e2, e3, e4⟩ k => by
  cases e1
  exact ⟨_, o, vs, t, rfl, k o e2, e3, e4⟩
 refine PySem.W.kla_eval hdef ?_
 rcases hcase with hnf | ⟨c', hf, hc'⟩
 ·refine PySem.W.kla_makeFunction (mg := X.mg) hcl I.ok.glob glob hcode C gP ht hnf hgP hB fun c' ctv h' tk hx hge hlt hrec htb => ?_
  have nP : ∀ b u, H b = some u -> isTb u = false -> b ≠ P := fun b u e n z => by rw [z, hP] at e; cases e; cases n
  have hcP : c' ≠ P := fun z => absurd (Nat.lt_of_lt_of_le (Heap.lt_size gP) (z ▸ hge)) (Nat.lt_irrefl _)
  have fc : H c' = none := I.hok.fresh hge
  let H1 := upd (upd H P (.tbl (ps ++ #[rawInt lpos.line, rawInt lpos.col, .ref c']))) c' (k_ c' (X.env.qual ++ "<lambda>"))
  have H1old : ∀ b, b ≠ P -> b ≠ c' -> H1 b = H b := fun b n1 n2 => by show upd _ c' _ b = _; rw [qu n2, qu n1]
  have old : ∀ {b u}, s.heap.get? b = some u -> b ≠ c' := fun e z => absurd (Nat.lt_of_lt_of_le (Heap.lt_size e) (z ▸ hge)) (Nat.lt_irrefl _)
  have oldH : ∀ {b u}, H b = some u -> b ≠ c' := fun e z => by rw [z, fc] at e; cases e
  have I1 : Inv X pins σ H1 { s with heap := h', toks := tk } := by
   refine I.step (g' := s.gens) (d' := s.drawn) (ch := []) (fun _ z => nomatch z) (fun b u _ _ _ e n => hx b u (fun z => by rw [z, hP] at n; cases n) e) (fun b u _ _ _ e n => ⟨u.slots, hx b u (fun z => by rw [z, hP] at n; cases n) e⟩) (fun b u _ e n => ?_)
    (fun b u _ e => ?_) (fun b xs z => ?_) (fun b u xs z => ?_) (fun b ps' z => ?_) (fun m hm => hm.extBut hx (fun z => by have := I.free; rw [z, hP] at this; cases this)) (fun b u e => ?_) I.bare
   ·rw [H1old b (fun z => by rw [z, hP] at n; cases n) (old e)]; exact n
   ·by_cases hb : b = P
    ·exact ⟨_, hb ▸ htb⟩
    ·exact ⟨u, hx b u hb e⟩
   ·rw [H1old b (nP b _ z rfl) (oldH z)]; exact z
   ·rw [H1old b (nP b _ z rfl) (oldH z)]; exact z
   ·by_cases hb : b = P
    ·subst hb
     rw [hP] at z
     cases z
     exact ⟨#[rawInt lpos.line, rawInt lpos.col, .ref c'], by show upd _ c' _ b = _; rw [qu hcP.symm, qv]⟩
    ·exact ⟨#[], by rw [H1old b hb (oldH z), z]; simp⟩
   ·have e' : upd (upd H P (.tbl (ps ++ #[rawInt lpos.line, rawInt lpos.col, .ref c']))) c' (k_ c' (X.env.qual ++ "<lambda>")) b = some u := e
    by_cases hb : b = c'
    ·subst hb
     rw [qv] at e'
     cases e'
     obtain ⟨c2, o, vs, t, z1, z2, z3, z4⟩ := id hrec
     cases z1
     exact ⟨hrec, ⟨o, z2⟩, codeStay b⟩
    ·rw [qu hb] at e'
     by_cases hp : b = P
     ·subst hp
      rw [qv] at e'
      cases e'
      exact htb
     ·rw [qu hp] at e'
      refine (I.hok b u e').stay (fun a v ha z => hx a v ?_ z) (fun a z => ?_) (fun a xs z => ?_)
      ·rintro rfl
       rcases ha with z | z
       ·exact hp z.symm
       ·rw [hP] at z; cases z
      ·have ea : H1 a = H a := H1old a (nP a _ z rfl) (oldH z)
       show H1 a = _
       rw [ea]; exact z
      ·have ea : H1 a = H a := H1old a (nP a _ z rfl) (oldH z)
       show H1 a = _
       rw [ea]; exact z
  have fq : H1 h'.objs.size = none := I1.hok.fresh (Nat.le_refl _)
  have I2 : Inv X pins σ (upd H1 h'.objs.size (kZ h'.objs.size (X.env.qual ++ "<lambda>") params body scope ((X.mg "__name__").getD .none) c')) { s with heap := h'.push (PySem.W.kla_obj "<lambda>" (X.env.qual ++ "<lambda>") params body scope [] ((X.mg "__name__").getD .none) c' ctv), toks := tk } :=
   I1.laid (t' := tk) (fun b o e => Heap.get?_push_of_some _ e) (Nat.le_refl _) ⟨⟨ctv, Heap.get?_push_size _ rfl⟩, ⟨_, Heap.get?_push_size _ rfl⟩, lamStay _ c'⟩
  have s1 : SaT P H H1 := ⟨fun b u e n => by rw [H1old b (nP b u e n) (oldH e)]; exact e, fun b ps' e => by
   by_cases hb : b = P
   ·subst hb
    rw [hP] at e
    cases e
    exact ⟨#[rawInt lpos.line, rawInt lpos.col, .ref c'], by show upd _ c' _ b = _; rw [qu hcP.symm, qv]⟩
   ·exact ⟨#[], by rw [H1old b hb (oldH e), e]; simp⟩, fun b ps' e n => by rw [H1old b n (oldH e)]; exact e⟩
  have hP1 : H1 P = some (.tbl (ps ++ #[rawInt lpos.line, rawInt lpos.col, .ref c'])) := by show upd _ c' _ P = _; rw [qu hcP.symm, qv]
  have hc1 : H1 c' = some (k_ c' (X.env.qual ++ "<lambda>")) := qv
  have sq := zQ fq (kZ h'.objs.size (X.env.qual ++ "<lambda>") params body scope ((X.mg "__name__").getD .none) c')
  have el : (ps ++ #[rawInt lpos.line, rawInt lpos.col, .ref c']).toList = ps.toList ++ [rawInt lpos.line, rawInt lpos.col, .ref c'] := by simp
  have T1 : TabOk H1 P lpos (X.env.qual ++ "<lambda>") := ⟨_, hP1, by rw [el]; exact x_ _ ht, .inr ⟨c', by rw [el]; exact codeAmong_snoc _ ht hnf, hc1⟩⟩
  exact ⟨.ref h'.objs.size, _, I2, rfl, q _ c' _ (s1.trans (SaT.of sq)) (T1.mono sq) (s1.free fq) qv (sq _ _ hc1)⟩
 ·refine PySem.W.kla_makeFunctionHit (mg := X.mg) hcl I.ok.glob glob hcode C gP ht hf hB fun ctv h' tk hk hsz => ?_
  have I1 : Inv X pins σ H { s with heap := h', toks := tk } := I.kept hk
  have fq : H h'.objs.size = none := I1.hok.fresh (Nat.le_refl _)
  have I2 : Inv X pins σ (upd H h'.objs.size (kZ h'.objs.size (X.env.qual ++ "<lambda>") params body scope ((X.mg "__name__").getD .none) c')) { s with heap := h'.push (PySem.W.kla_obj "<lambda>" (X.env.qual ++ "<lambda>") params body scope [] ((X.mg "__name__").getD .none) c' ctv), toks := tk } :=
   I1.laid (t' := tk) (fun b o e => Heap.get?_push_of_some _ e) (Nat.le_refl _) ⟨⟨ctv, Heap.get?_push_size _ rfl⟩, ⟨_, Heap.get?_push_size _ rfl⟩, lamStay _ c'⟩
  have sq := zQ fq (kZ h'.objs.size (X.env.qual ++ "<lambda>") params body scope ((X.mg "__name__").getD .none) c')
  have T0 : TabOk H P lpos (X.env.qual ++ "<lambda>") := ⟨ps, hP, ht, .inr ⟨c', hf, hc'⟩⟩
  exact ⟨.ref h'.objs.size, _, I2, rfl, q _ c' _ (SaT.of sq) (T0.mono sq) fq qv (sq _ _ hc')⟩
theorem Jz {prog : Program} {w : World} {A : Around} {s : Shared} {q c' x : Addr} {lq px gx : Str} {params : Arguments} {scope : Scope} {pm ctv : Value} {pp gp bp : Pos} {mg : Str -> Option Value} {its : Array Value} {ix : Nat} {t t0 : Tok} {k : Int}
  (hq : s.heap.get? q = some (PySem.W.kla_obj "<lambda>" lq params (.Subscript (.Name px pp) (.Name gx gp) bp) scope [] pm c' ctv)) (hc : s.heap.CodeRec (.ref c') lq) (hd : A.depth < recursionLimit) (lim : s.heap.NoLimit) (glob : s.heap.Ns mainGlobals mg)
  (hgx : mg gx = some (.int ix t0)) (ht : IsTup s.heap x its) (hk : its[ix]? = some (.int k t)) (hz : its.size <= sizeLine)
  (hb : bindArgs (PySem.W.kla_fn "<lambda>" lq params (.Subscript (.Name px pp) (.Name gx gp) bp) scope [] pm (.ref c') ctv) ⟨[.ref x], []⟩ = pure [(px, .ref x)])
  (kd : scope.kind = .function) (co : scope.isCoroutine = false) (gn : scope.isGenerator = false) (ncell : ∀ y ∈ scope.names, y.2 ≠ .cell) (lpx : scope.names.lookup px = some .local) (lgx : scope.names.lookup gx = some .globalImplicit)
  (d1 : (px == ("__debug__" : Str)) = false) (d2 : (gx == ("__debug__" : Str)) = false) :
  wpAny (model prog w) A (call (.ref q) [.ref x]) (fun v s' => ∃ h' tk t', s' = { s with heap := h', toks := tk } /\ v = .int k t' /\ ∀ b o, s.heap.get? b = some o -> h'.get? b = some o) (fun _ _ => False) s := by
 refine wpAny_call (PySem.W.kla_callFunE hd hq rfl co gn rfl hc ?_)
 rw [hb]
 refine wpAny_pure (wpAny_newFunctionEnv ncell (fun y hy => ?_) (fun h₁ hns hsb => ⟨lim.fresh _ hsb, ?_⟩) kd)
 ·rw [List.mem_singleton.mp hy]
  exact lpx
 have hk₁ : ∀ b o, s.heap.get? b = some o -> h₁.get? b = some o := fun b o e => hsb.extBut b o (Nat.ne_of_lt (Heap.lt_size e)) (Heap.get?_push_of_some _ e)
 refine PySem.W.kla_codeExpr ?_
 have hix : ix < its.size := by
  obtain ⟨z, _⟩ := Array.getElem?_eq_some_iff.mp hk
  exact z
 refine Subscript_ (wpAny_Name (wpAny_loadName_local kd lpx hns (show List.lookup px [(px, Value.ref x)].reverse = some (.ref x) by simp [List.lookup]) ?_) d1)
 refine Calls.Name_function_global kd lgx (Calls.loadGlobal_global (glob.keeps hk₁) hgx ?_) d2
 have ht1 : IsTup h₁ x its := by
  obtain ⟨o, e, r⟩ := ht
  exact ⟨o, hk₁ _ _ e, r⟩
 have hn := xa
 refine subscriptTail_builtinR (x := .int k t) ht1.typeIs slot_tuple_getitem.lookup (getItem_tuple (j := ix) ht1 (by omega) (by omega) ?_ hk ⟨rfl, ?_⟩)
 ·unfold seqIndex?
  simp
  omega
 ·exact ⟨_, _, _, rfl, rfl, hk₁⟩
theorem vC {α β : Type} {R : α -> β -> Prop} {l1 l2 : List β} (p : l1.Perm l2) : ∀ {m2 : List α}, Paired R m2 l2 -> ∃ m1, Paired R m1 l1 /\ m1.Perm m2 := by
 induction p with
 | nil =>
  intro m2 h
  cases h
  exact ⟨[], .nil, .nil⟩
 | cons x _ ih =>
  intro m2 h
  cases h with
  | cons r t =>
   obtain ⟨m1, a, b⟩ := ih t
   exact ⟨_ :: m1, .cons r a, b.cons _⟩
 | swap x y l =>
  intro m2 h
  cases h with
  | cons r t =>
   cases t with
   | cons r' t => exact ⟨_ :: _ :: _, .cons r' (.cons r t), .swap _ _ _⟩
 | trans _ _ ih1 ih2 =>
  intro m2 h
  obtain ⟨m1, a, b⟩ := ih2 h
  obtain ⟨m0, c, d⟩ := ih1 a
  exact ⟨m0, c, d.trans b⟩
def KOut (b : Bool) (ks : List Int) (xs out : List V) : Prop := ∃ ps : List (Int × V), ps.Perm (ks.zip xs) /\ out = ps.map Prod.snd /\ ps.Pairwise (fun p q => if b then q.1 <= p.1 else p.1 <= q.1)
theorem v6 : ∀ {ks : List Int} {xs : List V} {us : List Value}, Vals xs us -> Paired (fun (p : Int × V) (q : Int × Value) => p.1 = q.1 /\ RelV p.2 q.2) (ks.zip xs) (ks.zip us)
 | [], _, _, _ => by simp; exact .nil
 | _ :: _, [], _, .nil => by simp; exact .nil
 | k :: ks, x :: xs, u :: us, .cons r t => by
  rw [List.zip_cons_cons, List.zip_cons_cons]
  exact .cons ⟨rfl, r⟩ (v6 t)
theorem v7 : ∀ {ps : List (Int × V)} {qs : List (Int × Value)}, Paired (fun (p : Int × V) (q : Int × Value) => p.1 = q.1 /\ RelV p.2 q.2) ps qs -> Vals (ps.map Prod.snd) (qs.map Prod.snd)
 | _, _, .nil => .nil
 | _, _, .cons r t => .cons r.2 (v7 t)
theorem wg {b : Bool} : ∀ {ps : List (Int × V)} {qs : List (Int × Value)}, Paired (fun (p : Int × V) (q : Int × Value) => p.1 = q.1 /\ RelV p.2 q.2) ps qs -> qs.Pairwise (fun p q => if b then q.1 <= p.1 else p.1 <= q.1) -> ps.Pairwise (fun p q => if b then q.1 <= p.1 else p.1 <= q.1)
 | _, _, .nil, _ => .nil
 | p :: ps, q :: qs, .cons r t, h => by
  obtain ⟨h1, h2⟩ := List.pairwise_cons.mp h
  refine List.pairwise_cons.mpr ⟨fun x hx => ?_, wg t h2⟩
  have mem : ∀ {ps : List (Int × V)} {qs : List (Int × Value)}, Paired (fun (p : Int × V) (q : Int × Value) => p.1 = q.1 /\ RelV p.2 q.2) ps qs -> ∀ x ∈ ps, ∃ y ∈ qs, x.1 = y.1 := by
   intro ps qs h
   induction h with
   | nil => intro x hx; cases hx
   | cons r _ ih =>
    intro x hx
    rcases List.mem_cons.mp hx with z | z
    ·subst z; exact ⟨_, List.mem_cons_self .., r.1⟩
    ·obtain ⟨y, hy, e⟩ := ih x z
     exact ⟨y, List.mem_cons_of_mem _ hy, e⟩
  obtain ⟨y, hy, e⟩ := mem t x hx
  have g := h1 y hy
  rw [r.1, e]
  exact g
theorem wc {X : Cx} {pins : List (Addr × Obj)} {σ : L2.St} {H : Hp} {s : Shared} {Q : VK} {a q c' : Addr} {xs : List V} {ks : List Int} {b : Bool} {kw : List (Str × Value)} {k0 : Nat} {lq px gx : Str} {params : Arguments} {scope : Scope} {pm : Value} {pp gp bp : Pos} {ix : Nat} {t0 : Tok}
  (I : Inv X pins σ H s) (hr : Room k0 X.A) (hx : SqL X.K H a xs) (h64 : xs.length < 64) (hlen : ks.length = xs.length) (items : ∀ (i : Nat) x k, xs[i]? = some x -> ks[i]? = some k -> ∃ p ws, x = V.ref p /\ H p = some (.tup ws) /\ ws[ix]? = some (.int k))
  (hq : H q = some (kZ q lq params (.Subscript (.Name px pp) (.Name gx gp) bp) scope pm c')) (hc : H c' = some (k_ c' lq)) (hgx : X.mg gx = some (.int ix t0))
  (hb : ∀ ctv x, bindArgs (PySem.W.kla_fn "<lambda>" lq params (.Subscript (.Name px pp) (.Name gx gp) bp) scope [] pm (.ref c') ctv) ⟨[.ref x], []⟩ = pure [(px, .ref x)])
  (kd : scope.kind = .function) (co : scope.isCoroutine = false) (gn : scope.isGenerator = false) (ncell : ∀ y ∈ scope.names, y.2 ≠ .cell) (lpx : scope.names.lookup px = some .local) (lgx : scope.names.lookup gx = some .globalImplicit)
  (d1 : (px == ("__debug__" : Str)) = false) (d2 : (gx == ("__debug__" : Str)) = false)
  (ha1 : argsOk "sorted" ⟨[.ref a], kw⟩) (ha2 : ∀ x, argsOk "list.sort" ⟨[.ref x], kw⟩) (ht : ∀ x, Builtin.«list.sort» ⟨[.ref x], kw⟩ = ksk_tree x (.ref q) b)
  (fin : ∀ D out, H D = none -> KOut b ks xs out -> Q (.ref D) (upd H D (.lst out))) : wpAny (model X.prog X.w) X.A (call (.builtin "sorted") [.ref a] kw) (EP X pins σ Q) X.xe s := by
 obtain ⟨us, ru, pu, hz⟩ := I.list hx
 obtain ⟨m, hm, _⟩ := id I.loc
 have lu := ru.length
 have nL : ∀ {b u}, H b = some u -> b ≠ X.env.locals := fun e z => by have := I.free; rw [<- z, e] at this; cases this
 refine ksk_sorted (h₀ := Att.noObjs s.heap) (L := X.env.locals) (m := m) (news := vQ (Att.noObjs s.heap) s.heap X.env.locals) (kz := ks) (Att.fr_all hm) Jr pu.isList (by rw [hlen, lu]) (by rw [<- lu]; exact h64) ha1 ha2 ht ?_ ?_
 ·intro i v k hv hk h tk own F' N'
  have get : ∀ b o, b ≠ X.env.locals -> s.heap.get? b = some o -> h.get? b = some o := fun b o nb e => (N' (b, o) (List.mem_append_left _ (ka nb (Att.noObjs_get _ _) e))).1
  have hi : i < xs.length := by rw [lu]; exact (List.getElem?_eq_some_iff.mp hv).1
  have hxi : xs[i]? = some xs[i] := List.getElem?_eq_getElem hi
  obtain ⟨u, hu, rv⟩ := ru.get hxi
  rw [hv] at hu
  cases hu
  obtain ⟨p, ws, ep, hp, hw⟩ := items i _ k hxi hk
  rw [ep] at rv
  cases (show v = Value.ref p from rv)
  obtain ⟨its, r, pl, hz2⟩ := I.tuple (SqT.of (K := X.K) hp)
  obtain ⟨u, hu, ⟨t, rfl⟩⟩ := r.get hw
  obtain ⟨⟨ctv, eq⟩, _⟩ := I.hok q _ hq
  have cr : s.heap.CodeRec (.ref c') lq := (I.hok c' _ hc).1
  have keepB : ∀ b o, X.base.get? b = some o -> h.get? b = some o := fun b o e => get b o (Nat.ne_of_lt (Nat.lt_of_lt_of_le (Heap.lt_size (I.ok.bs b o e).1) I.ok.above)) (I.bk b o e)
  have cr' : h.CodeRec (.ref c') lq := by
   obtain ⟨c2, o, vs, t, z1, z2, z3, z4⟩ := cr
   cases z1
   exact ⟨_, o, vs, t, rfl, get _ _ (nL hc) z2, z3, z4⟩
  have tp : IsTup h p its.toArray := by
   obtain ⟨o, e, r⟩ := pl
   exact ⟨o, get _ _ (nL hp) e, r⟩
  refine wpAny_mono (Jz (s := { s with heap := h, toks := tk }) (mg := X.mg) (get _ _ (nL hq) eq) cr' (show X.A.in1.in1.depth < recursionLimit from hr.depth) (I.mod.nolimit.keeps keepB) (I.mod.glob.keeps keepB) hgx tp (by simpa using hu) (by rw [List.size_toArray, <- r.length]; exact hz2) (hb ctv p) kd co gn ncell lpx lgx d1 d2) (fun v s' hh => ?_) fun _ _ z => z
  obtain ⟨h2, tk2, t2, e1, e2, kk⟩ := hh
  exact ⟨h2, tk2, t2, by rw [e1], e2, F'.kept kk, N'.grown kk⟩
 ·intro D h' tk out c F' N' hlt ko
  have kept : ∀ b o, b ≠ X.env.locals -> s.heap.get? b = some o -> h'.get? b = some o := fun b o nb e => (N' (b, o) (List.mem_cons_of_mem _ (ka nb (Att.noObjs_get _ _) e))).1
  have hDn := N' (D, seqObj "list" out c) (List.mem_cons_self ..)
  have hD : s.heap.get? D = none := by
   cases e : s.heap.get? D with
   | none => rfl
   | some o => exact absurd (hlt (D, o) (ka hDn.2.1 (Att.noObjs_get _ _) e)) (Nat.lt_irrefl _)
  obtain ⟨qs, hp, ho, hw⟩ := ko
  obtain ⟨ps, pr, pp'⟩ := vC hp (v6 (ks := ks) ru)
  have lps : ps.length = xs.length := by rw [pp'.length_eq, List.length_zip]; omega
  have vo : Vals (ps.map Prod.snd) out.toList := by rw [ho]; exact v7 pr
  refine ⟨.ref D, _, I.laidL (t' := tk) (o := .lst (ps.map Prod.snd)) kept (fun m' hm' => ?_) hD ?_, rfl, fin D _ (xJ I hD) ⟨ps, pp', rfl, wg pr hw⟩⟩
  ·have em : m' = m := funext fun x => hm'.agree hm x
   rw [em]
   exact F'.ns
  ·exact ⟨by rw [List.length_map, lps]; exact Nat.le_of_lt (vu (by omega)), out.toList, c, vo, by rw [Array.toArray_toList]; exact hDn.1⟩
theorem SaT.seq {P : Addr} {K : PySem.W.Frag} {H H' : Hp} (s : SaT P H H') {a : Addr} {xs : List V} (h : SqL K H a xs) : SqL K H' a xs := by
 rcases h with h | h
 ·rcases h with h | ⟨o, h⟩
  ·exact .inl (.inl (s.keep _ _ h rfl))
  ·exact .inl (.inr ⟨o, s.keep _ _ h rfl⟩)
 ·exact .inr h
def JY (K : PySem.W.Frag) (P : Addr) (lpos : Pos) (lq : Str) (ix : Nat) (b : Bool) (tl : TE) : TE := fun σ H Q => tl σ H fun x H1 => ∃ a xs ks, x = .ref a /\ SqL K H1 a xs /\ xs.length < 64 /\ ks.length = xs.length /\
 (∀ (i : Nat) x k, xs[i]? = some x -> ks[i]? = some k -> ∃ p ws, x = V.ref p /\ H1 p = some (.tup ws) /\ ws[ix]? = some (.int k)) /\ TabOk H1 P lpos lq /\
 ∀ D out H2, SaT P H1 H2 -> TabOk H2 P lpos lq -> H1 D = none -> H2 D = some (.lst out) -> KOut b ks xs out -> Q (.ref D) H2
section
variable {X : Cx} {l : Expr} {tl : TE} {k0 : Nat} {px gx : Str} {params : Arguments} {scope : Scope} {pp gp bp lpos kp p pos : Pos} {ix : Nat} {t0 : Tok} {c P : Addr} {k1 : Nat} {rp kp2 : Pos}
theorem Jj (hr : Room k0 X.A) (hg : Gl X "sorted") (hm : X.mg "sorted" = none) (hl : PE X l tl) (hcode : X.env.code = .ref c) (hc : PySem.W.codeHdIn X.K c P = true) (BM : Bm X.base X.mg) (hgx : X.mg gx = some (.int ix t0))
  (hdef : defaultsOf params X.env = ([], []) := by rfl) (hcl : closureFor scope X.env = pure [] := by rfl)
  (hb : ∀ (c' : Addr) (pm ctv : Value) (x : Addr), bindArgs (PySem.W.kla_fn "<lambda>" (X.env.qual ++ "<lambda>") params (.Subscript (.Name px pp) (.Name gx gp) bp) scope [] pm (.ref c') ctv) ⟨[.ref x], []⟩ = pure [(px, .ref x)] := by intro _ _ _ _; rfl)
  (kd : scope.kind = .function := by rfl) (co : scope.isCoroutine = false := by rfl) (gn : scope.isGenerator = false := by rfl) (ncell : ∀ y ∈ scope.names, y.2 ≠ .cell := by decide +kernel) (lpx : scope.names.lookup px = some .local := by rfl) (lgx : scope.names.lookup gx = some .globalImplicit := by rfl)
  (d1 : (px == ("__debug__" : Str)) = false := by decide) (d2 : (gx == ("__debug__" : Str)) = false := by decide) (he : starEach [l] X.env = [(false, eval l X.env)] := by rfl) :
  PE X (.Call (.Name "sorted" p) [l] [⟨some "key", .Lambda params (.Subscript (.Name px pp) (.Name gx gp) bp) scope lpos, kp⟩] pos) (JY X.K P lpos (X.env.qual ++ "<lambda>") ix false tl) := by
 intro pins s σ H Q I h
 refine wpAny_Call_Name_kw (wt I hg hm vP ?_)
 refine callWith_builtin_kwB (first := []) (by rw [he]; rfl) rfl (evalArgs_kw2 rfl ?_ he)
 refine thn ((zL hl jF he) pos pins s σ H (fun vs H1 => match vs with
  | [x] => ∃ a xs ks, x = .ref a /\ SqL X.K H1 a xs /\ xs.length < 64 /\ ks.length = xs.length /\ (∀ (i : Nat) x k, xs[i]? = some x -> ks[i]? = some k -> ∃ p ws, x = V.ref p /\ H1 p = some (.tup ws) /\ ws[ix]? = some (.int k)) /\ TabOk H1 P lpos (X.env.qual ++ "<lambda>") /\
    ∀ D out H2, SaT P H1 H2 -> TabOk H2 P lpos (X.env.qual ++ "<lambda>") -> H1 D = none -> H2 D = some (.lst out) -> KOut false ks xs out -> Q (.ref D) H2
  | _ => False) I h) fun us s1 hus => ?_
 obtain ⟨vs, H1, I1, r1, q1⟩ := hus
 obtain ⟨x, rfl⟩ : ∃ x, vs = [x] := by
  cases vs with
  | nil => exact q1.elim
  | cons x r =>
   cases r with
   | nil => exact ⟨x, rfl⟩
   | cons y r => exact q1.elim
 obtain ⟨u, rfl, ru⟩ := vals1 r1
 obtain ⟨a, xs, ks, rfl, hx, h64, hlen, items, tab, fin⟩ := q1
 cases (show u = Value.ref a from ru)
 refine thn ((wS (kpos := kp) (nm := some "key") (Kb hcode hc BM hdef hcl) J9) pos pins s1 σ H1 (fun zs H2 => match zs with
   | [z] => ∃ q c', z = .ref q /\ SaT P H1 H2 /\ TabOk H2 P lpos (X.env.qual ++ "<lambda>") /\ H2 q = some (kZ q (X.env.qual ++ "<lambda>") params (.Subscript (.Name px pp) (.Name gx gp) bp) scope ((X.mg "__name__").getD .none) c') /\ H2 c' = some (k_ c' (X.env.qual ++ "<lambda>"))
   | _ => False) I1 ⟨tab, fun q c' H2 s2 t2 _ hq hc' => ⟨q, c', rfl, s2, t2, hq, hc'⟩⟩) fun ws s2 hws => ?_
 obtain ⟨zs, H2, I2, rz, q2⟩ := hws
 obtain ⟨z, rfl⟩ : ∃ z, zs = [z] := by
  cases zs with
  | nil => exact q2.elim
  | cons x r =>
   cases r with
   | nil => exact ⟨x, rfl⟩
   | cons y r => exact q2.elim
 obtain ⟨w, rfl, rw'⟩ := vals1 rz
 obtain ⟨q, c', rfl, s2', t2, hq, hc'⟩ := q2
 cases (show w = Value.ref q from rw')
 show wpAny (model X.prog X.w) X.A (call (.builtin "sorted") [.ref a] [(Str.ofString "key", .ref q)]) (EP X pins σ Q) X.xe s2
 refine wc (b := false) (kw := [(Str.ofString "key", .ref q)]) I2 hr (s2'.seq hx) h64 hlen (fun i x k h1 h2 => ?_) hq hc' hgx (hb c' _) kd co gn ncell lpx lgx d1 d2 (ksk_s1 _ _) (fun x => ksk_l1 _ _) (fun x => ksk_t1 q x) fun D out hD ko => ?_
 ·obtain ⟨p, ws, e, hp, hw⟩ := items i x k h1 h2
  exact ⟨p, ws, e, s2'.keep _ _ hp rfl, hw⟩
 ·exact fin D out _ (s2'.new hD _) (t2.mono (zQ hD _)) (s2'.free hD) qv ko
theorem QY (hr : Room k0 X.A) (hg : Gl X "sorted") (hm : X.mg "sorted" = none) (hl : PE X l tl) (hcode : X.env.code = .ref c) (hc : PySem.W.codeHdIn X.K c P = true) (BM : Bm X.base X.mg) (hgx : X.mg gx = some (.int ix t0))
  (hdef : defaultsOf params X.env = ([], []) := by rfl) (hcl : closureFor scope X.env = pure [] := by rfl)
  (hb : ∀ (c' : Addr) (pm ctv : Value) (x : Addr), bindArgs (PySem.W.kla_fn "<lambda>" (X.env.qual ++ "<lambda>") params (.Subscript (.Name px pp) (.Name gx gp) bp) scope [] pm (.ref c') ctv) ⟨[.ref x], []⟩ = pure [(px, .ref x)] := by intro _ _ _ _; rfl)
  (kd : scope.kind = .function := by rfl) (co : scope.isCoroutine = false := by rfl) (gn : scope.isGenerator = false := by rfl) (ncell : ∀ y ∈ scope.names, y.2 ≠ .cell := by decide +kernel) (lpx : scope.names.lookup px = some .local := by rfl) (lgx : scope.names.lookup gx = some .globalImplicit := by rfl)
  (d1 : (px == ("__debug__" : Str)) = false := by decide) (d2 : (gx == ("__debug__" : Str)) = false := by decide) (he : starEach [l] X.env = [(false, eval l X.env)] := by rfl) :
  PE X (.Call (.Name "sorted" p) [l] [⟨some "key", .Lambda params (.Subscript (.Name px pp) (.Name gx gp) bp) scope lpos, kp⟩, ⟨some "reverse", .Constant (.bool true) k1 rp, kp2⟩] pos) (JY X.K P lpos (X.env.qual ++ "<lambda>") ix true tl) := by
 intro pins s σ H Q I h
 refine wpAny_Call_Name_kw (wt I hg hm vP ?_)
 refine callWith_builtin_kwB (first := []) (by rw [he]; rfl) rfl (evalArgs_kw2 rfl ?_ he)
 refine thn ((zL hl jF he) pos pins s σ H (fun vs H1 => match vs with
  | [x] => ∃ a xs ks, x = .ref a /\ SqL X.K H1 a xs /\ xs.length < 64 /\ ks.length = xs.length /\ (∀ (i : Nat) x k, xs[i]? = some x -> ks[i]? = some k -> ∃ p ws, x = V.ref p /\ H1 p = some (.tup ws) /\ ws[ix]? = some (.int k)) /\ TabOk H1 P lpos (X.env.qual ++ "<lambda>") /\
    ∀ D out H2, SaT P H1 H2 -> TabOk H2 P lpos (X.env.qual ++ "<lambda>") -> H1 D = none -> H2 D = some (.lst out) -> KOut true ks xs out -> Q (.ref D) H2
  | _ => False) I h) fun us s1 hus => ?_
 obtain ⟨vs, H1, I1, r1, q1⟩ := hus
 obtain ⟨x, rfl⟩ : ∃ x, vs = [x] := by
  cases vs with
  | nil => exact q1.elim
  | cons x r =>
   cases r with
   | nil => exact ⟨x, rfl⟩
   | cons y r => exact q1.elim
 obtain ⟨u, rfl, ru⟩ := vals1 r1
 obtain ⟨a, xs, ks, rfl, hx, h64, hlen, items, tab, fin⟩ := q1
 cases (show u = Value.ref a from ru)
 refine thn ((wS (kpos := kp) (nm := some "key") (Kb hcode hc BM hdef hcl) (wS (kpos := kp2) (nm := some "reverse") Q4 J9)) pos pins s1 σ H1 (fun zs H2 => match zs with
   | [z, y] => ∃ q c', y = .bl true /\ z = .ref q /\ SaT P H1 H2 /\ TabOk H2 P lpos (X.env.qual ++ "<lambda>") /\ H2 q = some (kZ q (X.env.qual ++ "<lambda>") params (.Subscript (.Name px pp) (.Name gx gp) bp) scope ((X.mg "__name__").getD .none) c') /\ H2 c' = some (k_ c' (X.env.qual ++ "<lambda>"))
   | _ => False) I1 ⟨tab, fun q c' H2 s2 t2 _ hq hc' => ⟨q, c', rfl, rfl, s2, t2, hq, hc'⟩⟩) fun ws s2 hws => ?_
 obtain ⟨zs, H2, I2, rz, q2⟩ := hws
 obtain ⟨z, y, rfl⟩ : ∃ z y, zs = [z, y] := by
  cases zs with
  | nil => exact q2.elim
  | cons x r =>
   cases r with
   | nil => exact q2.elim
   | cons y r =>
    cases r with
    | nil => exact ⟨x, y, rfl⟩
    | cons y r => exact q2.elim
 obtain ⟨w, w2, rfl, rw', rw2⟩ := vals2 rz
 obtain ⟨q, c', rfl, rfl, s2', t2, hq, hc'⟩ := q2
 cases (show w = Value.ref q from rw')
 cases (show w2 = Value.bool true from rw2)
 show wpAny (model X.prog X.w) X.A (call (.builtin "sorted") [.ref a] [(Str.ofString "key", .ref q), (Str.ofString "reverse", .bool true)]) (EP X pins σ Q) X.xe s2
 refine wc (b := true) (kw := [(Str.ofString "key", .ref q), (Str.ofString "reverse", .bool true)]) I2 hr (s2'.seq hx) h64 hlen (fun i x k h1 h2 => ?_) hq hc' hgx (hb c' _) kd co gn ncell lpx lgx d1 d2 (ksk_s2 _ _ _) (fun x => ksk_l2 _ _ _) (fun x => ksk_t2 q x true) fun D out hD ko => ?_
 ·obtain ⟨p, ws, e, hp, hw⟩ := items i x k h1 h2
  exact ⟨p, ws, e, s2'.keep _ _ hp rfl, hw⟩
 ·exact fin D out _ (s2'.new hD _) (t2.mono (zQ hD _)) (s2'.free hD) qv ko
end
end X2
namespace X2
open PySem PySem.Spec PyProof.Rows L2 PySem.W
def runC {α : Type} (n : Nat) (lt : Nat -> Nat -> Bool) : KasT α -> Option α
 | .ret a => some a
 | .ask i j k => if i < n /\ j < n then runC n lt (k (lt i j)) else none
theorem QC {α : Type} {n : Nat} {lt : Nat -> Nat -> Bool} {cmp : Nat -> Nat -> (Bool -> Shared -> Prop) -> Shared -> Prop} {s : Shared} (hc : ∀ i j C, i < n -> j < n -> C (lt i j) s -> cmp i j C s) {Q : α -> Shared -> Prop} : ∀ (t : KasT α) (a : α), runC n lt t = some a -> Q a s -> t.kasWp cmp Q s
 | .ret b, a, e, q => by cases e; exact q
 | .ask i j k, a, e, q => by
  unfold runC at e
  split at e
  ·rename_i h
   exact hc i j _ h.1 h.2 (QC hc (k (lt i j)) a e q)
  ·cases e
def goodRun (n : Nat) (r : List Nat) : Bool := match runC n (fun i j => decide (r.getD i 0 < r.getD j 0)) (kas_sort n) with
 | some p => p.toList.isPerm (List.range n) && (p.toList.map (fun i => r.getD i 0) == List.range n)
 | none => false
def lists (m : Nat) : Nat -> List (List Nat)
 | 0 => [[]]
 | n + 1 => (lists m n).flatMap fun l => (List.range m).map fun i => i :: l
theorem wo {m : Nat} : ∀ {l : List Nat}, (∀ i ∈ l, i < m) -> l ∈ lists m l.length
 | [], _ => List.mem_singleton.mpr rfl
 | i :: l, h => List.mem_flatMap.mpr ⟨l, wo fun j hj => h j (List.mem_cons_of_mem _ hj), List.mem_map.mpr ⟨i, List.mem_range.mpr (h i (List.mem_cons_self ..)), rfl⟩⟩
theorem good2 : ∀ r ∈ lists 2 2, r.Nodup -> goodRun 2 r = true := by decide +kernel
theorem good3 : ∀ r ∈ lists 3 3, r.Nodup -> goodRun 3 r = true := by decide +kernel
theorem X8 : ∀ r ∈ lists 4 4, r.Nodup -> goodRun 4 r = true := by decide +kernel
theorem X7 : ∀ r ∈ lists 5 5, r.Nodup -> goodRun 5 r = true := by decide +kernel
theorem Vg {r : List Nat} (h2 : 2 <= r.length) (h5 : r.length <= 5) (hr : ∀ i ∈ r, i < r.length) (nd : r.Nodup) : goodRun r.length r = true := by
 have hm := wo hr
 rcases (by omega : r.length = 2 \/ r.length = 3 \/ r.length = 4 \/ r.length = 5) with e | e | e | e <;> rw [e] at hm ⊢
 ·exact good2 r hm nd
 ·exact good3 r hm nd
 ·exact X8 r hm nd
 ·exact X7 r hm nd
theorem vY {α : Type} {n : Nat} {lt lt' : Nat -> Nat -> Bool} (h : ∀ i j, i < n -> j < n -> lt i j = lt' i j) : ∀ t : KasT α, runC n lt t = runC n lt' t
 | .ret a => rfl
 | .ask i j k => by
  unfold runC
  split
  ·rename_i q
   rw [h i j q.1 q.2]
   exact vY h _
  ·rfl
theorem tot {a b : List Nat} (h1 : ¬ a < b) (h2 : ¬ b < a) : a = b := List.le_antisymm (List.not_lt.mp h2) (List.not_lt.mp h1)
def rk (ks : List (List Nat)) (k : List Nat) : Nat := (ks.filter fun x => decide (x < k)).length
theorem XQ {ks : List (List Nat)} {k : List Nat} (h : k ∈ ks) : rk ks k < ks.length := by
 unfold rk
 rw [List.length_filter_lt_length_iff_exists]
 exact ⟨k, h, by simp [List.lt_irrefl]⟩
theorem xx {ks : List (List Nat)} {k k' : List Nat} (h : k ∈ ks) (hk : k < k') : rk ks k < rk ks k' := by
 unfold rk
 have e : ks.filter (fun x => decide (x < k)) = (ks.filter (fun x => decide (x < k'))).filter (fun x => decide (x < k)) := by
  rw [List.filter_filter]
  apply List.filter_congr
  intro x _
  by_cases q : x < k
  ·have : x < k' := List.lt_trans q hk
   simp [q, this]
  ·simp [q]
 rw [e, List.length_filter_lt_length_iff_exists]
 exact ⟨k, List.mem_filter.mpr ⟨h, by simpa using hk⟩, by simp [List.lt_irrefl]⟩
theorem VQ {ks : List (List Nat)} {k k' : List Nat} (h : k ∈ ks) (h' : k' ∈ ks) : rk ks k < rk ks k' ↔ k < k' := by
 refine ⟨fun q => ?_, xx h⟩
 by_cases c : k < k'
 ·exact c
 ·by_cases c2 : k' < k
  ·exact absurd (xx h' c2) (by omega)
  ·rw [tot c c2] at q
   omega
theorem Qy {ks : List (List Nat)} (h2 : 2 <= ks.length) (h5 : ks.length <= 5) (nd : ks.Nodup) :
  ∃ p : Array Nat, runC ks.length (fun i j => decide (ks.getD i [] < ks.getD j [])) (kas_sort ks.length) = some p /\ p.toList.Perm (List.range ks.length) /\ (p.toList.map (fun i => ks.getD i [])).Pairwise (· < ·) := by
 have lr : (ks.map (rk ks)).length = ks.length := List.length_map _
 have gd : ∀ i, i < ks.length -> ∃ k, k ∈ ks /\ ks.getD i [] = k /\ (ks.map (rk ks)).getD i 0 = rk ks k := fun i hi => by
  refine ⟨ks[i], List.getElem_mem hi, by simp [hi], ?_⟩
  simp [hi]
 have g := Vg (r := ks.map (rk ks)) (by rw [lr]; exact h2) (by rw [lr]; exact h5) (fun i hi => by
  obtain ⟨k, hk, rfl⟩ := List.mem_map.mp hi
  rw [lr]
  exact XQ hk) (by
  rw [List.nodup_iff_pairwise_ne] at nd ⊢
  rw [List.pairwise_map]
  refine nd.imp_of_mem fun {a b} ha hb hne e => hne ?_
  have c1 : ¬ a < b := fun z => absurd (xx ha z) (by omega)
  have c2 : ¬ b < a := fun z => absurd (xx hb z) (by omega)
  exact tot c1 c2)
 rw [lr] at g
 have ec : ∀ i j, i < ks.length -> j < ks.length -> decide ((ks.map (rk ks)).getD i 0 < (ks.map (rk ks)).getD j 0) = decide (ks.getD i [] < ks.getD j []) := fun i j hi hj => by
  obtain ⟨k, mk, e1, e2⟩ := gd i hi
  obtain ⟨k', mk', e3, e4⟩ := gd j hj
  rw [e1, e2, e3, e4]
  exact decide_eq_decide.mpr (VQ mk mk')
 unfold goodRun at g
 rw [vY ec] at g
 split at g
 ·rename_i p hp
  rw [Bool.and_eq_true] at g
  obtain ⟨g1, g2⟩ := g
  have pm : p.toList.Perm (List.range ks.length) := List.isPerm_iff.mp g1
  refine ⟨p, hp, pm, ?_⟩
  have g3 : p.toList.map (fun i => (ks.map (rk ks)).getD i 0) = List.range ks.length := eq_of_beq g2
  have pw : (p.toList.map (fun i => (ks.map (rk ks)).getD i 0)).Pairwise (· < ·) := by rw [g3]; exact List.pairwise_lt_range
  rw [List.pairwise_map] at pw ⊢
  refine pw.imp_of_mem fun {a b} ha hb q => ?_
  have la := List.mem_range.mp (pm.mem_iff.mp ha)
  have lb := List.mem_range.mp (pm.mem_iff.mp hb)
  have := ec a b la lb
  have t : decide ((ks.map (rk ks)).getD a 0 < (ks.map (rk ks)).getD b 0) = true := decide_eq_true q
  rw [this] at t
  exact of_decide_eq_true t
 ·cases g
section
variable {prog : Program} {w : World} {A : Around} {E : Value -> Shared -> Prop} {s : Shared}
theorem xG {a : Addr} {vs : List Value} {n : Nat} {P : PySem.Fin -> Shared -> Prop} {κ : SortKind} {lt : Nat -> Nat -> Bool} {p : Array Nat} (ho : s.heap.get? a = some (seqObj "list" vs.toArray n)) (h2 : 2 <= vs.length) (h64 : vs.length < 64)
  (hk : ∀ s' : Shared, (∀ b o, b ≠ a -> s.heap.get? b = some o -> s'.heap.get? b = some o) -> ∀ (Q : SortKind -> Shared -> Prop) (E' : Value -> Shared -> Prop), Q κ s' -> wpAny (model prog w) A (keyKind' vs.toArray) Q E' s')
  (hc : ∀ s' : Shared, (∀ b o, b ≠ a -> s.heap.get? b = some o -> s'.heap.get? b = some o) -> ∀ i j C, i < vs.length -> j < vs.length -> C (lt i j) s' -> kas_ask prog w A κ vs i j C s')
  (hp : runC vs.length lt (kas_sort vs.length) = some p) (pl : p.toList.length = vs.length)
  (h : P (.done (.ret .none)) { s with heap := sortedHeap s.heap a vs (p.toList.map fun i => vs.getD i Value.none).toArray }) :
  wpAny (model prog w) A (Builtin.«list.sort» ⟨[.ref a], []⟩) P E s := by
 have ha : a < s.heap.objs.size := Heap.lt_size ho
 have s1 := Heap.SameBut.update s.heap a (Obj.mapSeq fun _ => (#[] : Array Value))
 obtain ⟨e1, ho1⟩ : ∃ e1, (s.heap.update a (Obj.mapSeq fun _ => (#[] : Array Value))).get? a = some (seqObj "list" #[] e1) := ⟨_, get?_update_seq ho fun _ => #[]⟩
 have keep : ∀ b o, b ≠ a -> s.heap.get? b = some o -> (((s.heap.update a (Obj.mapSeq fun _ => (#[] : Array Value))).push (seqObj "tuple" vs.toArray 0)).push (seqObj "list" #[] 0)).get? b = some o := fun b o nb e =>
  Heap.get?_push_of_some _ (Heap.get?_push_of_some _ ((s1.2 b nb).trans e))
 have ho3 : (((s.heap.update a (Obj.mapSeq fun _ => (#[] : Array Value))).push (seqObj "tuple" vs.toArray 0)).push (seqObj "list" #[] 0)).get? a = some (seqObj "list" #[] e1) := Heap.get?_push_of_some _ (Heap.get?_push_of_some _ ho1)
 rw [list_sort_plain]
 refine wpAny_bind (listItems_at ho rfl ?_)
 refine wpAny_bind (listUpdate_at ho rfl ?_ (by rw [List.size_toArray, sizeLine_eq]; omega) (Nat.zero_le _))
 refine wpAny_bind (seqEpoch_at ho1 rfl ?_)
 refine wpAny_bind (wpAny_newTuple ?_ (by show vs.length <= _; rw [sizeLine_eq]; omega))
 refine wpAny_bind (wpAny_newList ?_ (Nat.zero_le _))
 refine wpAny_holding ?_
 show wpAny (model prog w) A _ P E { s with heap := ((s.heap.update a (Obj.mapSeq fun _ => (#[] : Array Value))).push (seqObj "tuple" vs.toArray 0)).push (seqObj "list" #[] 0) }
 dsimp only
 have hn2 : ¬ vs.toArray.size < 2 := by rw [List.size_toArray]; omega
 rw [if_neg hn2, if_neg hn2]
 refine wpAny_bind (hk { s with heap := ((s.heap.update a (Obj.mapSeq fun _ => (#[] : Array Value))).push (seqObj "tuple" vs.toArray 0)).push (seqObj "list" #[] 0) } keep _ _ ?_)
 have run := kat_run (prog := prog) (w := w) (A := A) (E := E) (κ := κ) (ks := vs) (vs := vs) (s := { s with heap := ((s.heap.update a (Obj.mapSeq fun _ => (#[] : Array Value))).push (seqObj "tuple" vs.toArray 0)).push (seqObj "list" #[] 0) })
  (Q := fun st' s' => s' = { s with heap := ((s.heap.update a (Obj.mapSeq fun _ => (#[] : Array Value))).push (seqObj "tuple" vs.toArray 0)).push (seqObj "list" #[] 0) } /\ arrOf st' = p.map (kas_item (vs.toArray.zip vs.toArray)) /\ failedOf st' = none)
  (G := fun p' s' => p' = p /\ s' = { s with heap := ((s.heap.update a (Obj.mapSeq fun _ => (#[] : Array Value))).push (seqObj "tuple" vs.toArray 0)).push (seqObj "list" #[] 0) })
  rfl h2 h64 (fun p' st' s' _ a2 a3 ⟨e, e'⟩ => ⟨e', by rw [a2, e], a3⟩) (QC (hc { s with heap := ((s.heap.update a (Obj.mapSeq fun _ => (#[] : Array Value))).push (seqObj "tuple" vs.toArray 0)).push (seqObj "list" #[] 0) } keep) _ p hp ⟨rfl, rfl⟩)
 refine wpAny_bind (wpAny_mono run ?_ fun _ _ e => e)
 rintro ⟨⟨⟩, st'⟩ s' ⟨rfl, har, hf⟩
 dsimp only
 have hout := kat_snds (ks := vs) (vs := vs) rfl har
 rw [hout]
 refine wpAny_bind (seqEpoch_at ho3 rfl ?_)
 refine wpAny_bind (listUpdate_at ho3 rfl ?_ (Nat.zero_le _) (by rw [List.size_toArray, List.length_map, pl, sizeLine_eq]; omega))
 rw [hf]
 simp only [bne_self_eq_false, Bool.false_eq_true, if_false]
 exact wpAny_pure h
theorem vF {a : Addr} {vs : List Value} {n : Nat} {P : PySem.Fin -> Shared -> Prop} (ho : s.heap.get? a = some (seqObj "list" vs.toArray n)) (h2 : vs.length < 2)
  (h : P (.done (.ret .none)) { s with heap := sortedHeap s.heap a vs vs.toArray }) :
  wpAny (model prog w) A (Builtin.«list.sort» ⟨[.ref a], []⟩) P E s := by
 have s1 := Heap.SameBut.update s.heap a (Obj.mapSeq fun _ => (#[] : Array Value))
 obtain ⟨e1, ho1⟩ : ∃ e1, (s.heap.update a (Obj.mapSeq fun _ => (#[] : Array Value))).get? a = some (seqObj "list" #[] e1) := ⟨_, get?_update_seq ho fun _ => #[]⟩
 have ho3 : (((s.heap.update a (Obj.mapSeq fun _ => (#[] : Array Value))).push (seqObj "tuple" vs.toArray 0)).push (seqObj "list" #[] 0)).get? a = some (seqObj "list" #[] e1) := Heap.get?_push_of_some _ (Heap.get?_push_of_some _ ho1)
 rw [list_sort_plain]
 refine wpAny_bind (listItems_at ho rfl ?_)
 refine wpAny_bind (listUpdate_at ho rfl ?_ (by rw [List.size_toArray, sizeLine_eq]; omega) (Nat.zero_le _))
 refine wpAny_bind (seqEpoch_at ho1 rfl ?_)
 refine wpAny_bind (wpAny_newTuple ?_ (by show vs.length <= _; rw [sizeLine_eq]; omega))
 refine wpAny_bind (wpAny_newList ?_ (Nat.zero_le _))
 refine wpAny_holding ?_
 show wpAny (model prog w) A _ P E { s with heap := ((s.heap.update a (Obj.mapSeq fun _ => (#[] : Array Value))).push (seqObj "tuple" vs.toArray 0)).push (seqObj "list" #[] 0) }
 dsimp only
 have hn2 : vs.toArray.size < 2 := by rw [List.size_toArray]; exact h2
 rw [if_pos hn2, if_pos hn2]
 refine wpAny_bind (wpAny_pure ?_)
 rw [StateT.run_pure]
 refine wpAny_bind (wpAny_pure ?_)
 dsimp only
 have hout : (arrOf (SortSt.mk' general' (vs.toArray.zip vs.toArray) #[] 7 none)).map (·.2) = vs.toArray := by
  show (vs.toArray.zip vs.toArray).map (·.2) = vs.toArray
  apply Array.toList_inj.mp
  rw [Array.toList_map, ksk_zip, List.toList_toArray, List.map_snd_zip (Nat.le_refl _)]
 rw [hout]
 refine wpAny_bind (seqEpoch_at ho3 rfl ?_)
 refine wpAny_bind (listUpdate_at ho3 rfl ?_ (Nat.zero_le _) (by rw [List.size_toArray, sizeLine_eq]; omega))
 show wpAny _ _ _ _ _ _
 simp only [bne_self_eq_false, Bool.false_eq_true, if_false]
 exact wpAny_pure h
end
def y_ (v d : Addr) : HO := .ext (fun h => h.get? v = some { cls := .type "dict_items", data := .fields #[.ref d] })
theorem Jt {X : Cx} : MtR X "dict.items" (fun x xs H Q => ∃ d kvs, x = .ref d /\ xs = [] /\ H d = some (.dK kvs) /\ ∀ v, H v = none -> Q (.ref v) (upd H v (y_ v d))) := by
 intro pins s σ H x xs v us Q I rx rv h
 obtain ⟨d, kvs, rfl, rfl, hd, q⟩ := h
 cases (show v = Value.ref d from rx)
 cases rv
 obtain ⟨_, nd, vs, r, da⟩ := JN I.hok hd
 refine call_meetsIn PySem.F.slot_dict_items da.typeIs PySem.F.entry_dict_items (PySem.F.args_dict_items_1 _) (meets_dict_items (zo X.prog X.w) d nd) ⟨⟨vs, da⟩, ?_⟩
 refine ⟨.ref s.heap.objs.size, _, I.laid (t' := s.toks) (o := y_ s.heap.objs.size d) (fun b o e => Heap.get?_push_of_some _ e) (Nat.le_refl _) ?_, rfl, q _ (I.hok.fresh (Nat.le_refl _))⟩
 exact ⟨Heap.get?_push_size _ rfl, ⟨_, Heap.get?_push_size _ rfl⟩, fun h1 h2 e k => k _ e⟩
theorem _root_.L2.Inv.laidMany {X : Cx} {pins : List (Addr × Obj)} {σ : L2.St} {H H' : Hp} {s : Shared} {h' : Heap} {t' : Nat} (I : Inv X pins σ H s) (k : ∀ b u, s.heap.get? b = some u -> h'.get? b = some u) (old : ∀ b u, s.heap.get? b = some u -> H' b = H b) (new : ∀ b u, H' b = some u -> s.heap.get? b = none -> ObjOk X.prog X.w H' h' b u) :
  Inv X pins σ H' { s with heap := h', toks := t' } := by
 have there : ∀ b u, H b = some u -> H' b = some u := fun b u e => by
  obtain ⟨o, q⟩ := ju (I.hok b u e)
  rw [old b o q]
  exact e
 refine I.step (g' := s.gens) (d' := s.drawn) (ch := []) (fun _ z => nomatch z) (fun b u _ _ _ e _ => k b u e) (fun b u _ _ _ e _ => ⟨u.slots, k b u e⟩) (fun b u _ e n => by rw [old b u e]; exact n)
  (fun b u _ e => ⟨u, k b u e⟩) (fun b xs q => there b _ q) (fun b u xs q => there b _ q) (fun b ps q => ⟨#[], by rw [there b _ q]; simp⟩) (fun m hm => hm.keeps k) (fun b u e => ?_) I.bare
 cases q : s.heap.get? b with
 | none => exact new b u e q
 | some o =>
  rw [old b o q] at e
  exact (I.hok b u e).stay (fun c v _ z => k c v z) (fun c z => there c _ z) fun c xs z => there c _ z
theorem jq {α β : Type} {R : α -> β -> Prop} : ∀ {xs : List α} {ys : List β} {i : Nat} {x : α}, Paired R xs ys -> xs[i]? = some x -> ∃ y, ys[i]? = some y /\ R x y
 | _, _, i, x, .nil, h => by simp at h
 | _, _, 0, x, .cons r t, h => by simp at h; subst h; exact ⟨_, rfl, r⟩
 | _, _, i + 1, x, .cons r t, h => by
  obtain ⟨y, e, q⟩ := jq (i := i) (x := x) t (by simpa using h)
  exact ⟨y, by simpa using e, q⟩
theorem Qw {a b : Str} (h : a.cps.toList = b.cps.toList) : a = b := by
 obtain ⟨x⟩ := a
 obtain ⟨y⟩ := b
 have : x = y := Array.toList_inj.mp h
 rw [this]
def toDK (ps : List (Str × Int)) : List (Key × V) := ps.map fun p => ((Sum.inr p.1 : Key), V.int p.2)
theorem Qg {as : List Addr} {ps : List (Str × Int)} (hd : as.Nodup) : ∀ {i : Nat} {a : Addr} {o : Str × Int}, as[i]? = some a -> ps[i]? = some o -> (as.zip ps).lookup a = some o := by
 induction as generalizing ps with
 | nil => intro i a o h; simp at h
 | cons b as ih =>
  intro i a o h1 h2
  cases ps with
  | nil => simp at h2
  | cons p ps =>
   rw [List.zip_cons_cons, List.lookup_cons]
   obtain ⟨n1, n2⟩ := List.nodup_cons.mp hd
   cases i with
   | zero =>
    simp at h1 h2
    subst h1 h2
    simp
   | succ i =>
    have h1' : as[i]? = some a := by simpa using h1
    have : (a == b) = false := by
     have : a ≠ b := fun z => n1 (z ▸ List.mem_of_getElem? h1')
     simpa using this
    rw [this]
    exact ih n2 h1' (by simpa using h2)
theorem kl {as : List Addr} {ps : List (Str × Int)} {b : Addr} {o : Str × Int} : (as.zip ps).lookup b = some o -> ∃ i : Nat, as[i]? = some b /\ ps[i]? = some o := by
 induction as generalizing ps with
 | nil => intro h; simp at h
 | cons a as ih =>
  intro h
  cases ps with
  | nil => simp at h
  | cons p ps =>
   rw [List.zip_cons_cons, List.lookup_cons] at h
   cases e : b == a with
   | true =>
    rw [e] at h
    have eb : b = a := by simpa using e
    subst eb
    exact ⟨0, rfl, by simpa using h⟩
   | false =>
    rw [e] at h
    obtain ⟨i, h1, h2⟩ := ih h
    exact ⟨i + 1, by simpa using h1, by simpa using h2⟩
theorem getD_map {α β : Type} (f : α -> β) (l : List α) (d : α) (i : Nat) (h : i < l.length) (e : β) : (l.map f).getD i e = f (l.getD i d) := by simp [h]
theorem range_getD {α : Type} (l : List α) (d : α) : (List.range l.length).map (fun i => l.getD i d) = l := by
 apply List.ext_getElem
 ·simp
 ·intro i h1 h2
  simp [h2]
theorem vj {X : Cx} (hcm : X.calm = true) : CallR X (.builtin "sorted") (fun xs H Q => ∃ (v d : Addr) (ps : List (Str × Int)), xs = [.ref v] /\ H v = some (y_ v d) /\ H d = some (.dK (toDK ps)) /\ ps.length <= 5 /\
  ∀ (l : Addr) (out : List (Str × Int)) (qs : List Addr) (H' : Hp), Same H H' -> H l = none -> out.Perm ps -> out.Pairwise (fun a b => a.1.cps.toList < b.1.cps.toList) -> H' l = some (.lst (qs.map V.ref)) -> qs.length = out.length -> (∀ (i : Nat) q (o : Str × Int), qs[i]? = some q -> out[i]? = some o -> H' q = some (.tup [.str o.1, .int o.2])) -> (∀ a ∈ qs, H a = none) -> Q (.ref l) H') := by
 intro pins s σ H xs us Q I r h
 obtain ⟨v, d, ps, rfl, hv, hd, l5, q⟩ := h
 obtain ⟨u, rfl, ru⟩ := vals1 r
 cases (show u = Value.ref v from ru)
 obtain ⟨hz, nd, vs, rkv, da⟩ := JN I.hok hd
 obtain ⟨ep, dat⟩ := da.dictAt
 have lvs : vs.length = ps.length := by rw [<- Paired.length rkv]; exact List.length_map _
 have hview : s.heap.IsItemsView v d := ⟨_, (I.hok v _ hv).1, rfl, rfl⟩
 have ndk : (ps.map (·.1)).Nodup := by
  obtain ⟨_, _, _, _, _, _, _, _, n⟩ := da
  have e : vs.map (·.1) = (ps.map (·.1)).map (Sum.inr : Str -> Key) := by
   apply List.ext_getElem
   ·simp [lvs]
   ·intro i h1 h2
    have hi : i < ps.length := by simpa using h2
    have hk : (toDK ps)[i]? = some (Sum.inr ps[i].1, V.int ps[i].2) := by unfold toDK; rw [List.getElem?_map, List.getElem?_eq_getElem hi]; rfl
    obtain ⟨y, e1, e2, _⟩ := jq rkv hk
    have hy : vs[i]'(by omega) = y := by rw [List.getElem?_eq_getElem (by omega)] at e1; exact Option.some.inj e1
    simp only [List.getElem_map]
    rw [hy]
    exact e2.symm
  rw [e] at n
  exact (List.pairwise_map.mp (List.nodup_iff_pairwise_ne.mp n)).imp fun hne z => hne (by rw [z])
 refine Calls.call_function_entry kind_sorted plain_sorted entry_sorted (args_sorted1 _) ?_
 unfold Builtin.«sorted»
 refine wpAny_bind (m := checkCount "sorted" 1 1 _) (wpAny_pure ?_)
 refine wpAny_bind (kdx_collect (A := X.A.in1) (knd := zo X.prog X.w) (kvs := vs) (ep := ep) (I.ok.hd hcm) hview dat (by rw [lvs, sizeLine_eq]; omega) fun h1 tk as hk hl hG => ?_)
 have la : as.length = ps.length := hl.trans lvs
 refine wpAny_bind (wpAny_newList ?_ (by rw [List.length_map, la, sizeLine_eq]; omega))
 have hB : (h1.push { cls := .type "list", data := .seq (as.map Value.ref).toArray }).get? h1.objs.size = some (seqObj "list" (as.map Value.ref).toArray 0) := Heap.get?_push_size _ rfl
 have info : ∀ (i : Nat) a o, as[i]? = some a -> ps[i]? = some o -> ∃ t t', h1.get? a = some { cls := .type "tuple", data := .seq #[.str o.1 t, .int o.2 t'] } := fun i a o ha ho => by
  obtain ⟨key, k, x, e1, e2, e3⟩ := hG.pairs i a ha
  have hkv : (toDK ps)[i]? = some (Sum.inr o.1, V.int o.2) := by unfold toDK; rw [List.getElem?_map, ho]; rfl
  obtain ⟨y, e4, e5, e6⟩ := jq rkv hkv
  rw [e1] at e4
  cases e4
  cases (show Sum.inr o.1 = k from e5)
  obtain ⟨t', rfl⟩ := (show ∃ t, x = Value.int o.2 t from e6)
  rcases zj (show ya (Sum.inr o.1) key = true from e2) with ⟨_, _, z, _⟩ | ⟨y, t, z, rfl⟩
  ·cases z
  ·cases z
   exact ⟨t, t', e3⟩
 have asn : as.Nodup := List.nodup_iff_pairwise_ne.mpr (hG.rise.imp fun h => Nat.ne_of_lt h)
 have asl : ∀ a ∈ as, a < h1.objs.size := fun a ha => hG.there ha
 have fin : ∀ (p : List Nat) (out' : Array Value), p.Perm (List.range ps.length) -> (p.map (fun i => ps.getD i ("", 0))).Pairwise (fun a b => a.1.cps.toList < b.1.cps.toList) -> out' = (p.map fun i => (as.map Value.ref).getD i Value.none).toArray ->
   EP X pins σ Q (.ref h1.objs.size) { s with heap := sortedHeap (h1.push { cls := .type "list", data := .seq (as.map Value.ref).toArray }) h1.objs.size (as.map Value.ref) out', toks := tk } := by
  intro p out' pp pw eo
  have pin : ∀ i ∈ p, i < ps.length := fun i hi => List.mem_range.mp (pp.mem_iff.mp hi)
  have plen : p.length = ps.length := by rw [pp.length_eq, List.length_range]
  let qs := p.map fun i => as.getD i 0
  have eo2 : out'.toList = qs.map Value.ref := by
   rw [eo, List.toList_toArray, List.map_map]
   refine List.map_congr_left fun i hi => ?_
   have := pin i hi
   exact getD_map Value.ref as 0 i (by omega) _
  let H' : Hp := fun b => if b = h1.objs.size then some (.lst (qs.map V.ref)) else match (as.zip ps).lookup b with | some o => some (.tup [.str o.1, .int o.2]) | none => H b
  have nB : s.heap.get? h1.objs.size = none := by
   cases e : s.heap.get? h1.objs.size with
   | none => rfl
   | some o => exact absurd (Heap.lt_size (hk _ _ e)) (Nat.lt_irrefl _)
  have nA : ∀ a ∈ as, s.heap.get? a = none := fun a ha => Heap.get?_none_of_le (Nat.le_of_lt (hG.above a ha))
  have szp : (h1.push { cls := .type "list", data := .seq (as.map Value.ref).toArray }).objs.size = h1.objs.size + 1 := Heap.size_push ..
  have keepG : ∀ b o, h1.get? b = some o -> (sortedHeap (h1.push { cls := .type "list", data := .seq (as.map Value.ref).toArray }) h1.objs.size (as.map Value.ref) out').get? b = some o := fun b o e =>
   (sortedHeap_old (Nat.ne_of_lt (Heap.lt_size e)) (by rw [szp]; exact Nat.lt_succ_of_lt (Heap.lt_size e))).trans (Heap.get?_push_of_some _ e)
  have oldH : ∀ b u, s.heap.get? b = some u -> H' b = H b := fun b u e => by
   have n1 : b ≠ h1.objs.size := fun z => by rw [z, nB] at e; cases e
   show (if b = h1.objs.size then _ else _) = _
   rw [if_neg n1]
   cases lk : (as.zip ps).lookup b with
   | none => rfl
   | some o =>
    obtain ⟨i, z1, _⟩ := kl lk
    rw [nA b (List.mem_of_getElem? z1)] at e
    cases e
  have vr : ∀ l : List Addr, Vals (l.map V.ref) (l.map Value.ref) := fun l => by
   induction l with
   | nil => exact .nil
   | cons a l ih => exact .cons rfl ih
  have HB : H' h1.objs.size = some (.lst (qs.map V.ref)) := if_pos rfl
  have HT : ∀ (i : Nat) a o, as[i]? = some a -> ps[i]? = some o -> H' a = some (.tup [.str o.1, .int o.2]) := fun i a o z1 z2 => by
   have n1 : a ≠ h1.objs.size := Nat.ne_of_lt (asl a (List.mem_of_getElem? z1))
   show (if a = h1.objs.size then _ else _) = _
   rw [if_neg n1, Qg asn z1 z2]
  have new : ∀ b u, H' b = some u -> s.heap.get? b = none -> ObjOk X.prog X.w H' (sortedHeap (h1.push { cls := .type "list", data := .seq (as.map Value.ref).toArray }) h1.objs.size (as.map Value.ref) out') b u := fun b u e nb => by
   by_cases hb : b = h1.objs.size
   ·subst hb
    rw [HB] at e
    cases e
    obtain ⟨e', he⟩ := sortedHeap_at (out := out') hB
    refine ⟨by rw [List.length_map, List.length_map, plen, sizeLine_eq]; omega, qs.map Value.ref, e', vr qs, ?_⟩
    rw [<- eo2, Array.toArray_toList]
    exact he
   ·have e' : (match (as.zip ps).lookup b with | some o => some (HO.tup [V.str o.1, V.int o.2]) | none => H b) = some u := by
     have e2 : (if b = h1.objs.size then some (HO.lst (qs.map V.ref)) else match (as.zip ps).lookup b with | some o => some (HO.tup [V.str o.1, V.int o.2]) | none => H b) = some u := e
     rw [if_neg hb] at e2
     exact e2
    cases lk : (as.zip ps).lookup b with
    | none =>
     rw [lk] at e'
     obtain ⟨o, z⟩ := ju (I.hok b u e')
     rw [nb] at z
     cases z
    | some o =>
     rw [lk] at e'
     cases e'
     obtain ⟨i, z1, z2⟩ := kl lk
     obtain ⟨t, t', z3⟩ := info i b o z1 z2
     exact ⟨by show 2 <= sizeLine; decide, [.str o.1 t, .int o.2 t'], .cons ⟨t, rfl⟩ (.cons ⟨t', rfl⟩ .nil), _, keepG _ _ z3, rfl, 0, rfl⟩
  have sm : Same H H' := fun b u e => by
   obtain ⟨o, z⟩ := ju (I.hok b u e)
   rw [oldH b o z]
   exact e
  refine ⟨.ref h1.objs.size, H', I.laidMany (t' := tk) (fun b o e => keepG b o (hk b o e)) oldH new, rfl, q h1.objs.size (p.map fun i => ps.getD i ("", 0)) qs H' sm (xJ I nB) ?_ pw HB (by rw [List.length_map, List.length_map]) (fun i a o z1 z2 => ?_) (fun a ha => ?_)⟩
  ·have := pp.map (fun i => ps.getD i (("" : Str), (0 : Int)))
   rw [range_getD] at this
   exact this
  ·rw [List.getElem?_map] at z1 z2
   cases e : p[i]? with
   | none => rw [e] at z1; cases z1
   | some j =>
    rw [e] at z1 z2
    have hj := pin j (List.mem_of_getElem? e)
    have z1' : as.getD j 0 = a := Option.some.inj z1
    have z2' : ps.getD j ("", 0) = o := Option.some.inj z2
    refine HT j a o ?_ ?_
    ·rw [<- z1']; simp [show j < as.length by omega]
    ·rw [<- z2']; simp [hj]
  ·obtain ⟨j, hj, rfl⟩ := List.mem_map.mp ha
   have hj' := pin j hj
   exact xJ I (nA _ (by simp [show j < as.length by omega]))
 refine wpAny_bind (wpAny_holding (wpAny_call_entry slot_list_sort ⟨_, hB, rfl⟩ entry_list_sort ?body (args_list_sort _)))
 have lm : (as.map Value.ref).length = ps.length := by rw [List.length_map, la]
 by_cases h2 : 2 <= ps.length
 ·have lk : (ps.map fun o => o.1.cps.toList).length = ps.length := List.length_map _
  obtain ⟨p, hp, pp, pw⟩ := Qy (ks := ps.map fun o => o.1.cps.toList) (by rw [lk]; exact h2) (by rw [lk]; exact l5) (by
   refine List.nodup_iff_pairwise_ne.mpr (List.pairwise_map.mpr ?_)
   exact (List.pairwise_map.mp (List.nodup_iff_pairwise_ne.mp ndk)).imp fun hne z => hne (Qw z))
  rw [lk] at hp pp
  have gk : ∀ i, i < ps.length -> (ps.map fun o => o.1.cps.toList).getD i [] = (ps.getD i ("", 0)).1.cps.toList := fun i hi => getD_map _ ps ("", 0) i hi []
  have at' : ∀ i, i < ps.length -> ∃ a t t', (as.map Value.ref).getD i Value.none = .ref a /\ as[i]? = some a /\ h1.get? a = some { cls := .type "tuple", data := .seq #[.str (ps.getD i ("", 0)).1 t, .int (ps.getD i ("", 0)).2 t'] } := fun i hi => by
   have z1 : as[i]? = some (as[i]'(by omega)) := List.getElem?_eq_getElem _
   have z2 : ps[i]? = some (ps.getD i ("", 0)) := by simp [hi]
   obtain ⟨t, t', z3⟩ := info i _ _ z1 z2
   exact ⟨as[i]'(by omega), t, t', by simp [show i < as.length by omega], z1, z3⟩
  refine xG (κ := tuples' true) (lt := fun i j => decide ((ps.map fun o => o.1.cps.toList).getD i [] < (ps.map fun o => o.1.cps.toList).getD j [])) (p := p) hB (by rw [lm]; exact h2) (by rw [lm]; omega) ?_ ?_ (by rw [lm]; exact hp) (by rw [lm, pp.length_eq, List.length_range]) ⟨_, rfl, wpAny_pure ⟨_, rfl, fin p.toList _ pp ?_ rfl⟩⟩
  ·intro s' kp Q' E' hq
   have tups : ∀ (n : Nat) (bs : List Addr) (os : List (Str × Int)), bs.length = os.length -> (∀ (i : Nat) a o, bs[i]? = some a -> os[i]? = some o -> ∃ t t', s'.heap.get? a = some { cls := .type "tuple", data := .seq #[.str o.1 t, .int o.2 t'] }) -> ∃ fs, KatTups s'.heap (bs.map Value.ref) fs /\ fs.length = bs.length /\ ∀ f ∈ fs, ∃ x t, f = Value.str x t := by
    intro _ bs
    induction bs with
    | nil =>
     intro os hl _
     exact ⟨[], .nil, rfl, fun f hf => nomatch hf⟩
    | cons a bs ih =>
     intro os hl hh
     cases os with
     | nil => cases hl
     | cons o os =>
      obtain ⟨t, t', z⟩ := hh 0 a o rfl rfl
      obtain ⟨fs, k1, k2, k3⟩ := ih os (by simpa using hl) fun i a o z1 z2 => hh (i + 1) a o (by simpa using z1) (by simpa using z2)
      refine ⟨.str o.1 t :: fs, KatTups.cons z rfl rfl rfl k1, by simp [k2], fun f hf => ?_⟩
      rcases List.mem_cons.mp hf with e | e
      ·exact ⟨_, _, e⟩
      ·exact k3 f e
   obtain ⟨fs, k1, k2, k3⟩ := tups 0 as ps la fun i a o z1 z2 => by
    obtain ⟨t, t', z⟩ := info i a o z1 z2
    exact ⟨t, t', kp _ _ (Nat.ne_of_lt (asl a (List.mem_of_getElem? z1))) (Heap.get?_push_of_some _ z)⟩
   refine kat_kind (T := .type "str") k1 (by omega) (fun f hf => ?_) (by decide) (show Q' (tuples' (Value.type "str" != Value.type "tuple")) s' from (show (Value.type "str" != Value.type "tuple") = true by decide) ▸ hq)
   obtain ⟨x, t, rfl⟩ := k3 f hf
   exact Looks.of_pure rfl
  ·intro s' kp i j C hi hj hC
   rw [lm] at hi hj
   obtain ⟨a, t, t', e1, e2, e3⟩ := at' i hi
   obtain ⟨b, u, u', f1, f2, f3⟩ := at' j hj
   unfold kas_ask
   rw [e1, f1]
   have ga := kp _ _ (Nat.ne_of_lt (asl a (List.mem_of_getElem? e2))) (Heap.get?_push_of_some _ e3)
   have gb := kp _ _ (Nat.ne_of_lt (asl b (List.mem_of_getElem? f2))) (Heap.get?_push_of_some _ f3)
   rw [gk i hi, gk j hj] at hC
   refine kat_lt ga rfl gb rfl ?_
   show KatLex X.prog X.w _ true (decide ((2 : Nat) < 2)) C [(.str (ps.getD i ("", 0)).1 t, .str (ps.getD j ("", 0)).1 u), (.int (ps.getD i ("", 0)).2 t', .int (ps.getD j ("", 0)).2 u')] 0 s'
   refine kat_cons (SeqAt.EqAt.str_str _ _ _ _ _ _ _ _ ?_)
   by_cases hs : (ps.getD i (("" : Str), (0 : Int))).1 = (ps.getD j (("" : Str), (0 : Int))).1
   ·have ij : i = j := by
     have n := List.pairwise_map.mp (List.nodup_iff_pairwise_ne.mp ndk)
     rw [List.pairwise_iff_getElem] at n
     have g1 : ps.getD i (("" : Str), (0 : Int)) = ps[i] := by simp [hi]
     have g2 : ps.getD j (("" : Str), (0 : Int)) = ps[j] := by simp [hj]
     rw [g1, g2] at hs
     rcases Nat.lt_trichotomy i j with z | z | z
     ·exact absurd hs (n i j hi hj z)
     ·exact z
     ·exact absurd hs.symm (n j i hj hi z)
    subst ij
    rw [beq_self_eq_true]
    refine kat_yes (kat_cons (SeqAt.EqAt.int_int _ _ _ _ _ _ _ _ ?_))
    rw [beq_self_eq_true]
    refine kat_yes (kat_nil ?_)
    have : decide ((ps.getD i (("" : Str), (0 : Int))).1.cps.toList < (ps.getD i (("" : Str), (0 : Int))).1.cps.toList) = false := by simp [List.lt_irrefl]
    rw [this] at hC
    exact hC
   ·have : ((ps.getD i (("" : Str), (0 : Int))).1 == (ps.getD j (("" : Str), (0 : Int))).1) = false := by simpa using hs
    rw [this]
    exact kat_no (oneLt_str hC)
  ·rw [List.pairwise_map] at pw ⊢
   refine pw.imp_of_mem fun {x y} hx hy hlt => ?_
   have lx := List.mem_range.mp (pp.mem_iff.mp hx)
   have ly := List.mem_range.mp (pp.mem_iff.mp hy)
   rw [gk x lx, gk y ly] at hlt
   exact hlt
 ·refine vF hB (by rw [lm]; omega) ⟨_, rfl, wpAny_pure ⟨_, rfl, fin (List.range ps.length) _ (List.Perm.refl _) ?_ ?_⟩⟩
  ·rw [range_getD]
   match ps, h2 with
   | [], _ => exact .nil
   | [x], _ => exact List.pairwise_singleton _ _
   | x :: y :: r, h2 => exact absurd (by simp) h2
  ·have := range_getD (as.map Value.ref) Value.none
   rw [lm] at this
   rw [this]
end X2
namespace X2
open PySem PySem.Spec PyProof.Rows L2
inductive Reach (sp : Str -> Int) (rds : List Rd) (st : Str) (si : Int) : Rd -> Prop
 | fst {d : Rd} (m : d ∈ rds) (e : d.a = st) (h : si <= d.l) : Reach sp rds st si d
 | nxt {e d : Rd} (r : Reach sp rds st si e) (m : d ∈ rds) (h : hg sp e d = true) : Reach sp rds st si d
theorem Reach.mem {sp : Str -> Int} {rds : List Rd} {st : Str} {si : Int} {d : Rd} (r : Reach sp rds st si d) : d ∈ rds := by cases r <;> assumption
theorem hg_iff {sp : Str -> Int} {e d : Rd} : hg sp e d = true ↔ e.b = d.a /\ e.c + sp e.b <= d.l := by unfold hg; exact decide_eq_true_iff
structure Good (sp : Str -> Int) (rds : List Rd) : Prop where
 lc : ∀ d ∈ rds, d.l < d.c
 s0 : ∀ d ∈ rds, 0 <= sp d.b
theorem Reach.since {sp : Str -> Int} {rds : List Rd} {st : Str} {si : Int} (G : Good sp rds) {d : Rd} (r : Reach sp rds st si d) : si <= d.l := by
 induction r with
 | fst m e h => exact h
 | nxt r m h ih =>
  have := G.lc _ r.mem
  have := G.s0 _ r.mem
  have := (hg_iff.mp h).2
  omega
theorem JE {sp : Str -> Int} {rds : List Rd} (G : Good sp rds) {e d : Rd} (he : e ∈ rds) (h : hg sp e d = true) : e.l < d.l := by
 have := G.lc _ he
 have := G.s0 _ he
 have := (hg_iff.mp h).2
 omega
def rdy (ps : List (Str × Int)) (x : Str) (m : Int) : Bool := match ps.lookup x with | some z => decide (z <= m) | none => false
theorem rdy_iff {ps : List (Str × Int)} {x : Str} {m : Int} : rdy ps x m = true ↔ ∃ z, ps.lookup x = some z /\ z <= m := by
 unfold rdy
 cases ps.lookup x with
 | none => simp
 | some z => simp
theorem x9 (ps : List (Str × Int)) (x : Str) : valV (toDK ps) (Sum.inr x : Key) = (ps.lookup x).map V.int := by
 induction ps with
 | nil => rfl
 | cons p r ih =>
  obtain ⟨k, v⟩ := p
  show valV (((Sum.inr k : Key), V.int v) :: toDK r) (Sum.inr x) = _
  rw [List.lookup_cons]
  unfold valV at ih ⊢
  rw [List.find?_cons]
  by_cases e : k = x
  ·subst e
   simp
  ·have e1 : ¬ x = k := fun z => e z.symm
   have e2 : (x == k) = false := by simpa using e1
   simp only [e2, Sum.inr.injEq, e, decide_false]
   exact ih
def putS (ps : List (Str × Int)) (x : Str) (m : Int) : List (Str × Int) := if (ps.any fun p => decide (p.1 = x)) = true then ps.map fun p => if p.1 = x then (p.1, m) else p else ps ++ [(x, m)]
theorem QK (ps : List (Str × Int)) (x : Str) (m : Int) : putK (toDK ps) (Sum.inr x : Key) (V.int m) = toDK (putS ps x m) := by
 unfold putK putS
 have e : ((toDK ps).any fun kv => decide (kv.1 = (Sum.inr x : Key))) = (ps.any fun p => decide (p.1 = x)) := by
  unfold toDK
  rw [List.any_map]
  congr 1
  funext p
  show decide ((Sum.inr p.1 : Key) = Sum.inr x) = _
  exact Ki _ _
 rw [e]
 split
 ·unfold toDK
  rw [List.map_map, List.map_map]
  congr 1
  funext p
  show (if (Sum.inr p.1 : Key) = Sum.inr x then _ else _) = _
  by_cases h : p.1 = x
  ·have : (Sum.inr p.1 : Key) = Sum.inr x := by rw [h]
   rw [if_pos this]
   show _ = (fun p : Str × Int => ((Sum.inr p.1 : Key), V.int p.2)) (if p.1 = x then (p.1, m) else p)
   rw [if_pos h]
  ·have : ¬ (Sum.inr p.1 : Key) = Sum.inr x := fun z => h (Sum.inr.inj z)
   rw [if_neg this]
   show _ = (fun p : Str × Int => ((Sum.inr p.1 : Key), V.int p.2)) (if p.1 = x then (p.1, m) else p)
   rw [if_neg h]
 ·unfold toDK
  rw [List.map_append]
  rfl
theorem kP {ps : List (Str × Int)} {x : Str} : (ps.any fun p => decide (p.1 = x)) = (ps.lookup x).isSome := by
 induction ps with
 | nil => rfl
 | cons p r ih =>
  obtain ⟨k, v⟩ := p
  rw [List.any_cons, List.lookup_cons, ih]
  by_cases e : k = x
  ·subst e; simp
  ·have e1 : ¬ x = k := fun z => e z.symm
   have e2 : (x == k) = false := by simpa using e1
   simp [e2, e]
theorem jX {ps : List (Str × Int)} {x y : Str} {m : Int} : (putS ps x m).lookup y = if y = x then some m else ps.lookup y := by
 unfold putS
 split
 ·rename_i h
  rw [kP] at h
  induction ps with
  | nil => cases h
  | cons p r ih =>
   obtain ⟨k, v⟩ := p
   rw [List.map_cons, List.lookup_cons]
   by_cases e : k = x
   ·subst e
    simp only [if_true]
    rw [List.lookup_cons]
    by_cases ey : y = k
    ·subst ey; simp
    ·have e2 : (y == k) = false := by simpa using ey
     rw [e2, if_neg ey]
     simp only []
     by_cases hr : (r.lookup k).isSome = true
     ·rw [ih hr, if_neg ey]
     ·clear ih
      have : (r.map fun p => if p.1 = k then (p.1, m) else p) = r := by
       rw [<- kP] at hr
       have hr' : ∀ p ∈ r, ¬ p.1 = k := fun p hp z => hr (List.any_eq_true.mpr ⟨p, hp, by simpa using z⟩)
       calc r.map (fun p => if p.1 = k then (p.1, m) else p) = r.map id := List.map_congr_left fun p hp => if_neg (hr' p hp)
        _ = r := List.map_id r
      rw [this]
   ·have e1 : ¬ x = k := fun z => e z.symm
    have e3 : (x == k) = false := by simpa using e1
    rw [List.lookup_cons, e3] at h
    simp only [e, if_false]
    rw [List.lookup_cons]
    by_cases ey : y = k
    ·subst ey
     rw [if_neg e]
     simp
    ·have e2 : (y == k) = false := by simpa using ey
     rw [e2]
     simp only []
     exact ih h
 ·rename_i h
  rw [kP] at h
  have hn : ps.lookup x = none := by cases q : ps.lookup x with | none => rfl | some z => rw [q] at h; exact absurd rfl h
  clear h
  induction ps with
  | nil =>
   rw [List.nil_append, List.lookup_cons]
   by_cases ey : y = x
   ·subst ey; simp
   ·have e2 : (y == x) = false := by simpa using ey
    rw [e2, if_neg ey]
  | cons p r ih =>
   obtain ⟨k, v⟩ := p
   rw [List.lookup_cons] at hn
   rw [List.cons_append, List.lookup_cons, List.lookup_cons]
   by_cases e : x = k
   ·subst e; simp at hn
   ·have e3 : (x == k) = false := by simpa using e
    rw [e3] at hn
    by_cases ey : y = k
    ·subst ey
     have : ¬ y = x := fun z => e z.symm
     simp [this]
    ·have e2 : (y == k) = false := by simpa using ey
     simp only [e2]
     exact ih hn
theorem JA {ps : List (Str × Int)} {x : Str} {m : Int} (h : (ps.map Prod.fst).Nodup) : ((putS ps x m).map Prod.fst).Nodup := by
 unfold putS
 split
 ·rw [List.map_map]
  have : (Prod.fst ∘ fun p : Str × Int => if p.1 = x then (p.1, m) else p) = Prod.fst := by
   funext p
   show (if p.1 = x then (p.1, m) else p).1 = p.1
   split <;> rfl
  rw [this]
  exact h
 ·rename_i q
  rw [List.map_append, List.nodup_append]
  refine ⟨h, by simp, fun a ha b hb => ?_⟩
  simp only [List.map_cons, List.map_nil, List.mem_singleton] at hb
  subst hb
  obtain ⟨p, hp, rfl⟩ := List.mem_map.mp ha
  exact fun z => q (List.any_eq_true.mpr ⟨p, hp, by simpa using z⟩)
theorem mem_lookup {ps : List (Str × Int)} (h : (ps.map Prod.fst).Nodup) {x : Str} {m : Int} : (x, m) ∈ ps ↔ ps.lookup x = some m := by
 induction ps with
 | nil => simp
 | cons p r ih =>
  obtain ⟨k, v⟩ := p
  rw [List.map_cons, List.nodup_cons] at h
  rw [List.mem_cons, List.lookup_cons]
  by_cases e : x = k
  ·subst e
   simp only [beq_self_eq_true, Prod.mk.injEq, true_and, Option.some.injEq]
   constructor
   ·rintro (q | q)
    ·exact q.symm
    ·exact absurd (List.mem_map.mpr ⟨_, q, rfl⟩) h.1
   ·intro q; exact .inl q.symm
  ·have e2 : (x == k) = false := by simpa using e
   simp only [e2]
   rw [<- ih h.2]
   constructor
   ·rintro (q | q)
    ·exact absurd (congrArg Prod.fst q) e
    ·exact q
   ·exact .inr
structure Soon (sp : Str -> Int) (rds pre : List Rd) (st : Str) (si : Int) (ps : List (Str × Int)) : Prop where
 nd : (ps.map Prod.fst).Nodup
 st0 : rdy ps st si = true
 sound : ∀ x m, ps.lookup x = some m -> (x = st /\ m = si) \/ ∃ e, Reach sp rds st si e /\ e.b = x /\ m = e.c + sp x
 closed : ∀ d ∈ pre, rdy ps d.a d.l = true -> rdy ps d.b (d.c + sp d.b) = true
theorem Soon.nil {sp : Str -> Int} {rds : List Rd} {st : Str} {si : Int} : Soon sp rds [] st si [(st, si)] := by
 refine ⟨by simp, ?_, fun x m h => ?_, (fun _ h => nomatch h)⟩
 ·rw [rdy_iff]; exact ⟨si, by simp, Int.le_refl _⟩
 ·rw [List.lookup_cons] at h
  by_cases e : x = st
  ·subst e
   simp at h
   exact .inl ⟨rfl, h.symm⟩
  ·have e2 : (x == st) = false := by simpa using e
   rw [e2] at h
   cases h
theorem Soon.skip {sp : Str -> Int} {rds pre : List Rd} {st : Str} {si : Int} {ps : List (Str × Int)} {d : Rd} (S : Soon sp rds pre st si ps) (h : rdy ps d.a d.l = true -> rdy ps d.b (d.c + sp d.b) = true) : Soon sp rds (pre ++ [d]) st si ps :=
 ⟨S.nd, S.st0, S.sound, fun e he => by
  rcases List.mem_append.mp he with q | q
  ·exact S.closed e q
  ·rw [List.mem_singleton.mp q]; exact h⟩
theorem Soon.step {sp : Str -> Int} {rds pre : List Rd} {st : Str} {si : Int} {ps : List (Str × Int)} {d : Rd} (G : Good sp rds) (S : Soon sp rds pre st si ps) (hd : d ∈ rds) (hp : ∀ e ∈ pre, e.l <= d.l) (h : rdy ps d.a d.l = true) (hn : rdy ps d.b (d.c + sp d.b) = false) :
  Soon sp rds (pre ++ [d]) st si (putS ps d.b (d.c + sp d.b)) := by
 have l1 := G.lc _ hd
 have l2 := G.s0 _ hd
 have mono : ∀ x m, rdy ps x m = true -> rdy (putS ps d.b (d.c + sp d.b)) x m = true := fun x m q => by
  obtain ⟨z, e, le⟩ := rdy_iff.mp q
  rw [rdy_iff, jX]
  by_cases ex : x = d.b
  ·subst ex
   refine ⟨_, if_pos rfl, ?_⟩
   by_cases q : d.c + sp d.b <= m
   ·exact q
   ·exact absurd (rdy_iff.mpr (⟨z, e, by omega⟩ : ∃ z, ps.lookup d.b = some z /\ z <= d.c + sp d.b)) (by rw [hn]; decide)
  ·rw [if_neg ex]; exact ⟨z, e, le⟩
 have self : rdy (putS ps d.b (d.c + sp d.b)) d.b (d.c + sp d.b) = true := rdy_iff.mpr ⟨_, by rw [jX, if_pos rfl], Int.le_refl _⟩
 have back : ∀ x m, m <= d.l -> rdy (putS ps d.b (d.c + sp d.b)) x m = true -> rdy ps x m = true := fun x m hm q => by
  obtain ⟨z, e, le⟩ := rdy_iff.mp q
  rw [jX] at e
  by_cases ex : x = d.b
  ·rw [if_pos ex] at e
   cases e
   omega
  ·rw [if_neg ex] at e
   exact rdy_iff.mpr ⟨z, e, le⟩
 refine ⟨JA S.nd, mono _ _ S.st0, fun x m q => ?_, fun e he q => ?_⟩
 ·rw [jX] at q
  by_cases ex : x = d.b
  ·rw [if_pos ex] at q
   cases q
   refine .inr ⟨d, ?_, ex.symm, by rw [ex]⟩
   obtain ⟨z, e, le⟩ := rdy_iff.mp h
   rcases S.sound _ _ e with ⟨e1, e2⟩ | ⟨e', r, e1, e2⟩
   ·exact .fst hd e1 (by omega)
   ·exact .nxt r hd (hg_iff.mpr ⟨e1, by rw [e1]; omega⟩)
  ·rw [if_neg ex] at q
   exact S.sound x m q
 ·rcases List.mem_append.mp he with he | he
  ·exact mono _ _ (S.closed e he (back _ _ (hp e he) q))
  ·rw [List.mem_singleton.mp he]; exact self
theorem Soon.all {sp : Str -> Int} {rds : List Rd} {st : Str} {si : Int} {ps : List (Str × Int)} {pre : List Rd} (S : Soon sp rds pre st si ps) (hp : ∀ d ∈ rds, d ∈ pre) {d : Rd} (r : Reach sp rds st si d) : rdy ps d.b (d.c + sp d.b) = true := by
 have up : ∀ x m n, rdy ps x m = true -> m <= n -> rdy ps x n = true := fun x m n q le => by
  obtain ⟨z, e, l⟩ := rdy_iff.mp q
  exact rdy_iff.mpr ⟨z, e, by omega⟩
 induction r with
 | fst m e h => exact S.closed _ (hp _ m) (by rw [e]; exact up _ _ _ S.st0 h)
 | nxt r m h ih =>
  obtain ⟨h1, h2⟩ := hg_iff.mp h
  exact S.closed _ (hp _ m) (by rw [<- h1]; exact up _ _ _ ih h2)
def Least (sp : Str -> Int) (rds : List Rd) (st : Str) (si : Int) (x : Str) (m : Int) : Prop :=
 (x = st /\ m = si) \/ (x ≠ st /\ (∃ e, Reach sp rds st si e /\ e.b = x /\ m = e.c + sp x) /\ ∀ e, Reach sp rds st si e -> e.b = x -> m <= e.c + sp x)
theorem Least.uniq {sp : Str -> Int} {rds : List Rd} {st : Str} {si : Int} {x : Str} {m m' : Int} (h : Least sp rds st si x m) (h' : Least sp rds st si x m') : m = m' := by
 rcases h with ⟨a, b⟩ | ⟨a, ⟨e, r, eb, em⟩, c⟩ <;> rcases h' with ⟨a', b'⟩ | ⟨a', ⟨e', r', eb', em'⟩, c'⟩
 ·omega
 ·exact absurd a a'
 ·exact absurd a' a
 ·have := c e' r' eb'
  have := c' e r eb
  omega
theorem Soon.least {sp : Str -> Int} {rds : List Rd} {st : Str} {si : Int} {ps : List (Str × Int)} {pre : List Rd} (G : Good sp rds) (S : Soon sp rds pre st si ps) (hp : ∀ d ∈ rds, d ∈ pre) {x : Str} {m : Int} : (x, m) ∈ ps ↔ Least sp rds st si x m := by
 rw [mem_lookup S.nd]
 have ge : ∀ e, Reach sp rds st si e -> si <= e.c + sp e.b := fun e r => by
  have := r.since G
  have := G.lc _ r.mem
  have := G.s0 _ r.mem
  omega
 have fwd : ∀ {m}, ps.lookup x = some m -> Least sp rds st si x m := fun {m} q => by
  by_cases ex : x = st
  ·refine .inl ⟨ex, ?_⟩
   obtain ⟨z, e, le⟩ := rdy_iff.mp S.st0
   rw [<- ex, q] at e
   cases e
   rcases S.sound x m q with ⟨_, h⟩ | ⟨e, r, eb, em⟩
   ·exact h
   ·have := ge e r
    rw [eb] at this
    omega
  ·refine .inr ⟨ex, ?_, fun e r eb => ?_⟩
   ·rcases S.sound x m q with ⟨h, _⟩ | h
    ·exact absurd h ex
    ·exact h
   ·obtain ⟨z, h1, h2⟩ := rdy_iff.mp (S.all hp r)
    rw [eb, q] at h1
    cases h1
    rw [eb] at h2
    exact h2
 refine ⟨fwd, fun h => ?_⟩
 cases q : ps.lookup x with
 | some z => rw [(fwd q).uniq h]
 | none =>
  rcases h with ⟨a, b⟩ | ⟨a, ⟨e, r, eb, em⟩, c⟩
  ·obtain ⟨z, e, le⟩ := rdy_iff.mp S.st0
   rw [<- a, q] at e
   cases e
  ·obtain ⟨z, h1, h2⟩ := rdy_iff.mp (S.all hp r)
   rw [eb, q] at h1
   cases h1
theorem vw {P : Str -> Int -> Prop} : ∀ {as bs : List (Str × Int)}, as.Pairwise (fun a b => a.1.cps.toList < b.1.cps.toList) -> bs.Pairwise (fun a b => a.1.cps.toList < b.1.cps.toList) -> (∀ o, o ∈ as ↔ o ∈ bs) -> as = bs
 | [], bs, _, _, h => by
  cases bs with
  | nil => rfl
  | cons b r => exact absurd ((h b).mpr (List.mem_cons_self ..)) (by simp)
 | a :: as, bs, ha, hb, h => by
  cases bs with
  | nil => exact absurd ((h a).mp (List.mem_cons_self ..)) (by simp)
  | cons b bs =>
   rw [List.pairwise_cons] at ha hb
   have irr : ∀ x : Str, ¬ x.cps.toList < x.cps.toList := fun x => List.lt_irrefl _
   have asym : ∀ x y : Str, x.cps.toList < y.cps.toList -> ¬ y.cps.toList < x.cps.toList := fun x y q q' => List.lt_irrefl _ (List.lt_trans q q')
   have eab : a = b := by
    rcases List.mem_cons.mp ((h a).mp (List.mem_cons_self ..)) with q | q
    ·exact q
    ·rcases List.mem_cons.mp ((h b).mpr (List.mem_cons_self ..)) with q' | q'
     ·exact q'.symm
     ·exact absurd (ha.1 b q') (asym _ _ (hb.1 a q))
   subst eab
   have : as = bs := vw (P := P) ha.2 hb.2 fun o => by
    constructor
    ·intro q
     rcases List.mem_cons.mp ((h o).mp (List.mem_cons_of_mem _ q)) with z | z
     ·subst z; exact absurd (ha.1 _ q) (irr _)
     ·exact z
    ·intro q
     rcases List.mem_cons.mp ((h o).mpr (List.mem_cons_of_mem _ q)) with z | z
     ·subst z; exact absurd (hb.1 _ q) (irr _)
     ·exact z
   rw [this]
def rank (rds : List Rd) (d : Rd) : Nat := rds.countP fun e => decide (d.l < e.l)
def fct : Nat -> Nat
 | 0 => 1
 | n + 1 => (n + 1) * fct n
theorem yg : ∀ n, 1 <= fct n
 | 0 => Nat.le_refl _
 | n + 1 => Nat.le_trans (yg n) (Nat.le_mul_of_pos_left _ (Nat.succ_pos n))
theorem yQ {m n : Nat} (h : m <= n) : fct m <= fct n := by
 induction h with
 | refl => exact Nat.le_refl _
 | step h ih => exact Nat.le_trans ih (Nat.le_mul_of_pos_left _ (Nat.succ_pos _))
def pot (rds : List Rd) (d : Rd) : Nat := fct (rank rds d + 1)
theorem kN {α : Type} {p q : α -> Bool} : ∀ {l : List α}, (∀ x ∈ l, p x = true -> q x = true) -> (∃ x ∈ l, q x = true /\ p x = false) -> l.countP p < l.countP q
 | [], _, h => by obtain ⟨x, m, _⟩ := h; cases m
 | y :: l, h, ⟨x, m, hq, hp⟩ => by
  have le : l.countP p <= l.countP q := by
   have := List.countP_mono_left (p := p) (q := q) (l := l) fun z hz => h z (List.mem_cons_of_mem _ hz)
   exact this
  rw [List.countP_cons, List.countP_cons]
  rcases List.mem_cons.mp m with e | m
  ·subst e
   rw [hq, hp]
   simp
   omega
  ·have ih := kN (p := p) (q := q) (l := l) (fun z hz => h z (List.mem_cons_of_mem _ hz)) ⟨x, m, hq, hp⟩
   have hy := h y (List.mem_cons_self ..)
   cases ep : p y with
   | false => simp; split <;> omega
   | true => rw [hy ep]; simp; exact ih
theorem QI {rds : List Rd} {e d : Rd} (hd : d ∈ rds) (h : e.l < d.l) : rank rds d < rank rds e := by
 unfold rank
 refine kN (fun x _ q => ?_) ⟨d, hd, decide_eq_true h, by simp⟩
 have := of_decide_eq_true q
 exact decide_eq_true (by omega)
theorem yC {rds : List Rd} {d : Rd} (hd : d ∈ rds) : rank rds d + 1 <= rds.length := by
 have : rds.countP (fun e => decide (d.l < e.l)) < rds.countP (fun _ => true) := kN (fun _ _ _ => rfl) ⟨d, hd, rfl, by simp⟩
 rw [List.countP_true] at this
 exact this
theorem KN {rds : List Rd} {d e : Rd} (he : e ∈ rds) (h : d.l < e.l) : pot rds e <= fct (rank rds d) := yQ (QI he h)
theorem QP {rds : List Rd} {d : Rd} : rank rds d * fct (rank rds d) + 1 <= pot rds d := by
 have := yg (rank rds d)
 show _ <= (rank rds d + 1) * fct (rank rds d)
 rw [Nat.succ_mul]
 omega
theorem V0 {rds : List Rd} {d : Rd} (hd : d ∈ rds) (h : rds.length <= 9) : pot rds d <= 362880 := by
 have := yQ (Nat.le_trans (yC hd) h)
 exact this
structure FunC (K : PySem.W.Frag) (x qual : Str) (st : Stmt) (f : Addr) (fd : FuncData) (c : Addr) : Prop where
 ex : ∃ (oc : Value) (od : Option Addr) (kV doc pm : Value) (an : Option Addr) (ct : Value) (osl : Array (Option Value)),
  fd = PySem.W.fnOf x qual (zh st) (qT st) (ql st) .none kV doc pm an (.ref c) ct /\ K.lookup f = some ⟨oc, od, .func fd, osl⟩ /\ PySem.W.codeIn K (.ref c) qual = true
 kp : PySem.W.keepIn K (.ref f) = true
section
variable {P : Program} {w : World} {K : PySem.W.Frag} {mg : Str -> Option Value} {base : Heap}
theorem FunC.ok {x qual : Str} {st : Stmt} {f c : Addr} {fd : FuncData} {N ps : List Str} {k : Nat} {sp : Sp} (F : FunC K x qual st f fd c) (S : FnScope N ps (ql st)) (len : ∀ vs H Q E, sp vs H Q E -> vs.length = ps.length)
  (hbody : ∀ (A : Around) (outer : List Env) (s : Shared) (H : Hp) (vs : List V) (Q : VK) (E : XK), Room k (A.deeper (envOfC qual (ql st) s.heap.objs.size f (.ref c))) -> sp vs H Q E ->
   ∃ t, PSs (cxOf CX0 P w K mg base N qual (ql st) f (.ref c) A outer s H E).nox (qT st) t /\ t { nx := fun _ H' => Q .non H', rt := Q } (start N vs) H) : FnOk P w K mg base CX0 (k + 1) f fd ps sp := by
 obtain ⟨oc, od, kV, doc, pm, an, ct, osl, rfl, lk, hcd⟩ := F.ex
 refine Xz lk hcd S len fun A outer s H vs Q E hr hsp => ?_
 obtain ⟨t, h, q⟩ := hbody A outer s H vs Q E hr hsp
 exact ⟨t, h.nox, q⟩
theorem FunC.plain {x qual : Str} {st : Stmt} {f c : Addr} {fd : FuncData} (F : FunC K x qual st f fd c) : Fun K x qual st f fd := by
 obtain ⟨⟨oc, od, kV, doc, pm, an, ct, osl, e, lk, hcd⟩, kp⟩ := F
 exact ⟨⟨oc, od, kV, doc, pm, an, .ref c, ct, osl, e, lk, hcd⟩, kp⟩
theorem ZA {x qual : Str} {st : Stmt} {f c : Addr} {oc : Value} {od an : Option Addr} {osl : Array (Option Value)} {kV doc pm ct : Value} (l : K.lookup f = some ⟨oc, od, .func (PySem.W.fnOf x qual (zh st) (qT st) (ql st) .none kV doc pm an (.ref c) ct), osl⟩)
  (cc : PySem.W.codeIn K (.ref c) qual = true) (k : PySem.W.keepIn K (.ref f) = true) : FunC K x qual st f (PySem.W.fnOf x qual (zh st) (qT st) (ql st) .none kV doc pm an (.ref c) ct) c := ⟨⟨oc, od, kV, doc, pm, an, ct, osl, rfl, l, cc⟩, k⟩
end
abbrev Rw (H : Hp) (kvs : List (Key × V)) (xs : List V) (ds : List Rd) : Prop := Paired (RdAt H kvs) xs ds
theorem kJ {α β : Type} {R : α -> β -> Prop} : ∀ {xs : List α} {ys : List β}, Paired R xs ys -> xs.length = ys.length
 | _, _, .nil => rfl
 | _, _, .cons _ t => by rw [List.length_cons, List.length_cons, kJ t]
theorem j_ {α β : Type} {R S : α -> β -> Prop} (h : ∀ a b, R a b -> S a b) : ∀ {xs : List α} {ys : List β}, Paired R xs ys -> Paired S xs ys
 | _, _, .nil => .nil
 | _, _, .cons r t => .cons (h _ _ r) (j_ h t)
theorem wj {α β : Type} {R : α -> β -> Prop} : ∀ {xs : List α} {ys : List β} {i : Nat} {x : α}, Paired R xs ys -> xs[i]? = some x -> ∃ y, ys[i]? = some y /\ R x y := jq
theorem Qi {H : Hp} {kvs : List (Key × V)} {xs out : List V} {ds : List Rd} (h : Rw H kvs xs ds) (ko : KOut false (ds.map (·.l)) xs out) : ∃ ds' : List Rd, Rw H kvs out ds' /\ ds'.Perm ds /\ ds'.Pairwise (fun a b => a.l <= b.l) := by
 obtain ⟨ps, pm, rfl, pw⟩ := ko
 have z : Paired (fun (d : Rd) (p : Int × V) => p.1 = d.l /\ RdAt H kvs p.2 d) ds ((ds.map (·.l)).zip xs) := by
  clear pm pw
  induction h with
  | nil => exact .nil
  | cons r t ih => exact .cons ⟨rfl, r⟩ ih
 obtain ⟨ds', h1, h2⟩ := vC pm z
 refine ⟨ds', ?_, h2, ?_⟩
 ·clear h2 z pw pm
  induction h1 with
  | nil => exact .nil
  | cons r t ih => exact .cons r.2 ih
 ·clear h2 z pm
  induction h1 with
  | nil => exact .nil
  | @cons d p l1 l2 r t ih =>
   rw [List.pairwise_cons] at pw ⊢
   refine ⟨fun e he => ?_, ih pw.2⟩
   obtain ⟨i, hi⟩ := List.mem_iff_getElem?.mp he
   obtain ⟨q, hq, r'⟩ := jq t hi
   have := pw.1 q (List.mem_of_getElem? hq)
   rw [<- r.1, <- r'.1]
   simpa using this
def Sx (p : Addr) (H H' : Hp) : Prop := ∀ b u, b ≠ p -> H b = some u -> H' b = some u
theorem Sx.refl {p : Addr} {H : Hp} : Sx p H H := fun _ _ _ h => h
theorem Sx.put {p : Addr} {H H' : Hp} (s : Sx p H H') (o : HO) : Sx p H (upd H' p o) := fun b u n e => (qu n).trans (s b u n e)
theorem TabOk.sx {p : Addr} {H H' : Hp} (s : Sx p H H') {kvs : List (Key × V)} (h : H p = some (.dK kvs)) {P : Addr} {pos : Pos} {lq : Str} (t : TabOk H P pos lq) : TabOk H' P pos lq := by
 obtain ⟨ps, e, ht, q⟩ := t
 refine ⟨ps, s _ _ (Zi e h fun z => nomatch z) e, ht, ?_⟩
 rcases q with q | ⟨c', q, h'⟩
 ·exact .inl q
 ·exact .inr ⟨c', q, s _ _ (Zi h' h fun z => nomatch z) h'⟩
theorem SaT.sx {P p : Addr} {H0 H H' : Hp} (t : SaT P H0 H) (s : Sx p H H') (n : H0 p = none) : SaT P H0 H' := ⟨fun b u e k => s _ _ (qV e n) (t.keep b u e k), fun b ps e => by
 obtain ⟨m, q⟩ := t.tbl b ps e
 exact ⟨m, s _ _ (qV e n) q⟩, fun b ps e k => s _ _ (qV e n) (t.oth b ps e k)⟩
theorem RdAt.sx {p : Addr} {H H' : Hp} (s : Sx p H H') {kv : List (Key × V)} (h : H p = some (.dK kv)) {kvs : List (Key × V)} {x : V} {d : Rd} (r : RdAt H kvs x d) : RdAt H' kvs x d := by
 obtain ⟨q, e, g, v⟩ := r
 exact ⟨q, e, s _ _ (Zi g h fun z => nomatch z) g, v⟩
theorem RdAt.saT {P : Addr} {H H' : Hp} (s : SaT P H H') {kvs : List (Key × V)} {x : V} {d : Rd} (r : RdAt H kvs x d) : RdAt H' kvs x d := by
 obtain ⟨q, e, g, v⟩ := r
 exact ⟨q, e, s.keep _ _ g rfl, v⟩
def Qx : Sp := fun vs H Q _ => ∃ (p : Addr) (ps : List (Str × Int)) (x : Str) (m : Int), vs = [.ref p, .str x, .int m] /\ H p = some (.dK (toDK ps)) /\ Q (.bl (rdy ps x m)) H
def lqS : Str := (Str.ofString "soonest" ++ Str.ofString ".<locals>.") ++ "<lambda>"
def J2 (K : PySem.W.Frag) (Pt : Addr) (lpS : Pos) : Sp := fun vs H Q _ => ∃ (pr ps : Addr) (xs : List V) (kvs : List (Key × V)) (ds : List Rd) (ns : List Str) (st : Str) (si : Int), vs = [.ref pr, .ref ps, .str st, .int si] /\ H pr = some (.lst xs) /\ H ps = some (.dK kvs) /\ Rw H kvs xs ds /\ xs.length < 64 /\ Good (spn kvs) ds /\ ns.length <= 5 /\ st ∈ ns /\ (∀ d ∈ ds, d.b ∈ ns) /\ TabOk H Pt lpS lqS /\
 ∀ (r : Addr) (out : List (Str × Int)) (qs : List Addr) (H' : Hp), SaT Pt H H' -> TabOk H' Pt lpS lqS -> H r = none -> out.Pairwise (fun a b => a.1.cps.toList < b.1.cps.toList) -> H' r = some (.lst (qs.map V.ref)) -> qs.length = out.length -> (∀ (i : Nat) q (o : Str × Int), qs[i]? = some q -> out[i]? = some o -> H' q = some (.tup [.str o.1, .int o.2])) -> (∀ q ∈ qs, H q = none) ->
  (∀ x m, (x, m) ∈ out ↔ Least (spn kvs) ds st si x m) -> Q (.ref r) H'
theorem Soon.small {sp : Str -> Int} {rds pre : List Rd} {st : Str} {si : Int} {ps : List (Str × Int)} (S : Soon sp rds pre st si ps) {ns : List Str} (h1 : st ∈ ns) (h2 : ∀ d ∈ rds, d.b ∈ ns) : ps.length <= ns.length := by
 have := S.nd.length_le_of_subset (l₂ := ns) fun x hx => by
  obtain ⟨⟨k, m⟩, hp, rfl⟩ := List.mem_map.mp hx
  rcases S.sound k m ((mem_lookup S.nd).mp hp) with ⟨e, _⟩ | ⟨e, r, eb, _⟩
  ·show k ∈ ns
   rw [e]; exact h1
  ·show k ∈ ns
   rw [<- eb]; exact h2 _ r.mem
 rw [List.length_map] at this
 exact this
end X2
namespace M
open PySem PySem.Spec PyProof.Rows L2 X2
section
variable {W : Wo} {K : PySem.W.Frag} {X : Cx} {E : En} {O O' O1 O2 OL : List Nat} {g : SS W} {b : W.BS} {σ : L2.St} {H H' : Hp} {c c' : Co} {fp fp' : List Addr} {fr : Bool} {m m1 m2 : Bool} {pos : Pos} {e a : Expr} {es : List Expr}
variable {fa fb fe : SS W -> R W D} {fs : SS W -> R W (List D)} {ta tb : SS W -> R W Bool}
def cI (ds : List D) : SS W -> R W (List D) := fun g => .ok ds g.b
def tINC (X : Cx) (E : En) (O : List Nat) (P : SS W -> (List D -> Prop) -> Prop) : TI := fun σ H Rr => ∃ g c fp Ok, SR W X.K E O g σ H c fp /\ P g Ok /\ ∀ ds, Ok ds -> tIC X E O (cI (W := W) ds) g c fp σ H Rr
def tIN (X : Cx) (E : En) (O : List Nat) (P : SS W -> (List D -> Prop) -> Prop) : TI := fun σ H Rr => ∃ g c fp Ok, SR W X.K E O g σ H c fp /\ P g Ok /\ ∀ ds, Ok ds -> tI X E O (cI (W := W) ds) g c fp σ H Rr
theorem XF {tg iter : Expr} {P : SS W -> (List D -> Prop) -> Prop} (h : PI X tg iter (tIN X E O P)) : PI X tg iter (tINC X E O P) := j8 h fun σ H Rr ⟨g, c, fp, Ok, S, hP, q⟩ => ⟨g, c, fp, Ok, S, hP, fun ds ok => (q ds ok).toI⟩
def VE (X : Cx) (E : En) (fr : Bool) (OL O : List Nat) (P : SS W -> (List D -> Prop) -> Prop) (p : D -> SS W -> Option (SS W)) (f : SS W -> Ou W) : TS := fun Dn σ H => ∃ g c fp Ok, SR W X.K E O g σ H c fp /\ P g Ok /\ ∀ ds, Ok ds -> tSx X E fr OL O (sFor (cI ds) p f) O g c fp Dn σ H
theorem KK {tg iter : Expr} {P : SS W -> (List D -> Prop) -> Prop} {p : D -> SS W -> Option (SS W)} {body : List Stmt} {f : SS W -> Ou W} (hp : PassesOwn (model X.prog X.w) X.A X.env X.xe) (hc : X.calm = true) (kp : kQ p) (hi : PI X tg iter (tIN X E O P)) (hg : DG W E X O tg p O1) (hb : DSs W E fr O X O1 body f O)
  (hs : ∀ x, foldedSetIterable iter X.env x = pure x := by intro _; rfl) : PS X (.For tg iter body [] pos) (VE X E fr OL O P p f) :=
 zK (QN hp hc hi hg hb hs) fun Dn σ H ⟨g, c, fp, Ok, S, hP, q⟩ => ⟨g, c, fp, Ok, S, hP, fun ds ok => Km kp (q ds ok)⟩
def JZ (X : Cx) (E : En) (fr : Bool) (OL O : List Nat) (P : SS W -> (List D -> Prop) -> Prop) (i T : Nat) (ix : List Nat) (p : D -> SS W -> Option (SS W)) (t : SS W -> R W Bool) (f : SS W -> R W D) : TS := fun D σ H => ∃ g c fp Ok, SR W X.K E O g σ H c fp /\ P g Ok /\ ∀ ds, Ok ds -> tSx X E fr OL O (sSet i (zq T ix (cI ds) p t f)) (i :: O) g c fp D σ H
theorem Jc {elt tg iter : Expr} {ifs : List Expr} {scope : Scope} {cl : List (Str × Addr)} {T caps : List Str} {ix : List Nat} {P : SS W -> (List D -> Prop) -> Prop} {p : D -> SS W -> Option (SS W)} {t : SS W -> R W Bool} {f : SS W -> R W D} {i : Nat} {y : Str} {spos py : Pos} (hN : X.N.Nodup) (hi' : X.N[i]? = some y) (hx : Loc X.env.scope y) (Ok : CompOk X scope cl T caps ix) (hc : X.calm = true) (nd : ix.Nodup) (kp : kQ p) (hi : PI X tg iter (tINC X E O P)) (hg : ∀ E C s H fp, DG W E (qQ X scope cl (T ++ caps) C s H fp) (capO T.length ix O) tg p O1) (hsub : ∀ i ∈ capO T.length ix O, i ∈ O1) (hsup : ∀ i ∈ O1, i ∈ capO T.length ix O)
  (ht : ∀ E C s H fp, DTs W E (qQ X scope cl (T ++ caps) C s H fp) O1 ifs t) (he : ∀ E C s H fp, DE W E true (qQ X scope cl (T ++ caps) C s H fp) O1 elt f) (hs : ∀ x, foldedSetIterable iter X.env x = pure x := by intro _; rfl)
  (hsw : swapsWith (.ListComp elt [⟨tg, iter, ifs, 0⟩] scope pos) (some (.Name y py)) spos.line X.env = pure true := by rfl) (hf : X.fn y = true \/ X.env.scope.names.lookup y = some .local := by first | exact .inl rfl | exact .inr rfl | assumption) :
  PS X (.Assign [.Name y py] (.ListComp elt [⟨tg, iter, ifs, 0⟩] scope pos) spos) (JZ X E fr OL O P i T.length ix p t f) := zK (QM hN hi' hx Ok hc hi (Vp hg) (Vo ht) (Vq he) hs hsw hf) fun D σ H ⟨g, c, fp, Ok, S, hP, q⟩ => ⟨g, c, fp, Ok, S, hP, fun ds ok => yV nd kp hsub hsup ((q ds ok).bindO fun d b v H1 c1 fp1 F1 o1 nw q1 => q1.2 _ _ c1 fp1 (q1.1.setO o1 fun j e y hj hg hm hy hd => by
   rintro rfl
   obtain ⟨z, hz, ow⟩ := S.own j e hj hg
   cases hy.symm.trans hz
   obtain ⟨a, u, rfl, _⟩ := v8 o1 hd
   exact wU ow hm rfl (nw hd a rfl)) (.refl _))⟩
theorem J3 {Dn : Ends} {f h : SS W -> Ou W} (q : tSq X E fr OL O' Dn c (sSeq f h g)) : tSq X E fr OL O1 { Dn with nx := tS X E fr OL O1 h O' Dn } c (f g) := by
 unfold sSeq at q
 cases e : f g with
 | nx g' => rw [e] at q; exact fun σ' H' c' fp' S' l' => ⟨g', c', fp', S', q.mono l'⟩
 | rt d b => rw [e] at q; exact q
 | bk g' => rw [e] at q; exact q
 | ct g' => rw [e] at q; exact q
 | ex x g' => rw [e] at q; exact q
 | bad => rw [e] at q; exact q
def ObV (K : PySem.W.Frag) (H : Hp) (c : Co) (a : Addr) : D -> Prop
 | .lst ds => ∃ xs, H a = some (.lst xs) /\ Reps K c xs ds
 | .dic kvs => ∃ ys : List (Key × V), H a = some (.dK ys) /\ ys.map (·.1) = kvs.map (·.1) /\ (kvs.map (·.1)).Nodup /\ Reps K c (ys.map (·.2)) (kvs.map (·.2))
 | _ => False
abbrev Fp := List Addr × Hp
structure BT (K : PySem.W.Frag) (fp0 : Fp) (ob0 : Nat -> Option Addr) (tb : Nat -> Option D) (H : Hp) (c : Co) (fp : List Addr) : Prop where
 e : fp = fp0.1
 st : ∀ a ∈ fp0.1, H a = fp0.2 a
 ob : ∀ k a, ob0 k = some a -> c.ob k = some a
 ct : ∀ k d, tb k = some d -> ∃ a, ob0 k = some a /\ a ∈ fp0.1 /\ ObV K H c a d
theorem hBT {fp0 : Fp} {ob0 : Nat -> Option Addr} {tb : Nat -> Option D} : HBb (BT K fp0 ob0 tb) := fun H c fp H' c' h hk le ho => ⟨h.e, fun a ha => (hk a (by rw [h.e]; exact ha)).trans (h.st a ha), fun k a e => le.ob _ _ (h.ob k a e), fun k d e => by
 obtain ⟨a, h1, h2, h3⟩ := h.ct k d e
 refine ⟨a, h1, h2, ?_⟩
 have hh := hk a (by rw [h.e]; exact h2)
 cases d with
 | lst ds => obtain ⟨xs, h4, h5⟩ := h3; exact ⟨xs, by rw [hh]; exact h4, h5.mono le⟩
 | dic ds => obtain ⟨xs, h4, h5, h6, h7⟩ := h3; exact ⟨xs, by rw [hh]; exact h4, h5, h6, h7.mono le⟩
 | _ => exact h3.elim⟩
def ofOb (tb : Nat -> Option D) : D -> Option D
 | .obj k => tb k
 | d => some d
end
section
variable {T : Hp -> Prop} {hT : HTb T} {K : PySem.W.Frag} {fp0 : Fp} {ob0 : Nat -> Option Addr} {tb : Nat -> Option D} {X : Cx} {E : En} {O : List Nat} {H : Hp} {c : Co} {fp : List Addr}
theorem Zf {b : Unit} (S : SE (W1 T hT (BT K fp0 ob0 tb) hBT) E b H c fp) {m : Bool} {x : V} {d d' : D} (r : Rep K (cm m H c fp) x d) (e : ofOb tb d = some d') : Rep K ⟨Hn H [], c.ob⟩ x d' := by
 have B : BT K fp0 ob0 tb H c fp := S.br
 have le0 : Co.Le c ⟨Hn H [], c.ob⟩ := ⟨S.core.trans hn_nil, fun _ _ e => e⟩
 have le1 : Co.Le (cm m H c fp) ⟨Hn H [], c.ob⟩ := by
  cases m with
  | true => exact le0
  | false => exact ⟨hn_nil, fun _ _ e => e⟩
 by_cases hd : ∃ k, d = .obj k
 ·obtain ⟨k, rfl⟩ := hd
  obtain ⟨a, h1, h2, h3⟩ := B.ct k d' e
  have ho : (cm m H c fp).ob k = some a := by
   have := B.ob k a h1
   cases m with
   | true => exact this
   | false => exact this
  cases r with
  | obj e' =>
   cases ho.symm.trans e'
   cases d' with
   | lst ds => obtain ⟨xs, h4, h5⟩ := h3; exact .lst (Hn.mk h4 List.not_mem_nil rfl) h5.l (h5.mono le0).r
   | dic ds =>
    obtain ⟨ys, h4, h5, h6, h7⟩ := h3
    exact .dic (Hn.mk h4 List.not_mem_nil rfl) h5 h6 fun i p q g1 g2 => (h7.mono le0).r i _ _ (by rw [List.getElem?_map, g1]; rfl) (by rw [List.getElem?_map, g2]; rfl)
   | _ => exact h3.elim
 ·have e' : d' = d := by
   cases d with
   | obj k => exact absurd ⟨k, rfl⟩ hd
   | _ => cases e; rfl
  subst e'
  exact r.mono le1
def opB (tb : Nat -> Option D) (op : D -> D -> Option D) (x y : D) : Option D := (ofOb tb x).bind fun x => (ofOb tb y).bind fun y => op x y
theorem ZI {fa fb : SS (W1 T hT (BT X.K fp0 ob0 tb) hBT) -> R (W1 T hT (BT X.K fp0 ob0 tb) hBT) D} {m1 m2 : Bool} {o : CmpOp} {r : R2} {op : D -> D -> Option D} {a b : Expr} {pos : Pos} (ho : OpR X (compareOp o) r) (hr : Op2 X r op) (ha : DE (W1 T hT (BT X.K fp0 ob0 tb) hBT) E m1 X O a fa) (hb : DE (W1 T hT (BT X.K fp0 ob0 tb) hBT) E m2 X O b fb) (hm : behindInMarks o b = false) : DT (W1 T hT (BT X.K fp0 ob0 tb) hBT) E X O (.Compare a [o] [b] pos) (qCmp (opB tb op) fa fb) :=
 xz (QL ho ha hb hm) fun σ H Q ⟨g, c, fp, q⟩ => ⟨g, c, fp, by
  unfold qCmp M.e2 at q
  simp only [bind_assoc] at q
  refine q.bind fun d b v H1 c1 fp1 S1 F1 r1 h1 => ⟨_, c1, fp1, h1.bind fun d' b' v' H2 c2 fp2 S2 F2 r2 h2 => ?_⟩
  obtain ⟨S, h2⟩ := h2
  unfold qG at h2
  cases ez : opB tb op d d' with
  | none => rw [ez] at h2; exact h2.elim
  | some z =>
   rw [ez] at h2
   unfold opB at ez
   cases e1 : ofOb tb d with
   | none => rw [e1] at ez; cases ez
   | some dx =>
    cases e2 : ofOb tb d' with
    | none => rw [e1, e2] at ez; cases ez
    | some dy =>
     rw [e1, e2] at ez
     refine hr H2 ⟨Hn H2 [], c2.ob⟩ v v' dx dy z _ (show Same (Hn H2 []) H2 from Hn.same) (Zf S2.toSE (r1.mono F2.cm) e1) (Zf S2.toSE r2 e2) ez fun u hu => ?_
     cases z with
     | bl k => cases hu; exact ⟨k, rfl, h2 k H2 c2 fp2 S2 .refl rfl⟩
     | _ => exact h2.elim⟩
def vh (tb : Nat -> Option D) : List D -> Option (List D)
 | [] => some []
 | d :: ds => match ofOb tb d, vh tb ds with | some x, some xs => some (x :: xs) | _, _ => none
theorem Ze {b : Unit} (S : SE (W1 T hT (BT K fp0 ob0 tb) hBT) E b H c fp) {m : Bool} : ∀ {xs : List V} {ds ds' : List D}, Reps K (cm m H c fp) xs ds -> vh tb ds = some ds' -> Reps K ⟨Hn H [], c.ob⟩ xs ds' /\ ds'.length = ds.length
 | xs, [], ds', r, e => by cases e; rw [r.unnil]; exact ⟨.nil, rfl⟩
 | xs, d :: ds, ds', r, e => by
  obtain ⟨x, t, rfl, r1, r2⟩ := r.uncons
  unfold vh at e
  cases e1 : ofOb tb d with
  | none => rw [e1] at e; cases e
  | some y =>
   cases e2 : vh tb ds with
   | none => rw [e1, e2] at e; cases e
   | some ys =>
    rw [e1, e2] at e
    cases e
    obtain ⟨a, b⟩ := Ze S r2 e2
    exact ⟨.cons (Zf S r1 e1) a, by simp [b]⟩
def wA {W : Wo} (tb : Nat -> Option D) (n : Nat) (F : List D -> Option D) (fs : SS W -> R W (List D)) : SS W -> R W D := qG fs fun ds => eOpt (if ds.length = n then (vh tb ds).bind fun ds => atO (F ds) else none)
theorem JP {m fr : Bool} {k n : Nat} {x : Str} {f : Addr} {fd : FuncData} {ps : List Str} {p pos : Pos} {e : Expr} {es : List Expr} {F : List D -> Option D} {fs : SS (W1 T hT (BT X.K fp0 ob0 tb) hBT) -> R (W1 T hT (BT X.K fp0 ob0 tb) hBT) (List D)} (hr : Room k X.A) (hg : Gl X x) (hm : X.mg x = some (.ref f)) (hk : PySem.W.keepIn X.K (.ref f) = true) (hb : Binds X.K fd ps [])
  (G : FnOk X.prog X.w X.K X.mg X.base CX0 k f fd ps (spP X.K T n fr F)) (ha : DA (W1 T hT (BT X.K fp0 ob0 tb) hBT) E m X O (e :: es) fs) (hd : (x == ("__debug__" : Str)) = false := by decide)
  (hs : starEach (e :: es) X.env = (false, eval e X.env) :: starEach es X.env := by rfl) (hplain : (backTo pos (starEach es X.env)).any (·.1) = false := by rfl) : DE (W1 T hT (BT X.K fp0 ob0 tb) hBT) E true X O (.Call (.Name x p) (e :: es) [] pos) (wA tb n F fs) :=
 zg (j9 G hr hg hm hk hb .nil wT ha hd hs hplain) fun σ H Q ⟨g, c, fp, q⟩ => ⟨g, c, fp, q.bind fun ds b vs H c fp S1 F1 r1 h1 => by
  have S := h1.1
  obtain ⟨d, e, k⟩ := h1.opt
  rw [List.append_nil]
  split at e
  ·rename_i hl
   cases eo : vh tb ds with
   | none => rw [eo] at e; cases e
   | some ds' =>
    rw [eo] at e
    obtain ⟨r2, l2⟩ := Ze S.toSE r1 eo
    simp only [Option.bind_some] at e
    unfold atO at e
    cases eF : F ds' with
    | none => rw [eF] at e; cases e
    | some d' =>
     rw [eF] at e
     cases ea : isAt d' with
     | none => simp only [Option.bind_some, ea] at e; cases e
     | some va =>
      simp only [Option.bind_some, ea] at e
      cases e
      refine ⟨by rw [r1.l]; exact hl, ⟨Hn H [], c.ob⟩, ds', fun _ _ e => e, S.tab, r2, d, eF, fun v H' c' f co tb r' => ?_⟩
      have ev : v = va := by
       cases fr with
       | false => exact wd ea r'
       | true =>
        cases d with
        | lst _ => cases ea
        | dic _ => cases ea
        | dit _ => cases ea
        | non => exact wd ea r'
        | bl _ => exact wd ea r'
        | int _ => exact wd ea r'
        | str _ => exact wd ea r'
        | tup _ => cases ea
        | obj _ => cases ea
        | scr _ => cases ea
      subst ev
      have keep : ∀ a u, H a = some u -> isT u = false -> H' a = some u := fun a u e z => (Hn.of (f.nn _ _ (Hn.mk e (List.not_mem_nil) z))).1
      have F' : FR H c fp H' c fp := ⟨.refl _, fun a u e => by
       obtain ⟨h1, h2, h3⟩ := Hn.of e
       exact Hn.mk (keep a u h1 h3) h2 h3, fun _ _ q => q, f.th⟩
      refine k v H' c fp (S.step (b := ()) F' ⟨S.core.trans F'.nn, hBT _ _ _ _ _ S.br (fun a ha => ?_) (.refl _) S.toSE.fpc, tb, fun a ha => ?_, S.fr0.trans F'⟩) F' (y7 ea)
      ·obtain ⟨u, e, z⟩ := S.fph a ha
       rw [keep a u e z, e]
      ·obtain ⟨u, e, z⟩ := S.fph a ha
       exact ⟨u, keep a u e z, z⟩
  ·cases e⟩
end
def spQ (K : PySem.W.Frag) (T : Hp -> Prop) (B : Hp -> Co -> List Addr -> Prop) (n : Nat) (Pr : List D -> Prop) (Rl : List D -> D -> Prop) : Sp := fun vs H Q _ => vs.length = n /\ ∃ c ds fp, Same c.h (Hn H fp) /\ B H c fp /\ T H /\ (∀ a ∈ fp, ∃ u, H a = some u /\ isT u = false) /\ Reps K c vs ds /\ Pr ds /\
 ∀ d v H' c', Rl ds d -> FR H c fp H' c' fp -> Same c'.h (Hn H' fp) -> B H' c' fp -> T H' -> (∀ a ∈ fp, ∃ u, H' a = some u /\ isT u = false) -> Rep K c' v d -> Q v H'
section
variable {T : Hp -> Prop} {hT : HTb T} {B : Hp -> Co -> List Addr -> Prop} {hB : HBb B} {K : PySem.W.Frag} {O' : List Nat}
theorem Ko {Ω : Type} {P : Program} {w : World} {mg : Str -> Option Value} {base : Heap} {x qual : Str} {st : Stmt} {f : Addr} {fd : FuncData} {N ps : List Str} {k n : Nat} {body : Ω -> SS (W1 T hT B hB) -> Ou (W1 T hT B hB)} {Pr : List D -> Prop} {Ok : List D -> Ω -> Prop} (fp0 : List Addr) (hf0 : ∀ H c fp, B H c fp -> fp = fp0) (F : Fun K x qual st f fd) (Sc : FnScope N ps (ql st)) (hn : n = ps.length)
  (h : ∀ (cdv : Value) (A : Around) (outer : List Env) (s : Shared) (H : Hp) (EX : XK) (E : En), Room k (A.deeper (envOfC qual (ql st) s.heap.objs.size f cdv)) -> PSs (cxOf CX0 P w K mg base N qual (ql st) f cdv A outer s H EX).nox (qT st) fun Dn σ H1 => ∃ ds c fp, SR (W1 T hT B hB) K E [] (qY N.length ds ()) σ H1 c fp /\ Pr ds /\ ∀ ω, Ok ds ω -> tSq (cxOf CX0 P w K mg base N qual (ql st) f cdv A outer s H EX).nox E false [] O' Dn c (body ω (qY N.length ds ()))) :
  FnOk P w K mg base CX0 (k + 1) f fd ps (spQ K T B n (fun ds => Pr ds /\ ∀ ω, Ok ds ω -> ∃ d, zr N.length (body ω) ds = some d) (fun ds d => ∃ ω, Ok ds ω /\ zr N.length (body ω) ds = some d)) := by
 refine F.ok Sc (fun vs H Q EX q => by rw [<- hn]; exact q.1) fun cdv A outer s H vs Q EX hr q => ?_
 obtain ⟨_, c, ds, fp, co, hb, tb, hfp, r, ⟨pr, tot⟩, q⟩ := q
 refine ⟨_, h cdv A outer s H EX ⟨H, c, fp⟩ hr, ds, c, fp, xr ⟨co, hb, tb, hfp, .refl⟩ r, pr, fun ω ok => ?_⟩
 obtain ⟨d, e⟩ := tot ω ok
 have e0 := e
 have e1 := hf0 _ _ _ hb
 unfold zr at e
 cases eb : body ω (qY N.length ds ()) with
 | rt d' b' =>
  rw [eb] at e
  cases e
  intro v H' c' fp' S' r'
  have e2 := hf0 _ _ _ (show B H' c' fp' from S'.br)
  have e3 : fp' = fp := by rw [e1, e2]
  subst e3
  exact q d v H' c' ⟨ω, ok, e0⟩ S'.fr0 S'.core S'.br S'.tab S'.fph r'
 | nx g' =>
  rw [eb] at e
  cases e
  intro σ' H' c' fp' S' _
  have e2 := hf0 _ _ _ (show B H' c' fp' from S'.br)
  have e3 : fp' = fp := by rw [e1, e2]
  subst e3
  exact q .non .non H' c' ⟨ω, ok, e0⟩ S'.fr0 S'.core S'.br S'.tab S'.fph .non
 | ex x g' => rw [eb] at e; cases e
 | bk g' => rw [eb] at e; cases e
 | ct g' => rw [eb] at e; cases e
 | bad => rw [eb] at e; cases e
theorem Vi {cd : Addr} {Ω : Type} {P : Program} {w : World} {mg : Str -> Option Value} {base : Heap} {x qual : Str} {st : Stmt} {f : Addr} {fd : FuncData} {N ps : List Str} {k n : Nat} {body : Ω -> SS (W1 T hT B hB) -> Ou (W1 T hT B hB)} {Pr : List D -> Prop} {Ok : List D -> Ω -> Prop} (fp0 : List Addr) (hf0 : ∀ H c fp, B H c fp -> fp = fp0) (F : FunC K x qual st f fd cd) (Sc : FnScope N ps (ql st)) (hn : n = ps.length)
  (h : ∀ (A : Around) (outer : List Env) (s : Shared) (H : Hp) (EX : XK) (E : En), Room k (A.deeper (envOfC qual (ql st) s.heap.objs.size f (.ref cd))) -> PSs (cxOf CX0 P w K mg base N qual (ql st) f (.ref cd) A outer s H EX).nox (qT st) fun Dn σ H1 => ∃ ds c fp, SR (W1 T hT B hB) K E [] (qY N.length ds ()) σ H1 c fp /\ Pr ds /\ ∀ ω, Ok ds ω -> tSq (cxOf CX0 P w K mg base N qual (ql st) f (.ref cd) A outer s H EX).nox E false [] O' Dn c (body ω (qY N.length ds ()))) :
  FnOk P w K mg base CX0 (k + 1) f fd ps (spQ K T B n (fun ds => Pr ds /\ ∀ ω, Ok ds ω -> ∃ d, zr N.length (body ω) ds = some d) (fun ds d => ∃ ω, Ok ds ω /\ zr N.length (body ω) ds = some d)) := by
 refine F.ok Sc (fun vs H Q EX q => by rw [<- hn]; exact q.1) fun A outer s H vs Q EX hr q => ?_
 obtain ⟨_, c, ds, fp, co, hb, tb, hfp, r, ⟨pr, tot⟩, q⟩ := q
 refine ⟨_, h A outer s H EX ⟨H, c, fp⟩ hr, ds, c, fp, xr ⟨co, hb, tb, hfp, .refl⟩ r, pr, fun ω ok => ?_⟩
 obtain ⟨d, e⟩ := tot ω ok
 have e0 := e
 have e1 := hf0 _ _ _ hb
 unfold zr at e
 cases eb : body ω (qY N.length ds ()) with
 | rt d' b' =>
  rw [eb] at e
  cases e
  intro v H' c' fp' S' r'
  have e2 := hf0 _ _ _ (show B H' c' fp' from S'.br)
  have e3 : fp' = fp := by rw [e1, e2]
  subst e3
  exact q d v H' c' ⟨ω, ok, e0⟩ S'.fr0 S'.core S'.br S'.tab S'.fph r'
 | nx g' =>
  rw [eb] at e
  cases e
  intro σ' H' c' fp' S' _
  have e2 := hf0 _ _ _ (show B H' c' fp' from S'.br)
  have e3 : fp' = fp := by rw [e1, e2]
  subst e3
  exact q .non .non H' c' ⟨ω, ok, e0⟩ S'.fr0 S'.core S'.br S'.tab S'.fph .non
 | ex x g' => rw [eb] at e; cases e
 | bk g' => rw [eb] at e; cases e
 | ct g' => rw [eb] at e; cases e
 | bad => rw [eb] at e; cases e
theorem Xy {P : Program} {w : World} {mg : Str -> Option Value} {base : Heap} {x qual : Str} {st : Stmt} {f : Addr} {fd : FuncData} {N ps : List Str} {k n : Nat} {body : SS (W1 T hT B hB) -> Ou (W1 T hT B hB)} (fp0 : List Addr) (hf0 : ∀ H c fp, B H c fp -> fp = fp0) (F : Fun K x qual st f fd) (Sc : FnScope N ps (ql st)) (hn : n = ps.length)
  (h : ∀ (cdv : Value) (A : Around) (outer : List Env) (s : Shared) (H : Hp) (EX : XK) (E : En), Room k (A.deeper (envOfC qual (ql st) s.heap.objs.size f cdv)) -> DSs (W1 T hT B hB) E false [] (cxOf CX0 P w K mg base N qual (ql st) f cdv A outer s H EX).nox [] (qT st) body O') :
  FnOk P w K mg base CX0 (k + 1) f fd ps (spQ K T B n (fun ds => True /\ ∀ _ : Unit, True -> ∃ d, zr N.length body ds = some d) (fun ds d => ∃ _ : Unit, True /\ zr N.length body ds = some d)) :=
 Ko (Ω := Unit) (body := fun _ => body) (Pr := fun _ => True) (Ok := fun _ _ => True) fp0 hf0 F Sc hn fun cdv A outer s H EX E hr => jV (h cdv A outer s H EX E hr) fun Dn σ H1 ⟨ds, c, fp, S, _, q⟩ => ⟨_, c, fp, S, q () trivial⟩
section
variable {X : Cx} {E : En} {O : List Nat} {x : Str} {f : Addr} {fd : FuncData} {ps : List Str} {k n : Nat} {p pos : Pos} {e : Expr} {es : List Expr} {fs : SS (W1 T hT B hB) -> R (W1 T hT B hB) (List D)} {Pr : List D -> Prop} {Rl : List D -> D -> Prop}
def PcN {W : Wo} (fs : SS W -> R W (List D)) (n : Nat) (Pr : List D -> Prop) (Rl : List D -> D -> Prop) : SS W -> (List D -> Prop) -> Prop := fun g Ok => ∃ ds, fs g = .ok ds g.b /\ ds.length = n /\ Pr ds /\ (∀ d, Rl ds d -> ∃ xs, d = .lst xs) /\ ∀ xs, Rl ds (.lst xs) -> Ok xs
theorem yX {ds : List D} {vs : List V} {g : SS (W1 T hT B hB)} {c : Co} {fp : List Addr} {σ : L2.St} {H : Hp} {Q : VK} (hl : ds.length = n) (r1 : Reps X.K c vs ds) (S : SR (W1 T hT B hB) X.K E O g σ H c fp) (hp : Pr ds) (q : ∀ d, Rl ds d -> ∀ v H' c', SR (W1 T hT B hB) X.K E O g σ H' c' fp -> FR H c fp H' c' fp -> Rep X.K c' v d -> Q v H') : spQ X.K T B n Pr Rl (vs ++ []) H Q E0 := by
 rw [List.append_nil]
 exact ⟨by rw [r1.l]; exact hl, c, ds, fp, S.core, S.br, S.tab, S.fph, r1, hp, fun d v H' c' hd f co hb ht hf r => q d hd v H' c' (S.step (b := ()) f ⟨co, hb, ht, hf, S.fr0.trans f⟩) f r⟩
variable (hr : Room k X.A) (hg : Gl X x) (hm : X.mg x = some (.ref f)) (hk : PySem.W.keepIn X.K (.ref f) = true) (hb : Binds X.K fd ps []) (hd : (x == ("__debug__" : Str)) = false := by decide)
  (hs : starEach (e :: es) X.env = (false, eval e X.env) :: starEach es X.env := by rfl) (hplain : (backTo pos (starEach es X.env)).any (·.1) = false := by rfl)
include hr hg hm hk hb hd hs hplain
theorem JQ {F : List D -> Option D} (G : FnOk X.prog X.w X.K X.mg X.base CX0 k f fd ps (spQ X.K T B n (fun ds => True /\ ∀ _ : Unit, True -> ∃ d, F ds = some d) (fun ds d => ∃ _ : Unit, True /\ F ds = some d))) (ha : DA (W1 T hT B hB) E true X O (e :: es) fs) : DE (W1 T hT B hB) E true X O (.Call (.Name x p) (e :: es) [] pos) (qX n F fs) :=
 zg (j9 G hr hg hm hk hb .nil wT ha hd hs hplain) fun σ H Q ⟨g, c, fp, q⟩ => ⟨g, c, fp, q.bind fun ds b vs H1 c1 fp1 S1 F1 r1 h1 => by
  obtain ⟨d, e, k⟩ := h1.opt
  split at e
  ·rename_i hl
   refine yX (g := ⟨g.v, b⟩) hl r1 h1.1 ⟨trivial, fun _ _ => ⟨d, e⟩⟩ fun d' hd' v H' c' S' F' r' => ?_
   obtain ⟨_, _, e'⟩ := hd'
   cases e.symm.trans e'
   exact k v H' c' fp1 S' F' r'
  ·cases e⟩
theorem Ji {tg : Expr} (G : FnOk X.prog X.w X.K X.mg X.base CX0 k f fd ps (spQ X.K T B n Pr Rl)) (ha : DA (W1 T hT B hB) E true X O (e :: es) fs) : PI X tg (.Call (.Name x p) (e :: es) [] pos) (tIN (W := W1 T hT B hB) X E O (PcN fs n Pr Rl)) :=
 j8 (vB (j9 G hr hg hm hk hb .nil wT ha hd hs hplain)) fun σ H Rr ⟨g, c, fp, Ok, S, ⟨ds, ef, hn, hp, hl, hok⟩, q⟩ => by
  refine ⟨g, c, fp, S, ?_⟩
  rw [ef]
  intro vs H1 c1 fp1 S1 F1 r1
  have e2 : fp1 = fp1 := rfl
  refine yX (g := g) hn r1 S1 hp fun d hd' v H' c' S' F' r' => ?_
  obtain ⟨xs, rfl⟩ := hl d hd'
  obtain ⟨_, qq⟩ := q xs (hok xs hd')
  cases r' with
  | @lst a ys _ ex l r =>
   exact ⟨a, rfl, ⟨ys, SqL.of (S'.toSE.all (m := true) _ _ ex)⟩, qq (Itl X.K a) H' c' fp1 S' (F1.trans F') (vq ex ⟨l, r⟩)⟩
end
end
def rdD (r : Rd) : D := .tup [.int r.n, .str r.a, .str r.b, .int r.l, .int r.c]
section
variable {K : PySem.W.Frag} {c : Co}
theorem VS {x : V} {r : Rd} (h : Rep K c x (rdD r)) : ∃ p ws, x = .ref p /\ c.h p = some (.tup ws) /\ ws[3]? = some (.int r.l) := by
 cases h with
 | @tup p ws _ e l rr =>
  have h3 : 3 < ws.length := by rw [l]; simp
  have hw : ws[3]? = some ws[3] := List.getElem?_eq_getElem h3
  have := rr 3 _ (.int r.l) hw rfl
  refine ⟨p, ws, rfl, e, ?_⟩
  rw [hw]
  generalize ws[3] = z at this
  cases this
  rfl
def RR (K : PySem.W.Frag) (c : Co) (r : Rd) (p : Int × V) : Prop := p.1 = r.l /\ Rep K c p.2 (rdD r)
theorem VP : ∀ {rds : List Rd} {xs : List V}, Reps K c xs (rds.map rdD) -> Paired (RR K c) rds ((rds.map (·.l)).zip xs)
 | [], xs, h => by rw [h.unnil]; exact .nil
 | r :: rds, xs, h => by
  obtain ⟨x, t, rfl, h1, h2⟩ := Reps.uncons (show Reps K c xs (rdD r :: rds.map rdD) from h)
  exact .cons ⟨rfl, h1⟩ (VP h2)
theorem QD : ∀ {rds : List Rd} {ps : List (Int × V)}, Paired (RR K c) rds ps -> Reps K c (ps.map Prod.snd) (rds.map rdD)
 | _, _, .nil => .nil
 | _, _, .cons r t => .cons r.2 (QD t)
theorem J4 : ∀ {rds : List Rd} {ps : List (Int × V)}, Paired (RR K c) rds ps -> ∀ r ∈ rds, ∃ p ∈ ps, p.1 = r.l
 | _, _, .nil, r, h => nomatch h
 | _, _, .cons e t, r, h => by
  rcases List.mem_cons.mp h with z | z
  ·subst z; exact ⟨_, List.mem_cons_self .., e.1⟩
  ·obtain ⟨p, hp, e⟩ := J4 t r z
   exact ⟨p, List.mem_cons_of_mem _ hp, e⟩
theorem VO : ∀ {rds : List Rd} {ps : List (Int × V)}, Paired (RR K c) rds ps -> ps.Pairwise (fun p q => q.1 <= p.1) -> rds.Pairwise (fun a b => b.l <= a.l)
 | _, _, .nil, _ => .nil
 | r :: rds, p :: ps, .cons e t, h => by
  obtain ⟨h1, h2⟩ := List.pairwise_cons.mp h
  refine List.pairwise_cons.mpr ⟨fun b hb => ?_, VO t h2⟩
  obtain ⟨q, hq, eq⟩ := J4 t b hb
  have := h1 q hq
  rw [eq, e.1] at this
  exact this
end
theorem ZO {T : Hp -> Prop} {hT : HTb T} {fp0 : Fp} {ob0 : Nat -> Option Addr} {tb : Nat -> Option D} {X : Cx} {E : En} {O : List Nat} {k n : Nat} {x : Str} {f : Addr} {fd : FuncData} {ps : List Str} {p pos : Pos} {e : Expr} {es : List Expr} {F : List D -> Option D} {fs : SS (W1 T hT (BT X.K fp0 ob0 tb) hBT) -> R (W1 T hT (BT X.K fp0 ob0 tb) hBT) (List D)} (hr : Room k X.A) (hg : Gl X x) (hm : X.mg x = some (.ref f)) (hk : PySem.W.keepIn X.K (.ref f) = true) (hb : Binds X.K fd ps [])
  (G : FnOk X.prog X.w X.K X.mg X.base CX0 k f fd ps (spQ X.K T (BT X.K fp0 ob0 tb) n (fun ds => True /\ ∀ _ : Unit, True -> ∃ d, F ds = some d) (fun ds d => ∃ _ : Unit, True /\ F ds = some d))) (ha : DA (W1 T hT (BT X.K fp0 ob0 tb) hBT) E true X O (e :: es) fs) (hd : (x == ("__debug__" : Str)) = false := by decide)
  (hs : starEach (e :: es) X.env = (false, eval e X.env) :: starEach es X.env := by rfl) (hplain : (backTo pos (starEach es X.env)).any (·.1) = false := by rfl) : DE (W1 T hT (BT X.K fp0 ob0 tb) hBT) E true X O (.Call (.Name x p) (e :: es) [] pos) (qX n F fs) := JQ hr hg hm hk hb hd hs hplain G ha
theorem QU {T : Hp -> Prop} {hT : HTb T} {fp0 : Fp} {ob0 : Nat -> Option Addr} {tb : Nat -> Option D} {X : Cx} {E : En} {O : List Nat} {k n : Nat} {x : Str} {f : Addr} {fd : FuncData} {ps : List Str} {p pos : Pos} {tg e : Expr} {es : List Expr} {Pr : List D -> Prop} {Rl : List D -> D -> Prop} {fs : SS (W1 T hT (BT X.K fp0 ob0 tb) hBT) -> R (W1 T hT (BT X.K fp0 ob0 tb) hBT) (List D)} (hr : Room k X.A) (hg : Gl X x) (hm : X.mg x = some (.ref f)) (hk : PySem.W.keepIn X.K (.ref f) = true) (hb : Binds X.K fd ps [])
  (G : FnOk X.prog X.w X.K X.mg X.base CX0 k f fd ps (spQ X.K T (BT X.K fp0 ob0 tb) n Pr Rl)) (ha : DA (W1 T hT (BT X.K fp0 ob0 tb) hBT) E true X O (e :: es) fs) (hd : (x == ("__debug__" : Str)) = false := by decide)
  (hs : starEach (e :: es) X.env = (false, eval e X.env) :: starEach es X.env := by rfl) (hplain : (backTo pos (starEach es X.env)).any (·.1) = false := by rfl) : PI X tg (.Call (.Name x p) (e :: es) [] pos) (tIN (W := W1 T hT (BT X.K fp0 ob0 tb) hBT) X E O (PcN fs n Pr Rl)) := Ji hr hg hm hk hb hd hs hplain G ha
theorem Zv {u : HO} (h : isT u = false) : isTb u = false := by cases u <;> first | rfl | cases h
section
variable {T : Hp -> Prop} {hT : HTb T} {fp0 : Fp} {ob0 : Nat -> Option Addr} {tb : Nat -> Option D} {X : Cx} {E : En} {O : List Nat}
variable {l tg : Expr} {k0 i ko : Nat} {px gx : Str} {params : Arguments} {scope : Scope} {pp gp bp lpos kp p pos : Pos} {t0 : Tok} {c P : Addr} {k1 : Nat} {rp kp2 : Pos}
theorem Jh (hTT : ∀ H, T H -> TabOk H P lpos (X.env.qual ++ "<lambda>")) (hTS : ∀ H H', T H -> SaT P H H' -> TabOk H' P lpos (X.env.qual ++ "<lambda>") -> T H') (hr : Room k0 X.A) (hg : Gl X "sorted") (hm : X.mg "sorted" = none) (hl : PE X l (tVar i)) (hi : i ∉ O) (hcode : X.env.code = .ref c) (hc : PySem.W.codeHdIn X.K c P = true) (BM : Bm X.base X.mg) (hgx : X.mg gx = some (.int (3 : Nat) t0))
  (hdef : defaultsOf params X.env = ([], []) := by rfl) (hcl : closureFor scope X.env = pure [] := by rfl)
  (hb : ∀ (c' : Addr) (pm ctv : Value) (x : Addr), bindArgs (PySem.W.kla_fn "<lambda>" (X.env.qual ++ "<lambda>") params (.Subscript (.Name px pp) (.Name gx gp) bp) scope [] pm (.ref c') ctv) ⟨[.ref x], []⟩ = pure [(px, .ref x)] := by intro _ _ _ _; rfl)
  (kd : scope.kind = .function := by rfl) (co : scope.isCoroutine = false := by rfl) (gn : scope.isGenerator = false := by rfl) (ncell : ∀ y ∈ scope.names, y.2 ≠ .cell := by decide +kernel) (lpx : scope.names.lookup px = some .local := by rfl) (lgx : scope.names.lookup gx = some .globalImplicit := by rfl)
  (d1 : (px == ("__debug__" : Str)) = false := by decide) (d2 : (gx == ("__debug__" : Str)) = false := by decide) (he : starEach [l] X.env = [(false, eval l X.env)] := by rfl) :
  PI X tg (.Call (.Name "sorted" p) [l] [⟨some "key", .Lambda params (.Subscript (.Name px pp) (.Name gx gp) bp) scope lpos, kp⟩, ⟨some "reverse", .Constant (.bool true) k1 rp, kp2⟩] pos) (tIN (W := W1 T hT (BT X.K fp0 ob0 tb) hBT) X E O fun g Ok => (g.v[i]?).join = some (.obj ko) /\ ∃ rds : List Rd, tb ko = some (.lst (rds.map rdD)) /\ rds.length < 64 /\ ∀ rds' : List Rd, rds'.Perm rds -> rds'.Pairwise (fun a b => b.l <= a.l) -> Ok (rds'.map rdD)) :=
 j8 (vB (QY hr hg hm hl hcode hc BM hgx hdef hcl hb kd co gn ncell lpx lgx d1 d2 he)) fun σ H Rr ⟨g, cc, fp, Ok, S, ⟨hgi, rds, hto, h64, hok⟩, q⟩ => by
  obtain ⟨x, hx, rx⟩ := S.frz i (.obj ko) hi (join_some hgi)
  have B : BT X.K fp0 ob0 tb H cc fp := S.br
  obtain ⟨a, ha1, ha2, ha3⟩ := B.ct ko _ hto
  cases rx with
  | obj e' =>
   cases (B.ob ko a ha1).symm.trans e'
   obtain ⟨xs, hxs, rs⟩ := ha3
   have hcore : ∀ p u, cc.h p = some u -> H p = some u := fun p u e => (Hn.of (S.core _ _ e)).1
   have lx : xs.length = rds.length := by rw [rs.l, List.length_map]
   refine ⟨.ref a, hx, a, xs, rds.map (·.l), rfl, SqL.of hxs, by omega, by rw [List.length_map, lx], fun j x k h1 h2 => ?_, hTT H S.tab, fun Dn out H2 sat t2 hD hD2 ko' => ?_⟩
   ·rw [List.getElem?_map] at h2
    cases er : rds[j]? with
    | none => rw [er] at h2; cases h2
    | some r =>
     rw [er] at h2
     cases h2
     have := rs.r j x (rdD r) h1 (by rw [List.getElem?_map, er]; rfl)
     obtain ⟨p, ws, e1, e2, e3⟩ := VS this
     exact ⟨p, ws, e1, hcore _ _ e2, e3⟩
   ·obtain ⟨ps, hperm, hout, hpw⟩ := ko'
    obtain ⟨rds', pr, pe⟩ := vC hperm (VP rs)
    have rout : Reps X.K cc out (rds'.map rdD) := by rw [hout]; exact QD pr
    have pw := VO pr (by simpa using hpw)
    have F0 : FR H cc fp H2 cc fp := ⟨.refl _, fun b u e => by
     obtain ⟨h1, h2, h3⟩ := Hn.of e
     exact Hn.mk (sat.keep _ _ h1 (Zv h3)) h2 h3, fun _ _ z => z, fun b e => sat.free e⟩
    have keepf : ∀ b ∈ fp, H2 b = H b := fun b hb' => by
     obtain ⟨u, e1, e2⟩ := S.fph b hb'
     rw [e1]
     exact sat.keep _ _ e1 (Zv e2)
    have S0 : SE (W1 T hT (BT X.K fp0 ob0 tb) hBT) E () H2 cc fp := ⟨S.core.trans F0.nn, hBT _ _ _ _ _ S.br keepf (.refl _) S.toSE.fpc, hTS H H2 S.tab sat t2, fun b hb' => by
     obtain ⟨u, e1, e2⟩ := S.fph b hb'
     exact ⟨u, by rw [keepf b hb']; exact e1, e2⟩, S.fr0.trans F0⟩
    obtain ⟨hcD, hfD⟩ := S.toSE.free hD
    have S1 := S0.give hD2 rfl hcD hfD (S.toSE.freeE hD)
    have F1 : FR H cc fp H2 (cc.add Dn (.lst out)) fp := ⟨Co.add_le hcD, F0.nn, fun b hb' hc' => by
     show upd cc.h Dn _ b = none
     rw [qu ?_]
     ·exact hc'
     ·rintro rfl
      exact hb' (jI hD), F0.th⟩
    obtain ⟨_, qq⟩ := q _ (hok rds' pe pw)
    exact ⟨Dn, rfl, ⟨out, SqL.of hD2⟩, qq (Itl X.K Dn) H2 _ fp (S.step (b := ()) F1 S1) F1 (vq qv (rout.mono (Co.add_le hcD)))⟩
end
theorem FnOk.ex {α : Type} {P : Program} {w : World} {K : PySem.W.Frag} {mg : Str -> Option Value} {base : Heap} {k : Nat} {f : Addr} {fd : FuncData} {ps : List Str} {sp : α -> Sp} (h : ∀ z, FnOk P w K mg base CX0 k f fd ps (sp z)) : FnOk P w K mg base CX0 k f fd ps (fun vs H Q EX => ∃ z, sp z vs H Q EX) :=
 ⟨fun vs H Q E ⟨z, q⟩ => (h z).len vs H Q E q, fun A outer s H args us vs Q E hr e b v ⟨z, q⟩ => (h z).run A outer s H args us vs Q E hr e b v q⟩
def yA (c : Co) : Co := ⟨fun a => match c.h a with | some (.tup xs) => some (.tup xs) | _ => none, c.ob⟩
theorem Kv {c : Co} : Same (yA c).h c.h := fun a u e => by
 have e : (match c.h a with | some (.tup xs) => some (HO.tup xs) | _ => none) = some u := e
 split at e
 ·rename_i xs hx
  cases e
  exact hx
 ·cases e
theorem Ku {c : Co} {a : Addr} {xs : List V} (e : (yA c).h a = some (.lst xs)) : False := by
 have e : (match c.h a with | some (.tup xs) => some (HO.tup xs) | _ => none) = some (.lst xs) := e
 split at e <;> cases e
theorem Kt {K : PySem.W.Frag} {c : Co} {x : V} {r : Rd} (h : Rep K c x (rdD r)) (ob : Nat -> Option Addr) : Rep K ⟨(yA c).h, ob⟩ x (rdD r) := by
 cases h with
 | @tup p ws _ e l rr =>
  refine .tup (show (match c.h p with | some (.tup xs) => some (HO.tup xs) | _ => none) = some (.tup ws) by rw [e]) l fun i x d h1 h2 => ?_
  have := rr i x d h1 h2
  match i, h2 with
  | 0, h2 => cases h2; cases this; constructor
  | 1, h2 => cases h2; cases this; constructor
  | 2, h2 => cases h2; cases this; constructor
  | 3, h2 => cases h2; cases this; constructor
  | 4, h2 => cases h2; cases this; constructor
end M
namespace X2
open PySem PySem.Spec PyProof.Rows L2
def potS (rds l : List Rd) : Nat := (l.map (pot rds)).sum
theorem Jf {rds l m : List Rd} : potS rds (l ++ m) = potS rds l + potS rds m := by unfold potS; rw [List.map_append, List.sum_append]
theorem xA {rds : List Rd} : ∀ (l : List Rd), l.length <= potS rds l
 | [] => Nat.zero_le _
 | d :: l => by
  have := xA (rds := rds) l
  have := yg (rank rds d + 1)
  show l.length + 1 <= pot rds d + potS rds l
  unfold pot
  omega
theorem QR {rds : List Rd} (h : rds.length <= 9) : ∀ {l : List Rd}, (∀ d ∈ l, d ∈ rds) -> potS rds l <= l.length * 362880
 | [], _ => Nat.zero_le _
 | d :: l, m => by
  have := QR h (l := l) fun e he => m e (List.mem_cons_of_mem _ he)
  have := V0 (m d (List.mem_cons_self ..)) h
  show pot rds d + potS rds l <= (l.length + 1) * 362880
  omega
def pairD (o : Str × Int) : Dt := .tup [.str o.1, .int o.2]
structure PrsAt (H : Hp) (r : Addr) (out : List (Str × Int)) (qs : List Addr) : Prop where
 hr : H r = some (.lst (qs.map V.ref))
 len : qs.length = out.length
 at' : ∀ (i : Nat) q (o : Str × Int), qs[i]? = some q -> out[i]? = some o -> H q = some (.tup [.str o.1, .int o.2])
def Ve (vs : Array Value) (c P : Addr) : Bool := (match (vs[11]? : Option Value) with | some (.ref P') => P' == P | _ => false) &&
   (match vs.getD 18 .none with | .str _ _ => true | _ => false) && (match vs.getD 7 .none with | .int _ _ => true | _ => false) &&
   (match vs.getD 9 .none with | .bool _ => true | _ => false) && (match vs.getD 10 .none with | .int _ _ => true | _ => false) && c != P
theorem codeHd_mk {K : PySem.W.Frag} {c P : Addr} {dct : Option Addr} {vs : Array Value} {sl : Array (Option Value)} (h : K.lookup c = some ⟨.type "code", dct, .fields vs, sl⟩) (e : Ve vs c P = true) : PySem.W.codeHdIn K c P = true := by
 unfold PySem.W.codeHdIn
 rw [h]
 exact e
end X2
namespace M
open PySem PySem.Spec PyProof.Rows L2 X2
def Tt (Pt : Addr) (lp : Pos) (lq : Str) (H : Hp) : Prop := TabOk H Pt lp lq
theorem hTt {Pt : Addr} {lp : Pos} {lq : Str} : HTb (Tt Pt lp lq) := fun H H' h k => by
 obtain ⟨ps, e, ht, q⟩ := h
 refine ⟨ps, k _ _ e (fun _ h => nomatch h) (fun _ h => nomatch h) (fun _ h => nomatch h), ht, ?_⟩
 rcases q with q | ⟨c', q, h⟩
 ·exact .inl q
 ·exact .inr ⟨c', q, k _ _ h (fun _ h => nomatch h) (fun _ h => nomatch h) (fun _ h => nomatch h)⟩
theorem VG {K : PySem.W.Frag} {H : Hp} {a : Addr} {xs : List V} (h : SqL K H a xs) : SqL K (Hn H []) a xs := by
 rcases h with (h | ⟨o, h⟩) | h
 ·exact .inl (.inl (Hn.mk h List.not_mem_nil rfl))
 ·exact .inl (.inr ⟨o, Hn.mk h List.not_mem_nil rfl⟩)
 ·exact .inr h
theorem kW {K : PySem.W.Frag} {c : Co} : ∀ ns : List Int, Reps K c (ns.map V.int) (ns.map D.int)
 | [] => .nil
 | n :: ns => .cons (.int n) (kW ns)
theorem TabOk.oth {P Q : Addr} {lp : Pos} {lq : Str} {H H' : Hp} (n : P ≠ Q) (s : SaT Q H H') (t : TabOk H P lp lq) : TabOk H' P lp lq := by
 obtain ⟨ps, e, ht, q⟩ := t
 refine ⟨ps, s.oth _ _ e n, ht, ?_⟩
 rcases q with q | ⟨c', q, h⟩
 ·exact .inl q
 ·exact .inr ⟨c', q, s.keep _ _ h rfl⟩
def Tw (P1 : Addr) (p1 : Pos) (q1 : Str) (P2 : Addr) (p2 : Pos) (q2 : Str) (H : Hp) : Prop := TabOk H P1 p1 q1 /\ TabOk H P2 p2 q2
theorem hTw {P1 : Addr} {p1 : Pos} {q1 : Str} {P2 : Addr} {p2 : Pos} {q2 : Str} : HTb (Tw P1 p1 q1 P2 p2 q2) := fun H H' h k => ⟨hTt H H' h.1 k, hTt H H' h.2 k⟩
def xt (K : PySem.W.Frag) (P1 : Addr) (p1 : Pos) (q1 : Str) (P2 : Addr) (p2 : Pos) (q2 : Str) : Sp := fun vs H Q _ => ∃ (a : Addr) (ns : List Int), vs = [.ref a] /\ SqL K H a (ns.map V.int) /\ ns.length <= 63 /\ TabOk H P1 p1 q1 /\ TabOk H P2 p2 q2 /\ ∀ H', Q (.bl true) H'
theorem K7 {K : PySem.W.Frag} {P1 : Addr} {p1 : Pos} {q1 : Str} {P2 : Addr} {p2 : Pos} {q2 : Str} {T : Hp -> Prop} {F : List D -> Option D} (hF : ∀ ins : List Int, F [.scr (ins.map D.int)] = some (.bl true)) (hT : ∀ H, TabOk H P1 p1 q1 -> TabOk H P2 p2 q2 -> T H) {vs : List V} {H : Hp} {Q : VK} {EX : XK} (h : xt K P1 p1 q1 P2 p2 q2 vs H Q EX) : spP K T 1 false F vs H Q EX := by
 obtain ⟨a, ns, rfl, hs, hl, t1, t2, q⟩ := h
 have r := kW (K := K) (c := ⟨Hn H [], fun _ => none⟩) ns
 refine ⟨rfl, ⟨Hn H [], fun _ => none⟩, [.scr (ns.map D.int)], fun _ _ e => e, hT H t1 t2, .cons (.scr (VG hs) r.l r.r) .nil, .bl true, hF ns, fun v H' c' _ _ _ rv => ?_⟩
 rw [if_neg (by decide)] at rv
 cases rv
 exact q H'
end M
namespace M
open PySem L2 X2
section
variable (T : Hp -> Prop) (hT : HTb T)
def jg : SS (W0 T hT) -> Ou (W0 T hT) :=
 (sRet (e2 subI (e2 subI (e2 ixD (eVar 1) (eC (.int 3))) (e2 ixD (eVar 0) (eC (.int 4)))) (e2 ixD (eVar 2) (e2 ixD (eVar 0) (eC (.int 2))))))
def zG : List D -> Option D := zr 3 (jg T hT)
def yn : SS (W0 T hT) -> Ou (W0 T hT) :=
 (sRet (eAnd (e2 eqD (e2 ixD (eVar 1) (eC (.int 1))) (e2 ixD (eVar 0) (eC (.int 2)))) (e2 geI (qX 3 (zG T hT) (qd (eVar 0) (qd (eVar 1) (qd (eVar 2) aNil)))) (eC (.int 0)))))
def kR : List D -> Option D := zr 3 (yn T hT)
def jf : SS (W0 T hT) -> Ou (W0 T hT) :=
 (sRet (eTup (qd (eC (.int 0)) (qd (eC (.int 0)) (qd (eVar 0) (qd (eC (.int 0)) (qd (eLst aNil) aNil)))))))
def qU : List D -> Option D := zr 1 (jf T hT)
def xW : SS (W0 T hT) -> Ou (W0 T hT) :=
 (sSeq (sSet 3 (e2 addD (e2 mulI (eC (.int 7)) (eVar 1)) (eC (.int 1))))
 (sSeq (sIf (qCmp ltI (eVar 1) (e1 lenD (eVar 0)))
 (sSet 3 (e2 ixD (eVar 0) (eVar 1)))
 (sIf (qCmp gtI (e1 lenD (eVar 0)) (eC (.int 0)))
 (sSet 3 (e2 addD (e2 addD (e2 modI (e2 ixD (eVar 0) (e2 modI (eVar 1) (e1 lenD (eVar 0)))) (eC (.int 999983))) (e2 mulI (e2 mulI (eVar 1) (eVar 1)) (eC (.int 97)))) (eC (.int 1))))
 sNil))
 (sSeq (sSet 4 (e2 addD (e2 addD (e2 modI (eVar 3) (eC (.int 999983))) (e2 mulI (eC (.int 31)) (eVar 1))) (eC (.int 5))))
 (sSeq (sSet 5 (eLst aNil))
 (sSeq (sIf (qCmp geI (eVar 3) (e2 powI (eC (.int 10)) (eC (.int 18))))
 (vX (qAnd (qCmp gtI (eVar 3) (eC (.int 0))) (qCmp ltI (e1 lenD (eVar 5)) (eVar 2)))
 (sSeq (sApp 5 (e2 modI (eVar 3) (eC (.int 1013))))
 (sSet 3 (e2 vJ (eVar 3) (eC (.int 1013))))))
 sNil)
 (sSeq (vX (qCmp ltI (e1 lenD (eVar 5)) (eVar 2))
 (sSeq (sSet 6 (e2 addD (e1 lenD (eVar 5)) (eC (.int 1))))
 (sSeq (sSet 4 (e2 modI (e2 addD (e2 addD (e2 mulI (eVar 4) (eC (.int 48271))) (e2 mulI (e2 mulI (eVar 6) (eVar 6)) (eC (.int 6133)))) (eC (.int 17))) (eC (.int 2147483647))))
 (sApp 5 (e2 modI (e2 modI (e2 mulI (e2 modI (eVar 4) (eC (.int 65521))) (e2 addD (e2 modI (e2 vJ (eVar 4) (eC (.int 65521))) (eC (.int 32749))) (eC (.int 1)))) (eC (.int 1000003))) (eC (.int 1013)))))))
 (sRet (eVar 5))))))))
def za : List D -> Option D := zr 7 (xW T hT)
def xU : SS (W0 T hT) -> Ou (W0 T hT) :=
 (sSeq (sSet 2 (eC (.str "abcdefghijklmnopqrstuvwxyz")))
 (sSeq (sSet 3 (eLst aNil))
 (sSeq (sFor (qS (qd (eVar 1) aNil)) (qx 4)
 (sSeq (sSet 5 (e2 ixD (eVar 2) (e2 modI (e2 addD (e2 mulI (eVar 4) (e2 ixD (eLst (qd (eC (.int 1)) (qd (eC (.int 3)) (qd (eC (.int 5)) (qd (eC (.int 7)) (qd (eC (.int 9)) (qd (eC (.int 11)) aNil))))))) (e2 modI (e2 ixD (eVar 0) (eC (.int 0))) (eC (.int 6))))) (e2 ixD (eVar 0) (eC (.int 1)))) (eC (.int 26)))))
 (sSeq (sSet 6 (ZF (eC (.str "")) (zq 1 [0, 2] (qS (qd (e2 modI (e2 ixD (eVar 0) (e2 addD (eC (.int 4)) (eVar 4))) (eC (.int 12))) aNil)) (qx 0) qAll (e2 ixD (e2 addD (eVar 2) (eC (.str "0123456789"))) (e2 modI (e2 addD (e2 ixD (eVar 1) (eC (.int 2))) (e2 mulI (eVar 0) (e2 ixD (eVar 1) (eC (.int 3))))) (eC (.int 36)))))))
 (sApp 3 (e2 ixD (eLst (qd (e2 addD (eVar 5) (eVar 6)) (qd (e2 addD (eVar 6) (eVar 5)) aNil))) (e2 modI (e2 vJ (e2 ixD (eVar 0) (eC (.int 0))) (eC (.int 6))) (eC (.int 2))))))))
 (sRet (eVar 3)))))
def jY : List D -> Option D := zr 7 (xU T hT)
def ZV : SS (W0 T hT) -> Ou (W0 T hT) :=
 (sRet (eAnd (e2 eqD (e2 ixD (eVar 0) (eC (.int 2))) (e2 ixD (eVar 1) (eC (.int 1)))) (e2 geI (e2 ixD (eVar 1) (eC (.int 3))) (e2 addD (e2 ixD (eVar 0) (eC (.int 4))) (e2 ixD (eVar 2) (e2 ixD (eVar 0) (eC (.int 2))))))))
def kS : List D -> Option D := zr 3 (ZV T hT)
def xT : SS (W0 T hT) -> Ou (W0 T hT) :=
 (sSeq (sSet 3 (qX 3 (za T hT) (qd (eVar 0) (qd (eVar 1) (qd (eC (.int 20)) aNil)))))
 (sSeq (sSet 4 (qX 2 (jY T hT) (qd (eVar 3) (qd (e2 addD (eC (.int 2)) (e2 modI (e2 ixD (eVar 3) (eC (.int 16))) (eC (.int 4)))) aNil))))
 (sSeq (sSet 5 (e2 ixD (eLst (qd (eC (.int 0)) (qd (eC (.int 0)) (qd (e2 addD (e2 powI (eC (.int 10)) (eC (.int 20))) (e2 ixD (eVar 3) (eC (.int 17)))) (qd (e2 subI (eC (.int 0)) (e2 powI (eC (.int 10)) (eC (.int 40)))) aNil))))) (e2 modI (e2 ixD (eVar 3) (eC (.int 18))) (eC (.int 4)))))
 (sSeq (sSet 6 ke)
 (sSeq (sSet 7 (eLst aNil))
 (sSeq (sFor (qS (qd (e1 lenD (eVar 4)) aNil)) (qx 8)
 (jD 6 (e2 ixD (eVar 4) (eVar 8)) (e2 ixD (eLst (qd (eC (.int 0)) (qd (eC (.int 1)) (qd (eC (.int 2)) (qd (eC (.int 5)) (qd (e2 powI (eC (.int 10)) (eC (.int 9))) aNil)))))) (e2 modI (e2 ixD (qX 3 (za T hT) (qd (eVar 0) (qd (e2 addD (eVar 1) (eC (.int 1))) (qd (eC (.int 8)) aNil)))) (eVar 8)) (e2 ixD (eLst (qd (eC (.int 3)) (qd (eC (.int 4)) (qd (eC (.int 5)) aNil)))) (e2 modI (e2 ixD (eVar 3) (eC (.int 19))) (eC (.int 3))))))))
 (sSeq (sSet 9 (e2 modI (e2 ixD (eVar 3) (eC (.int 19))) (eC (.int 3))))
 (sSeq (sFor (qS (qd (e2 modI (e2 ixD (qX 3 (za T hT) (qd (eVar 0) (qd (e2 addD (eVar 1) (eC (.int 2))) (qd (eC (.int 1)) aNil)))) (eC (.int 0))) (e2 addD (eVar 2) (eC (.int 1)))) aNil)) (qx 8)
 (sSeq (sSet 10 (qX 3 (za T hT) (qd (eVar 0) (qd (e2 addD (e2 addD (eVar 1) (eC (.int 3))) (eVar 8)) (qd (eC (.int 6)) aNil)))))
 (sSeq (sSet 11 (e2 modI (e2 ixD (eVar 10) (eC (.int 0))) (e1 lenD (eVar 4))))
 (sSeq (sSet 12 (e2 modI (e2 addD (e2 addD (eVar 11) (eC (.int 1))) (e2 modI (e2 ixD (eVar 10) (eC (.int 1))) (e2 subI (e1 lenD (eVar 4)) (eC (.int 1))))) (e1 lenD (eVar 4))))
 (sSeq (sSet 13 (e2 addD (eVar 5) (e2 modI (e2 ixD (eVar 10) (eC (.int 2))) (eC (.int 24)))))
 (sSeq (sApp 7 (eTup (qd (eVar 9) (qd (e2 ixD (eVar 4) (eVar 11)) (qd (e2 ixD (eVar 4) (eVar 12)) (qd (eVar 13) (qd (e2 addD (e2 addD (eVar 13) (eC (.int 1))) (e2 modI (e2 ixD (eVar 10) (eC (.int 3))) (eC (.int 6)))) aNil)))))))
 (sAug 9 addI (e2 addD (eC (.int 1)) (e2 modI (e2 ixD (eVar 10) (eC (.int 4))) (eC (.int 3)))))))))))
 (sSeq (sIf (qCmp eqD (e2 modI (e2 ixD (eVar 3) (eC (.int 15))) (eC (.int 2))) (eC (.int 1)))
 (sSet 7 (eRev (eVar 7) (e1 negI (eC (.int 1)))))
 sNil)
 (sRet (eTup (qd (eVar 4) (qd (eVar 6) (qd (eVar 7) (qd (eVar 5) aNil)))))))))))))))
def kB : List D -> Option D := zr 14 (xT T hT)
def ZU : SS (W0 T hT) -> Ou (W0 T hT) :=
 (sSeq (sSet 5 (zq 1 [4, 2] (iSeq (eVar 0)) (qx 0) (qAnd (qCmp eqD (e2 ixD (eVar 0) (eC (.int 1))) (eVar 2)) (qCmp geI (e2 ixD (eVar 0) (eC (.int 3))) (eVar 1))) (eLst (qd (eVar 0) aNil))))
 (sSeq (sSet 6 (eC (.int 0)))
 (sSeq (vX (qCmp ltI (eVar 6) (e1 lenD (eVar 5)))
 (sSeq (sFor (iSeq (eVar 0)) (qx 8)
 (sIf (qTru (qX 3 (kS T hT) (qd (e2 ixD (e2 ixD (eVar 5) (eVar 6)) (e1 negI (eC (.int 1)))) (qd (eVar 8) (qd (eVar 1) aNil)))))
 (sApp 5 (e2 addD (e2 ixD (eVar 5) (eVar 6)) (eLst (qd (eVar 8) aNil))))
 sNil))
 (sAug 6 addI (eC (.int 1)))))
 (sSeq (sSet 7 (zq 1 [3] (iLst (eVar 5)) (qx 0) (qCmp eqD (e2 ixD (e2 ixD (eVar 0) (e1 negI (eC (.int 1)))) (eC (.int 2))) (eVar 1)) (eVar 0)))
 (sSeq (sIf (qCmp eqD (eVar 2) (eVar 3))
 (sApp 7 (eLst aNil))
 sNil)
 (sRet (eVar 7)))))))
def yr : List D -> Option D := zr 9 (ZU T hT)
def ZW : SS (W0 T hT) -> Ou (W0 T hT) :=
 (sSeq (sSet 7 (eLst aNil))
 (sSeq (sFor (iSeq (qX 5 (yr T hT) (qd (eVar 0) (qd (eVar 1) (qd (eVar 2) (qd (eVar 3) (qd (eVar 4) aNil))))))) (qx 8)
 (sSeq (sSet 9 (zq 1 [] (iSeq (eVar 8)) (qx 0) qAll (e2 ixD (eVar 0) (eC (.int 0)))))
 (sSeq (sSet 10 (eVar 4))
 (sSeq (sIf (qTru (eVar 8))
 (sSet 10 (e2 ixD (e2 ixD (eVar 8) (e1 negI (eC (.int 1)))) (eC (.int 4))))
 sNil)
 (sSeq (sSet 11 (e2 subI (eC (.int 0)) (e1 lenD (zq 1 [6] (iSeq (eVar 9)) (qx 0) (qCmp inO (eVar 0) (eVar 1)) (eVar 0)))))
 (sSeq (sSet 12 (e1 lenD (zq 1 [5] (iSeq (eVar 9)) (qx 0) (qCmp ninO (eVar 0) (eVar 1)) (eVar 0))))
 (sApp 7 (eTup (qd (eVar 11) (qd (eVar 12) (qd (eVar 10) (qd (e1 lenD (eVar 8)) (qd (eVar 9) aNil)))))))))))))
 (sSeq (sIf (qNot (qTru (eVar 7)))
 (sRet (eC .non))
 sNil)
 (sRet (e2 ixD (e1 (minO true) (eVar 7)) (eC (.int 4)))))))
def Z1 : List D -> Option D := zr 13 (ZW T hT)
def yo : SS (W0 T hT) -> Ou (W0 T hT) :=
 (sSeq (sAsg (pTup 4 (zd (qx 7) (zd (qx 8) (zd (qx 9) (zd (qx 10) pNil))))) (qX 3 (kB T hT) (qd (eVar 0) (qd (eVar 1) (qd (eVar 2) aNil)))))
 (sSeq (sSet 3 (qX 3 (za T hT) (qd (eVar 0) (qd (e2 addD (eVar 1) (eC (.int 13))) (qd (eC (.int 8)) aNil)))))
 (sSeq (sSet 4 (e2 ixD (eVar 7) (e2 modI (e2 ixD (eVar 3) (eC (.int 0))) (e1 lenD (eVar 7)))))
 (sSeq (sSet 5 (e2 ixD (eVar 7) (e2 modI (e2 ixD (eVar 3) (eC (.int 1))) (e1 lenD (eVar 7)))))
 (sSeq (sSet 6 (e2 addD (eVar 10) (e2 ixD (eLst (qd (eC (.int 0)) (qd (e2 modI (e2 ixD (eVar 3) (eC (.int 2))) (eC (.int 12))) (qd (e2 subI (eC (.int 0)) (eC (.int 50))) (qd (e2 modI (e2 ixD (eVar 3) (eC (.int 2))) (eC (.int 30))) aNil))))) (e2 modI (e2 ixD (eVar 3) (eC (.int 3))) (eC (.int 4))))))
 (sRet (eTup (qd (eVar 7) (qd (eVar 8) (qd (eVar 9) (qd (eVar 4) (qd (eVar 5) (qd (eVar 6) aNil)))))))))))))
def xZ : List D -> Option D := zr 11 (yo T hT)
def xV : SS (W0 T hT) -> Ou (W0 T hT) :=
 (sSeq (sSet 3 (qX 3 (za T hT) (qd (eVar 0) (qd (eVar 1) (qd (eC (.int 20)) aNil)))))
 (sSeq (sSet 4 (zq 1 [3, 2] (qS (qd (e1 lenD (eVar 2)) aNil)) (qx 0) (qCmp eqD (e2 modI (e2 ixD (eVar 1) (eVar 0)) (eC (.int 3))) (eC (.int 1))) (e2 ixD (e2 ixD (eVar 2) (eVar 0)) (eC (.int 0)))))
 (sSeq (sSet 5 (zq 1 [3, 2] (qS (qd (e1 lenD (eVar 2)) aNil)) (qx 0) (qCmp eqD (e2 modI (e2 ixD (eVar 1) (e2 addD (eC (.int 9)) (eVar 0))) (eC (.int 5))) (eC (.int 1))) (e2 ixD (e2 ixD (eVar 2) (eVar 0)) (eC (.int 0)))))
 (sSeq (sIf (qCmp eqD (e2 modI (e2 ixD (eVar 3) (eC (.int 18))) (eC (.int 2))) (eC (.int 1)))
 (sSet 4 (eRev (e2 addD (eVar 4) (eLst (qd (eC (.int 999)) aNil))) (e1 negI (eC (.int 1)))))
 sNil)
 (sSeq (sIf (qCmp eqD (e2 modI (e2 ixD (eVar 3) (eC (.int 19))) (eC (.int 3))) (eC (.int 1)))
 (sSet 5 (eLst aNil))
 sNil)
 (sRet (eTup (qd (eVar 4) (qd (eVar 5) aNil)))))))))
def vn : List D -> Option D := zr 6 (xV T hT)
end
section
variable {T : Hp -> Prop} {hT : HTb T} {B : Hp -> Co -> List Addr -> Prop} {hB : HBb B} {p : D -> SS (W1 T hT B hB) -> Option (SS (W1 T hT B hB))} {t : SS (W1 T hT B hB) -> R (W1 T hT B hB) Bool} {f : SS (W1 T hT B hB) -> R (W1 T hT B hB) D} {h : SS (W1 T hT B hB) -> Ou (W1 T hT B hB)}
theorem Kn {I : List D -> SS (W1 T hT B hB) -> Prop} : ∀ (ds done : List D) (g : SS (W1 T hT B hB)), I done g -> (∀ dn d g, (∃ r, done ++ ds = dn ++ d :: r) -> I dn g -> ∃ g1 g2, p d g = some g1 /\ h g1 = .nx g2 /\ I (dn ++ [d]) g2) -> ∃ g', forD p h ds g = .nx g' /\ I (done ++ ds) g'
 | [], done, g, i, _ => ⟨g, rfl, by simpa using i⟩
 | d :: ds, done, g, i, st => by
  obtain ⟨g1, g2, e1, e2, i2⟩ := st done d g ⟨ds, rfl⟩ i
  obtain ⟨g', e3, i3⟩ := Kn ds (done ++ [d]) g2 i2 (fun dn d g h => st dn d g (by simpa using h))
  refine ⟨g', ?_, by simpa using i3⟩
  unfold forD
  simp only [e1, e2, e3]
theorem yf {I : List D -> SS (W1 T hT B hB) -> Prop} {ds : List D} {g : SS (W1 T hT B hB)} (i : I [] g) (st : ∀ dn d g, (∃ r, ds = dn ++ d :: r) -> I dn g -> ∃ g1 g2, p d g = some g1 /\ h g1 = .nx g2 /\ I (dn ++ [d]) g2) : ∃ g', forD p h ds g = .nx g' /\ I ds g' := by
 have := Kn (p := p) (h := h) (I := I) ds [] g i (by simpa using st)
 simpa using this
theorem yu {I : Nat -> SS (W1 T hT B hB) -> Prop} {Post : SS (W1 T hT B hB) -> Prop} (st : ∀ n g, I n g -> (t g = .ok false () /\ Post g) \/ (t g = .ok true () /\ ∃ g2 n', h g = .nx g2 /\ n' < n /\ I n' g2)) : ∀ (fuel n : Nat) (g : SS (W1 T hT B hB)), I n g -> n < fuel -> ∃ g', kU t h fuel g = .nx g' /\ Post g'
 | 0, n, g, _, hl => absurd hl (by omega)
 | fuel + 1, n, g, i, hl => by
  unfold kU
  rcases st n g i with ⟨e, pg⟩ | ⟨e, g2, n', e2, hn, i2⟩
  ·simp only [e]
   exact ⟨_, rfl, pg⟩
  ·simp only [e]
   rw [show (⟨g.v, ()⟩ : SS (W1 T hT B hB)) = g from rfl]
   simp only [e2]
   exact yu st fuel n' g2 i2 (by omega)
theorem vp {I : Nat -> SS (W1 T hT B hB) -> Prop} {Post : SS (W1 T hT B hB) -> Prop} {n : Nat} {g : SS (W1 T hT B hB)} (i : I n g) (hl : n < ye) (st : ∀ n g, I n g -> (t g = .ok false () /\ Post g) \/ (t g = .ok true () /\ ∃ g2 n', h g = .nx g2 /\ n' < n /\ I n' g2)) : ∃ g', vX t h g = .nx g' /\ Post g' := yu st ye n g i hl
theorem qo {a b : SS (W1 T hT B hB) -> Ou (W1 T hT B hB)} {g g' : SS (W1 T hT B hB)} (e : a g = .nx g') : sSeq a b g = b g' := by unfold sSeq; rw [e]
theorem QA {a b : SS (W1 T hT B hB) -> Ou (W1 T hT B hB)} {g : SS (W1 T hT B hB)} {d : D} (e : a g = .rt d ()) : sSeq a b g = .rt d () := by unfold sSeq; rw [e]
theorem qy {i : Nat} {g : SS (W1 T hT B hB)} {d : D} (e : f g = .ok d ()) : sSet i f g = .nx ⟨g.v.set i (some d), ()⟩ := by unfold sSet zx; rw [e]; rfl
theorem if_t {a b : SS (W1 T hT B hB) -> Ou (W1 T hT B hB)} {g : SS (W1 T hT B hB)} (e : t g = .ok true ()) : sIf t a b g = a g := by unfold sIf zx; rw [e]; rfl
theorem if_f {a b : SS (W1 T hT B hB) -> Ou (W1 T hT B hB)} {g : SS (W1 T hT B hB)} (e : t g = .ok false ()) : sIf t a b g = b g := by unfold sIf zx; rw [e]; rfl
theorem zF {n : Nat} {ds : List D} {d : D} (e : h (qY n ds ()) = .rt d ()) : zr n h ds = some d := by unfold zr; rw [e]
theorem zU {g : SS (W1 T hT B hB)} {d : D} (e : f g = .ok d ()) : sRet f g = .rt d () := by unfold sRet zx; rw [e]
theorem j7 {i : Nat} {g : SS (W1 T hT B hB)} {ds : List D} {y : D} (hg : (g.v[i]?).join = some (.lst ds)) (e : f g = .ok y ()) (hl : ds.length < big) : sApp i f g = .nx ⟨g.v.set i (some (.lst (ds ++ [y]))), ()⟩ := by
 unfold sApp jp zx sPut
 simp only [hg, e, hl, if_true]
 rfl
theorem jJ {fi : SS (W1 T hT B hB) -> R (W1 T hT B hB) (List D)} {ds : List D} {g g' : SS (W1 T hT B hB)} (e : fi g = .ok ds ()) (e2 : forD p h ds g = .nx g') : sFor fi p h g = .nx g' := by unfold sFor zx; rw [e]; exact e2
theorem qa {i : Nat} {g : SS (W1 T hT B hB)} {d : D} (h : (g.v[i]?).join = some d) : eVar i g = .ok d () := by unfold eVar eOpt; rw [h]; rfl
theorem c_ok {g : SS (W1 T hT B hB)} {d : D} : eC d g = .ok d () := rfl
theorem zO {op : D -> Option D} {fa : SS (W1 T hT B hB) -> R (W1 T hT B hB) D} {g : SS (W1 T hT B hB)} {x z : D} (a : fa g = .ok x ()) (o : op x = some z) : e1 op fa g = .ok z () := by
 unfold e1 qG eOpt
 rw [a]
 simp only [o]
theorem qh {op : D -> D -> Option D} {fa fb : SS (W1 T hT B hB) -> R (W1 T hT B hB) D} {g : SS (W1 T hT B hB)} {x y z : D} (a : fa g = .ok x ()) (b : fb g = .ok y ()) (o : op x y = some z) : e2 op fa fb g = .ok z () := by
 have b' : fb ⟨g.v, ()⟩ = .ok y () := b
 unfold e2 qG eOpt
 rw [a]
 simp only [b', o]
theorem q_ok {op : D -> D -> Option D} {fa fb : SS (W1 T hT B hB) -> R (W1 T hT B hB) D} {g : SS (W1 T hT B hB)} {x y : D} {z : Bool} (a : fa g = .ok x ()) (b : fb g = .ok y ()) (o : op x y = some (.bl z)) : qCmp op fa fb g = .ok z () := by
 unfold qCmp qG
 rw [qh a b o]
 rfl
theorem qO {g : SS (W1 T hT B hB)} : aNil g = .ok [] () := rfl
theorem qe {fa : SS (W1 T hT B hB) -> R (W1 T hT B hB) D} {fs : SS (W1 T hT B hB) -> R (W1 T hT B hB) (List D)} {g : SS (W1 T hT B hB)} {x : D} {xs : List D} (a : fa g = .ok x ()) (b : fs g = .ok xs ()) : qd fa fs g = .ok (x :: xs) () := by
 have b' : fs ⟨g.v, ()⟩ = .ok xs () := b
 unfold qd qG eRet
 rw [a]
 simp only [b']
theorem zb {n : Nat} {F : List D -> Option D} {fs : SS (W1 T hT B hB) -> R (W1 T hT B hB) (List D)} {g : SS (W1 T hT B hB)} {xs : List D} {z : D} (b : fs g = .ok xs ()) (hl : xs.length = n) (o : F xs = some z) : qX n F fs g = .ok z () := by
 unfold qX qG eOpt
 rw [b]
 simp only [hl, if_true, o]
theorem jE {fs : SS (W1 T hT B hB) -> R (W1 T hT B hB) (List D)} {g : SS (W1 T hT B hB)} {xs : List D} (b : fs g = .ok xs ()) (hl : xs.length <= 1000) : eTup fs g = .ok (.tup xs) () := by
 unfold eTup qG eOpt
 rw [b]
 simp only [hl, if_true]
theorem zR {fs : SS (W1 T hT B hB) -> R (W1 T hT B hB) (List D)} {g : SS (W1 T hT B hB)} {xs : List D} (b : fs g = .ok xs ()) (hl : xs.length <= 1000) : eLst fs g = .ok (.lst xs) () := by
 unfold eLst qG eOpt
 rw [b]
 simp only [hl, if_true]
theorem Qn {ta tb : SS (W1 T hT B hB) -> R (W1 T hT B hB) Bool} {g : SS (W1 T hT B hB)} {z : Bool} (a : ta g = .ok true ()) (b : tb g = .ok z ()) : qAnd ta tb g = .ok z () := by
 have b' : tb ⟨g.v, ()⟩ = .ok z () := b
 unfold qAnd qG
 rw [a]
 exact b'
theorem JU {ta tb : SS (W1 T hT B hB) -> R (W1 T hT B hB) Bool} {g : SS (W1 T hT B hB)} (a : ta g = .ok false ()) : qAnd ta tb g = .ok false () := by
 unfold qAnd qG
 rw [a]
 rfl
theorem Kg {ta : SS (W1 T hT B hB) -> R (W1 T hT B hB) Bool} {g : SS (W1 T hT B hB)} {z : Bool} (a : ta g = .ok z ()) : qNot ta g = .ok (!z) () := by
 unfold qNot qG
 rw [a]
 rfl
theorem jy {fa : SS (W1 T hT B hB) -> R (W1 T hT B hB) D} {g : SS (W1 T hT B hB)} {x : D} {z : Bool} (a : fa g = .ok x ()) (o : truD x = some z) : qTru fa g = .ok z () := by
 unfold qTru qG eOpt
 rw [a]
 simp only [o]
theorem jn {fa : SS (W1 T hT B hB) -> R (W1 T hT B hB) D} {g : SS (W1 T hT B hB)} {x : D} {xs : List D} (a : fa g = .ok x ()) (o : ki x = some xs) : iSeq fa g = .ok xs () := by
 unfold iSeq qG eOpt
 rw [a]
 simp only [o]
theorem Z8 {j : Int} (h : -(2 ^ 62) <= j /\ j < 2 ^ 62) : rng1 [.int j] = some (rngD 0 j.toNat) := if_pos h
theorem Z7 {n : Nat} (h : n < 2 ^ 62) : rng1 [.int (n : Int)] = some (rngD 0 n) := by
 have e := Z8 (j := (n : Int)) ⟨by omega, by omega⟩
 rw [Int.toNat_natCast] at e
 exact e
theorem Xa {o : Option (List D)} {ds : List D} {g : SS (W1 T hT B hB)} (h : o = some ds) : eOpt o g = .ok ds () := by rw [h]; rfl
theorem vv {fs : SS (W1 T hT B hB) -> R (W1 T hT B hB) (List D)} {g : SS (W1 T hT B hB)} {n : Nat} (b : fs g = .ok [.int (n : Int)] ()) (h : n < 2 ^ 62) : qS fs g = .ok (rngD 0 n) () := by
 have e := Xa (T := T) (hT := hT) (B := B) (hB := hB) (g := ⟨g.v, ()⟩) (Z7 h)
 unfold qS qG
 rw [b]
 exact e
theorem ok_t {t : SS (W1 T hT B hB) -> R (W1 T hT B hB) Bool} {g : SS (W1 T hT B hB)} {p : Prop} [Decidable p] (a : t g = .ok (decide p) ()) (h : p) : t g = .ok true () := by rw [a, decide_eq_true h]
theorem ok_f {t : SS (W1 T hT B hB) -> R (W1 T hT B hB) Bool} {g : SS (W1 T hT B hB)} {p : Prop} [Decidable p] (a : t g = .ok (decide p) ()) (h : ¬ p) : t g = .ok false () := by rw [a, decide_eq_false h]
theorem ok_c {α : Type} {t : SS (W1 T hT B hB) -> R (W1 T hT B hB) α} {g : SS (W1 T hT B hB)} {x y : α} (a : t g = .ok x ()) (h : x = y) : t g = .ok y () := by rw [a, h]
theorem kA {I : SS (W1 T hT B hB) -> Prop} {Pd : D -> D -> Prop} : ∀ (ds : List D) (g : SS (W1 T hT B hB)) (acc : List D), I g -> (∀ d ∈ ds, ∀ g, I g -> ∃ g1, p d g = some g1 /\ I g1 /\ ((t g1 = .ok true () /\ ∃ y, f g1 = .ok y () /\ Pd d y) \/ t g1 = .ok false ())) -> acc.length + ds.length <= big ->
  ∃ ys, vi p t f ds g acc = .ok (acc ++ ys) () /\ ys.length <= ds.length /\ ∀ y ∈ ys, ∃ d ∈ ds, Pd d y
 | [], g, acc, _, _, _ => ⟨[], by rw [vN]; simp; rfl, Nat.le_refl _, fun y hy => (nomatch hy)⟩
 | d :: ds, g, acc, i, st, hb => by
  obtain ⟨g1, e1, i1, e2⟩ := st d (List.mem_cons_self ..) g i
  have hb2 : acc.length < big := by simp at hb; omega
  have st' := fun d hd => st d (List.mem_cons_of_mem _ hd)
  rw [kO]
  rcases e2 with ⟨e2, y, e3, py⟩ | e2
  ·obtain ⟨ys, e4, l4, p4⟩ := kA ds g1 (acc ++ [y]) i1 st' (by simp at hb ⊢; omega)
   refine ⟨y :: ys, ?_, by simp; omega, fun z hz => ?_⟩
   ·simp only [e1, e2]
    rw [show (⟨g1.v, ()⟩ : SS (W1 T hT B hB)) = g1 from rfl]
    simp only [e3, hb2, if_true]
    rw [show (⟨g1.v, ()⟩ : SS (W1 T hT B hB)) = g1 from rfl, e4]
    simp
   ·rcases List.mem_cons.mp hz with rfl | hz
    ·exact ⟨d, List.mem_cons_self .., py⟩
    ·obtain ⟨d', h1, h2⟩ := p4 z hz
     exact ⟨d', List.mem_cons_of_mem _ h1, h2⟩
  ·obtain ⟨ys, e4, l4, p4⟩ := kA ds g1 acc i1 st' (by simp at hb; omega)
   refine ⟨ys, ?_, by simp; omega, fun z hz => ?_⟩
   ·simp only [e1, e2]
    rw [show (⟨g1.v, ()⟩ : SS (W1 T hT B hB)) = g1 from rfl, e4]
   ·obtain ⟨d', h1, h2⟩ := p4 z hz
    exact ⟨d', List.mem_cons_of_mem _ h1, h2⟩
theorem xO {I : SS (W1 T hT B hB) -> Prop} {Pd : D -> D -> Prop} {n : Nat} {ix : List Nat} {fi : SS (W1 T hT B hB) -> R (W1 T hT B hB) (List D)} {ds : List D} {g : SS (W1 T hT B hB)} (hi : fi g = .ok ds ()) (i0 : I (capD n ix g)) (st : ∀ d ∈ ds, ∀ g, I g -> ∃ g1, p d g = some g1 /\ I g1 /\ ((t g1 = .ok true () /\ ∃ y, f g1 = .ok y () /\ Pd d y) \/ t g1 = .ok false ())) (hb : ds.length <= big) :
  ∃ ys, zq n ix fi p t f g = .ok (.lst ys) () /\ ys.length <= ds.length /\ ∀ y ∈ ys, ∃ d ∈ ds, Pd d y := by
 obtain ⟨ys, e, l, q⟩ := kA ds (capD n ix g) [] i0 st (by simpa using hb)
 refine ⟨ys, ?_, l, q⟩
 unfold zq qG
 simp only [hi]
 rw [show (⟨g.v, ()⟩ : SS (W1 T hT B hB)) = g from rfl, e]
 simp
theorem jl {lo : Int} {n : Nat} : (rngD lo n).length = n := by unfold rngD; simp
theorem KA {lo : Int} {n i : Nat} (h : i < n) : (rngD lo n)[i]? = some (.int (lo + i)) := by
 unfold rngD
 rw [List.getElem?_map, List.getElem?_range h]
 rfl
theorem wO {lo : Int} {n : Nat} {d : D} (h : d ∈ rngD lo n) : ∃ k : Nat, k < n /\ d = .int (lo + k) := by
 unfold rngD at h
 obtain ⟨k, hk, rfl⟩ := List.mem_map.mp h
 exact ⟨k, List.mem_range.mp hk, rfl⟩
theorem wP {n : Nat} {dn r : List D} {d : D} (h : rngD 0 n = dn ++ d :: r) : d = .int (dn.length : Int) /\ dn.length < n := by
 have hl : dn.length < n := by
  have := congrArg List.length h
  rw [jl] at this
  simp at this
  omega
 have e := KA (lo := 0) hl
 rw [h, List.getElem?_append_right (Nat.le_refl _), Nat.sub_self] at e
 simp at e
 exact ⟨by rw [e], hl⟩
theorem j6 {α : Type} {x y : α} {g : SS (W1 T hT B hB)} {fa : SS (W1 T hT B hB) -> R (W1 T hT B hB) α} (h : fa g = .ok x ()) (e : x = y) : fa g = .ok y () := by rw [h, e]
theorem JC {fa fb : SS (W1 T hT B hB) -> R (W1 T hT B hB) D} {g : SS (W1 T hT B hB)} {x : Str} {y z : D} (a : fa g = .ok (.str x) ()) (b : fb g = .ok y ()) (o : K_ (.str x) y = some z) : ZF fa fb g = .ok z () := by
 have b' : fb ⟨g.v, ()⟩ = .ok y () := b
 unfold ZF qG eOpt
 rw [a]
 simp only []
 rw [b']
 simp only [o]
theorem J5 {fa fb : SS (W1 T hT B hB) -> R (W1 T hT B hB) D} {g : SS (W1 T hT B hB)} {ds : List D} {i : Int} (a : fa g = .ok (.lst ds) ()) (b : fb g = .ok (.int i) ()) (h : i = -1) : eRev fa fb g = .ok (.lst ds.reverse) () := by
 have b' : fb ⟨g.v, ()⟩ = .ok (.int i) () := b
 unfold eRev qG eOpt
 rw [a]
 simp only [b', h, if_true]
theorem Vc {i : Nat} {fk fv : SS (W1 T hT B hB) -> R (W1 T hT B hB) D} {g : SS (W1 T hT B hB)} {d k v z : D} (hv : fv g = .ok v ()) (hg : (g.v[i]?).join = some d) (hk : fk g = .ok k ()) (o : putO d k v = some z) : jD i fk fv g = .nx ⟨g.v.set i (some z), ()⟩ := by
 have hk' : fk ⟨g.v, ()⟩ = .ok k () := hk
 unfold jD zx jp sPut
 rw [hv]
 simp only [hg, hk', o]
 rfl
theorem yZ {i : Nat} {op : D -> D -> Option D} {fv : SS (W1 T hT B hB) -> R (W1 T hT B hB) D} {g : SS (W1 T hT B hB)} {d v z : D} (hv : fv g = .ok v ()) (hg : (g.v[i]?).join = some d) (o : op d v = some z) : sAug i op fv g = .nx ⟨g.v.set i (some z), ()⟩ := by
 unfold sAug zx jp sPut
 simp only [hg]
 rw [hv]
 simp only [o]
 rfl
theorem y8 {fa : SS (W1 T hT B hB) -> R (W1 T hT B hB) D} {g g' : SS (W1 T hT B hB)} {d : D} (h : fa g = .ok d ()) (hp : p d g = some g') : sAsg p fa g = .nx g' := by
 unfold sAsg zx
 rw [h]
 have hp' : p d ⟨g.v, ()⟩ = some g' := hp
 simp only [hp']
theorem xN {α : Type} {emb : α -> D} {I : SS (W1 T hT B hB) -> Prop} {sel : α -> Bool} {out : α -> D} : ∀ (xs : List α) (g : SS (W1 T hT B hB)) (acc : List D), I g -> (∀ x ∈ xs, ∀ g, I g -> ∃ g1, p (emb x) g = some g1 /\ I g1 /\ t g1 = .ok (sel x) () /\ (sel x = true -> f g1 = .ok (out x) ())) -> acc.length + xs.length <= big ->
  vi p t f (xs.map emb) g acc = .ok (acc ++ (xs.filter sel).map out) ()
 | [], g, acc, _, _, _ => by rw [List.map_nil, vN]; simp; rfl
 | d :: ds, g, acc, i, st, hb => by
  obtain ⟨g1, e1, i1, e2, e3⟩ := st d (List.mem_cons_self ..) g i
  have hb2 : acc.length < big := by simp at hb; omega
  have st' := fun d hd => st d (List.mem_cons_of_mem _ hd)
  rw [List.map_cons, kO]
  simp only [e1, e2]
  cases es : sel d with
  | true =>
   have e3 := e3 es
   have eg : (⟨g1.v, ()⟩ : SS (W1 T hT B hB)) = g1 := rfl
   simp only [eg, e3, hb2, if_true]
   rw [xN ds g1 (acc ++ [out d]) i1 st' (by simp at hb ⊢; omega)]
   simp [es]
  | false =>
   simp only []
   rw [show (⟨g1.v, ()⟩ : SS (W1 T hT B hB)) = g1 from rfl, xN ds g1 acc i1 st' (by simp at hb; omega)]
   simp [es]
theorem zJ {α : Type} {emb : α -> D} {I : SS (W1 T hT B hB) -> Prop} {sel : α -> Bool} {out : α -> D} {n : Nat} {ix : List Nat} {fi : SS (W1 T hT B hB) -> R (W1 T hT B hB) (List D)} {xs : List α} {g : SS (W1 T hT B hB)} (hi : fi g = .ok (xs.map emb) ()) (i0 : I (capD n ix g)) (st : ∀ x ∈ xs, ∀ g, I g -> ∃ g1, p (emb x) g = some g1 /\ I g1 /\ t g1 = .ok (sel x) () /\ (sel x = true -> f g1 = .ok (out x) ())) (hb : xs.length <= big) :
  zq n ix fi p t f g = .ok (.lst ((xs.filter sel).map out)) () := by
 unfold zq qG
 simp only [hi]
 rw [show (⟨g.v, ()⟩ : SS (W1 T hT B hB)) = g from rfl, xN xs (capD n ix g) [] i0 st (by simpa using hb)]
 simp
theorem ZB {α : Type} {emb : α -> D} {I : List α -> SS (W1 T hT B hB) -> Prop} : ∀ (xs done : List α) (g : SS (W1 T hT B hB)), I done g -> (∀ dn x g, (∃ r, done ++ xs = dn ++ x :: r) -> I dn g -> ∃ g1 g2, p (emb x) g = some g1 /\ h g1 = .nx g2 /\ I (dn ++ [x]) g2) -> ∃ g', forD p h (xs.map emb) g = .nx g' /\ I (done ++ xs) g'
 | [], done, g, i, _ => ⟨g, rfl, by simpa using i⟩
 | d :: ds, done, g, i, st => by
  obtain ⟨g1, g2, e1, e2, i2⟩ := st done d g ⟨ds, rfl⟩ i
  obtain ⟨g', e3, i3⟩ := ZB ds (done ++ [d]) g2 i2 (fun dn d g h => st dn d g (by simpa using h))
  refine ⟨g', ?_, by simpa using i3⟩
  rw [List.map_cons]
  unfold forD
  simp only [e1, e2, e3]
theorem jv {α : Type} {emb : α -> D} {I : List α -> SS (W1 T hT B hB) -> Prop} {xs : List α} {g : SS (W1 T hT B hB)} (i : I [] g) (st : ∀ dn x g, (∃ r, xs = dn ++ x :: r) -> I dn g -> ∃ g1 g2, p (emb x) g = some g1 /\ h g1 = .nx g2 /\ I (dn ++ [x]) g2) : ∃ g', forD p h (xs.map emb) g = .nx g' /\ I xs g' := by
 have := ZB (p := p) (h := h) (emb := emb) (I := I) xs [] g i (by simpa using st)
 simpa using this
theorem Kh {fa : SS (W1 T hT B hB) -> R (W1 T hT B hB) D} {g : SS (W1 T hT B hB)} {xs : List D} (a : fa g = .ok (.lst xs) ()) : iLst fa g = .ok xs () := by
 unfold iLst qG eOpt
 rw [a]
 rfl
end
theorem wZ {i j : Int} (h1 : -(2 ^ 64) < i) (h2 : i < 2 ^ 64) : mulI (.int i) (.int j) = some (.int (i * j)) := by
 exact if_pos (Or.inl ⟨h1, h2⟩)
theorem mul_r {i j : Int} (h1 : -(2 ^ 64) < j) (h2 : j < 2 ^ 64) : mulI (.int i) (.int j) = some (.int (i * j)) := by
 exact if_pos (Or.inr ⟨h1, h2⟩)
theorem zp {i j : Int} (h : 0 < j) : modI (.int i) (.int j) = some (.int (i % j)) := if_pos h
theorem ZC {i j : Int} (h : 0 < j) (h2 : j < 1073741824) : vJ (.int i) (.int j) = some (.int (i / j)) := if_pos ⟨h, h2⟩
theorem pw18 : powI (.int 10) (.int 18) = some (.int (10 ^ 18)) := rfl
theorem zP {i j : Int} : addD (.int i) (.int j) = some (.int (i + j)) := rfl
theorem Qv {i j : Int} : subI (.int i) (.int j) = some (.int (i - j)) := rfl
theorem lt_i {i j : Int} : ltI (.int i) (.int j) = some (.bl (decide (i < j))) := rfl
theorem gt_i {i j : Int} : gtI (.int i) (.int j) = some (.bl (decide (j < i))) := rfl
theorem ge_i {i j : Int} : geI (.int i) (.int j) = some (.bl (decide (j <= i))) := rfl
theorem kr {ds : List D} : lenD (.lst ds) = some (.int ds.length) := rfl
theorem Qh {ds : List D} : lenD (.scr ds) = some (.int ds.length) := rfl
theorem at_l {α : Type} {xs : List α} {i : Nat} : atI xs (i : Int) = xs[i]? := by
 unfold atI ixN
 by_cases h : i < xs.length
 ·simp [h]
 ·simp [h]
theorem ix_l {ds : List D} {i : Nat} : ixD (.lst ds) (.int (i : Int)) = ds[i]? := at_l
theorem ix_s {ds : List D} {i : Nat} : ixD (.scr ds) (.int (i : Int)) = ds[i]? := at_l
theorem Zt {ds : List D} {i : Int} (h : 0 <= i) : ixD (.lst ds) (.int i) = ds[i.toNat]? := by
 obtain ⟨k, rfl⟩ := Int.eq_ofNat_of_zero_le h
 exact at_l
section
variable (T : Hp -> Prop) (hT : HTb T)
def Drawn (vs : List Int) (n : Nat) : Prop := vs.length = n /\ ∀ v ∈ vs, 0 <= v /\ v < 1013
def isD (vs : List Int) : List D := vs.map .int
theorem zI {vs : List Int} : (isD vs).length = vs.length := List.length_map ..
theorem xI {vs : List Int} {i : Nat} : (isD vs)[i]? = (vs[i]?).map .int := List.getElem?_map ..
theorem xH {vs : List Int} {v : Int} : isD vs ++ [.int v] = isD (vs ++ [v]) := by unfold isD; simp
theorem JL (ins : List Int) (at_ many : Nat) (h1 : at_ < 100000) (h2 : many <= 1000) : ∃ vs, za T hT [.scr (isD ins), .int at_, .int many] = some (.lst (isD vs)) /\ Drawn vs many := by
 have ha1 : -(2 ^ 64 : Int) < (at_ : Int) := by omega
 have ha2 : (at_ : Int) < 2 ^ 64 := by omega
 unfold za xW
 have m1 : mulI (.int 7) (.int at_) = some (.int (7 * at_)) := wZ (by decide) (by decide)
 have cell : ∃ c : Int, ∀ (r : SS (W0 T hT) -> Ou (W0 T hT)), sSeq (sIf (qCmp ltI (eVar 1) (e1 lenD (eVar 0)))
   (sSet 3 (e2 ixD (eVar 0) (eVar 1)))
   (sIf (qCmp gtI (e1 lenD (eVar 0)) (eC (.int 0)))
   (sSet 3 (e2 addD (e2 addD (e2 modI (e2 ixD (eVar 0) (e2 modI (eVar 1) (e1 lenD (eVar 0)))) (eC (.int 999983))) (e2 mulI (e2 mulI (eVar 1) (eVar 1)) (eC (.int 97)))) (eC (.int 1))))
   sNil)) r ⟨[some (.scr (isD ins)), some (.int at_), some (.int many), some (.int (7 * at_ + 1)), none, none, none], ()⟩ = r ⟨[some (.scr (isD ins)), some (.int at_), some (.int many), some (.int c), none, none, none], ()⟩ := by
  by_cases hl : at_ < ins.length
  ·refine ⟨ins[at_], fun r => ?_⟩
   have e1 : (isD ins)[at_]? = some (.int ins[at_]) := by rw [xI, List.getElem?_eq_getElem hl]; rfl
   have e2 : ((at_ : Int) < (isD ins).length) := by rw [zI]; omega
   refine qo ?_
   rw [if_t (by simp only [zr, qY, sSeq, sSet, zx, sRet, sIf, ve, sNil, vd, sAsg, sApp, jD, jp, sPut, sAug, sFor, qG, eOpt, eRet, eVar, eC, M.e1, M.e2, eAnd, eOr, eNot, eIf, qX, jA, atO, aNil, qd, eTup, eLst, ke, zq, capD, put, qx, pTup, zd, pNil, qCmp, qTru, qNot, qAnd, qOr, qAll, iSeq, qS, z7, ki, List.map_cons, List.map_nil, List.length_cons, List.length_nil, List.getElem?_cons_zero, List.getElem?_cons_succ, List.set_cons_zero, List.set_cons_succ, List.replicate_succ, List.replicate_zero, List.cons_append, List.nil_append, Option.join_some, Option.join_none, Option.bind_some, Option.map_some, if_true, if_false, ite_true, ite_false, reduceIte, Nat.reduceAdd, Nat.reduceSub, Nat.reduceLeDiff, Nat.reduceEqDiff, asB, truD, Qh, lt_i, e2, decide_true])]
   rw [qy (d := .int ins[at_]) (by simp only [zr, qY, sSeq, sSet, zx, sRet, sIf, ve, sNil, vd, sAsg, sApp, jD, jp, sPut, sAug, sFor, qG, eOpt, eRet, eVar, eC, M.e1, M.e2, eAnd, eOr, eNot, eIf, qX, jA, atO, aNil, qd, eTup, eLst, ke, zq, capD, put, qx, pTup, zd, pNil, qCmp, qTru, qNot, qAnd, qOr, qAll, iSeq, qS, z7, ki, List.map_cons, List.map_nil, List.length_cons, List.length_nil, List.getElem?_cons_zero, List.getElem?_cons_succ, List.set_cons_zero, List.set_cons_succ, List.replicate_succ, List.replicate_zero, List.cons_append, List.nil_append, Option.join_some, Option.join_none, Option.bind_some, Option.map_some, if_true, if_false, ite_true, ite_false, reduceIte, Nat.reduceAdd, Nat.reduceSub, Nat.reduceLeDiff, Nat.reduceEqDiff, asB, truD, ix_s, e1])]
   simp only [zr, qY, sSeq, sSet, zx, sRet, sIf, ve, sNil, vd, sAsg, sApp, jD, jp, sPut, sAug, sFor, qG, eOpt, eRet, eVar, eC, M.e1, M.e2, eAnd, eOr, eNot, eIf, qX, jA, atO, aNil, qd, eTup, eLst, ke, zq, capD, put, qx, pTup, zd, pNil, qCmp, qTru, qNot, qAnd, qOr, qAll, iSeq, qS, z7, ki, List.map_cons, List.map_nil, List.length_cons, List.length_nil, List.getElem?_cons_zero, List.getElem?_cons_succ, List.set_cons_zero, List.set_cons_succ, List.replicate_succ, List.replicate_zero, List.cons_append, List.nil_append, Option.join_some, Option.join_none, Option.bind_some, Option.map_some, if_true, if_false, ite_true, ite_false, reduceIte, Nat.reduceAdd, Nat.reduceSub, Nat.reduceLeDiff, Nat.reduceEqDiff, asB, truD]
  ·have e2 : ¬ ((at_ : Int) < (isD ins).length) := by rw [zI]; omega
   by_cases hz : ins.length = 0
   ·refine ⟨7 * at_ + 1, fun r => qo ?_⟩
    rw [if_f (by simp only [zr, qY, sSeq, sSet, zx, sRet, sIf, ve, sNil, vd, sAsg, sApp, jD, jp, sPut, sAug, sFor, qG, eOpt, eRet, eVar, eC, M.e1, M.e2, eAnd, eOr, eNot, eIf, qX, jA, atO, aNil, qd, eTup, eLst, ke, zq, capD, put, qx, pTup, zd, pNil, qCmp, qTru, qNot, qAnd, qOr, qAll, iSeq, qS, z7, ki, List.map_cons, List.map_nil, List.length_cons, List.length_nil, List.getElem?_cons_zero, List.getElem?_cons_succ, List.set_cons_zero, List.set_cons_succ, List.replicate_succ, List.replicate_zero, List.cons_append, List.nil_append, Option.join_some, Option.join_none, Option.bind_some, Option.map_some, if_true, if_false, ite_true, ite_false, reduceIte, Nat.reduceAdd, Nat.reduceSub, Nat.reduceLeDiff, Nat.reduceEqDiff, asB, truD, Qh, lt_i, e2, decide_false])]
    rw [if_f (by
     have e3 : ¬ ((0 : Int) < (isD ins).length) := by rw [zI, hz]; decide
     simp only [zr, qY, sSeq, sSet, zx, sRet, sIf, ve, sNil, vd, sAsg, sApp, jD, jp, sPut, sAug, sFor, qG, eOpt, eRet, eVar, eC, M.e1, M.e2, eAnd, eOr, eNot, eIf, qX, jA, atO, aNil, qd, eTup, eLst, ke, zq, capD, put, qx, pTup, zd, pNil, qCmp, qTru, qNot, qAnd, qOr, qAll, iSeq, qS, z7, ki, List.map_cons, List.map_nil, List.length_cons, List.length_nil, List.getElem?_cons_zero, List.getElem?_cons_succ, List.set_cons_zero, List.set_cons_succ, List.replicate_succ, List.replicate_zero, List.cons_append, List.nil_append, Option.join_some, Option.join_none, Option.bind_some, Option.map_some, if_true, if_false, ite_true, ite_false, reduceIte, Nat.reduceAdd, Nat.reduceSub, Nat.reduceLeDiff, Nat.reduceEqDiff, asB, truD, Qh, gt_i, e3, decide_false])]
    rfl
   ·have hp : (0 : Int) < (isD ins).length := by rw [zI]; omega
    have hm : at_ % ins.length < ins.length := Nat.mod_lt _ (by omega)
    have e3 : ((at_ : Int) % ((isD ins).length : Int)) = ((at_ % ins.length : Nat) : Int) := by rw [zI]; rfl
    obtain ⟨x, e4⟩ : ∃ x : Int, (isD ins)[at_ % ins.length]? = some (.int x) := ⟨ins[at_ % ins.length], by rw [xI, List.getElem?_eq_getElem hm]; rfl⟩
    have m2 : mulI (.int at_) (.int at_) = some (.int ((at_ : Int) * at_)) := wZ ha1 ha2
    have m3 : mulI (.int ((at_ : Int) * at_)) (.int 97) = some (.int ((at_ : Int) * at_ * 97)) := mul_r (by decide) (by decide)
    have m4 : modI (.int x) (.int 999983) = some (.int (x % 999983)) := zp (by decide)
    obtain ⟨y, hy⟩ : ∃ y : Int, addD (.int (x % 999983 + (at_ : Int) * at_ * 97)) (.int 1) = some (.int y) := ⟨_, rfl⟩
    refine ⟨y, fun r => qo ?_⟩
    rw [if_f (by simp only [zr, qY, sSeq, sSet, zx, sRet, sIf, ve, sNil, vd, sAsg, sApp, jD, jp, sPut, sAug, sFor, qG, eOpt, eRet, eVar, eC, M.e1, M.e2, eAnd, eOr, eNot, eIf, qX, jA, atO, aNil, qd, eTup, eLst, ke, zq, capD, put, qx, pTup, zd, pNil, qCmp, qTru, qNot, qAnd, qOr, qAll, iSeq, qS, z7, ki, List.map_cons, List.map_nil, List.length_cons, List.length_nil, List.getElem?_cons_zero, List.getElem?_cons_succ, List.set_cons_zero, List.set_cons_succ, List.replicate_succ, List.replicate_zero, List.cons_append, List.nil_append, Option.join_some, Option.join_none, Option.bind_some, Option.map_some, if_true, if_false, ite_true, ite_false, reduceIte, Nat.reduceAdd, Nat.reduceSub, Nat.reduceLeDiff, Nat.reduceEqDiff, asB, truD, Qh, lt_i, e2, decide_false])]
    rw [if_t (by simp only [zr, qY, sSeq, sSet, zx, sRet, sIf, ve, sNil, vd, sAsg, sApp, jD, jp, sPut, sAug, sFor, qG, eOpt, eRet, eVar, eC, M.e1, M.e2, eAnd, eOr, eNot, eIf, qX, jA, atO, aNil, qd, eTup, eLst, ke, zq, capD, put, qx, pTup, zd, pNil, qCmp, qTru, qNot, qAnd, qOr, qAll, iSeq, qS, z7, ki, List.map_cons, List.map_nil, List.length_cons, List.length_nil, List.getElem?_cons_zero, List.getElem?_cons_succ, List.set_cons_zero, List.set_cons_succ, List.replicate_succ, List.replicate_zero, List.cons_append, List.nil_append, Option.join_some, Option.join_none, Option.bind_some, Option.map_some, if_true, if_false, ite_true, ite_false, reduceIte, Nat.reduceAdd, Nat.reduceSub, Nat.reduceLeDiff, Nat.reduceEqDiff, asB, truD, Qh, gt_i, hp, decide_true])]
    have q3 : (M.e2 modI (M.e2 ixD (eVar 0) (M.e2 modI (eVar 1) (M.e1 lenD (eVar 0)))) (eC (.int 999983))) (⟨[some (.scr (isD ins)), some (.int at_), some (.int many), some (.int (7 * at_ + 1)), none, none, none], ()⟩ : SS (W0 T hT)) = .ok (.int (x % 999983)) () := qh (qh (qa rfl) (qh (qa rfl) (zO (qa rfl) Qh) (zp hp)) (by rw [e3]; exact ix_s.trans e4)) c_ok m4
    have q4 : (M.e2 mulI (M.e2 mulI (eVar 1) (eVar 1)) (eC (.int 97))) (⟨[some (.scr (isD ins)), some (.int at_), some (.int many), some (.int (7 * at_ + 1)), none, none, none], ()⟩ : SS (W0 T hT)) = .ok (.int ((at_ : Int) * at_ * 97)) () := qh (qh (qa rfl) (qa rfl) m2) c_ok m3
    have q5 := qh (qh q3 q4 zP) (c_ok (d := .int 1)) hy
    exact qy q5
 obtain ⟨c, cell⟩ := cell
 let S (c sd : Int) (vs : List Int) (mk : Option D) : SS (W0 T hT) := ⟨[some (.scr (isD ins)), some (.int at_), some (.int many), some (.int c), some (.int sd), some (.lst (isD vs)), mk], ()⟩
 have mod1 : ∀ x : Int, 0 <= x % 1013 /\ x % 1013 < 1013 := fun x => ⟨Int.emod_nonneg _ (by decide), Int.emod_lt_of_pos _ (by decide)⟩
 have snoc : ∀ {vs : List Int} {n : Nat} (x : Int), Drawn vs n -> Drawn (vs ++ [x % 1013]) (n + 1) := fun x ⟨a, b⟩ => ⟨by simp [a], fun v hv => by
  rcases List.mem_append.mp hv with z | z
  ·exact b v z
  ·rw [List.mem_singleton.mp z]; exact mod1 x⟩
 have w1 : ∀ sd : Int, ∃ (vs : List Int) (c' : Int), Drawn vs vs.length /\ vs.length <= many /\ sIf (qCmp geI (eVar 3) (e2 powI (eC (.int 10)) (eC (.int 18))))
   (vX (qAnd (qCmp gtI (eVar 3) (eC (.int 0))) (qCmp ltI (e1 lenD (eVar 5)) (eVar 2)))
   (sSeq (sApp 5 (e2 modI (eVar 3) (eC (.int 1013))))
   (sSet 3 (e2 vJ (eVar 3) (eC (.int 1013))))))
   sNil (S c sd [] none) = .nx (S c' sd vs none) := fun sd => by
  have pw := pw18
  have tst : (qCmp geI (eVar 3) (e2 powI (eC (.int 10)) (eC (.int 18)))) (S c sd [] none) = .ok (decide ((10 ^ 18 : Int) <= c)) () := q_ok (qa rfl) (qh c_ok c_ok pw) ge_i
  by_cases hc : (10 ^ 18 : Int) <= c
  ·rw [if_t (ok_t tst hc)]
   obtain ⟨g', e, vs, c', h3, h4, rfl⟩ := vp (T := T) (hT := hT) (B := B0) (hB := hB0) (t := qAnd (qCmp gtI (eVar 3) (eC (.int 0))) (qCmp ltI (e1 lenD (eVar 5)) (eVar 2))) (h := sSeq (sApp 5 (e2 modI (eVar 3) (eC (.int 1013)))) (sSet 3 (e2 vJ (eVar 3) (eC (.int 1013)))))
    (I := fun n g => ∃ vs c', Drawn vs vs.length /\ vs.length <= many /\ n = many - vs.length /\ g = S c' sd vs none) (Post := fun g => ∃ vs c', Drawn vs vs.length /\ vs.length <= many /\ g = S c' sd vs none) (n := many) (g := S c sd [] none) ⟨[], c, ⟨rfl, fun v hv => (nomatch hv)⟩, Nat.zero_le _, rfl, rfl⟩ (by unfold ye; omega) (by
     rintro n g ⟨vs, c', h3, h4, hn, rfl⟩
     have t1 : (qCmp gtI (eVar 3) (eC (.int 0))) (S c' sd vs none) = .ok (decide (0 < c')) () := q_ok (qa rfl) c_ok gt_i
     have t2 : (qCmp ltI (e1 lenD (eVar 5)) (eVar 2)) (S c' sd vs none) = .ok (decide (((isD vs).length : Int) < many)) () := q_ok (zO (qa rfl) kr) (qa rfl) lt_i
     by_cases hp : 0 < c'
     ·by_cases hl : vs.length < many
      ·right
       have hl2 : ((isD vs).length : Int) < many := by rw [zI]; omega
       refine ⟨Qn (ok_t t1 hp) (ok_t t2 hl2), S (c' / 1013) sd (vs ++ [c' % 1013]) none, many - (vs.length + 1), ?_, by omega, vs ++ [c' % 1013], c' / 1013, ?_, ?_, ?_, rfl⟩
       ·refine (qo (j7 (ds := isD vs) (y := .int (c' % 1013)) rfl (qh (qa rfl) c_ok (zp (by decide))) (by rw [zI]; unfold big; omega))).trans ?_
        rw [xH]
        exact qy (d := .int (c' / 1013)) (qh (qa rfl) c_ok (ZC (by decide) (by decide)))
       ·have := snoc c' h3; rw [List.length_append]; exact this
       ·simp; omega
       ·simp
      ·left
       have hl2 : ¬ ((isD vs).length : Int) < many := by rw [zI]; omega
       exact ⟨Qn (ok_t t1 hp) (ok_f t2 hl2), vs, c', h3, h4, rfl⟩
     ·left
      exact ⟨JU (ok_f t1 hp), vs, c', h3, h4, rfl⟩)
   exact ⟨vs, c', h3, h4, e⟩
  ·refine ⟨[], c, ⟨rfl, fun v hv => (nomatch hv)⟩, Nat.zero_le _, ?_⟩
   rw [if_f (ok_f tst hc)]
   rfl
 obtain ⟨vs1, c', d1, l1, w1⟩ := w1 (c % 999983 + 31 * at_ + 5)
 obtain ⟨g', w2, vs, sd', mk, d2, rfl⟩ := vp (T := T) (hT := hT) (B := B0) (hB := hB0) (t := qCmp ltI (e1 lenD (eVar 5)) (eVar 2)) (h := (sSeq (sSet 6 (e2 addD (e1 lenD (eVar 5)) (eC (.int 1))))
 (sSeq (sSet 4 (e2 modI (e2 addD (e2 addD (e2 mulI (eVar 4) (eC (.int 48271))) (e2 mulI (e2 mulI (eVar 6) (eVar 6)) (eC (.int 6133)))) (eC (.int 17))) (eC (.int 2147483647))))
 (sApp 5 (e2 modI (e2 modI (e2 mulI (e2 modI (eVar 4) (eC (.int 65521))) (e2 addD (e2 modI (e2 vJ (eVar 4) (eC (.int 65521))) (eC (.int 32749))) (eC (.int 1)))) (eC (.int 1000003))) (eC (.int 1013)))))))
  (I := fun n g => ∃ vs sd mk, Drawn vs vs.length /\ vs.length <= many /\ n = many - vs.length /\ g = S c' sd vs mk) (Post := fun g => ∃ vs sd mk, Drawn vs many /\ g = S c' sd vs mk) (n := many - vs1.length) (g := S c' (c % 999983 + 31 * at_ + 5) vs1 none) ⟨vs1, _, none, d1, l1, rfl, rfl⟩ (by unfold ye; omega) (by
   rintro n g ⟨vs, sd, mk, h3, h4, hn, rfl⟩
   have t2 : (qCmp ltI (e1 lenD (eVar 5)) (eVar 2)) (S c' sd vs mk) = .ok (decide (((isD vs).length : Int) < many)) () := q_ok (zO (qa rfl) kr) (qa rfl) lt_i
   by_cases hl : vs.length < many
   ·right
    have hl2 : ((isD vs).length : Int) < many := by rw [zI]; omega
    have hv : (isD vs).length <= 1000 := by rw [zI]; omega
    obtain ⟨k, hk⟩ : ∃ k : Int, ((isD vs).length : Int) + 1 = k := ⟨_, rfl⟩
    have k1 : -(2 ^ 64) < k := by omega
    have k2 : k < 2 ^ 64 := by omega
    have a8 : ∀ x y : Int, mulI (.int (x % 65521)) (.int y) = some (.int (x % 65521 * y)) := fun x y => wZ (by have := Int.emod_nonneg x (show (65521 : Int) ≠ 0 by decide); omega) (by have := Int.emod_lt_of_pos x (show (0 : Int) < 65521 by decide); omega)
    have p1 : (e2 addD (e1 lenD (eVar 5)) (eC (.int 1))) (S c' sd vs mk) = .ok (.int k) () := ok_c (qh (zO (qa rfl) kr) c_ok zP) (by rw [hk])
    obtain ⟨sd2, p2⟩ : ∃ sd2 : Int, (e2 modI (e2 addD (e2 addD (e2 mulI (eVar 4) (eC (.int 48271))) (e2 mulI (e2 mulI (eVar 6) (eVar 6)) (eC (.int 6133)))) (eC (.int 17))) (eC (.int 2147483647))) (S c' sd vs (some (.int k))) = .ok (.int sd2) () := ⟨_, qh (qh (qh (qh (qa rfl) c_ok (mul_r (by decide) (by decide))) (qh (qh (qa rfl) (qa rfl) (wZ k1 k2)) c_ok (mul_r (by decide) (by decide))) zP) c_ok zP) c_ok (zp (by decide))⟩
    obtain ⟨v, p3⟩ : ∃ v : Int, (e2 modI (e2 modI (e2 mulI (e2 modI (eVar 4) (eC (.int 65521))) (e2 addD (e2 modI (e2 vJ (eVar 4) (eC (.int 65521))) (eC (.int 32749))) (eC (.int 1)))) (eC (.int 1000003))) (eC (.int 1013))) (S c' sd2 vs (some (.int k))) = .ok (.int (v % 1013)) () := ⟨_, qh (qh (qh (qh (qa rfl) c_ok (zp (by decide))) (qh (qh (qh (qa rfl) c_ok (ZC (by decide) (by decide))) c_ok (zp (by decide))) c_ok zP) (a8 _ _)) c_ok (zp (by decide))) c_ok (zp (by decide))⟩
    refine ⟨ok_t t2 hl2, S c' sd2 (vs ++ [v % 1013]) (some (.int k)), many - (vs.length + 1), ?_, by omega, _, _, _, ?_, ?_, ?_, rfl⟩
    ·refine (qo (qy p1)).trans ?_
     refine (qo (qy p2)).trans ?_
     refine (j7 (ds := isD vs) (y := .int (v % 1013)) rfl p3 (by unfold big; omega)).trans ?_
     rw [xH]
     rfl
    ·have := snoc v h3; rw [List.length_append]; exact this
    ·simp; omega
    ·simp
   ·left
    have hl2 : ¬ ((isD vs).length : Int) < many := by rw [zI]; omega
    have he : vs.length = many := by omega
    exact ⟨ok_f t2 hl2, vs, sd, mk, by rw [<- he]; exact h3, rfl⟩)
 refine ⟨vs, zF ?_, d2⟩
 have s1 : (e2 addD (e2 mulI (eC (.int 7)) (eVar 1)) (eC (.int 1))) (qY 7 [.scr (isD ins), .int at_, .int many] () : SS (W0 T hT)) = .ok (.int (7 * at_ + 1)) () := qh (qh c_ok (qa rfl) m1) c_ok zP
 have s2 : (e2 addD (e2 addD (e2 modI (eVar 3) (eC (.int 999983))) (e2 mulI (eC (.int 31)) (eVar 1))) (eC (.int 5))) (⟨[some (.scr (isD ins)), some (.int at_), some (.int many), some (.int c), none, none, none], ()⟩ : SS (W0 T hT)) = .ok (.int (c % 999983 + 31 * at_ + 5)) () := qh (qh (qh (qa rfl) c_ok (zp (by decide))) (qh c_ok (qa rfl) (wZ (by decide) (by decide))) zP) c_ok zP
 generalize 7 * (at_ : Int) + 1 = c0 at s1 cell
 generalize c % 999983 + 31 * (at_ : Int) + 5 = sd0 at s2 w1 w2
 refine (qo (qy s1)).trans ?_
 refine (cell _).trans ?_
 refine (qo (qy s2)).trans ?_
 refine (qo (qy (d := .lst []) (zR qO (by decide)))).trans ?_
 refine (qo w1).trans ?_
 refine (qo w2).trans ?_
 exact zU (qa rfl)
end
def gv (vs : List Int) (i : Int) : Int := vs.getD i.toNat 0
theorem gv_b {vs : List Int} {n : Nat} (h : Drawn vs n) (i : Int) : 0 <= gv vs i /\ gv vs i < 1013 := by
 unfold gv
 rw [List.getD_eq_getElem?_getD]
 cases e : vs[i.toNat]? with
 | none => exact ⟨by decide, by decide⟩
 | some v => exact h.2 v (List.mem_of_getElem? e)
theorem dri {vs : List Int} {n : Nat} (h : Drawn vs n) {i : Int} (h0 : 0 <= i) (h1 : i < n) : ixD (.lst (isD vs)) (.int i) = some (.int (gv vs i)) := by
 rw [Zt h0, xI]
 have hl : i.toNat < vs.length := by rw [h.1]; omega
 unfold gv
 rw [List.getD_eq_getElem?_getD, List.getElem?_eq_getElem hl]
 rfl
theorem Qc (ms : List Int) {i : Int} (h0 : 0 <= i) (h1 : i < ms.length) : ∃ m, m ∈ ms /\ ixD (.lst (isD ms)) (.int i) = some (.int m) := by
 have hl : i.toNat < ms.length := by omega
 refine ⟨ms[i.toNat], List.getElem_mem hl, ?_⟩
 rw [Zt h0, xI, List.getElem?_eq_getElem hl]
 rfl
theorem XT (ds : List D) {i : Int} (h0 : 0 <= i) (h1 : i < ds.length) : ∃ d, d ∈ ds /\ ixD (.lst ds) (.int i) = some d := by
 have hl : i.toNat < ds.length := by omega
 exact ⟨ds[i.toNat], List.getElem_mem hl, by rw [Zt h0, List.getElem?_eq_getElem hl]⟩
theorem Kk {z : Str} {n : Nat} (hz : z.cps.toList.length = n) (hn : n <= 1000) {i : Int} (h0 : 0 <= i) (h1 : i < n) : ∃ c : Nat, ixD (.str z) (.int i) = some (.str ⟨#[c]⟩) := by
 obtain ⟨v, hv⟩ := XS (xs := z.cps.toList) h0 (by omega)
 have hl : z.length <= 1000000 := by show z.cps.size <= _; rw [<- Array.length_toList, hz]; omega
 exact ⟨v, by show (if z.length <= 1000000 then _ else _) = _; rw [if_pos hl, hv]; rfl⟩
theorem Vx {x y : Str} (h : x.length + y.length <= 1000000) : addD (.str x) (.str y) = some (.str (x ++ y)) := if_pos h
theorem X3 : abc.length + ("0123456789" : Str).length <= 1000000 := by decide +kernel
theorem zT {x j : Int} (h : 0 < j) : 0 <= x % j /\ x % j < j := ⟨Int.emod_nonneg _ (by omega), Int.emod_lt_of_pos _ h⟩
theorem vt : ∀ {ys : List D}, (∀ y ∈ ys, ∃ c : Nat, y = .str ⟨#[c]⟩) -> ∃ ts : List Str, vR ys = some ts /\ ts.length = ys.length /\ ∀ t ∈ ts, t.length = 1
 | [], _ => ⟨[], rfl, rfl, fun t h => (nomatch h)⟩
 | y :: ys, h => by
  obtain ⟨ts, e, l, q⟩ := vt (ys := ys) fun y hy => h y (List.mem_cons_of_mem _ hy)
  obtain ⟨c, rfl⟩ := h y (List.mem_cons_self ..)
  refine ⟨⟨#[c]⟩ :: ts, ?_, by simp [l], fun t ht => ?_⟩
  ·unfold vR
   rw [e]
  ·rcases List.mem_cons.mp ht with rfl | ht
   ·rfl
   ·exact q t ht
section
variable (T : Hp -> Prop) (hT : HTb T)
theorem Js {vs : List Int} {n : Nat} (hd : Drawn vs n) (h16 : 10 <= n) (many : Nat) (hm : many <= 5) : ∃ ns : List Str, jY T hT [.lst (isD vs), .int many] = some (.lst (ns.map .str)) /\ ns.length = many := by
 unfold jY xU
 let S (ns : List Str) (k o r : Option D) : SS (W0 T hT) := ⟨[some (.lst (isD vs)), some (.int many), some (.str abc), some (.lst (ns.map .str)), k, o, r], ()⟩
 obtain ⟨g', e, ns, k, o, r, hl, rfl⟩ := yf (T := T) (hT := hT) (B := B0) (hB := hB0) (p := qx 4) (h := (sSeq (sSet 5 (e2 ixD (eVar 2) (e2 modI (e2 addD (e2 mulI (eVar 4) (e2 ixD (eLst (qd (eC (.int 1)) (qd (eC (.int 3)) (qd (eC (.int 5)) (qd (eC (.int 7)) (qd (eC (.int 9)) (qd (eC (.int 11)) aNil))))))) (e2 modI (e2 ixD (eVar 0) (eC (.int 0))) (eC (.int 6))))) (e2 ixD (eVar 0) (eC (.int 1)))) (eC (.int 26)))))
 (sSeq (sSet 6 (ZF (eC (.str "")) (zq 1 [0, 2] (qS (qd (e2 modI (e2 ixD (eVar 0) (e2 addD (eC (.int 4)) (eVar 4))) (eC (.int 12))) aNil)) (qx 0) qAll (e2 ixD (e2 addD (eVar 2) (eC (.str "0123456789"))) (e2 modI (e2 addD (e2 ixD (eVar 1) (eC (.int 2))) (e2 mulI (eVar 0) (e2 ixD (eVar 1) (eC (.int 3))))) (eC (.int 36)))))))
 (sApp 3 (e2 ixD (eLst (qd (e2 addD (eVar 5) (eVar 6)) (qd (e2 addD (eVar 6) (eVar 5)) aNil))) (e2 modI (e2 vJ (e2 ixD (eVar 0) (eC (.int 0))) (eC (.int 6))) (eC (.int 2))))))))
  (I := fun dn g => ∃ ns k o r, ns.length = dn.length /\ g = S ns k o r) (ds := rngD 0 many) (g := S [] none none none) ⟨[], none, none, none, rfl, rfl⟩ (by
   rintro dn d g ⟨rr, hr⟩ ⟨ns, k, o, r, hl, rfl⟩
   obtain ⟨rfl, hlt⟩ := wP hr
   generalize hjd : dn.length = j at hlt hl
   have hj1 : -(2 ^ 64) < (j : Int) := by omega
   have hj2 : (j : Int) < 2 ^ 64 := by omega
   have x0 := dri hd (i := 0) (by decide) (by omega)
   have x1 := dri hd (i := 1) (by decide) (by omega)
   have x2 := dri hd (i := 2) (by decide) (by omega)
   have x3 := dri hd (i := 3) (by decide) (by omega)
   have x4 := dri hd (i := 4 + (j : Int)) (by omega) (by omega)
   have b0 := gv_b hd 0
   have b2 := gv_b hd 2
   have b3 := gv_b hd 3
   generalize gv vs 0 = v0 at x0 b0
   generalize gv vs 1 = v1 at x1
   generalize gv vs 2 = v2 at x2 b2
   generalize gv vs 3 = v3 at x3 b3
   obtain ⟨m, _, em⟩ := Qc [1, 3, 5, 7, 9, 11] (zT (x := v0) (j := 6) (by decide)).1 (zT (x := v0) (j := 6) (by decide)).2
   obtain ⟨cc, ec⟩ := Kk Vz (by decide) (i := ((j : Int) * m + v1) % 26) (zT (by decide)).1 (zT (by decide)).2
   have s1 : (e2 ixD (eVar 2) (e2 modI (e2 addD (e2 mulI (eVar 4) (e2 ixD (eLst (qd (eC (.int 1)) (qd (eC (.int 3)) (qd (eC (.int 5)) (qd (eC (.int 7)) (qd (eC (.int 9)) (qd (eC (.int 11)) aNil))))))) (e2 modI (e2 ixD (eVar 0) (eC (.int 0))) (eC (.int 6))))) (e2 ixD (eVar 0) (eC (.int 1)))) (eC (.int 26)))) (S ns (some (.int j)) o r) = .ok (.str ⟨#[cc]⟩) () :=
    qh (qa rfl) (qh (qh (qh (qa rfl) (qh (zR (qe c_ok (qe c_ok (qe c_ok (qe c_ok (qe c_ok (qe c_ok qO)))))) (by decide)) (qh (qh (qa rfl) c_ok x0) c_ok (zp (by decide))) em) (wZ hj1 hj2)) (qh (qa rfl) c_ok x1) zP) c_ok (zp (by decide))) ec
   obtain ⟨q, hq⟩ : ∃ q : Nat, (gv vs (4 + (j : Int))) % 12 = (q : Int) /\ q < 12 := ⟨((gv vs (4 + (j : Int))) % 12).toNat, by have := zT (x := gv vs (4 + (j : Int))) (j := 12) (by decide); omega, by have := zT (x := gv vs (4 + (j : Int))) (j := 12) (by decide); omega⟩
   obtain ⟨ys, e2c, ly, py⟩ := xO (T := T) (hT := hT) (B := B0) (hB := hB0) (p := qx 0) (t := qAll) (f := (e2 ixD (e2 addD (eVar 2) (eC (.str "0123456789"))) (e2 modI (e2 addD (e2 ixD (eVar 1) (eC (.int 2))) (e2 mulI (eVar 0) (e2 ixD (eVar 1) (eC (.int 3))))) (eC (.int 36))))) (n := 1) (ix := [0, 2]) (fi := (qS (qd (e2 modI (e2 ixD (eVar 0) (e2 addD (eC (.int 4)) (eVar 4))) (eC (.int 12))) aNil))) (ds := rngD 0 q) (g := S ns (some (.int j)) (some (.str ⟨#[cc]⟩)) r)
    (I := fun g => ∃ z, g = ⟨[z, some (.lst (isD vs)), some (.str abc)], ()⟩) (Pd := fun _ y => ∃ c : Nat, y = .str ⟨#[c]⟩)
    (vv (j6 (qe (qh (qh (qa rfl) (qh c_ok (qa rfl) zP) x4) c_ok (zp (by decide))) qO) (by rw [hq.1])) (by have := hq.2; omega)) ⟨none, rfl⟩ (by
     rintro d hd' g ⟨z, rfl⟩
     obtain ⟨i, hi, rfl⟩ := wO hd'
     have hi2 := hq.2
     have m1 : mulI (.int (0 + (i : Int))) (.int v3) = some (.int ((0 + (i : Int)) * v3)) := wZ (by omega) (by omega)
     obtain ⟨c2, ec2⟩ := Kk JW (by decide) (i := (v2 + (0 + (i : Int)) * v3) % 36) (zT (by decide)).1 (zT (by decide)).2
     refine ⟨⟨[some (.int (0 + (i : Int))), some (.lst (isD vs)), some (.str abc)], ()⟩, rfl, ⟨_, rfl⟩, .inl ⟨rfl, .str ⟨#[c2]⟩, ?_, c2, rfl⟩⟩
     exact qh (qh (qa rfl) c_ok (Vx X3)) (qh (qh (qh (qa rfl) c_ok x2) (qh (qa rfl) (qh (qa rfl) c_ok x3) m1) zP) c_ok (zp (by decide))) ec2) (by rw [jl]; unfold big; omega)
   obtain ⟨ts, et, lt, qt⟩ := vt (ys := ys) fun y hy => by obtain ⟨_, _, h⟩ := py y hy; exact h
   rw [jl] at ly
   have jk := K9 qt (by omega)
   have ej : K_ (.str "") (.lst ys) = some (.str (PySem.Txt.join ("" : Str) ts)) := by
    show (vR ys).bind _ = _
    rw [et]
    show (if JoinOk ("" : Str) ts = true then _ else _) = _
    rw [if_pos jk]
   have lj : (Txt.join ("" : Str) ts).length <= 20 := by rw [JB qt]; omega
   generalize (Txt.join ("" : Str) ts) = rest at ej lj
   have l1 : (⟨#[cc]⟩ : Str).length = 1 := rfl
   obtain ⟨u, hu, eu⟩ := XT [.str (⟨#[cc]⟩ ++ rest), .str (rest ++ ⟨#[cc]⟩)] (zT (x := v0 / 6) (j := 2) (by decide)).1 (zT (x := v0 / 6) (j := 2) (by decide)).2
   have hu2 : ∃ nm : Str, u = .str nm := by
    simp at hu
    rcases hu with rfl | rfl
    ·exact ⟨_, rfl⟩
    ·exact ⟨_, rfl⟩
   obtain ⟨nm, rfl⟩ := hu2
   refine ⟨S ns (some (.int j)) o r, S (ns ++ [nm]) (some (.int j)) (some (.str ⟨#[cc]⟩)) (some (.str rest)), rfl, ?_, _, _, _, _, by simp [hl, hjd], rfl⟩
   refine (qo (qy s1)).trans ?_
   refine (qo (qy (JC c_ok e2c ej))).trans ?_
   refine (j7 (ds := ns.map .str) (y := .str nm) rfl (qh (zR (qe (qh (qa rfl) (qa rfl) (Vx (by omega))) (qe (qh (qa rfl) (qa rfl) (Vx (by omega))) qO)) (by simp)) (qh (qh (qh (qa rfl) c_ok x0) c_ok (ZC (by decide) (by decide))) c_ok (zp (by decide))) eu) (by simp; unfold big; omega)).trans ?_
   have en : ns.map D.str ++ [.str nm] = (ns ++ [nm]).map .str := by simp
   rw [en]
   rfl)
 refine ⟨ns, zF ?_, by rw [hl, jl]⟩
 refine (qo (qy c_ok)).trans ?_
 refine (qo (qy (d := .lst []) (zR qO (by decide)))).trans ?_
 refine (qo (jJ (vv (qe (qa rfl) qO) (by omega)) e)).trans ?_
 exact zU (qa rfl)
end
theorem jm (a b : Str) : eqD (.str a) (.str b) = some (.bl (a == b)) := rfl
theorem jN (a b : Int) : eqD (.int a) (.int b) = some (.bl (a == b)) := rfl
theorem xf (r : Rd) : ixD (rdD r) (.int 0) = some (.int r.n) := rfl
theorem xc (r : Rd) : ixD (rdD r) (.int 1) = some (.str r.a) := rfl
theorem vG (r : Rd) : ixD (rdD r) (.int 2) = some (.str r.b) := rfl
theorem wx (r : Rd) : ixD (rdD r) (.int 3) = some (.int r.l) := rfl
theorem xb (r : Rd) : ixD (rdD r) (.int 4) = some (.int r.c) := rfl
theorem yN (kvs : List (Key × D)) (x : Str) : ixD (.dic kvs) (.str x) = qW kvs (.inr x) := rfl
structure Wk (sp : Str -> Int) (kvs : List (Key × D)) (rds : List Rd) : Prop extends Good sp rds where
 sps : ∀ r ∈ rds, qW kvs (.inr r.b) = some (.int (sp r.b))
section
variable (T : Hp -> Prop) (hT : HTb T) {sp : Str -> Int} {kvs : List (Key × D)} {rds : List Rd}
theorem yB {e d : Rd} (h : qW kvs (.inr e.b) = some (.int (sp e.b))) : zG T hT [rdD e, rdD d, .dic kvs] = some (.int (d.l - e.c - sp e.b)) := by
 unfold zG jg
 simp only [zr, qY, sSeq, sSet, zx, sRet, sIf, ve, sNil, vd, sAsg, sApp, jD, jp, sPut, sAug, sFor, qG, eOpt, eRet, eVar, eC, M.e1, M.e2, eAnd, eOr, eNot, eIf, qX, jA, atO, aNil, qd, eTup, eLst, ke, zq, capD, put, qx, pTup, zd, pNil, qCmp, qTru, qNot, qAnd, qOr, qAll, iSeq, qS, z7, ki, List.map_cons, List.map_nil, List.length_cons, List.length_nil, List.getElem?_cons_zero, List.getElem?_cons_succ, List.set_cons_zero, List.set_cons_succ, List.replicate_succ, List.replicate_zero, List.cons_append, List.nil_append, Option.join_some, Option.join_none, Option.bind_some, Option.map_some, if_true, if_false, ite_true, ite_false, reduceIte, Nat.reduceAdd, Nat.reduceSub, Nat.reduceLeDiff, Nat.reduceEqDiff, asB, truD, vG, wx, xb, yN, h, subI]
theorem JF {e d : Rd} (h : qW kvs (.inr e.b) = some (.int (sp e.b))) : kR T hT [rdD e, rdD d, .dic kvs] = some (.bl (hg sp e d)) := by
 unfold kR yn hg
 by_cases h1 : d.a = e.b
 ·have h2 : (d.a == e.b) = true := by simp [h1]
  have h3 : (0 <= d.l - e.c - sp e.b) ↔ e.c + sp e.b <= d.l := by omega
  simp only [zr, qY, sSeq, sSet, zx, sRet, sIf, ve, sNil, vd, sAsg, sApp, jD, jp, sPut, sAug, sFor, qG, eOpt, eRet, eVar, eC, M.e1, M.e2, eAnd, eOr, eNot, eIf, qX, jA, atO, aNil, qd, eTup, eLst, ke, zq, capD, put, qx, pTup, zd, pNil, qCmp, qTru, qNot, qAnd, qOr, qAll, iSeq, qS, z7, ki, List.map_cons, List.map_nil, List.length_cons, List.length_nil, List.getElem?_cons_zero, List.getElem?_cons_succ, List.set_cons_zero, List.set_cons_succ, List.replicate_succ, List.replicate_zero, List.cons_append, List.nil_append, Option.join_some, Option.join_none, Option.bind_some, Option.map_some, if_true, if_false, ite_true, ite_false, reduceIte, Nat.reduceAdd, Nat.reduceSub, Nat.reduceLeDiff, Nat.reduceEqDiff, asB, truD, xc, vG, jm, yB T hT h, geI, h2]
  simp [h1]; omega
 ·have h2 : (d.a == e.b) = false := by simp [h1]
  have h3 : ¬ e.b = d.a := fun z => h1 z.symm
  simp only [zr, qY, sSeq, sSet, zx, sRet, sIf, ve, sNil, vd, sAsg, sApp, jD, jp, sPut, sAug, sFor, qG, eOpt, eRet, eVar, eC, M.e1, M.e2, eAnd, eOr, eNot, eIf, qX, jA, atO, aNil, qd, eTup, eLst, ke, zq, capD, put, qx, pTup, zd, pNil, qCmp, qTru, qNot, qAnd, qOr, qAll, iSeq, qS, z7, ki, List.map_cons, List.map_nil, List.length_cons, List.length_nil, List.getElem?_cons_zero, List.getElem?_cons_succ, List.set_cons_zero, List.set_cons_succ, List.replicate_succ, List.replicate_zero, List.cons_append, List.nil_append, Option.join_some, Option.join_none, Option.bind_some, Option.map_some, if_true, if_false, ite_true, ite_false, reduceIte, Nat.reduceAdd, Nat.reduceSub, Nat.reduceLeDiff, Nat.reduceEqDiff, asB, truD, xc, vG, jm, yB T hT h, geI, h2]
  simp [h3]
theorem Jw {e d : Rd} (h : qW kvs (.inr e.b) = some (.int (sp e.b))) : kS T hT [rdD e, rdD d, .dic kvs] = some (.bl (hg sp e d)) := by
 unfold kS ZV hg
 by_cases h1 : e.b = d.a
 ·have h2 : (e.b == d.a) = true := by simp [h1]
  simp only [zr, qY, sSeq, sSet, zx, sRet, sIf, ve, sNil, vd, sAsg, sApp, jD, jp, sPut, sAug, sFor, qG, eOpt, eRet, eVar, eC, M.e1, M.e2, eAnd, eOr, eNot, eIf, qX, jA, atO, aNil, qd, eTup, eLst, ke, zq, capD, put, qx, pTup, zd, pNil, qCmp, qTru, qNot, qAnd, qOr, qAll, iSeq, qS, z7, ki, List.map_cons, List.map_nil, List.length_cons, List.length_nil, List.getElem?_cons_zero, List.getElem?_cons_succ, List.set_cons_zero, List.set_cons_succ, List.replicate_succ, List.replicate_zero, List.cons_append, List.nil_append, Option.join_some, Option.join_none, Option.bind_some, Option.map_some, if_true, if_false, ite_true, ite_false, reduceIte, Nat.reduceAdd, Nat.reduceSub, Nat.reduceLeDiff, Nat.reduceEqDiff, asB, truD, xc, vG, wx, xb, yN, h, jm, geI, addD, h2]
  simp [h1]
 ·have h2 : (e.b == d.a) = false := by simp [h1]
  simp only [zr, qY, sSeq, sSet, zx, sRet, sIf, ve, sNil, vd, sAsg, sApp, jD, jp, sPut, sAug, sFor, qG, eOpt, eRet, eVar, eC, M.e1, M.e2, eAnd, eOr, eNot, eIf, qX, jA, atO, aNil, qd, eTup, eLst, ke, zq, capD, put, qx, pTup, zd, pNil, qCmp, qTru, qNot, qAnd, qOr, qAll, iSeq, qS, z7, ki, List.map_cons, List.map_nil, List.length_cons, List.length_nil, List.getElem?_cons_zero, List.getElem?_cons_succ, List.set_cons_zero, List.set_cons_succ, List.replicate_succ, List.replicate_zero, List.cons_append, List.nil_append, Option.join_some, Option.join_none, Option.bind_some, Option.map_some, if_true, if_false, ite_true, ite_false, reduceIte, Nat.reduceAdd, Nat.reduceSub, Nat.reduceLeDiff, Nat.reduceEqDiff, asB, truD, xc, vG, wx, xb, yN, h, jm, geI, addD, h2]
  simp [h1]
end
theorem zX {p : Key × D} {kvs : List (Key × D)} {k : Key} : qW (p :: kvs) k = if p.1 = k then some p.2 else qW kvs k := by
 unfold qW
 rw [List.find?_cons]
 by_cases h : p.1 = k <;> simp [h]
theorem yK {k : Key} : qW ([] : List (Key × D)) k = none := rfl
theorem yL {k k' : Key} {v : D} : ∀ {kvs : List (Key × D)}, qW (kvs.map fun kv => if kv.1 = k then (kv.1, v) else kv) k' = if k' = k then (qW kvs k).map (fun _ => v) else qW kvs k'
 | [] => by simp [yK]
 | p :: kvs => by
  rw [List.map_cons, zX, yL, zX, zX]
  by_cases hp : p.1 = k
  ·by_cases hk : k' = k
   ·subst hk; simp [hp]
   ·have : ¬ k = k' := fun z => hk z.symm
    simp [hp, hk, this]
  ·by_cases hk : k' = k
   ·subst hk; simp [hp]
   ·simp [hp, hk]
theorem yM {k : Key} : ∀ {kvs : List (Key × D)}, (kvs.any fun kv => decide (kv.1 = k)) = (qW kvs k).isSome
 | [] => rfl
 | p :: kvs => by
  rw [List.any_cons, yM, zX]
  by_cases hp : p.1 = k <;> simp [hp]
theorem wp {k k' : Key} {v : D} : ∀ {kvs : List (Key × D)}, qW kvs k = none -> qW (kvs ++ [(k, v)]) k' = if k' = k then some v else qW kvs k'
 | [], _ => by
  rw [List.nil_append, zX, yK]
  by_cases h : k = k'
  ·simp [h]
  ·have h2 : ¬ k' = k := fun z => h z.symm
   simp [h, h2]
 | p :: kvs, h => by
  rw [zX] at h
  by_cases hp : p.1 = k
  ·simp [hp] at h
  ·rw [if_neg hp] at h
   rw [List.cons_append, zX, wp h, zX]
   by_cases hk : k' = k
   ·subst hk; simp [hp]
   ·simp [hk]
theorem yI {kvs : List (Key × D)} {k k' : Key} {v : D} : qW (putD kvs k v) k' = if k' = k then some v else qW kvs k' := by
 unfold putD
 rw [yM]
 cases e : qW kvs k with
 | none => simp; exact wp e
 | some d => simp; rw [yL, e]; rfl
theorem KG {kvs : List (Key × D)} {k : Key} {v : D} : (putD kvs k v).length <= kvs.length + 1 := by
 unfold putD
 split <;> simp
theorem XR {kvs : List (Key × D)} {x : Str} {v : D} (h : kvs.length < big) : putO (.dic kvs) (.str x) v = some (.dic (putD kvs (.inr x) v)) := if_pos h
def spF (kvs : List (Key × D)) (x : Str) : Int := match qW kvs (.inr x) with | some (.int z) => z | _ => 0
structure SpOk (kvs : List (Key × D)) : Prop where
 lk : ∀ x d, qW kvs (.inr x) = some d -> ∃ z : Int, d = .int z /\ 0 <= z
 iv : ∀ q ∈ kvs, ∃ z, q.2 = D.int z
theorem KF {kvs : List (Key × D)} {k : Key} {v : D} {q : Key × D} (h : q ∈ putD kvs k v) : q ∈ kvs \/ q.2 = v := by
 unfold putD at h
 split at h
 ·obtain ⟨p, hp, e⟩ := List.mem_map.mp h
  split at e
  ·subst e; exact .inr rfl
  ·subst e; exact .inl hp
 ·rcases List.mem_append.mp h with h | h
  ·exact .inl h
  ·rw [List.mem_singleton.mp h]; exact .inr rfl
theorem VI {kvs : List (Key × D)} (h : SpOk kvs) {x : Str} (hs : (qW kvs (.inr x)).isSome = true) : qW kvs (.inr x) = some (.int (spF kvs x)) /\ 0 <= spF kvs x := by
 cases e : qW kvs (.inr x) with
 | none => rw [e] at hs; cases hs
 | some d =>
  obtain ⟨z, rfl, hz⟩ := h.lk x d e
  unfold spF
  rw [e]
  exact ⟨rfl, hz⟩
theorem Jg (ns : List Str) {i : Int} (h0 : 0 <= i) (h1 : i < ns.length) : ∃ x, x ∈ ns /\ ixD (.lst (ns.map .str)) (.int i) = some (.str x) := by
 have hl : i.toNat < ns.length := by omega
 refine ⟨ns[i.toNat], List.getElem_mem hl, ?_⟩
 rw [Zt h0, List.getElem?_map, List.getElem?_eq_getElem hl]
 rfl
theorem pw20 : powI (.int 10) (.int 20) = some (.int (10 ^ 20)) := rfl
theorem pw40 : powI (.int 10) (.int 40) = some (.int (10 ^ 40)) := rfl
theorem pw9 : powI (.int 10) (.int 9) = some (.int (10 ^ 9)) := rfl
structure Made (ns : List Str) (kvs : List (Key × D)) (rds : List Rd) : Prop where
 n2 : 2 <= ns.length
 n5 : ns.length <= 5
 sk : SpOk kvs
 cov : ∀ x ∈ ns, (qW kvs (.inr x)).isSome = true
 ra : ∀ r ∈ rds, r.a ∈ ns /\ r.b ∈ ns /\ r.l < r.c
 nn : (rds.map (·.n)).Nodup
theorem Made.wk {ns : List Str} {kvs : List (Key × D)} {rds : List Rd} (M : Made ns kvs rds) : Wk (spF kvs) kvs rds := ⟨⟨fun d hd => (M.ra d hd).2.2, fun d hd => (VI M.sk (M.cov _ (M.ra d hd).2.1)).2⟩, fun r hr => (VI M.sk (M.cov _ (M.ra r hr).2.1)).1⟩
section
variable (T : Hp -> Prop) (hT : HTb T)
theorem kg (ins : List Int) (a : Int) (h0 : 0 <= a) (h1 : a < 100000) {m : Int} (n : Nat) (hm : m = n) (hn : n <= 1000) : ∃ vs, za T hT [.scr (isD ins), .int a, .int m] = some (.lst (isD vs)) /\ Drawn vs n := by
 obtain ⟨k, rfl⟩ := Int.eq_ofNat_of_zero_le h0
 subst hm
 exact JL T hT ins k n (by omega) hn
theorem Z2 (ins : List Int) (at_ most : Int) (h0 : 0 <= at_) (h1 : at_ < 90000) (hm0 : 0 <= most) (hm : most <= 9) : ∃ (ns : List Str) (kvs : List (Key × D)) (rds : List Rd) (base : Int), kB T hT [.scr (isD ins), .int at_, .int most] = some (.tup [.lst (ns.map .str), .dic kvs, .lst (rds.map rdD), .int base]) /\ Made ns kvs rds /\ (rds.length : Int) <= most := by
 obtain ⟨vs, ed, hd⟩ := kg T hT ins at_ h0 (by omega) (m := 20) 20 rfl (by decide)
 have x15 := dri hd (i := 15) (by decide) (by decide)
 have x16 := dri hd (i := 16) (by decide) (by decide)
 have x17 := dri hd (i := 17) (by decide) (by decide)
 have x18 := dri hd (i := 18) (by decide) (by decide)
 have x19 := dri hd (i := 19) (by decide) (by decide)
 generalize gv vs 15 = v15 at x15
 generalize gv vs 16 = v16 at x16
 generalize gv vs 17 = v17 at x17
 generalize gv vs 18 = v18 at x18
 generalize gv vs 19 = v19 at x19
 have b16 := zT (x := v16) (j := 4) (by decide)
 obtain ⟨L, hL⟩ : ∃ L : Nat, 2 + v16 % 4 = (L : Int) := ⟨(2 + v16 % 4).toNat, by omega⟩
 obtain ⟨ns, en, ln⟩ := Js T hT hd (by decide) L (by omega)
 obtain ⟨base, eb⟩ : ∃ base : Int, ixD (.lst [.int 0, .int 0, .int (10 ^ 20 + v17), .int (0 - 10 ^ 40)]) (.int (v18 % 4)) = some (.int base) := by
  obtain ⟨m, _, e⟩ := Qc [0, 0, 10 ^ 20 + v17, 0 - 10 ^ 40] (i := v18 % 4) (zT (by decide)).1 (zT (by decide)).2
  exact ⟨m, e⟩
 have hns : ((ns.map D.str).length : Int) = L := by rw [List.length_map, ln]
 have hL2 : (2 : Int) <= L := by omega
 have hL5 : (L : Int) <= 5 := by omega
 let S (kvs : List (Key × D)) (k : Option D) : SS (W0 T hT) := ⟨[some (.scr (isD ins)), some (.int at_), some (.int most), some (.lst (isD vs)), some (.lst (ns.map .str)), some (.int base), some (.dic kvs), some (.lst []), k, none, none, none, none, none], ()⟩
 obtain ⟨g1, ef1, kvs, k1, lk, sk, cov, rfl⟩ := yf (T := T) (hT := hT) (B := B0) (hB := hB0) (p := qx 8) (h := (jD 6 (M.e2 ixD (eVar 4) (eVar 8)) (M.e2 ixD (eLst (qd (eC (.int 0)) (qd (eC (.int 1)) (qd (eC (.int 2)) (qd (eC (.int 5)) (qd (M.e2 powI (eC (.int 10)) (eC (.int 9))) aNil)))))) (M.e2 modI (M.e2 ixD (qX 3 (za T hT) (qd (eVar 0) (qd (M.e2 addD (eVar 1) (eC (.int 1))) (qd (eC (.int 8)) aNil)))) (eVar 8)) (M.e2 ixD (eLst (qd (eC (.int 3)) (qd (eC (.int 4)) (qd (eC (.int 5)) aNil)))) (M.e2 modI (M.e2 ixD (eVar 3) (eC (.int 19))) (eC (.int 3))))))))
  (I := fun dn g => ∃ kvs k, kvs.length <= dn.length /\ SpOk kvs /\ (∀ x ∈ ns.take dn.length, (qW kvs (.inr x)).isSome = true) /\ g = S kvs k) (ds := rngD 0 L) (g := S [] none) ⟨[], none, Nat.le_refl _, ⟨fun x d h => (nomatch h), fun _ h => (nomatch h)⟩, fun x hx => by simp at hx, rfl⟩ (by
   rintro dn d g ⟨rr, hr⟩ ⟨kvs, k, lk, sk, cov, rfl⟩
   obtain ⟨rfl, hlt⟩ := wP hr
   have hlen : (dn ++ [D.int dn.length]).length = dn.length + 1 := by simp
   rw [hlen]
   generalize dn.length = j at hlt lk cov
   have hjl : j < ns.length := by omega
   have ej : ixD (.lst (ns.map .str)) (.int (j : Int)) = some (.str ns[j]) := by rw [ix_l, List.getElem?_map, List.getElem?_eq_getElem hjl]; rfl
   obtain ⟨us, eu, hu⟩ := kg T hT ins (at_ + 1) (by omega) (by omega) (m := 8) 8 rfl (by decide)
   have xj := dri hu (i := (j : Int)) (by omega) (by omega)
   obtain ⟨mm, hmm, em⟩ := Qc [3, 4, 5] (i := v19 % 3) (zT (by decide)).1 (zT (by decide)).2
   have hm3 : 0 < mm /\ mm <= 5 := by simp at hmm; omega
   generalize gv us j = uj at xj
   have bm := zT (x := uj) hm3.1
   obtain ⟨z, hz, ez⟩ := Qc [0, 1, 2, 5, 10 ^ 9] (i := uj % mm) bm.1 (by show uj % mm < 5; omega)
   have hz0 : 0 <= z := by
    simp at hz
    omega
   refine ⟨S kvs (some (.int j)), S (putD kvs (.inr ns[j]) (.int z)) (some (.int j)), rfl, ?_, _, _, Nat.le_trans KG (by omega), ?_, ?_, rfl⟩
   ·exact Vc (qh (zR (qe c_ok (qe c_ok (qe c_ok (qe c_ok (qe (qh c_ok c_ok pw9) qO))))) (by simp)) (qh (qh (zb (qe (qa rfl) (qe (qh (qa rfl) c_ok zP) (qe c_ok qO))) rfl eu) (qa rfl) xj) (qh (zR (qe c_ok (qe c_ok (qe c_ok qO))) (by simp)) (qh (qh (qa rfl) c_ok x19) c_ok (zp (by decide))) em) (zp hm3.1)) ez) rfl (qh (qa rfl) (qa rfl) ej) (XR (by unfold big; omega))
   ·refine ⟨fun x d hx => ?_, fun q hq => ?_⟩
    ·rw [yI] at hx
     split at hx
     ·cases hx; exact ⟨z, rfl, hz0⟩
     ·exact sk.lk x d hx
    ·rcases KF hq with hq | hq
     ·exact sk.iv q hq
     ·exact ⟨z, hq⟩
   ·intro x hx
    rw [yI]
    split
    ·rfl
    ·rename_i hne
     refine cov x ?_
     rw [List.take_succ, List.mem_append] at hx
     rcases hx with hx | hx
     ·exact hx
     ·rw [List.getElem?_eq_getElem hjl] at hx
      simp at hx
      exact absurd (by rw [hx]) hne)
 rw [jl, <- ln, List.take_length] at cov
 have lk5 : kvs.length <= 5 := by rw [jl] at lk; omega
 obtain ⟨us, eu, hu⟩ := kg T hT ins (at_ + 2) (by omega) (by omega) (m := 1) 1 rfl (by decide)
 have xu := dri hu (i := 0) (by decide) (by decide)
 generalize gv us 0 = u0 at xu
 have bq := zT (x := u0) (j := most + 1) (by omega)
 obtain ⟨q, hq⟩ : ∃ q : Nat, u0 % (most + 1) = (q : Int) := ⟨(u0 % (most + 1)).toNat, by omega⟩
 let R (rds : List Rd) (nb : Int) (k e s o l : Option D) : SS (W0 T hT) := ⟨[some (.scr (isD ins)), some (.int at_), some (.int most), some (.lst (isD vs)), some (.lst (ns.map .str)), some (.int base), some (.dic kvs), some (.lst (rds.map rdD)), k, some (.int nb), e, s, o, l], ()⟩
 obtain ⟨g2, e2', rds, nb, k2, q1, q2, q3, q4, lr, ra, rn, nn, rfl⟩ := yf (T := T) (hT := hT) (B := B0) (hB := hB0) (p := qx 8) (h := (sSeq (sSet 10 (qX 3 (za T hT) (qd (eVar 0) (qd (M.e2 addD (M.e2 addD (eVar 1) (eC (.int 3))) (eVar 8)) (qd (eC (.int 6)) aNil))))) (sSeq (sSet 11 (M.e2 modI (M.e2 ixD (eVar 10) (eC (.int 0))) (M.e1 lenD (eVar 4)))) (sSeq (sSet 12 (M.e2 modI (M.e2 addD (M.e2 addD (eVar 11) (eC (.int 1))) (M.e2 modI (M.e2 ixD (eVar 10) (eC (.int 1))) (M.e2 subI (M.e1 lenD (eVar 4)) (eC (.int 1))))) (M.e1 lenD (eVar 4)))) (sSeq (sSet 13 (M.e2 addD (eVar 5) (M.e2 modI (M.e2 ixD (eVar 10) (eC (.int 2))) (eC (.int 24))))) (sSeq (sApp 7 (eTup (qd (eVar 9) (qd (M.e2 ixD (eVar 4) (eVar 11)) (qd (M.e2 ixD (eVar 4) (eVar 12)) (qd (eVar 13) (qd (M.e2 addD (M.e2 addD (eVar 13) (eC (.int 1))) (M.e2 modI (M.e2 ixD (eVar 10) (eC (.int 3))) (eC (.int 6)))) aNil))))))) (sAug 9 addI (M.e2 addD (eC (.int 1)) (M.e2 modI (M.e2 ixD (eVar 10) (eC (.int 4))) (eC (.int 3)))))))))))
  (I := fun dn g => ∃ rds nb k e s o l, rds.length = dn.length /\ (∀ r ∈ rds, r.a ∈ ns /\ r.b ∈ ns /\ r.l < r.c) /\ (∀ r ∈ rds, r.n < nb) /\ (rds.map (·.n)).Nodup /\ g = R rds nb k e s o l) (ds := rngD 0 q) (g := R [] (v19 % 3) k1 none none none none) ⟨[], v19 % 3, k1, none, none, none, none, rfl, fun r hr => (nomatch hr), fun r hr => (nomatch hr), List.nodup_nil, rfl⟩ (by
   rintro dn d g ⟨rr, hr⟩ ⟨rds, nb, k, e, s, o, l, lr, ra, rn, nn, rfl⟩
   obtain ⟨rfl, hlt⟩ := wP hr
   have hlen : (dn ++ [D.int dn.length]).length = dn.length + 1 := by simp
   rw [hlen]
   generalize dn.length = j at hlt lr
   obtain ⟨ws, ew, hw⟩ := kg T hT ins (at_ + 3 + (j : Int)) (by omega) (by omega) (m := 6) 6 rfl (by decide)
   have y0 := dri hw (i := 0) (by decide) (by decide)
   have y1 := dri hw (i := 1) (by decide) (by decide)
   have y2 := dri hw (i := 2) (by decide) (by decide)
   have y3 := dri hw (i := 3) (by decide) (by decide)
   have y4 := dri hw (i := 4) (by decide) (by decide)
   generalize gv ws 0 = w0 at y0
   generalize gv ws 1 = w1 at y1
   generalize gv ws 2 = w2 at y2
   generalize gv ws 3 = w3 at y3
   generalize gv ws 4 = w4 at y4
   have lenE : lenD (.lst (ns.map .str)) = some (.int L) := by rw [kr, hns]
   have p0 := zT (x := w0) (j := (L : Int)) (by omega)
   have pL : 0 < (L : Int) - 1 := by omega
   obtain ⟨sx, hsx, esx⟩ := Jg ns (i := w0 % L) p0.1 (by omega)
   have p1 := zT (x := w0 % L + 1 + w1 % ((L : Int) - 1)) (j := (L : Int)) (by omega)
   obtain ⟨gx, hgx, egx⟩ := Jg ns (i := (w0 % L + 1 + w1 % ((L : Int) - 1)) % L) p1.1 (by omega)
   have p3 := zT (x := w3) (j := 6) (by decide)
   have p4 := zT (x := w4) (j := 3) (by decide)
   generalize hst : w0 % (L : Int) = st at esx p0 egx
   generalize hgo : (st + 1 + w1 % ((L : Int) - 1)) % L = go at egx
   generalize hlv : base + w2 % 24 = lv
   refine ⟨R rds nb (some (.int j)) e s o l, R (rds ++ [(⟨nb, sx, gx, lv, lv + 1 + w3 % 6⟩ : Rd)]) (nb + (1 + w4 % 3)) (some (.int j)) (some (.lst (isD ws))) (some (.int st)) (some (.int go)) (some (.int lv)), rfl, ?_, _, _, _, _, _, _, _, by simp [lr], ?_, ?_, ?_, rfl⟩
   ·refine (qo (qy (zb (qe (qa rfl) (qe (qh (qh (qa rfl) c_ok zP) (qa rfl) zP) (qe c_ok qO))) rfl ew))).trans ?_
    refine (qo (qy (d := .int st) (j6 (qh (qh (qa rfl) c_ok y0) (zO (qa rfl) lenE) (zp (by omega))) (by rw [hst])))).trans ?_
    refine (qo (qy (d := .int go) (j6 (qh (qh (qh (qa rfl) c_ok zP) (qh (qh (qa rfl) c_ok y1) (qh (zO (qa rfl) lenE) c_ok Qv) (zp pL)) zP) (zO (qa rfl) lenE) (zp (by omega))) (by rw [hgo])))).trans ?_
    refine (qo (qy (d := .int lv) (j6 (qh (qa rfl) (qh (qh (qa rfl) c_ok y2) c_ok (zp (by decide))) zP) (by rw [hlv])))).trans ?_
    refine (qo (j7 (ds := rds.map rdD) (y := rdD ⟨nb, sx, gx, lv, lv + 1 + w3 % 6⟩) rfl (jE (qe (qa rfl) (qe (qh (qa rfl) (qa rfl) esx) (qe (qh (qa rfl) (qa rfl) egx) (qe (qa rfl) (qe (qh (qh (qa rfl) c_ok zP) (qh (qh (qa rfl) c_ok y3) c_ok (zp (by decide))) zP) qO))))) (by simp)) (by simp; unfold big; omega))).trans ?_
    have er : rds.map rdD ++ [rdD ⟨nb, sx, gx, lv, lv + 1 + w3 % 6⟩] = (rds ++ [(⟨nb, sx, gx, lv, lv + 1 + w3 % 6⟩ : Rd)]).map rdD := by simp
    rw [er]
    exact yZ (v := .int (1 + w4 % 3)) (qh c_ok (qh (qh (qa rfl) c_ok y4) c_ok (zp (by decide))) zP) rfl rfl
   ·intro r hr
    rcases List.mem_append.mp hr with hr | hr
    ·exact ra r hr
    ·rw [List.mem_singleton.mp hr]; exact ⟨hsx, hgx, by show lv < lv + 1 + w3 % 6; omega⟩
   ·intro r hr
    rcases List.mem_append.mp hr with hr | hr
    ·have := rn r hr; omega
    ·rw [List.mem_singleton.mp hr]; show nb < _; omega
   ·rw [List.map_append, List.nodup_append]
    refine ⟨nn, by simp, fun a ha b hb => ?_⟩
    obtain ⟨r, hr, rfl⟩ := List.mem_map.mp ha
    simp at hb
    have := rn r hr
    rw [hb]
    show r.n ≠ nb
    omega)
 rw [jl] at lr
 have hrl : (rds.length : Int) <= most := by omega
 have Mk : Made ns kvs rds := ⟨by omega, by omega, sk, cov, ra, nn⟩
 have Mr : Made ns kvs rds.reverse := ⟨by omega, by omega, sk, cov, fun r hr => ra r (List.mem_reverse.mp hr), by rw [List.map_reverse]; exact (List.reverse_perm _).nodup_iff.mpr nn⟩
 have pre : ∀ (z : D) (r : SS (W0 T hT) -> Ou (W0 T hT)), r (R rds nb k2 q1 q2 q3 q4) = .rt z () -> sSeq (sSet 3 (qX 3 (za T hT) (qd (eVar 0) (qd (eVar 1) (qd (eC (.int 20)) aNil))))) (sSeq (sSet 4 (qX 2 (jY T hT) (qd (eVar 3) (qd (M.e2 addD (eC (.int 2)) (M.e2 modI (M.e2 ixD (eVar 3) (eC (.int 16))) (eC (.int 4)))) aNil)))) (sSeq (sSet 5 (M.e2 ixD (eLst (qd (eC (.int 0)) (qd (eC (.int 0)) (qd (M.e2 addD (M.e2 powI (eC (.int 10)) (eC (.int 20))) (M.e2 ixD (eVar 3) (eC (.int 17)))) (qd (M.e2 subI (eC (.int 0)) (M.e2 powI (eC (.int 10)) (eC (.int 40)))) aNil))))) (M.e2 modI (M.e2 ixD (eVar 3) (eC (.int 18))) (eC (.int 4))))) (sSeq (sSet 6 ke) (sSeq (sSet 7 (eLst aNil)) (sSeq (sFor (qS (qd (M.e1 lenD (eVar 4)) aNil)) (qx 8) (jD 6 (M.e2 ixD (eVar 4) (eVar 8)) (M.e2 ixD (eLst (qd (eC (.int 0)) (qd (eC (.int 1)) (qd (eC (.int 2)) (qd (eC (.int 5)) (qd (M.e2 powI (eC (.int 10)) (eC (.int 9))) aNil)))))) (M.e2 modI (M.e2 ixD (qX 3 (za T hT) (qd (eVar 0) (qd (M.e2 addD (eVar 1) (eC (.int 1))) (qd (eC (.int 8)) aNil)))) (eVar 8)) (M.e2 ixD (eLst (qd (eC (.int 3)) (qd (eC (.int 4)) (qd (eC (.int 5)) aNil)))) (M.e2 modI (M.e2 ixD (eVar 3) (eC (.int 19))) (eC (.int 3)))))))) (sSeq (sSet 9 (e2 modI (e2 ixD (eVar 3) (eC (.int 19))) (eC (.int 3)))) (sSeq (sFor (qS (qd (M.e2 modI (M.e2 ixD (qX 3 (za T hT) (qd (eVar 0) (qd (M.e2 addD (eVar 1) (eC (.int 2))) (qd (eC (.int 1)) aNil)))) (eC (.int 0))) (M.e2 addD (eVar 2) (eC (.int 1)))) aNil)) (qx 8) (sSeq (sSet 10 (qX 3 (za T hT) (qd (eVar 0) (qd (M.e2 addD (M.e2 addD (eVar 1) (eC (.int 3))) (eVar 8)) (qd (eC (.int 6)) aNil))))) (sSeq (sSet 11 (M.e2 modI (M.e2 ixD (eVar 10) (eC (.int 0))) (M.e1 lenD (eVar 4)))) (sSeq (sSet 12 (M.e2 modI (M.e2 addD (M.e2 addD (eVar 11) (eC (.int 1))) (M.e2 modI (M.e2 ixD (eVar 10) (eC (.int 1))) (M.e2 subI (M.e1 lenD (eVar 4)) (eC (.int 1))))) (M.e1 lenD (eVar 4)))) (sSeq (sSet 13 (M.e2 addD (eVar 5) (M.e2 modI (M.e2 ixD (eVar 10) (eC (.int 2))) (eC (.int 24))))) (sSeq (sApp 7 (eTup (qd (eVar 9) (qd (M.e2 ixD (eVar 4) (eVar 11)) (qd (M.e2 ixD (eVar 4) (eVar 12)) (qd (eVar 13) (qd (M.e2 addD (M.e2 addD (eVar 13) (eC (.int 1))) (M.e2 modI (M.e2 ixD (eVar 10) (eC (.int 3))) (eC (.int 6)))) aNil))))))) (sAug 9 addI (M.e2 addD (eC (.int 1)) (M.e2 modI (M.e2 ixD (eVar 10) (eC (.int 4))) (eC (.int 3))))))))))) r))))))) (qY 14 [.scr (isD ins), .int at_, .int most] ()) = .rt z () := fun z r hr => by
  refine (qo (qy (zb (qe (qa rfl) (qe (qa rfl) (qe c_ok qO))) rfl ed))).trans ?_
  refine (qo (qy (zb (qe (qa rfl) (qe (j6 (qh c_ok (qh (qh (qa rfl) c_ok x16) c_ok (zp (by decide))) zP) (by rw [hL])) qO)) rfl en))).trans ?_
  refine (qo (qy (qh (zR (qe c_ok (qe c_ok (qe (qh (qh c_ok c_ok pw20) (qh (qa rfl) c_ok x17) zP) (qe (qh c_ok (qh c_ok c_ok pw40) Qv) qO)))) (by simp)) (qh (qh (qa rfl) c_ok x18) c_ok (zp (by decide))) eb))).trans ?_
  refine (qo (qy (d := .dic []) rfl)).trans ?_
  refine (qo (qy (d := .lst []) (zR qO (by decide)))).trans ?_
  refine (qo (jJ (vv (qe (zO (qa rfl) (by rw [kr, hns])) qO) (by omega)) ef1)).trans ?_
  refine (qo (qy (qh (qh (qa rfl) c_ok x19) c_ok (zp (by decide))))).trans ?_
  refine (qo (jJ (vv (j6 (qe (qh (qh (zb (qe (qa rfl) (qe (qh (qa rfl) c_ok zP) (qe c_ok qO))) rfl eu) c_ok xu) (qh (qa rfl) c_ok zP) (zp (by omega))) qO) (by rw [hq])) (by omega)) e2')).trans ?_
  exact hr
 unfold kB xT
 by_cases h15 : v15 % 2 = 1
 ·refine ⟨ns, kvs, rds.reverse, base, zF (pre _ _ ?_), Mr, by rw [List.length_reverse]; exact hrl⟩
  refine (qo ((if_t (ok_c (q_ok (qh (qa rfl) c_ok x15 |> fun z => qh z c_ok (zp (by decide))) c_ok (jN _ _)) (by rw [h15]; rfl))).trans (qy (d := .lst (rds.reverse.map rdD)) (j6 (J5 (ds := rds.map rdD) (qa rfl) (zO c_ok rfl) rfl) (by rw [List.map_reverse]))))).trans ?_
  exact zU (jE (qe (qa rfl) (qe (qa rfl) (qe (qa rfl) (qe (qa rfl) qO)))) (by simp))
 ·refine ⟨ns, kvs, rds, base, zF (pre _ _ ?_), Mk, hrl⟩
  refine (qo ((if_f (ok_c (q_ok (qh (qa rfl) c_ok x15 |> fun z => qh z c_ok (zp (by decide))) c_ok (jN _ _)) (by simp [h15]))).trans rfl)).trans ?_
  exact zU (jE (qe (qa rfl) (qe (qa rfl) (qe (qa rfl) (qe (qa rfl) qO)))) (by simp))
end
theorem yc : ∀ {ys : List D}, (∀ y ∈ ys, ∃ i : Int, y = .int i) -> ∃ vs : List Int, ys = isD vs
 | [], _ => ⟨[], rfl⟩
 | y :: ys, h => by
  obtain ⟨vs, rfl⟩ := yc (ys := ys) fun y hy => h y (List.mem_cons_of_mem _ hy)
  obtain ⟨i, rfl⟩ := h y (List.mem_cons_self ..)
  exact ⟨i :: vs, rfl⟩
theorem add_l {xs ys : List D} (h : xs.length + ys.length <= big) : addD (.lst xs) (.lst ys) = some (.lst (xs ++ ys)) := if_pos h
section
variable (T : Hp -> Prop) (hT : HTb T)
theorem Kx (ins : List Int) (at_ most : Int) (h0 : 0 <= at_) (h1 : at_ < 80000) (hm0 : 0 <= most) (hm : most <= 9) : ∃ (ns : List Str) (kvs : List (Key × D)) (rds : List Rd) (st go : Str) (si : Int), xZ T hT [.scr (isD ins), .int at_, .int most] = some (.tup [.lst (ns.map .str), .dic kvs, .lst (rds.map rdD), .str st, .str go, .int si]) /\ Made ns kvs rds /\ (rds.length : Int) <= most /\ st ∈ ns /\ go ∈ ns := by
 obtain ⟨ns, kvs, rds, base, ew, Mk, lr⟩ := Z2 T hT ins at_ most h0 (by omega) hm0 hm
 obtain ⟨vs, ed, hd⟩ := kg T hT ins (at_ + 13) (by omega) (by omega) (m := 8) 8 rfl (by decide)
 have x0 := dri hd (i := 0) (by decide) (by decide)
 have x1 := dri hd (i := 1) (by decide) (by decide)
 have x2 := dri hd (i := 2) (by decide) (by decide)
 have x3 := dri hd (i := 3) (by decide) (by decide)
 generalize gv vs 0 = v0 at x0
 generalize gv vs 1 = v1 at x1
 generalize gv vs 2 = v2 at x2
 generalize gv vs 3 = v3 at x3
 have n2 := Mk.n2
 have lenE : lenD (.lst (ns.map .str)) = some (.int ns.length) := by rw [kr, List.length_map]
 have hp : 0 < (ns.length : Int) := by omega
 obtain ⟨st, hst, est⟩ := Jg ns (i := v0 % ns.length) (zT hp).1 (zT hp).2
 obtain ⟨go, hgo, ego⟩ := Jg ns (i := v1 % ns.length) (zT hp).1 (zT hp).2
 obtain ⟨off, _, eo⟩ := Qc [0, v2 % 12, 0 - 50, v2 % 30] (i := v3 % 4) (zT (by decide)).1 (zT (by decide)).2
 refine ⟨ns, kvs, rds, st, go, base + off, zF ?_, Mk, lr, hst, hgo⟩
 unfold yo
 refine (qo (y8 (g' := ⟨[some (.scr (isD ins)), some (.int at_), some (.int most), none, none, none, none, some (.lst (ns.map .str)), some (.dic kvs), some (.lst (rds.map rdD)), some (.int base)], ()⟩) (zb (qe (qa rfl) (qe (qa rfl) (qe (qa rfl) qO))) rfl ew) rfl)).trans ?_
 refine (qo (qy (zb (qe (qa rfl) (qe (qh (qa rfl) c_ok zP) (qe c_ok qO))) rfl ed))).trans ?_
 refine (qo (qy (qh (qa rfl) (qh (qh (qa rfl) c_ok x0) (zO (qa rfl) lenE) (zp hp)) est))).trans ?_
 refine (qo (qy (qh (qa rfl) (qh (qh (qa rfl) c_ok x1) (zO (qa rfl) lenE) (zp hp)) ego))).trans ?_
 refine (qo (qy (d := .int (base + off)) (qh (qa rfl) (qh (zR (qe c_ok (qe (qh (qh (qa rfl) c_ok x2) c_ok (zp (by decide))) (qe (qh c_ok c_ok Qv) (qe (qh (qh (qa rfl) c_ok x2) c_ok (zp (by decide))) qO)))) (by simp)) (qh (qh (qa rfl) c_ok x3) c_ok (zp (by decide))) eo) zP))).trans ?_
 exact zU (jE (qe (qa rfl) (qe (qa rfl) (qe (qa rfl) (qe (qa rfl) (qe (qa rfl) (qe (qa rfl) qO)))))) (by simp))
theorem Ju (ins : List Int) (at_ : Int) (h0 : 0 <= at_) (h1 : at_ < 80000) {rds : List Rd} (hl : rds.length <= 9) : ∃ kept shared : List Int, vn T hT [.scr (isD ins), .int at_, .lst (rds.map rdD)] = some (.tup [.lst (isD kept), .lst (isD shared)]) /\ kept.length <= 10 /\ shared.length <= 9 := by
 obtain ⟨vs, ed, hd⟩ := kg T hT ins at_ h0 (by omega) (m := 20) 20 rfl (by decide)
 have x18 := dri hd (i := 18) (by decide) (by decide)
 have x19 := dri hd (i := 19) (by decide) (by decide)
 have lenE : lenD (.lst (rds.map rdD)) = some (.int rds.length) := by rw [kr, List.length_map]
 have it : ∀ k : Nat, k < rds.length -> ∃ r : Rd, ixD (.lst (rds.map rdD)) (.int (0 + (k : Int))) = some (rdD r) := fun k hk => ⟨rds[k], by
  rw [show (0 + (k : Int)) = (k : Int) by omega, ix_l, List.getElem?_map, List.getElem?_eq_getElem hk]; rfl⟩
 let S (a b : Option D) : SS (W0 T hT) := ⟨[some (.scr (isD ins)), some (.int at_), some (.lst (rds.map rdD)), some (.lst (isD vs)), a, b], ()⟩
 obtain ⟨ys1, ec1, l1, py1⟩ := xO (T := T) (hT := hT) (B := B0) (hB := hB0) (n := 1) (ix := [3, 2]) (fi := (qS (qd (M.e1 lenD (eVar 2)) aNil))) (p := (qx 0)) (t := (qCmp eqD (M.e2 modI (M.e2 ixD (eVar 1) (eVar 0)) (eC (.int 3))) (eC (.int 1)))) (f := (M.e2 ixD (M.e2 ixD (eVar 2) (eVar 0)) (eC (.int 0)))) (ds := rngD 0 rds.length) (g := S none none) (I := fun g => ∃ z, g = ⟨[z, some (.lst (isD vs)), some (.lst (rds.map rdD))], ()⟩) (Pd := fun _ y => ∃ i : Int, y = .int i)
  (vv (qe (zO (qa rfl) lenE) qO) (by omega)) ⟨none, rfl⟩ (by
   rintro d hd' g ⟨z, rfl⟩
   obtain ⟨k, hk, rfl⟩ := wO hd'
   obtain ⟨r, er⟩ := it k hk
   have xk := dri hd (i := 0 + (k : Int)) (by omega) (by omega)
   refine ⟨⟨[some (.int (0 + (k : Int))), some (.lst (isD vs)), some (.lst (rds.map rdD))], ()⟩, rfl, ⟨_, rfl⟩, ?_⟩
   have tq := q_ok (T := T) (hT := hT) (B := B0) (hB := hB0) (g := ⟨[some (.int (0 + (k : Int))), some (.lst (isD vs)), some (.lst (rds.map rdD))], ()⟩) (fa := (e2 modI (e2 ixD (eVar 1) (eVar 0)) (eC (.int 3)))) (fb := eC (.int 1)) (qh (qh (qa rfl) (qa rfl) xk) c_ok (zp (by decide))) c_ok (jN _ _)
   cases hb : (gv vs (0 + (k : Int)) % 3 == 1) with
   | true => rw [hb] at tq; exact .inl ⟨tq, _, qh (qh (qa rfl) (qa rfl) er) c_ok (xf r), _, rfl⟩
   | false => rw [hb] at tq; exact .inr tq) (by rw [jl]; unfold big; omega)
 obtain ⟨kept, rfl⟩ := yc fun y hy => (py1 y hy).elim fun _ h => h.2
 obtain ⟨ys2, ec2, l2, py2⟩ := xO (T := T) (hT := hT) (B := B0) (hB := hB0) (n := 1) (ix := [3, 2]) (fi := (qS (qd (M.e1 lenD (eVar 2)) aNil))) (p := (qx 0)) (t := (qCmp eqD (M.e2 modI (M.e2 ixD (eVar 1) (M.e2 addD (eC (.int 9)) (eVar 0))) (eC (.int 5))) (eC (.int 1)))) (f := (M.e2 ixD (M.e2 ixD (eVar 2) (eVar 0)) (eC (.int 0)))) (ds := rngD 0 rds.length) (g := S (some (.lst (isD kept))) none) (I := fun g => ∃ z, g = ⟨[z, some (.lst (isD vs)), some (.lst (rds.map rdD))], ()⟩) (Pd := fun _ y => ∃ i : Int, y = .int i)
  (vv (qe (zO (qa rfl) lenE) qO) (by omega)) ⟨none, rfl⟩ (by
   rintro d hd' g ⟨z, rfl⟩
   obtain ⟨k, hk, rfl⟩ := wO hd'
   obtain ⟨r, er⟩ := it k hk
   have xk := dri hd (i := 9 + (0 + (k : Int))) (by omega) (by omega)
   refine ⟨⟨[some (.int (0 + (k : Int))), some (.lst (isD vs)), some (.lst (rds.map rdD))], ()⟩, rfl, ⟨_, rfl⟩, ?_⟩
   have tq := q_ok (T := T) (hT := hT) (B := B0) (hB := hB0) (g := ⟨[some (.int (0 + (k : Int))), some (.lst (isD vs)), some (.lst (rds.map rdD))], ()⟩) (fa := (e2 modI (e2 ixD (eVar 1) (e2 addD (eC (.int 9)) (eVar 0))) (eC (.int 5)))) (fb := eC (.int 1)) (qh (qh (qa rfl) (qh c_ok (qa rfl) zP) xk) c_ok (zp (by decide))) c_ok (jN _ _)
   cases hb : (gv vs (9 + (0 + (k : Int))) % 5 == 1) with
   | true => rw [hb] at tq; exact .inl ⟨tq, _, qh (qh (qa rfl) (qa rfl) er) c_ok (xf r), _, rfl⟩
   | false => rw [hb] at tq; exact .inr tq) (by rw [jl]; unfold big; omega)
 obtain ⟨shared, rfl⟩ := yc fun y hy => (py2 y hy).elim fun _ h => h.2
 rw [jl, zI] at l1 l2
 generalize gv vs 18 = v18 at x18
 generalize gv vs 19 = v19 at x19
 have c1 : ∃ kept2 : List Int, kept2.length <= 10 /\ sIf (qCmp eqD (e2 modI (e2 ixD (eVar 3) (eC (.int 18))) (eC (.int 2))) (eC (.int 1)))
   (sSet 4 (eRev (e2 addD (eVar 4) (eLst (qd (eC (.int 999)) aNil))) (e1 negI (eC (.int 1))))) sNil (S (some (.lst (isD kept))) (some (.lst (isD shared)))) = .nx (S (some (.lst (isD kept2))) (some (.lst (isD shared)))) := by
  have tq := q_ok (T := T) (hT := hT) (B := B0) (hB := hB0) (g := S (some (.lst (isD kept))) (some (.lst (isD shared)))) (fa := (e2 modI (e2 ixD (eVar 3) (eC (.int 18))) (eC (.int 2)))) (fb := eC (.int 1)) (qh (qh (qa rfl) c_ok x18) c_ok (zp (by decide))) c_ok (jN _ _)
  cases hb : (v18 % 2 == 1) with
  | true =>
   rw [hb] at tq
   refine ⟨(kept ++ [999]).reverse, by simp; omega, (if_t tq).trans ?_⟩
   have ea : (e2 addD (eVar 4) (eLst (qd (eC (.int 999)) aNil))) (S (some (.lst (isD kept))) (some (.lst (isD shared)))) = .ok (.lst (isD kept ++ [.int 999])) () := qh (qa rfl) (zR (qe c_ok qO) (by simp)) (add_l (by rw [zI]; simp; unfold big; omega))
   have er := J5 ea (zO (op := negI) (c_ok (d := .int 1)) rfl) rfl
   rw [show isD kept ++ [D.int 999] = isD (kept ++ [999]) from xH, show (isD (kept ++ [999])).reverse = isD (kept ++ [999]).reverse by unfold isD; rw [List.map_reverse]] at er
   exact qy er
  | false => rw [hb] at tq; exact ⟨kept, by omega, (if_f tq).trans rfl⟩
 obtain ⟨kept2, lk2, c1⟩ := c1
 have c2 : ∃ sh2 : List Int, sh2.length <= 9 /\ sIf (qCmp eqD (e2 modI (e2 ixD (eVar 3) (eC (.int 19))) (eC (.int 3))) (eC (.int 1)))
   (sSet 5 (eLst aNil)) sNil (S (some (.lst (isD kept2))) (some (.lst (isD shared)))) = .nx (S (some (.lst (isD kept2))) (some (.lst (isD sh2)))) := by
  have tq := q_ok (T := T) (hT := hT) (B := B0) (hB := hB0) (g := S (some (.lst (isD kept2))) (some (.lst (isD shared)))) (fa := (e2 modI (e2 ixD (eVar 3) (eC (.int 19))) (eC (.int 3)))) (fb := eC (.int 1)) (qh (qh (qa rfl) c_ok x19) c_ok (zp (by decide))) c_ok (jN _ _)
  cases hb : (v19 % 3 == 1) with
  | true => rw [hb] at tq; exact ⟨[], by simp, (if_t tq).trans (qy (d := .lst []) (zR qO (by decide)))⟩
  | false => rw [hb] at tq; exact ⟨shared, by omega, (if_f tq).trans rfl⟩
 obtain ⟨sh2, ls2, c2⟩ := c2
 refine ⟨kept2, sh2, zF ?_, lk2, ls2⟩
 unfold xV
 refine (qo (qy (zb (qe (qa rfl) (qe (qa rfl) (qe c_ok qO))) rfl ed))).trans ?_
 refine (qo (qy ec1)).trans ?_
 refine (qo (qy ec2)).trans ?_
 refine (qo c1).trans ?_
 refine (qo c2).trans ?_
 exact zU (jE (qe (qa rfl) (qe (qa rfl) qO)) (by simp))
end
inductive SRow (sp : Str -> Int) (rds : List Rd) (st : Str) (si : Int) : List Rd -> Rd -> Prop
 | one {d : Rd} (m : d ∈ rds) (e : d.a = st) (h : si <= d.l) : SRow sp rds st si [] d
 | snoc {p : List Rd} {e d : Rd} (r : SRow sp rds st si p e) (m : d ∈ rds) (h : hg sp e d = true) : SRow sp rds st si (p ++ [e]) d
inductive Fr (sp : Str -> Int) (rds : List Rd) (go : Str) : Rd -> List Rd -> Prop
 | fin {d : Rd} (m : d ∈ rds) (e : d.b = go) : Fr sp rds go d []
 | cons {d e : Rd} {l : List Rd} (m : d ∈ rds) (h : hg sp d e = true) (r : Fr sp rds go e l) : Fr sp rds go d (e :: l)
def AllW (sp : Str -> Int) (rds : List Rd) (st go : Str) (si : Int) (l : List Rd) : Prop := (l = [] /\ st = go) \/ ∃ d t, l = d :: t /\ Fr sp rds go d t /\ d.a = st /\ si <= d.l
section
variable {sp : Str -> Int} {rds : List Rd} {st go : Str} {si : Int}
theorem SRow.mem {p : List Rd} {e : Rd} (r : SRow sp rds st si p e) : e ∈ rds := by cases r <;> assumption
theorem Fr.mem {d : Rd} {t : List Rd} (r : Fr sp rds go d t) : d ∈ rds := by cases r <;> assumption
theorem SRow.fr {p : List Rd} {e : Rd} (r : SRow sp rds st si p e) : ∀ {t : List Rd}, Fr sp rds go e t -> ∃ d t', p ++ e :: t = d :: t' /\ Fr sp rds go d t' /\ d.a = st /\ si <= d.l := by
 induction r with
 | one m e h => intro t f; exact ⟨_, t, rfl, f, e, h⟩
 | @snoc p e d r m h ih =>
  intro t f
  obtain ⟨d', t', h1, h2⟩ := ih (.cons r.mem h f)
  exact ⟨d', t', by rw [<- h1]; simp, h2⟩
theorem Fr.srow {d : Rd} {t : List Rd} (f : Fr sp rds go d t) : ∀ {p : List Rd}, SRow sp rds st si p d -> ∃ p' e, SRow sp rds st si p' e /\ e.b = go /\ p' ++ [e] = p ++ d :: t := by
 induction f with
 | fin m e => intro p r; exact ⟨p, _, r, e, rfl⟩
 | @cons d e l m h r ih =>
  intro p r'
  obtain ⟨p', e', h1, h2, h3⟩ := ih (SRow.snoc r' r.mem h)
  exact ⟨p', e', h1, h2, by rw [h3]; simp⟩
theorem y9 {l : List Rd} (hl : l ≠ []) : AllW sp rds st go si l ↔ ∃ p e, SRow sp rds st si p e /\ e.b = go /\ l = p ++ [e] := by
 constructor
 ·rintro (⟨rfl, _⟩ | ⟨d, t, rfl, f, h1, h2⟩)
  ·exact absurd rfl hl
  ·obtain ⟨p', e, a, b, c⟩ := f.srow (SRow.one (si := si) f.mem h1 h2)
   exact ⟨p', e, a, b, by rw [c]; rfl⟩
 ·rintro ⟨p, e, r, hb, rfl⟩
  obtain ⟨d, t, a, b, c⟩ := r.fr (.fin r.mem hb)
  exact .inr ⟨d, t, a, b, c⟩
theorem JJ (G : Good sp rds) {d : Rd} (hd : d ∈ rds) : potS rds (rds.filter (hg sp d)) + 1 <= pot rds d := by
 have h1 : (rds.filter (hg sp d)).length <= rank rds d := by
  rw [<- List.countP_eq_length_filter]
  unfold rank
  exact List.countP_mono_left fun e _ h => decide_eq_true (JE G hd h)
 have h2 : ∀ (l : List Rd), (∀ e ∈ l, e ∈ rds /\ d.l < e.l) -> potS rds l <= l.length * fct (rank rds d) := by
  intro l
  induction l with
  | nil => intro _; exact Nat.zero_le _
  | cons e l ih =>
   intro h
   have a := ih fun e he => h e (List.mem_cons_of_mem _ he)
   have b := KN (h e (List.mem_cons_self ..)).1 (h e (List.mem_cons_self ..)).2
   show pot rds e + potS rds l <= (l.length + 1) * _
   rw [Nat.succ_mul]
   omega
 have h3 := h2 (rds.filter (hg sp d)) fun e he => ⟨(List.mem_filter.mp he).1, JE G hd (List.mem_filter.mp he).2⟩
 have h4 := Nat.mul_le_mul_right (fct (rank rds d)) h1
 have h5 := QP (rds := rds) (d := d)
 omega
end
def rwD (p : List Rd × Rd) : D := .lst ((p.1 ++ [p.2]).map rdD)
def rowD (l : List Rd) : D := .lst (l.map rdD)
theorem Zu {xs : List D} {x : D} : ixD (.lst (xs ++ [x])) (.int (-1)) = some x := by
 show atI (xs ++ [x]) (-1) = some x
 unfold atI ixN
 have e1 : ¬ (0 <= (-1 : Int)) := by decide
 have e2 : -(((xs ++ [x]).length : Nat) : Int) <= -1 := by simp; omega
 rw [if_neg e1, if_pos e2]
 have e3 : ((-1 : Int) + ((xs ++ [x]).length : Nat)).toNat = xs.length := by simp; omega
 simp only [Option.bind_some, e3]
 simp
theorem wN (p : List Rd × Rd) : ixD (rwD p) (.int (-1)) = some (rdD p.2) := by
 unfold rwD
 rw [List.map_append]
 exact Zu
theorem neg1 : negI (.int 1) = some (.int (-1)) := rfl
section
variable (T : Hp -> Prop) (hT : HTb T)
theorem xm {sp : Str -> Int} {kvs : List (Key × D)} {rds : List Rd} (G : Wk sp kvs rds) (h9 : rds.length <= 9) (st go : Str) (si : Int) : ∃ rows : List (List Rd), yr T hT [.lst (rds.map rdD), .dic kvs, .str st, .str go, .int si] = some (.lst (rows.map rowD)) /\ (∀ l, l ∈ rows ↔ AllW sp rds st go si l) /\ rows.length <= 3300000 /\ ∀ l ∈ rows, l.length <= 9 := by
 let S (Rs : List (List Rd × Rd)) (at_ f r : Option D) : SS (W0 T hT) := ⟨[some (.lst (rds.map rdD)), some (.dic kvs), some (.str st), some (.str go), some (.int si), some (.lst (Rs.map rwD)), at_, f, r], ()⟩
 have c1 := zJ (T := T) (hT := hT) (B := B0) (hB := hB0) (emb := rdD) (n := 1) (ix := [4, 2]) (fi := (iSeq (eVar 0))) (p := (qx 0)) (t := (qAnd (qCmp eqD (M.e2 ixD (eVar 0) (eC (.int 1))) (eVar 2)) (qCmp geI (M.e2 ixD (eVar 0) (eC (.int 3))) (eVar 1)))) (f := (eLst (qd (eVar 0) aNil))) (xs := rds) (g := ⟨[some (.lst (rds.map rdD)), some (.dic kvs), some (.str st), some (.str go), some (.int si), none, none, none, none], ()⟩)
  (I := fun g => ∃ z, g = ⟨[z, some (.int si), some (.str st)], ()⟩) (sel := fun d => decide (d.a = st /\ si <= d.l)) (out := fun d => rwD ([], d)) (jn (qa rfl) rfl) ⟨none, rfl⟩ (by
   rintro d hd g ⟨z, rfl⟩
   refine ⟨⟨[some (rdD d), some (.int si), some (.str st)], ()⟩, rfl, ⟨_, rfl⟩, ?_, fun _ => zR (qe (qa rfl) qO) (by simp)⟩
   have t1 := q_ok (T := T) (hT := hT) (B := B0) (hB := hB0) (g := ⟨[some (rdD d), some (.int si), some (.str st)], ()⟩) (fa := e2 ixD (eVar 0) (eC (.int 1))) (fb := eVar 2) (qh (qa rfl) c_ok (xc d)) (qa rfl) (jm _ _)
   have t2 := q_ok (T := T) (hT := hT) (B := B0) (hB := hB0) (g := ⟨[some (rdD d), some (.int si), some (.str st)], ()⟩) (fa := e2 ixD (eVar 0) (eC (.int 3))) (fb := eVar 1) (qh (qa rfl) c_ok (wx d)) (qa rfl) ge_i
   by_cases h1 : d.a = st
   ·rw [show (d.a == st) = true by simp [h1]] at t1
    exact ok_c (Qn t1 t2) (by simp [h1])
   ·rw [show (d.a == st) = false by simp [h1]] at t1
    exact ok_c (JU t1) (by simp [h1])) (by unfold big; omega)
 have e0 : ((rds.filter fun d => decide (d.a = st /\ si <= d.l)).map fun d => rwD ([], d)) = ((rds.filter fun d => decide (d.a = st /\ si <= d.l)).map fun d => (([], d) : List Rd × Rd)).map rwD := by rw [List.map_map]; rfl
 rw [e0] at c1
 generalize hR0 : (rds.filter fun d => decide (d.a = st /\ si <= d.l)).map (fun d => (([], d) : List Rd × Rd)) = R0 at c1
 obtain ⟨g1, ew, Rs, rr, all, fst, nxt, lr, rfl⟩ := vp (T := T) (hT := hT) (B := B0) (hB := hB0) (t := (qCmp ltI (eVar 6) (M.e1 lenD (eVar 5)))) (h := (sSeq (sFor (iSeq (eVar 0)) (qx 8) (sIf (qTru (qX 3 (kS T hT) (qd (M.e2 ixD (M.e2 ixD (eVar 5) (eVar 6)) (M.e1 negI (eC (.int 1)))) (qd (eVar 8) (qd (eVar 1) aNil))))) (sApp 5 (M.e2 addD (M.e2 ixD (eVar 5) (eVar 6)) (eLst (qd (eVar 8) aNil)))) sNil)) (sAug 6 addI (eC (.int 1)))))
  (I := fun n g => ∃ (Rs : List (List Rd × Rd)) (at_ : Nat) (r : Option D), at_ <= Rs.length /\ (∀ p ∈ Rs, SRow sp rds st si p.1 p.2 /\ p.1.length + 1 + rank rds p.2 <= rds.length) /\ (∀ d ∈ rds, d.a = st -> si <= d.l -> ([], d) ∈ Rs) /\ (∀ i, i < at_ -> ∀ p, Rs[i]? = some p -> ∀ d ∈ rds, hg sp p.2 d = true -> (p.1 ++ [p.2], d) ∈ Rs) /\ at_ + potS rds ((Rs.drop at_).map (·.2)) <= 3265920 /\ n = 3265920 - at_ /\ g = S Rs (some (.int at_)) none r)
  (Post := fun g => ∃ (Rs : List (List Rd × Rd)) (r : Option D), (∀ p ∈ Rs, SRow sp rds st si p.1 p.2 /\ p.1.length + 1 + rank rds p.2 <= rds.length) /\ (∀ d ∈ rds, d.a = st -> si <= d.l -> ([], d) ∈ Rs) /\ (∀ p ∈ Rs, ∀ d ∈ rds, hg sp p.2 d = true -> (p.1 ++ [p.2], d) ∈ Rs) /\ Rs.length <= 3265920 /\ g = S Rs (some (.int Rs.length)) none r)
  (n := 3265920) (g := S R0 (some (.int 0)) none none) (by
   refine ⟨R0, 0, none, Nat.zero_le _, ?_, ?_, fun i hi => absurd hi (Nat.not_lt_zero _), ?_, rfl, rfl⟩
   ·intro p hp
    rw [<- hR0] at hp
    obtain ⟨d, hd, rfl⟩ := List.mem_map.mp hp
    obtain ⟨h1, h2⟩ := List.mem_filter.mp hd
    have h3 := of_decide_eq_true h2
    exact ⟨.one h1 h3.1 h3.2, by have := yC h1; simp; omega⟩
   ·intro d hd h1 h2
    rw [<- hR0]
    exact List.mem_map.mpr ⟨d, List.mem_filter.mpr ⟨hd, decide_eq_true ⟨h1, h2⟩⟩, rfl⟩
   ·rw [List.drop_zero, <- hR0, List.map_map]
    have h1 := QR h9 (l := ((rds.filter fun d => decide (d.a = st /\ si <= d.l)).map ((fun (x : List Rd × Rd) => x.2) ∘ fun d => ([], d)))) (by
     intro d hd
     obtain ⟨d', h1, rfl⟩ := List.mem_map.mp hd
     exact (List.mem_filter.mp h1).1)
    rw [List.length_map] at h1
    have h2 := List.length_filter_le (fun d : Rd => decide (d.a = st /\ si <= d.l)) rds
    omega) (by unfold ye; omega) (by
   rintro n g ⟨Rs, at_, r, hat, all, fst, nxt, pt, hn, rfl⟩
   have tq : (qCmp ltI (eVar 6) (M.e1 lenD (eVar 5))) (S Rs (some (.int at_)) none r) = .ok (decide ((at_ : Int) < Rs.length)) () := q_ok (qa rfl) (zO (qa rfl) (by rw [kr, List.length_map])) lt_i
   by_cases hlt : at_ < Rs.length
   ·right
    obtain ⟨p, hp⟩ : ∃ p, Rs[at_]? = some p := ⟨_, List.getElem?_eq_getElem hlt⟩
    have hpm := List.mem_of_getElem? hp
    obtain ⟨sr, ln⟩ := all p hpm
    have hpr : p.2 ∈ rds := sr.mem
    have ed : Rs.drop at_ = p :: Rs.drop (at_ + 1) := by
     obtain ⟨h1, h2⟩ := List.getElem?_eq_some_iff.mp hp
     rw [<- h2]
     exact List.drop_eq_getElem_cons h1
    have ptl : Rs.length - at_ <= potS rds ((Rs.drop at_).map (·.2)) := by
     have := xA (rds := rds) ((Rs.drop at_).map (·.2))
     rw [List.length_map, List.length_drop] at this
     exact this
    have fp := JJ G.toGood hpr
    have hfl := xA (rds := rds) (rds.filter (hg sp p.2))
    obtain ⟨g2, ef, ⟨r2, rfl⟩⟩ := jv (T := T) (hT := hT) (B := B0) (hB := hB0) (emb := rdD) (p := qx 8) (h := (sIf (qTru (qX 3 (kS T hT) (qd (M.e2 ixD (M.e2 ixD (eVar 5) (eVar 6)) (M.e1 negI (eC (.int 1)))) (qd (eVar 8) (qd (eVar 1) aNil))))) (sApp 5 (M.e2 addD (M.e2 ixD (eVar 5) (eVar 6)) (eLst (qd (eVar 8) aNil)))) sNil)) (xs := rds) (g := S Rs (some (.int at_)) none r)
     (I := fun dn g => ∃ r, g = S (Rs ++ (dn.filter (hg sp p.2)).map fun e => (p.1 ++ [p.2], e)) (some (.int at_)) none r) ⟨r, by simp⟩ (by
      rintro dn d g ⟨post, hpost⟩ ⟨r3, rfl⟩
      have hdm : d ∈ rds := by rw [hpost]; simp
      generalize hEx : (dn.filter (hg sp p.2)).map (fun e => ((p.1 ++ [p.2], e) : List Rd × Rd)) = Ex
      have hExl : Ex.length <= rds.length := by
       rw [<- hEx, List.length_map]
       have := List.length_filter_le (hg sp p.2) dn
       have h2 := congrArg List.length hpost
       simp at h2
       omega
      have ei : ixD (.lst ((Rs ++ Ex).map rwD)) (.int at_) = some (rwD p) := by
       rw [ix_l, List.getElem?_map, List.getElem?_append_left hlt, hp]
       rfl
      have eh := Jw T hT (e := p.2) (d := d) (G.sps _ hpr)
      have tt : qTru (qX 3 (kS T hT) (qd (e2 ixD (e2 ixD (eVar 5) (eVar 6)) (e1 negI (eC (.int 1)))) (qd (eVar 8) (qd (eVar 1) aNil)))) (S (Rs ++ Ex) (some (.int at_)) none (some (rdD d))) = .ok (hg sp p.2 d) () := jy (zb (qe (qh (qh (qa rfl) (qa rfl) ei) (zO c_ok neg1) (wN p)) (qe (qa rfl) (qe (qa rfl) qO))) rfl eh) rfl
      refine ⟨S (Rs ++ Ex) (some (.int at_)) none (some (rdD d)), S (Rs ++ ((dn ++ [d]).filter (hg sp p.2)).map fun e => (p.1 ++ [p.2], e)) (some (.int at_)) none (some (rdD d)), rfl, ?_, _, rfl⟩
      rw [List.filter_append, List.map_append, hEx]
      cases hh : hg sp p.2 d with
      | false =>
       rw [hh] at tt
       refine (if_f tt).trans ?_
       simp [hh]
       rfl
      | true =>
       rw [hh] at tt
       refine (if_t tt).trans ?_
       refine (j7 (ds := (Rs ++ Ex).map rwD) (y := rwD (p.1 ++ [p.2], d)) rfl (j6 (qh (qh (qa rfl) (qa rfl) ei) (zR (qe (qa rfl) qO) (by simp)) (add_l (by rw [List.length_map, List.length_append]; simp; unfold big; omega))) (by unfold rwD; simp)) (by rw [List.length_map, List.length_append]; unfold big; omega)).trans ?_
       have e5 : (Rs ++ Ex).map rwD ++ [rwD (p.1 ++ [p.2], d)] = (Rs ++ (Ex ++ [(p.1 ++ [p.2], d)])).map rwD := by simp
       have e6 : ([d].filter (hg sp p.2)).map (fun e => ((p.1 ++ [p.2], e) : List Rd × Rd)) = [(p.1 ++ [p.2], d)] := by simp [hh]
       rw [e5, e6]
       rfl)
    generalize hEx : (rds.filter (hg sp p.2)).map (fun e => ((p.1 ++ [p.2], e) : List Rd × Rd)) = Ex at ef
    have hExl : Ex.length = (rds.filter (hg sp p.2)).length := by rw [<- hEx, List.length_map]
    refine ⟨ok_t tq (by omega), S (Rs ++ Ex) (some (.int ((at_ + 1 : Nat) : Int))) none r2, 3265920 - (at_ + 1), ?_, by omega, Rs ++ Ex, at_ + 1, r2, ?_, ?_, ?_, ?_, ?_, rfl, rfl⟩
    ·refine (qo (jJ (jn (qa rfl) rfl) ef)).trans ?_
     exact yZ (v := .int 1) c_ok rfl rfl
    ·rw [List.length_append]; omega
    ·intro q hq
     rcases List.mem_append.mp hq with hq | hq
     ·exact all q hq
     ·rw [<- hEx] at hq
      obtain ⟨e, he, rfl⟩ := List.mem_map.mp hq
      obtain ⟨h1, h2⟩ := List.mem_filter.mp he
      refine ⟨.snoc sr h1 h2, ?_⟩
      have := QI h1 (JE G.toGood hpr h2)
      simp
      omega
    ·intro d hd h1 h2
     exact List.mem_append_left _ (fst d hd h1 h2)
    ·intro i hi q hq d hd hh
     by_cases hi2 : i < at_
     ·rw [List.getElem?_append_left (by omega)] at hq
      exact List.mem_append_left _ (nxt i hi2 q hq d hd hh)
     ·have : i = at_ := by omega
      subst this
      rw [List.getElem?_append_left hlt, hp] at hq
      cases hq
      refine List.mem_append_right _ ?_
      rw [<- hEx]
      exact List.mem_map.mpr ⟨d, List.mem_filter.mpr ⟨hd, hh⟩, rfl⟩
    ·rw [List.drop_append_of_le_length hlt, List.map_append, Jf]
     have e6 : Ex.map (·.2) = rds.filter (hg sp p.2) := by rw [<- hEx, List.map_map]; simp [Function.comp_def]
     rw [e6]
     rw [ed, List.map_cons] at pt
     have e7 : potS rds (p.2 :: (Rs.drop (at_ + 1)).map (·.2)) = pot rds p.2 + potS rds ((Rs.drop (at_ + 1)).map (·.2)) := rfl
     rw [e7] at pt
     generalize potS rds ((Rs.drop (at_ + 1)).map (·.2)) = Z at pt ⊢
     generalize potS rds (rds.filter (hg sp p.2)) = Y at fp ⊢
     show at_ + 1 + (Z + Y) <= 3265920
     omega
   ·left
    have hEq : at_ = Rs.length := by omega
    subst hEq
    refine ⟨ok_f tq (by omega), Rs, r, all, fst, fun p hp d hd hh => ?_, by omega, rfl⟩
    obtain ⟨i, hi⟩ := List.mem_iff_getElem?.mp hp
    exact nxt i (List.getElem?_eq_some_iff.mp hi).1 p hi d hd hh)
 have comp : ∀ {p : List Rd} {e : Rd}, SRow sp rds st si p e -> (p, e) ∈ Rs := by
  intro p e r
  induction r with
  | one m e h => exact fst _ m e h
  | snoc r m h ih => exact nxt _ ih _ m h
 have c2 := zJ (T := T) (hT := hT) (B := B0) (hB := hB0) (emb := rwD) (n := 1) (ix := [3]) (fi := (iLst (eVar 5))) (p := (qx 0)) (t := (qCmp eqD (M.e2 ixD (M.e2 ixD (eVar 0) (M.e1 negI (eC (.int 1)))) (eC (.int 2))) (eVar 1))) (f := (eVar 0)) (xs := Rs) (g := S Rs (some (.int Rs.length)) none rr)
  (I := fun g => ∃ z, g = ⟨[z, some (.str go)], ()⟩) (sel := fun p => decide (p.2.b = go)) (out := rwD) (Kh (qa rfl)) ⟨none, rfl⟩ (by
   rintro p hp g ⟨z, rfl⟩
   refine ⟨⟨[some (rwD p), some (.str go)], ()⟩, rfl, ⟨_, rfl⟩, ?_, fun _ => qa rfl⟩
   have t1 := q_ok (T := T) (hT := hT) (B := B0) (hB := hB0) (g := ⟨[some (rwD p), some (.str go)], ()⟩) (fa := (e2 ixD (e2 ixD (eVar 0) (e1 negI (eC (.int 1)))) (eC (.int 2)))) (fb := eVar 1) (qh (qh (qa rfl) (zO c_ok neg1) (wN p)) c_ok (vG _)) (qa rfl) (jm _ _)
   exact ok_c t1 (by by_cases h : p.2.b = go <;> simp [h])) (by unfold big; omega)
 have er : ((Rs.filter fun p => decide (p.2.b = go)).map rwD) = ((Rs.filter fun p => decide (p.2.b = go)).map fun p => p.1 ++ [p.2]).map rowD := by rw [List.map_map]; rfl
 rw [er] at c2
 generalize hF : (Rs.filter fun p => decide (p.2.b = go)).map (fun p => p.1 ++ [p.2]) = F at c2
 have memF : ∀ l, l ∈ F ↔ ∃ p e, SRow sp rds st si p e /\ e.b = go /\ l = p ++ [e] := by
  intro l
  rw [<- hF]
  constructor
  ·intro h
   obtain ⟨p, hp, rfl⟩ := List.mem_map.mp h
   obtain ⟨h1, h2⟩ := List.mem_filter.mp hp
   exact ⟨p.1, p.2, (all p h1).1, of_decide_eq_true h2, rfl⟩
  ·rintro ⟨p, e, h1, h2, rfl⟩
   exact List.mem_map.mpr ⟨(p, e), List.mem_filter.mpr ⟨comp h1, decide_eq_true h2⟩, rfl⟩
 have neF : ∀ l ∈ F, l ≠ [] := fun l hl => by
  obtain ⟨p, e, _, _, rfl⟩ := (memF l).mp hl
  simp
 have lenF : F.length <= 3265920 := by
  rw [<- hF, List.length_map]
  exact Nat.le_trans (List.length_filter_le _ _) lr
 have l9F : ∀ l ∈ F, l.length <= 9 := fun l hl => by
  rw [<- hF] at hl
  obtain ⟨p, hp, rfl⟩ := List.mem_map.mp hl
  have := (all p (List.mem_filter.mp hp).1).2
  simp
  omega
 unfold yr ZU
 have tq := q_ok (T := T) (hT := hT) (B := B0) (hB := hB0) (g := S Rs (some (.int Rs.length)) (some (.lst (F.map rowD))) rr) (fa := eVar 2) (fb := eVar 3) (qa rfl) (qa rfl) (jm _ _)
 by_cases hsg : st = go
 ·rw [show (st == go) = true by simp [hsg]] at tq
  refine ⟨F ++ [[]], zF ?_, ?_, by simp; omega, ?_⟩
  ·refine (qo (qy c1)).trans ?_
   refine (qo (qy (c_ok (d := .int 0)))).trans ?_
   refine (qo ew).trans ?_
   refine (qo (qy c2)).trans ?_
   refine (qo ((if_t tq).trans (j7 (ds := F.map rowD) (y := .lst []) rfl (zR qO (by decide)) (by rw [List.length_map]; unfold big; omega)))).trans ?_
   exact zU (j6 (qa rfl) (by rw [List.map_append]; rfl))
  ·intro l
   rw [List.mem_append, List.mem_singleton]
   by_cases hl : l = []
   ·subst hl
    exact ⟨fun _ => .inl ⟨rfl, hsg⟩, fun _ => .inr rfl⟩
   ·rw [y9 hl, <- memF]
    exact ⟨fun h => h.elim id fun z => absurd z hl, .inl⟩
  ·intro l hl
   rcases List.mem_append.mp hl with hl | hl
   ·exact l9F l hl
   ·rw [List.mem_singleton.mp hl]; simp
 ·rw [show (st == go) = false by simp [hsg]] at tq
  refine ⟨F, zF ?_, ?_, by omega, l9F⟩
  ·refine (qo (qy c1)).trans ?_
   refine (qo (qy (c_ok (d := .int 0)))).trans ?_
   refine (qo ew).trans ?_
   refine (qo (qy c2)).trans ?_
   refine (qo ((if_f tq).trans rfl)).trans ?_
   exact zU (qa rfl)
  ·intro l
   by_cases hl : l = []
   ·subst hl
    exact ⟨fun h => absurd rfl (neF _ h), fun h => h.elim (fun z => absurd z.2 hsg) fun ⟨d, t, z, _⟩ => by cases z⟩
   ·rw [y9 hl, <- memF]
end
structure Wt where
 s : Int
 u : Int
 c : Int
 m : Int
 ns : List Int
def Wt.key (w : Wt) : List Int := w.s :: w.u :: w.c :: w.m :: w.ns
def wtD (w : Wt) : D := .tup [.int w.s, .int w.u, .int w.c, .int w.m, .lst (isD w.ns)]
theorem Wt.ext' {a b : Wt} (h : a.key = b.key) : a = b := by
 cases a; cases b
 unfold Wt.key at h
 simp at h
 obtain ⟨rfl, rfl, rfl, rfl, rfl⟩ := h
 rfl
theorem wK {n : Nat} : ∀ {xs ys : List Int}, xs.length = ys.length -> allE (eqN (n + 1)) (isD xs) (isD ys) = some (decide (xs = ys))
 | [], [], _ => rfl
 | x :: xs, y :: ys, h => by
  have ih := wK (n := n) (xs := xs) (ys := ys) (by simpa using h)
  show (match eqN (n + 1) (.int x) (.int y), allE (eqN (n + 1)) (isD xs) (isD ys) with | some b, some r => some (b && r) | _, _ => none) = _
  rw [ih, show eqN (n + 1) (.int x) (.int y) = some (x == y) from rfl]
  by_cases h1 : x = y <;> by_cases h2 : xs = ys <;> simp [h1, h2]
 | [], _ :: _, h => by simp at h
 | _ :: _, [], h => by simp at h
theorem JK {n : Nat} {xs ys : List Int} : eqN (n + 2) (.lst (isD xs)) (.lst (isD ys)) = some (decide (xs = ys)) := by
 show (if (isD xs).length = (isD ys).length then allE (eqN (n + 1)) (isD xs) (isD ys) else some false) = _
 rw [zI, zI]
 by_cases h : xs.length = ys.length
 ·rw [if_pos h, wK h]
 ·rw [if_neg h]
  have : ¬ xs = ys := fun z => h (by rw [z])
  simp [this]
theorem wl {n : Nat} : ∀ {xs ys : List Int}, ordL true (eqN (n + 1)) (ordN true (n + 1)) (isD xs) (isD ys) = some (decide (xs < ys))
 | [], [] => rfl
 | [], y :: ys => rfl
 | x :: xs, [] => rfl
 | x :: xs, y :: ys => by
  have ih := wl (n := n) (xs := xs) (ys := ys)
  show (match eqN (n + 1) (.int x) (.int y) with | some true => ordL true (eqN (n + 1)) (ordN true (n + 1)) (isD xs) (isD ys) | some false => ordN true (n + 1) (.int x) (.int y) | none => none) = _
  rw [ih, show eqN (n + 1) (.int x) (.int y) = some (x == y) from rfl, show ordN true (n + 1) (.int x) (.int y) = some (decide (x < y)) from rfl]
  by_cases h1 : x = y
  ·subst h1
   simp [List.cons_lt_cons_iff]
  ·have : (x == y) = false := by simp [h1]
   rw [this]
   simp [List.cons_lt_cons_iff, h1]
theorem vl {n : Nat} {x y : Int} {xs ys : List D} {b : Bool} (h : ordL true (eqN (n + 1)) (ordN true (n + 1)) xs ys = some b) : ordL true (eqN (n + 1)) (ordN true (n + 1)) (.int x :: xs) (.int y :: ys) = some (if x = y then b else decide (x < y)) := by
 show (match eqN (n + 1) (.int x) (.int y) with | some true => ordL true (eqN (n + 1)) (ordN true (n + 1)) xs ys | some false => ordN true (n + 1) (.int x) (.int y) | none => none) = _
 rw [h, show eqN (n + 1) (.int x) (.int y) = some (x == y) from rfl, show ordN true (n + 1) (.int x) (.int y) = some (decide (x < y)) from rfl]
 by_cases h1 : x = y
 ·subst h1; simp
 ·have : (x == y) = false := by simp [h1]
  rw [this]; simp [h1]
theorem Kd (a b : Wt) : ordN true deep (wtD a) (wtD b) = some (decide (a.key < b.key)) := by
 show ordL true (eqN 29) (ordN true 29) [.int a.s, .int a.u, .int a.c, .int a.m, .lst (isD a.ns)] [.int b.s, .int b.u, .int b.c, .int b.m, .lst (isD b.ns)] = _
 have h0 : ordL true (eqN 29) (ordN true 29) [.lst (isD a.ns)] [.lst (isD b.ns)] = some (decide (a.ns < b.ns)) := by
  show (match eqN 29 (.lst (isD a.ns)) (.lst (isD b.ns)) with | some true => ordL true (eqN 29) (ordN true 29) [] [] | some false => ordN true 29 (.lst (isD a.ns)) (.lst (isD b.ns)) | none => none) = _
  rw [show eqN 29 (.lst (isD a.ns)) (.lst (isD b.ns)) = some (decide (a.ns = b.ns)) from JK, show ordN true 29 (.lst (isD a.ns)) (.lst (isD b.ns)) = some (decide (a.ns < b.ns)) from wl (n := 27)]
  by_cases h : a.ns = b.ns
  ·rw [h]
   have := List.lt_irrefl b.ns
   simp [this]
   rfl
  ·simp [h]
 rw [vl (n := 28) (vl (n := 28) (vl (n := 28) (vl (n := 28) h0)))]
 unfold Wt.key
 congr 1
 simp only [List.cons_lt_cons_iff]
 by_cases h1 : a.s = b.s <;> by_cases h2 : a.u = b.u <;> by_cases h3 : a.c = b.c <;> by_cases h4 : a.m = b.m <;> simp [h1, h2, h3, h4]
theorem ZT (ws : List Wt) : ∀ k, k < ws.length -> ∃ j w, xR true (ws.map wtD) k = some j /\ ws[j]? = some w /\ j <= k /\ ∀ i, i <= k -> ∀ x, ws[i]? = some x -> ¬ x.key < w.key
 | 0, h => ⟨0, ws[0], rfl, List.getElem?_eq_getElem h, Nat.le_refl _, fun i hi x hx => by
  have : i = 0 := by omega
  subst this
  rw [List.getElem?_eq_getElem h] at hx
  cases hx
  exact List.lt_irrefl _⟩
 | k + 1, h => by
  obtain ⟨j, w, e, hj, lj, q⟩ := ZT ws k (by omega)
  have h1 : (ws.map wtD)[k + 1]? = some (wtD ws[k + 1]) := by rw [List.getElem?_map, List.getElem?_eq_getElem h]; rfl
  have h2 : (ws.map wtD)[j]? = some (wtD w) := by rw [List.getElem?_map, hj]; rfl
  have e2 : xR true (ws.map wtD) (k + 1) = if ws[k + 1].key < w.key then some (k + 1) else some j := by
   show (match xR true (ws.map wtD) k with | none => none | some j => match (ws.map wtD)[k + 1]?, (ws.map wtD)[j]? with | some d, some e => (match ordN true deep d e with | some true => some (k + 1) | some false => some j | none => none) | _, _ => none) = _
   rw [e]
   simp only []
   rw [h1, h2]
   simp only []
   rw [Kd]
   by_cases hk : ws[k + 1].key < w.key <;> simp [hk]
  by_cases hk : ws[k + 1].key < w.key
  ·rw [if_pos hk] at e2
   refine ⟨k + 1, ws[k + 1], e2, List.getElem?_eq_getElem h, Nat.le_refl _, fun i hi x hx => ?_⟩
   by_cases hi2 : i = k + 1
   ·subst hi2
    rw [List.getElem?_eq_getElem h] at hx
    cases hx
    exact List.lt_irrefl _
   ·exact fun z => q i (by omega) x hx (List.lt_trans z hk)
  ·rw [if_neg hk] at e2
   refine ⟨j, w, e2, hj, by omega, fun i hi x hx => ?_⟩
   by_cases hi2 : i = k + 1
   ·subst hi2
    rw [List.getElem?_eq_getElem h] at hx
    cases hx
    exact hk
   ·exact q i (by omega) x hx
theorem Zj {ws : List Wt} (h : ws ≠ []) : ∃ w, w ∈ ws /\ minO true (.lst (ws.map wtD)) = some (wtD w) /\ ∀ x ∈ ws, ¬ x.key < w.key := by
 have hl : 0 < ws.length := List.length_pos_iff.mpr h
 obtain ⟨j, w, e, hj, lj, q⟩ := ZT ws (ws.length - 1) (by omega)
 refine ⟨w, List.mem_of_getElem? hj, ?_, fun x hx => ?_⟩
 ·show (if ((ws.map wtD).all fun d => (ws.map wtD).all fun e => (ordN true deep d e).isSome) = true then minD true (ws.map wtD) else none) = _
  rw [if_pos]
  ·unfold minD
   rw [if_neg (by rw [List.isEmpty_iff]; simpa using h), List.length_map, e]
   show (ws.map wtD)[j]? = _
   rw [List.getElem?_map, hj]
   rfl
  ·rw [List.all_eq_true]
   intro d hd
   rw [List.all_eq_true]
   intro e he
   obtain ⟨a, _, rfl⟩ := List.mem_map.mp hd
   obtain ⟨b, _, rfl⟩ := List.mem_map.mp he
   rw [Kd]
   rfl
 ·obtain ⟨i, hi⟩ := List.mem_iff_getElem?.mp hx
  have := (List.getElem?_eq_some_iff.mp hi).1
  exact q i (by omega) x hi
def jC (c : Int) : Wt := ⟨0, 0, c, 0, []⟩
def jB (kept shared : List Int) (n : Int) (w : Wt) : Wt := ⟨w.s - (if n ∈ shared then 1 else 0), w.u + (if n ∈ kept then 0 else 1), w.c, w.m + 1, n :: w.ns⟩
theorem yw {kept shared : List Int} {n : Int} {a b : Wt} : (jB kept shared n a).key < (jB kept shared n b).key ↔ a.key < b.key := by
 unfold jB Wt.key
 simp only [List.cons_lt_cons_iff]
 generalize (if n ∈ shared then (1 : Int) else 0) = x
 generalize (if n ∈ kept then (0 : Int) else 1) = y
 have h1 : a.s - x < b.s - x ↔ a.s < b.s := by omega
 have h2 : a.s - x = b.s - x ↔ a.s = b.s := by omega
 have h3 : a.u + y < b.u + y ↔ a.u < b.u := by omega
 have h4 : a.u + y = b.u + y ↔ a.u = b.u := by omega
 have h5 : a.m + 1 < b.m + 1 ↔ a.m < b.m := by omega
 have h6 : a.m + 1 = b.m + 1 ↔ a.m = b.m := by omega
 rw [h1, h2, h3, h4, h5, h6]
 simp
def wRow (kept shared : List Int) : Rd -> List Rd -> Wt
 | d, [] => jB kept shared d.n (jC d.c)
 | d, e :: t => jB kept shared d.n (wRow kept shared e t)
def wAll (kept shared : List Int) (si : Int) : List Rd -> Wt
 | [] => jC si
 | d :: t => wRow kept shared d t
def kc (si : Int) (l : List Rd) : Int := match l.getLast? with | some d => d.c | none => si
def wLaw (kept shared : List Int) (si : Int) (l : List Rd) : Wt := ⟨0 - ((l.map (·.n)).filter (fun n => decide (n ∈ shared))).length, ((l.map (·.n)).filter (fun n => decide (n ∉ kept))).length, kc si l, l.length, l.map (·.n)⟩
theorem yx {kept shared : List Int} {si : Int} : ∀ {d : Rd} {t : List Rd}, wRow kept shared d t = wLaw kept shared si (d :: t)
 | d, [] => by
  unfold wRow jB jC wLaw kc
  by_cases h1 : d.n ∈ shared <;> by_cases h2 : d.n ∈ kept <;> simp [h1, h2]
 | d, e :: t => by
  unfold wRow
  rw [yx (si := si) (d := e) (t := t)]
  unfold jB wLaw kc
  by_cases h1 : d.n ∈ shared <;> by_cases h2 : d.n ∈ kept <;> simp [h1, h2] <;> omega
theorem jQ {kept shared : List Int} {si : Int} (l : List Rd) : wAll kept shared si l = wLaw kept shared si l := by
 cases l with
 | nil => rfl
 | cons d t => exact yx
def Best (kept shared : List Int) (si : Int) (P : List Rd -> Prop) (o : Option (List Int)) : Prop := (o = none /\ ∀ l, ¬ P l) \/ ∃ l, P l /\ o = some (wAll kept shared si l).ns /\ ∀ l', P l' -> ¬ (wAll kept shared si l').key < (wAll kept shared si l).key
theorem Best.uniq {kept shared : List Int} {si : Int} {P : List Rd -> Prop} {o o' : Option (List Int)} (h : Best kept shared si P o) (h' : Best kept shared si P o') : o = o' := by
 rcases h with ⟨rfl, h⟩ | ⟨l, hl, rfl, hm⟩
 ·rcases h' with ⟨rfl, _⟩ | ⟨l', hl', _⟩
  ·rfl
  ·exact absurd hl' (h l')
 ·rcases h' with ⟨_, h'⟩ | ⟨l', hl', rfl, hm'⟩
  ·exact absurd hl (h' l)
  ·have e := Wt.ext' (List.le_antisymm (List.not_lt.mp (hm l' hl')) (List.not_lt.mp (hm' l hl)))
   rw [e]
theorem any_ints {n : Int} : ∀ {xs : List Int}, anyE (fun d => eqN deep d (.int n)) (isD xs) = some (decide (n ∈ xs))
 | [] => rfl
 | x :: xs => by
  have ih := any_ints (n := n) (xs := xs)
  show anyE (fun d => eqN deep d (.int n)) (.int x :: isD xs) = _
  unfold anyE
  rw [show eqN deep (.int x) (.int n) = some (x == n) from rfl]
  by_cases h : x = n
  ·subst h; simp [ih]
  ·have h' : ¬ n = x := fun z => h z.symm
   have : (x == n) = false := by simp [h]
   rw [this]
   simp [ih, h']
theorem yd {n : Int} {xs : List Int} : inO (.int n) (.lst (isD xs)) = some (.bl (decide (n ∈ xs))) := by
 show (anyE (fun d => eqN deep d (.int n)) (isD xs)).map D.bl = _
 rw [any_ints]
 rfl
theorem xF {n : Int} {xs : List Int} : ninO (.int n) (.lst (isD xs)) = some (.bl (decide (n ∉ xs))) := by
 show (anyE (fun d => eqN deep d (.int n)) (isD xs)).map (fun b => D.bl (!b)) = _
 rw [any_ints]
 by_cases h : n ∈ xs <;> simp [h]
theorem Kj (w : Wt) : ixD (wtD w) (.int 4) = some (.lst (isD w.ns)) := rfl
def optD : Option (List Int) -> D
 | none => .non
 | some ns => .lst (isD ns)
section
variable (T : Hp -> Prop) (hT : HTb T)
theorem yt (c : Int) : qU T hT [.int c] = some (wtD (jC c)) := by
 refine zF ?_
 unfold jf
 exact zU (jE (qe c_ok (qe c_ok (qe (qa rfl) (qe c_ok (qe (zR qO (Nat.zero_le _)) qO))))) (by simp))
theorem Vv {sp : Str -> Int} {kvs : List (Key × D)} {rds : List Rd} (G : Wk sp kvs rds) (h9 : rds.length <= 9) (st go : Str) (si : Int) (kept shared : List Int) (hk : kept.length <= 1000) (hs : shared.length <= 1000) : ∃ o, Z1 T hT [.lst (rds.map rdD), .dic kvs, .str st, .str go, .int si, .lst (isD kept), .lst (isD shared)] = some (optD o) /\ Best kept shared si (AllW sp rds st go si) o := by
 obtain ⟨rows, er, mem, lr, l9⟩ := xm T hT G h9 st go si
 let S (ws : List Wt) (r n c l f : Option D) : SS (W0 T hT) := ⟨[some (.lst (rds.map rdD)), some (.dic kvs), some (.str st), some (.str go), some (.int si), some (.lst (isD kept)), some (.lst (isD shared)), some (.lst (ws.map wtD)), r, n, c, l, f], ()⟩
 obtain ⟨g', ef, r', n', c', l', f', rfl⟩ := jv (T := T) (hT := hT) (B := B0) (hB := hB0) (emb := rowD) (p := qx 8) (h := (sSeq (sSet 9 (zq 1 [] (iSeq (eVar 8)) (qx 0) qAll (M.e2 ixD (eVar 0) (eC (.int 0))))) (sSeq (sSet 10 (eVar 4)) (sSeq (sIf (qTru (eVar 8)) (sSet 10 (M.e2 ixD (M.e2 ixD (eVar 8) (M.e1 negI (eC (.int 1)))) (eC (.int 4)))) sNil) (sSeq (sSet 11 (M.e2 subI (eC (.int 0)) (M.e1 lenD (zq 1 [6] (iSeq (eVar 9)) (qx 0) (qCmp inO (eVar 0) (eVar 1)) (eVar 0))))) (sSeq (sSet 12 (M.e1 lenD (zq 1 [5] (iSeq (eVar 9)) (qx 0) (qCmp ninO (eVar 0) (eVar 1)) (eVar 0)))) (sApp 7 (eTup (qd (eVar 11) (qd (eVar 12) (qd (eVar 10) (qd (M.e1 lenD (eVar 8)) (qd (eVar 9) aNil))))))))))))) (xs := rows) (g := S [] none none none none none)
  (I := fun dn g => ∃ r n c l f, g = S (dn.map (wLaw kept shared si)) r n c l f) ⟨none, none, none, none, none, rfl⟩ (by
   rintro dn row g ⟨post, hpost⟩ ⟨r, n, c, l, f, rfl⟩
   have hrow : row ∈ rows := by rw [hpost]; simp
   have hl9 := l9 row hrow
   have hdl : dn.length <= 3300000 := by
    have := congrArg List.length hpost
    simp at this
    omega
   have c1 := zJ (T := T) (hT := hT) (B := B0) (hB := hB0) (emb := rdD) (n := 1) (ix := []) (fi := (iSeq (eVar 8))) (p := (qx 0)) (t := qAll) (f := (M.e2 ixD (eVar 0) (eC (.int 0)))) (xs := row) (g := S (dn.map (wLaw kept shared si)) (some (rowD row)) n c l f)
    (I := fun g => ∃ z, g = ⟨[z], ()⟩) (sel := fun _ => true) (out := fun d => .int d.n) (jn (qa rfl) rfl) ⟨none, rfl⟩ (by
     rintro d hd g ⟨z, rfl⟩
     exact ⟨⟨[some (rdD d)], ()⟩, rfl, ⟨_, rfl⟩, rfl, fun _ => qh (qa rfl) c_ok (xf d)⟩) (by unfold big; omega)
   have e1' : (row.filter fun _ => true).map (fun d => D.int d.n) = isD (row.map (·.n)) := by unfold isD; rw [List.filter_eq_self.mpr (fun _ _ => rfl), List.map_map]; rfl
   rw [e1'] at c1
   generalize hns : row.map (·.n) = ns at c1
   have lns : ns.length = row.length := by rw [<- hns, List.length_map]
   obtain ⟨cm, hcm, sc⟩ : ∃ cm : Int, cm = kc si row /\ sIf (qTru (eVar 8)) (sSet 10 (e2 ixD (e2 ixD (eVar 8) (e1 negI (eC (.int 1)))) (eC (.int 4)))) sNil (S (dn.map (wLaw kept shared si)) (some (rowD row)) (some (.lst (isD ns))) (some (.int si)) l f) = .nx (S (dn.map (wLaw kept shared si)) (some (rowD row)) (some (.lst (isD ns))) (some (.int cm)) l f) := by
    refine ⟨_, rfl, ?_⟩
    unfold kc
    cases hlast : row.getLast? with
    | none =>
     have : row = [] := List.getLast?_eq_none_iff.mp hlast
     subst this
     exact (if_f (jy (x := .lst []) (qa rfl) rfl)).trans rfl
    | some d =>
     obtain ⟨p, rfl⟩ : ∃ p, row = p ++ [d] := List.getLast?_eq_some_iff.mp hlast
     have et : truD (rowD (p ++ [d])) = some true := by
      show some (!((p ++ [d]).map rdD).isEmpty) = _
      simp
     have ei : ixD (rowD (p ++ [d])) (.int (-1)) = some (rdD d) := wN (p, d)
     exact (if_t (jy (qa rfl) et)).trans (qy (qh (qh (qa rfl) (zO c_ok neg1) ei) c_ok (xb d)))
   have c2 := zJ (T := T) (hT := hT) (B := B0) (hB := hB0) (emb := D.int) (n := 1) (ix := [6]) (fi := (iSeq (eVar 9))) (p := (qx 0)) (t := (qCmp inO (eVar 0) (eVar 1))) (f := (eVar 0)) (xs := ns) (g := S (dn.map (wLaw kept shared si)) (some (rowD row)) (some (.lst (isD ns))) (some (.int cm)) l f)
    (I := fun g => ∃ z, g = ⟨[z, some (.lst (isD shared))], ()⟩) (sel := fun n => decide (n ∈ shared)) (out := D.int) (jn (qa rfl) rfl) ⟨none, rfl⟩ (by
     rintro d hd g ⟨z, rfl⟩
     exact ⟨⟨[some (.int d), some (.lst (isD shared))], ()⟩, rfl, ⟨_, rfl⟩, q_ok (qa rfl) (qa rfl) yd, fun _ => qa rfl⟩) (by unfold big; omega)
   have s3 : (e2 subI (eC (.int 0)) (e1 lenD (zq 1 [6] (iSeq (eVar 9)) (qx 0) (qCmp inO (eVar 0) (eVar 1)) (eVar 0)))) (S (dn.map (wLaw kept shared si)) (some (rowD row)) (some (.lst (isD ns))) (some (.int cm)) l f) = .ok (.int (0 - (ns.filter fun n => decide (n ∈ shared)).length)) () := qh c_ok (zO c2 (by rw [kr, List.length_map])) Qv
   have c3 := zJ (T := T) (hT := hT) (B := B0) (hB := hB0) (emb := D.int) (n := 1) (ix := [5]) (fi := (iSeq (eVar 9))) (p := (qx 0)) (t := (qCmp ninO (eVar 0) (eVar 1))) (f := (eVar 0)) (xs := ns) (g := S (dn.map (wLaw kept shared si)) (some (rowD row)) (some (.lst (isD ns))) (some (.int cm)) (some (.int (0 - (ns.filter fun n => decide (n ∈ shared)).length))) f)
    (I := fun g => ∃ z, g = ⟨[z, some (.lst (isD kept))], ()⟩) (sel := fun n => decide (n ∉ kept)) (out := D.int) (jn (qa rfl) rfl) ⟨none, rfl⟩ (by
     rintro d hd g ⟨z, rfl⟩
     exact ⟨⟨[some (.int d), some (.lst (isD kept))], ()⟩, rfl, ⟨_, rfl⟩, q_ok (qa rfl) (qa rfl) xF, fun _ => qa rfl⟩) (by unfold big; omega)
   refine ⟨S (dn.map (wLaw kept shared si)) (some (rowD row)) n c l f, S ((dn ++ [row]).map (wLaw kept shared si)) (some (rowD row)) (some (.lst (isD ns))) (some (.int cm)) (some (.int (0 - (ns.filter fun n => decide (n ∈ shared)).length))) (some (.int (ns.filter fun n => decide (n ∉ kept)).length)), rfl, ?_, _, _, _, _, _, rfl⟩
   refine (qo (qy c1)).trans ?_
   refine (qo (qy (qa rfl))).trans ?_
   refine (qo sc).trans ?_
   refine (qo (qy s3)).trans ?_
   refine (qo (qy (d := .int (ns.filter fun n => decide (n ∉ kept)).length) (zO c3 (by rw [kr, List.length_map])))).trans ?_
   refine (j7 (ds := (dn.map (wLaw kept shared si)).map wtD) (y := wtD (wLaw kept shared si row)) rfl (j6 (jE (qe (qa rfl) (qe (qa rfl) (qe (qa rfl) (qe (zO (z := .int row.length) (qa rfl) (by show lenD (.lst (row.map rdD)) = _; rw [kr, List.length_map])) (qe (qa rfl) qO))))) (by simp)) (by unfold wLaw; rw [hns, <- hcm]; rfl)) (by rw [List.length_map, List.length_map]; unfold big; omega)).trans ?_
   have ea : (dn.map (wLaw kept shared si)).map wtD ++ [wtD (wLaw kept shared si row)] = ((dn ++ [row]).map (wLaw kept shared si)).map wtD := by simp
   rw [ea]
   rfl)
 have tq : qNot (qTru (eVar 7)) (S (rows.map (wLaw kept shared si)) r' n' c' l' f') = .ok (!(!((rows.map (wLaw kept shared si)).map wtD).isEmpty)) () := Kg (jy (qa rfl) rfl)
 unfold Z1 ZW
 by_cases hr : rows = []
 ·subst hr
  refine ⟨none, zF ?_, .inl ⟨rfl, fun l hl => (nomatch (mem l).mpr hl)⟩⟩
  refine (qo (qy (d := .lst []) (zR qO (by decide)))).trans ?_
  refine (qo (jJ (jn (zb (qe (qa rfl) (qe (qa rfl) (qe (qa rfl) (qe (qa rfl) (qe (qa rfl) qO))))) rfl er) rfl) ef)).trans ?_
  exact QA ((if_t tq).trans (zU c_ok))
 ·obtain ⟨w, hw, em, hmin⟩ := Zj (ws := rows.map (wLaw kept shared si)) (by simpa using hr)
  obtain ⟨l, hl, rfl⟩ := List.mem_map.mp hw
  refine ⟨some (wLaw kept shared si l).ns, zF ?_, .inr ⟨l, (mem l).mp hl, by rw [jQ], fun l' hl' => by rw [jQ, jQ]; exact hmin _ (List.mem_map.mpr ⟨l', (mem l').mpr hl', rfl⟩)⟩⟩
  refine (qo (qy (d := .lst []) (zR qO (by decide)))).trans ?_
  refine (qo (jJ (jn (zb (qe (qa rfl) (qe (qa rfl) (qe (qa rfl) (qe (qa rfl) (qe (qa rfl) qO))))) rfl er) rfl) ef)).trans ?_
  have tf : qNot (qTru (eVar 7)) (S (rows.map (wLaw kept shared si)) r' n' c' l' f') = .ok false () := ok_c tq (by cases rows with | nil => exact absurd rfl hr | cons a b => rfl)
  refine (qo ((if_f tf).trans rfl)).trans ?_
  exact zU (qh (zO (qa rfl) em) c_ok (Kj _))
end
abbrev WB (T : Hp -> Prop) (hT : HTb T) (K : PySem.W.Frag) (fp0 : Fp) (ob0 : Nat -> Option Addr) (tb : Nat -> Option D) : Wo := W1 T hT (BT K fp0 ob0 tb) hBT
section
def jx (T : Hp -> Prop) (hT : HTb T) (K : PySem.W.Frag) (fp0 : Fp) (ob0 : Nat -> Option Addr) (tb : Nat -> Option D) : SS (WB T hT K fp0 ob0 tb) -> Ou (WB T hT K fp0 ob0 tb) :=
 (sSeq (sAsg (pTup 5 (zd (qx 4) (zd (qx 5) (zd (qx 6) (zd (qx 7) (zd (qx 8) pNil)))))) (eVar 1))
 (sSeq (sIf (qCmp (opB tb inO) (eVar 0) (eVar 3))
 (sAug 4 subI (eC (.int 1)))
 sNil)
 (sSeq (sIf (qCmp (opB tb ninO) (eVar 0) (eVar 2))
 (sAug 5 addI (eC (.int 1)))
 sNil)
 (sRet (eTup (qd (eVar 4) (qd (eVar 5) (qd (eVar 6) (qd (e2 addD (eVar 7) (eC (.int 1))) (qd (e2 addD (eLst (qd (eVar 0) aNil)) (eVar 8)) aNil))))))))))
def zH (T : Hp -> Prop) (hT : HTb T) (K : PySem.W.Frag) (fp0 : Fp) (ob0 : Nat -> Option Addr) (tb : Nat -> Option D) : List D -> Option D := zr 9 (jx T hT K fp0 ob0 tb)
def lpBR : Pos := ⟨22, 34, 22, 57⟩
def lqBR : Str := (Str.ofString "best_rows" ++ Str.ofString ".<locals>.") ++ "<lambda>"
def lpB (T : Hp -> Prop) (hT : HTb T) (K : PySem.W.Frag) (fp0 : Fp) (ob0 : Nat -> Option Addr) (tb : Nat -> Option D) : SS (WB T hT K fp0 ob0 tb) -> Ou (WB T hT K fp0 ob0 tb) :=
 (sSeq (sSet 7 (zq 2 [6, 1] (iLst (eVar 5)) (pTup 2 (zd (qx 0) (zd (qx 1) pNil))) (qTru (wA tb 3 (kR T hT) (qd (eVar 2) (qd (eVar 0) (qd (eVar 3) aNil))))) (eVar 1)))
 (sSeq (sIf (qCmp eqD (e2 ixD (eVar 6) (eC (.int 2))) (eVar 2))
 (sApp 7 (qX 1 (qU T hT) (qd (e2 ixD (eVar 6) (eC (.int 4))) aNil)))
 sNil)
 (sIf (qTru (eVar 7))
 (sApp 5 (eTup (qd (eVar 6) (qd (qX 4 (zH T hT K fp0 ob0 tb) (qd (e2 ixD (eVar 6) (eC (.int 0))) (qd (e1 (minO true) (eVar 7)) (qd (eVar 3) (qd (eVar 4) aNil))))) aNil))))
 sNil)))
def jP (T : Hp -> Prop) (hT : HTb T) (K : PySem.W.Frag) (fp0 : Fp) (ob0 : Nat -> Option Addr) (tb : Nat -> Option D) (ω : List Rd) : SS (WB T hT K fp0 ob0 tb) -> Ou (WB T hT K fp0 ob0 tb) :=
 (sSeq (sSet 5 (eLst aNil))
 (sSeq (sFor (cI (ω.map rdD)) (qx 6) (lpB T hT K fp0 ob0 tb))
 (sRet (eVar 5))))
def qE (T : Hp -> Prop) (hT : HTb T) (K : PySem.W.Frag) (fp0 : Fp) (ob0 : Nat -> Option Addr) (tb : Nat -> Option D) (ω : List Rd) : List D -> Option D := zr 8 (jP T hT K fp0 ob0 tb ω)
def jh (T : Hp -> Prop) (hT : HTb T) (K : PySem.W.Frag) (fp0 : Fp) (ob0 : Nat -> Option Addr) (tb : Nat -> Option D) (ω : List D) : SS (WB T hT K fp0 ob0 tb) -> Ou (WB T hT K fp0 ob0 tb) :=
 (sSeq (sSet 7 (zq 2 [4, 2] (cI ω) (pTup 2 (zd (qx 0) (zd (qx 1) pNil))) (qAnd (qCmp eqD (e2 ixD (eVar 0) (eC (.int 1))) (eVar 3)) (qCmp geI (e2 ixD (eVar 0) (eC (.int 3))) (eVar 2))) (eVar 1)))
 (sSeq (sIf (qCmp eqD (eVar 2) (eVar 3))
 (sApp 7 (qX 1 (qU T hT) (qd (eVar 4) aNil)))
 sNil)
 (sSeq (sIf (qNot (qTru (eVar 7)))
 (sRet (eC .non))
 sNil)
 (sRet (e2 ixD (e1 (minO true) (eVar 7)) (eC (.int 4)))))))
def zi (T : Hp -> Prop) (hT : HTb T) (K : PySem.W.Frag) (fp0 : Fp) (ob0 : Nat -> Option Addr) (tb : Nat -> Option D) (ω : List D) : List D -> Option D := zr 8 (jh T hT K fp0 ob0 tb ω)
def qM (T : Hp -> Prop) (hT : HTb T) (K : PySem.W.Frag) (fp0 : Fp) (ob0 : Nat -> Option Addr) (tb : Nat -> Option D) : SS (WB T hT K fp0 ob0 tb) -> R (WB T hT K fp0 ob0 tb) (List D) := (qd (eVar 0) (qd (eVar 1) (qd (eVar 3) (qd (eVar 5) (qd (eVar 6) aNil)))))
end
section
variable (T : Hp -> Prop) (hT : HTb T) (K : PySem.W.Frag) (fp0 : Fp) (ob0 : Nat -> Option Addr) (tb : Nat -> Option D)
theorem Qo {kept shared : List Int} (hk : tb 2 = some (.lst (isD kept))) (hs : tb 3 = some (.lst (isD shared))) (n : Int) (w : Wt) (hl : w.ns.length <= 100000) : zH T hT K fp0 ob0 tb [.int n, wtD w, .obj 2, .obj 3] = some (wtD (jB kept shared n w)) := by
 refine zF ?_
 unfold jx
 have oi : opB tb inO (.int n) (.obj 3) = some (.bl (decide (n ∈ shared))) := by
  show (tb 3).bind (fun y => inO (.int n) y) = _
  rw [hs]
  exact yd
 have on : opB tb ninO (.int n) (.obj 2) = some (.bl (decide (n ∉ kept))) := by
  show (tb 2).bind (fun y => ninO (.int n) y) = _
  rw [hk]
  exact xF
 let S (s u : Int) : SS (WB T hT K fp0 ob0 tb) := ⟨[some (.int n), some (wtD w), some (.obj 2), some (.obj 3), some (.int s), some (.int u), some (.int w.c), some (.int w.m), some (.lst (isD w.ns))], ()⟩
 have t1 : ∀ s u, (qCmp (opB tb inO) (eVar 0) (eVar 3)) (S s u) = .ok (decide (n ∈ shared)) () := fun s u => q_ok (qa rfl) (qa rfl) oi
 have t2 : ∀ s u, (qCmp (opB tb ninO) (eVar 0) (eVar 2)) (S s u) = .ok (decide (n ∉ kept)) () := fun s u => q_ok (qa rfl) (qa rfl) on
 have s1 : sIf (qCmp (opB tb inO) (eVar 0) (eVar 3)) (sAug 4 subI (eC (.int 1))) sNil (S w.s w.u) = .nx (S (w.s - (if n ∈ shared then 1 else 0)) w.u) := by
  by_cases h : n ∈ shared
  ·rw [if_t (ok_t (t1 _ _) h), if_pos h]
   exact yZ (v := .int 1) c_ok rfl rfl
  ·rw [if_f (ok_f (t1 _ _) h), if_neg h, Int.sub_zero]
   rfl
 have s2 : ∀ s, sIf (qCmp (opB tb ninO) (eVar 0) (eVar 2)) (sAug 5 addI (eC (.int 1))) sNil (S s w.u) = .nx (S s (w.u + (if n ∈ kept then 0 else 1))) := fun s => by
  by_cases h : n ∈ kept
  ·rw [if_f (ok_f (t2 _ _) (fun z => z h)), if_pos h, Int.add_zero]
   rfl
  ·rw [if_t (ok_t (t2 _ _) h), if_neg h]
   exact yZ (v := .int 1) c_ok rfl rfl
 refine (qo (y8 (g' := S w.s w.u) (qa rfl) rfl)).trans ?_
 refine (qo s1).trans ?_
 refine (qo (s2 _)).trans ?_
 exact zU (jE (qe (qa rfl) (qe (qa rfl) (qe (qa rfl) (qe (qh (qa rfl) c_ok zP) (qe (qh (zR (qe (qa rfl) qO) (by simp)) (qa rfl) (add_l (by rw [zI]; simp; unfold big; omega))) qO))))) (by simp))
end
def prD (p : Rd × Wt) : D := .tup [rdD p.1, wtD p.2]
theorem JS {T : Hp -> Prop} {hT : HTb T} {B : Hp -> Co -> List Addr -> Prop} {hB : HBb B} {tb : Nat -> Option D} {n : Nat} {F : List D -> Option D} {fs : SS (W1 T hT B hB) -> R (W1 T hT B hB) (List D)} {g : SS (W1 T hT B hB)} {xs ys : List D} {z : D} {v : V} (b : fs g = .ok xs ()) (hl : xs.length = n) (ho : vh tb xs = some ys) (o : F ys = some z) (h : isAt z = some v) : wA tb n F fs g = .ok z () := by
 unfold wA qG eOpt atO
 rw [b]
 simp only [hl, if_true, ho, o, Option.bind_some, h]
def Lst (sp : Str -> Int) (rds : List Rd) (go : Str) (kept shared : List Int) (p : Rd × Wt) : Prop := (∃ t, Fr sp rds go p.1 t /\ wRow kept shared p.1 t = p.2) /\ ∀ t, Fr sp rds go p.1 t -> ¬ (wRow kept shared p.1 t).key < p.2.key
theorem Jv {sp : Str -> Int} {rds : List Rd} {go : Str} {kept shared : List Int} {d : Rd} {found : List (Rd × Wt)} {w0 : Wt} (hd : d ∈ rds) (hf : ∀ p ∈ found, Lst sp rds go kept shared p) (hall : ∀ e t, hg sp d e = true -> Fr sp rds go e t -> ∃ w, (e, w) ∈ found)
  (hw : (∃ p ∈ found, hg sp d p.1 = true /\ w0 = p.2) \/ (d.b = go /\ w0 = jC d.c)) (hmin : (∀ p ∈ found, hg sp d p.1 = true -> ¬ p.2.key < w0.key) /\ (d.b = go -> ¬ (jC d.c).key < w0.key)) : Lst sp rds go kept shared (d, jB kept shared d.n w0) := by
 refine ⟨?_, fun t f => ?_⟩
 ·rcases hw with ⟨p, hp, hh, rfl⟩ | ⟨hb, rfl⟩
  ·obtain ⟨⟨t, f, e⟩, _⟩ := hf p hp
   exact ⟨p.1 :: t, .cons hd hh f, by show jB _ _ _ (wRow _ _ p.1 t) = _; rw [e]⟩
  ·exact ⟨[], .fin hd hb, rfl⟩
 ·cases f with
  | fin m e =>
   show ¬ (jB kept shared d.n (jC d.c)).key < _
   rw [yw]
   exact hmin.2 e
  | @cons _ e l m h r =>
   show ¬ (jB kept shared d.n (wRow kept shared e l)).key < _
   rw [yw]
   obtain ⟨w, hw'⟩ := hall e l h r
   have h1 := (hf _ hw').2 l r
   have h2 := hmin.1 _ hw' h
   exact List.not_lt.mpr (List.le_trans (List.not_lt.mp h2) (List.not_lt.mp h1))
section
variable (T : Hp -> Prop) (hT : HTb T) (K : PySem.W.Frag) (fp0 : Fp) (ob0 : Nat -> Option Addr) (tb : Nat -> Option D)
theorem xS {sp : Str -> Int} {kvs : List (Key × D)} {rds ω : List Rd} {go : Str} {kept shared : List Int} (G : Wk sp kvs rds) (h64 : rds.length < 64) (h1 : tb 1 = some (.dic kvs)) (hk : tb 2 = some (.lst (isD kept))) (hs : tb 3 = some (.lst (isD shared))) (hp : List.Perm ω rds) (hw : ω.Pairwise (fun a b => b.l <= a.l)) :
  ∃ found : List (Rd × Wt), qE T hT K fp0 ob0 tb ω [.obj 0, .obj 1, .str go, .obj 2, .obj 3] = some (.lst (found.map prD)) /\ (∀ p ∈ found, p.1 ∈ rds /\ Lst sp rds go kept shared p) /\ (∀ e t, Fr sp rds go e t -> ∃ w, (e, w) ∈ found) /\ found.length < 64 := by
 let S (found : List (Rd × Wt)) (r b : Option D) : SS (WB T hT K fp0 ob0 tb) := ⟨[some (.obj 0), some (.obj 1), some (.str go), some (.obj 2), some (.obj 3), some (.lst (found.map prD)), r, b], ()⟩
 have lω : ω.length = rds.length := hp.length_eq
 obtain ⟨g', ef, found, r, b, fa, fc, fl, rfl⟩ := jv (T := T) (hT := hT) (B := BT K fp0 ob0 tb) (hB := hBT) (emb := rdD) (p := qx 6) (h := lpB T hT K fp0 ob0 tb) (xs := ω) (g := S [] none none)
  (I := fun dn g => ∃ found r b, (∀ p ∈ found, p.1 ∈ rds /\ Lst sp rds go kept shared p /\ p.2.ns.length <= dn.length) /\ (∀ e ∈ dn, ∀ t, Fr sp rds go e t -> ∃ w, (e, w) ∈ found) /\ found.length <= dn.length /\ g = S found r b) ⟨[], none, none, fun p hp => (nomatch hp), fun e he => (nomatch he), Nat.le_refl _, rfl⟩ (by
   rintro dn d g ⟨post, hpost⟩ ⟨found, r, b, fa, fc, fl, rfl⟩
   have hdm : d ∈ rds := hp.mem_iff.mp (by rw [hpost]; simp)
   have hdl : dn.length < 64 := by
    have := congrArg List.length hpost
    simp at this
    omega
   have hall : ∀ e t, hg sp d e = true -> Fr sp rds go e t -> ∃ w, (e, w) ∈ found := fun e t hh f => by
    have hl := JE G.toGood hdm hh
    have hem : e ∈ ω := hp.mem_iff.mpr f.mem
    rw [hpost] at hem hw
    refine fc e ?_ t f
    rcases List.mem_append.mp hem with z | z
    ·exact z
    ·rcases List.mem_cons.mp z with z | z
     ·subst z; omega
     ·have := (List.pairwise_cons.mp (List.pairwise_append.mp hw).2.1).1 e z
      omega
   have c1 := zJ (T := T) (hT := hT) (B := BT K fp0 ob0 tb) (hB := hBT) (emb := prD) (n := 2) (ix := [6, 1]) (fi := iLst (eVar 5)) (p := pTup 2 (zd (qx 0) (zd (qx 1) pNil))) (t := qTru (wA tb 3 (kR T hT) (qd (eVar 2) (qd (eVar 0) (qd (eVar 3) aNil))))) (f := eVar 1) (xs := found) (g := S found (some (rdD d)) b)
    (I := fun g => ∃ y z, g = ⟨[y, z, some (rdD d), some (.obj 1)], ()⟩) (sel := fun p => hg sp d p.1) (out := fun p => wtD p.2) (Kh (qa rfl)) ⟨none, none, rfl⟩ (by
     rintro p hp' g ⟨y, z, rfl⟩
     have eh := JF T hT (e := d) (d := p.1) (G.sps _ hdm)
     refine ⟨⟨[some (rdD p.1), some (wtD p.2), some (rdD d), some (.obj 1)], ()⟩, rfl, ⟨_, _, rfl⟩, jy (JS (ys := [rdD d, rdD p.1, .dic kvs]) (qe (qa rfl) (qe (qa rfl) (qe (qa rfl) qO))) rfl ?_ eh rfl) rfl, fun _ => qa rfl⟩
     show (match ofOb tb (rdD d), vh tb [rdD p.1, .obj 1] with | some x, some xs => some (x :: xs) | _, _ => none) = _
     have e3 : vh tb [rdD p.1, .obj 1] = some [rdD p.1, .dic kvs] := by
      show (match ofOb tb (rdD p.1), vh tb [.obj 1] with | some x, some xs => some (x :: xs) | _, _ => none) = _
      have e4 : vh tb [.obj 1] = some [.dic kvs] := by
       show (match tb 1, vh tb [] with | some x, some xs => some (x :: xs) | _, _ => none) = _
       rw [h1]
       rfl
      rw [e4]
      rfl
     rw [e3]
     rfl) (by unfold big; omega)
   have ew : (found.filter fun p => hg sp d p.1).map (fun p => wtD p.2) = ((found.filter fun p => hg sp d p.1).map (·.2)).map wtD := by rw [List.map_map]; rfl
   rw [ew] at c1
   generalize hU : (found.filter fun p => hg sp d p.1).map (·.2) = us at c1
   have lu : us.length <= found.length := by rw [<- hU, List.length_map]; exact List.length_filter_le _ _
   have mu : ∀ w, w ∈ us ↔ ∃ p ∈ found, hg sp d p.1 = true /\ w = p.2 := fun w => by
    rw [<- hU, List.mem_map]
    constructor
    ·rintro ⟨p, hp', rfl⟩
     exact ⟨p, (List.mem_filter.mp hp').1, (List.mem_filter.mp hp').2, rfl⟩
    ·rintro ⟨p, h2, h3, rfl⟩
     exact ⟨p, List.mem_filter.mpr ⟨h2, h3⟩, rfl⟩
   obtain ⟨ws, mw, s2⟩ : ∃ ws : List Wt, (∀ w, w ∈ ws ↔ w ∈ us \/ (d.b = go /\ w = jC d.c)) /\ sIf (qCmp eqD (e2 ixD (eVar 6) (eC (.int 2))) (eVar 2)) (sApp 7 (qX 1 (qU T hT) (qd (e2 ixD (eVar 6) (eC (.int 4))) aNil))) sNil (S found (some (rdD d)) (some (.lst (us.map wtD)))) = .nx (S found (some (rdD d)) (some (.lst (ws.map wtD)))) := by
    have tq : (qCmp eqD (e2 ixD (eVar 6) (eC (.int 2))) (eVar 2)) (S found (some (rdD d)) (some (.lst (us.map wtD)))) = .ok (d.b == go) () := q_ok (qh (qa rfl) c_ok (vG d)) (qa rfl) (jm _ _)
    by_cases hb : d.b = go
    ·rw [show (d.b == go) = true by simp [hb]] at tq
     refine ⟨us ++ [jC d.c], fun w => by simp [hb], (if_t tq).trans ((j7 (ds := us.map wtD) (y := wtD (jC d.c)) rfl (zb (qe (qh (qa rfl) c_ok (xb d)) qO) rfl (yt T hT d.c)) (by rw [List.length_map]; unfold big; omega)).trans ?_)⟩
     have : us.map wtD ++ [wtD (jC d.c)] = (us ++ [jC d.c]).map wtD := by simp
     rw [this]
     rfl
    ·rw [show (d.b == go) = false by simp [hb]] at tq
     exact ⟨us, fun w => by simp [hb], (if_f tq).trans rfl⟩
   have tq : qTru (eVar 7) (S found (some (rdD d)) (some (.lst (ws.map wtD)))) = .ok (!(ws.map wtD).isEmpty) () := jy (qa rfl) rfl
   by_cases hne : ws = []
   ·subst hne
    refine ⟨S found (some (rdD d)) b, S found (some (rdD d)) (some (.lst [])), rfl, ?_, found, _, _, fun p hp' => ⟨(fa p hp').1, (fa p hp').2.1, by have := (fa p hp').2.2; simp; omega⟩, fun e he t f => ?_, by simp; omega, rfl⟩
    ·refine (qo (qy c1)).trans ?_
     refine (qo s2).trans ?_
     exact (if_f tq).trans rfl
    ·rcases List.mem_append.mp he with z | z
     ·exact fc e z t f
     ·cases List.mem_singleton.mp z
      cases f with
      | fin m hb => exact absurd ((mw _).mpr (.inr ⟨hb, rfl⟩)) (by simp)
      | @cons _ e' l m hh rr =>
       obtain ⟨w, hw'⟩ := hall e' l hh rr
       exact absurd ((mw w).mpr (.inl ((mu w).mpr ⟨_, hw', hh, rfl⟩))) (by simp)
   ·obtain ⟨w0, hm0, em, hmin⟩ := Zj hne
    have tt : qTru (eVar 7) (S found (some (rdD d)) (some (.lst (ws.map wtD)))) = .ok true () := ok_c tq (by cases ws with | nil => exact absurd rfl hne | cons a b => rfl)
    have l0 : w0.ns.length <= dn.length := by
     rcases (mw w0).mp hm0 with z | ⟨_, rfl⟩
     ·obtain ⟨p, hp', _, rfl⟩ := (mu w0).mp z
      exact (fa p hp').2.2
     ·exact Nat.zero_le _
    have LS : Lst sp rds go kept shared (d, jB kept shared d.n w0) := Jv hdm (fun p hp' => (fa p hp').2.1) hall (by
     rcases (mw w0).mp hm0 with z | z
     ·exact .inl ((mu w0).mp z)
     ·exact .inr z) ⟨fun p hp' hh => hmin _ ((mw _).mpr (.inl ((mu _).mpr ⟨p, hp', hh, rfl⟩))), fun hb => hmin _ ((mw _).mpr (.inr ⟨hb, rfl⟩))⟩
    refine ⟨S found (some (rdD d)) b, S (found ++ [(d, jB kept shared d.n w0)]) (some (rdD d)) (some (.lst (ws.map wtD))), rfl, ?_, found ++ [(d, jB kept shared d.n w0)], _, _, fun p hp' => ?_, fun e he t f => ?_, by simp; omega, rfl⟩
    ·refine (qo (qy c1)).trans ?_
     refine (qo s2).trans ?_
     refine (if_t tt).trans ?_
     refine (j7 (ds := found.map prD) (y := prD (d, jB kept shared d.n w0)) rfl (jE (qe (qa rfl) (qe (zb (qe (qh (qa rfl) c_ok (xf d)) (qe (zO (qa rfl) em) (qe (qa rfl) (qe (qa rfl) qO)))) rfl (Qo T hT K fp0 ob0 tb hk hs d.n w0 (by omega))) qO)) (by simp)) (by rw [List.length_map]; unfold big; omega)).trans ?_
     have : found.map prD ++ [prD (d, jB kept shared d.n w0)] = (found ++ [(d, jB kept shared d.n w0)]).map prD := by simp
     rw [this]
     rfl
    ·rcases List.mem_append.mp hp' with z | z
     ·exact ⟨(fa p z).1, (fa p z).2.1, by have := (fa p z).2.2; simp; omega⟩
     ·cases List.mem_singleton.mp z
      refine ⟨hdm, LS, ?_⟩
      show (d.n :: w0.ns).length <= _
      simp
      omega
    ·rcases List.mem_append.mp he with z | z
     ·obtain ⟨w, hw'⟩ := fc e z t f
      exact ⟨w, List.mem_append_left _ hw'⟩
     ·cases List.mem_singleton.mp z
      exact ⟨_, List.mem_append_right _ (List.mem_singleton.mpr rfl)⟩)
 refine ⟨found, zF ?_, fun p hp' => ⟨(fa p hp').1, (fa p hp').2.1⟩, fun e t f => fc e (hp.mem_iff.mpr f.mem) t f, by omega⟩
 unfold jP
 refine (qo (qy (d := .lst []) (zR qO (by decide)))).trans ?_
 refine (qo (jJ (ds := ω.map rdD) rfl ef)).trans ?_
 exact zU (qa rfl)
theorem Xo {sp : Str -> Int} {rds : List Rd} {st go : Str} {si : Int} {kept shared : List Int} {found : List (Rd × Wt)} (fa : ∀ p ∈ found, p.1 ∈ rds /\ Lst sp rds go kept shared p) (fc : ∀ e t, Fr sp rds go e t -> ∃ w, (e, w) ∈ found) (fl : found.length < 64) :
  ∃ o, zi T hT K fp0 ob0 tb (found.map prD) [.obj 0, .obj 1, .str st, .str go, .int si, .obj 2, .obj 3] = some (optD o) /\ Best kept shared si (AllW sp rds st go si) o := by
 let S (w : Option D) : SS (WB T hT K fp0 ob0 tb) := ⟨[some (.obj 0), some (.obj 1), some (.str st), some (.str go), some (.int si), some (.obj 2), some (.obj 3), w], ()⟩
 have c1 := zJ (T := T) (hT := hT) (B := BT K fp0 ob0 tb) (hB := hBT) (emb := prD) (n := 2) (ix := [4, 2]) (fi := cI (found.map prD)) (p := pTup 2 (zd (qx 0) (zd (qx 1) pNil))) (t := qAnd (qCmp eqD (e2 ixD (eVar 0) (eC (.int 1))) (eVar 3)) (qCmp geI (e2 ixD (eVar 0) (eC (.int 3))) (eVar 2))) (f := eVar 1) (xs := found) (g := S none)
  (I := fun g => ∃ y z, g = ⟨[y, z, some (.int si), some (.str st)], ()⟩) (sel := fun p => decide (p.1.a = st /\ si <= p.1.l)) (out := fun p => wtD p.2) rfl ⟨none, none, rfl⟩ (by
   rintro p hp g ⟨y, z, rfl⟩
   refine ⟨⟨[some (rdD p.1), some (wtD p.2), some (.int si), some (.str st)], ()⟩, rfl, ⟨_, _, rfl⟩, ?_, fun _ => qa rfl⟩
   have t1 := q_ok (T := T) (hT := hT) (B := BT K fp0 ob0 tb) (hB := hBT) (g := ⟨[some (rdD p.1), some (wtD p.2), some (.int si), some (.str st)], ()⟩) (fa := e2 ixD (eVar 0) (eC (.int 1))) (fb := eVar 3) (qh (qa rfl) c_ok (xc p.1)) (qa rfl) (jm _ _)
   have t2 := q_ok (T := T) (hT := hT) (B := BT K fp0 ob0 tb) (hB := hBT) (g := ⟨[some (rdD p.1), some (wtD p.2), some (.int si), some (.str st)], ()⟩) (fa := e2 ixD (eVar 0) (eC (.int 3))) (fb := eVar 2) (qh (qa rfl) c_ok (wx p.1)) (qa rfl) ge_i
   by_cases h1 : p.1.a = st
   ·rw [show (p.1.a == st) = true by simp [h1]] at t1
    exact ok_c (Qn t1 t2) (by simp [h1])
   ·rw [show (p.1.a == st) = false by simp [h1]] at t1
    exact ok_c (JU t1) (by simp [h1])) (by unfold big; omega)
 have ew : (found.filter fun p => decide (p.1.a = st /\ si <= p.1.l)).map (fun p => wtD p.2) = ((found.filter fun p => decide (p.1.a = st /\ si <= p.1.l)).map (·.2)).map wtD := by rw [List.map_map]; rfl
 rw [ew] at c1
 generalize hU : (found.filter fun p => decide (p.1.a = st /\ si <= p.1.l)).map (·.2) = us at c1
 have lu : us.length <= found.length := by rw [<- hU, List.length_map]; exact List.length_filter_le _ _
 have mu : ∀ w, w ∈ us ↔ ∃ p ∈ found, (p.1.a = st /\ si <= p.1.l) /\ w = p.2 := fun w => by
  rw [<- hU, List.mem_map]
  constructor
  ·rintro ⟨p, hp', rfl⟩
   exact ⟨p, (List.mem_filter.mp hp').1, of_decide_eq_true (List.mem_filter.mp hp').2, rfl⟩
  ·rintro ⟨p, h2, h3, rfl⟩
   exact ⟨p, List.mem_filter.mpr ⟨h2, decide_eq_true h3⟩, rfl⟩
 obtain ⟨ws, mw, s2⟩ : ∃ ws : List Wt, (∀ w, w ∈ ws ↔ w ∈ us \/ (st = go /\ w = jC si)) /\ sIf (qCmp eqD (eVar 2) (eVar 3)) (sApp 7 (qX 1 (qU T hT) (qd (eVar 4) aNil))) sNil (S (some (.lst (us.map wtD)))) = .nx (S (some (.lst (ws.map wtD)))) := by
  have tq : (qCmp eqD (eVar 2) (eVar 3)) (S (some (.lst (us.map wtD)))) = .ok (st == go) () := q_ok (qa rfl) (qa rfl) (jm _ _)
  by_cases hb : st = go
  ·rw [show (st == go) = true by simp [hb]] at tq
   refine ⟨us ++ [jC si], fun w => by simp [hb], (if_t tq).trans ((j7 (ds := us.map wtD) (y := wtD (jC si)) rfl (zb (qe (qa rfl) qO) rfl (yt T hT si)) (by rw [List.length_map]; unfold big; omega)).trans ?_)⟩
   have : us.map wtD ++ [wtD (jC si)] = (us ++ [jC si]).map wtD := by simp
   rw [this]
   rfl
  ·rw [show (st == go) = false by simp [hb]] at tq
   exact ⟨us, fun w => by simp [hb], (if_f tq).trans rfl⟩
 have tq : qNot (qTru (eVar 7)) (S (some (.lst (ws.map wtD)))) = .ok (!(!(ws.map wtD).isEmpty)) () := Kg (jy (qa rfl) rfl)
 have low : ∀ l, AllW sp rds st go si l -> ∃ w ∈ ws, ¬ (wAll kept shared si l).key < w.key := by
  rintro l (⟨rfl, e⟩ | ⟨d, t, rfl, f, h1, h2⟩)
  ·exact ⟨jC si, (mw _).mpr (.inr ⟨e, rfl⟩), List.lt_irrefl _⟩
  ·obtain ⟨w, hw⟩ := fc d t f
   exact ⟨w, (mw w).mpr (.inl ((mu w).mpr ⟨_, hw, ⟨h1, h2⟩, rfl⟩)), (fa _ hw).2.2 t f⟩
 have way : ∀ w ∈ ws, ∃ l, AllW sp rds st go si l /\ wAll kept shared si l = w := by
  intro w hw
  rcases (mw w).mp hw with z | ⟨e, rfl⟩
  ·obtain ⟨p, hp, ⟨h1, h2⟩, rfl⟩ := (mu w).mp z
   obtain ⟨⟨t, f, e⟩, _⟩ := (fa p hp).2
   exact ⟨p.1 :: t, .inr ⟨p.1, t, rfl, f, h1, h2⟩, e⟩
  ·exact ⟨[], .inl ⟨rfl, e⟩, rfl⟩
 unfold zi jh
 by_cases hne : ws = []
 ·subst hne
  refine ⟨none, zF ?_, .inl ⟨rfl, fun l hl => by obtain ⟨w, hw, _⟩ := low l hl; cases hw⟩⟩
  refine (qo (qy c1)).trans ?_
  refine (qo s2).trans ?_
  exact QA ((if_t tq).trans (zU c_ok))
 ·obtain ⟨w0, hm0, em, hmin⟩ := Zj hne
  obtain ⟨l0, hl0, e0⟩ := way w0 hm0
  refine ⟨some w0.ns, zF ?_, .inr ⟨l0, hl0, by rw [e0], fun l hl => ?_⟩⟩
  ·refine (qo (qy c1)).trans ?_
   refine (qo s2).trans ?_
   have tf : qNot (qTru (eVar 7)) (S (some (.lst (ws.map wtD)))) = .ok false () := ok_c tq (by cases ws with | nil => exact absurd rfl hne | cons a b => rfl)
   refine (qo ((if_f tf).trans rfl)).trans ?_
   exact zU (qh (zO (qa rfl) em) c_ok (Kj _))
  ·obtain ⟨w, hw, h1⟩ := low l hl
   rw [e0]
   exact List.not_lt.mpr (List.le_trans (List.not_lt.mp (hmin w hw)) (List.not_lt.mp h1))
end
theorem QH {a b : Rd} (h : rdD a = rdD b) : a = b := by
 cases a; cases b
 unfold rdD at h
 simp at h
 obtain ⟨rfl, rfl, rfl, rfl, rfl⟩ := h
 rfl
theorem map_inj {α : Type} {f : α -> D} (hf : ∀ a b, f a = f b -> a = b) : ∀ {xs ys : List α}, xs.map f = ys.map f -> xs = ys
 | [], [], _ => rfl
 | [], _ :: _, h => by simp at h
 | _ :: _, [], h => by simp at h
 | x :: xs, y :: ys, h => by
  simp only [List.map_cons, List.cons.injEq] at h
  rw [hf _ _ h.1, map_inj hf h.2]
theorem Zw {xs ys : List Int} (h : isD xs = isD ys) : xs = ys := map_inj (fun a b e => by cases e; rfl) h
def LcOk (ds : List D) (o : Option (List Int)) : Prop := ∃ (rds : List Rd) (kvs : List (Key × D)) (st go : Str) (si : Int) (kept shared : List Int), ds = [.lst (rds.map rdD), .dic kvs, .str st, .str go, .int si, .lst (isD kept), .lst (isD shared)] /\ Wk (spF kvs) kvs rds /\ (∀ q ∈ kvs, ∃ z, q.2 = D.int z) /\ rds.length < 64 /\ Best kept shared si (AllW (spF kvs) rds st go si) o
theorem LcOk.uniq {ds : List D} {o o' : Option (List Int)} (h : LcOk ds o) (h' : LcOk ds o') : o = o' := by
 obtain ⟨rds, kvs, st, go, si, kept, shared, rfl, _, _, _, b⟩ := h
 obtain ⟨rds', kvs', st', go', si', kept', shared', e, _, _, _, b'⟩ := h'
 simp only [List.cons.injEq, D.lst.injEq, D.dic.injEq, D.str.injEq, D.int.injEq, and_true] at e
 obtain ⟨e1, rfl, rfl, rfl, rfl, e2, e3⟩ := e
 cases map_inj (fun _ _ => QH) e1
 cases Zw e2
 cases Zw e3
 exact b.uniq b'
open Classical in
noncomputable def F_lc (ds : List D) : Option D := if h : ∃ o, LcOk ds o then some (optD h.choose) else none
theorem X4 {ds : List D} {o : Option (List Int)} (h : LcOk ds o) : F_lc ds = some (optD o) := by
 have hx : ∃ o, LcOk ds o := ⟨o, h⟩
 unfold F_lc
 rw [dif_pos hx, hx.choose_spec.uniq h]
theorem XZ {ds : List D} {d : D} (h : F_lc ds = some d) : ∃ o, LcOk ds o /\ d = optD o := by
 unfold F_lc at h
 split at h
 ·rename_i hx
  cases h
  exact ⟨_, hx.choose_spec, rfl⟩
 ·cases h
section
variable (T : Hp -> Prop) (hT : HTb T) (K : PySem.W.Frag) (fp0 : Fp) (ob0 : Nat -> Option Addr) (tb : Nat -> Option D) (rds : List Rd)
def RBd (ds : List D) (d : D) : Prop := ∃ ω, (List.Perm ω rds /\ ω.Pairwise (fun a b => b.l <= a.l)) /\ qE T hT K fp0 ob0 tb ω ds = some d
def PRd (ds : List D) : Prop := ds[0]? = some (.obj 0) /\ ∀ ω, (List.Perm ω rds /\ ω.Pairwise (fun a b => b.l <= a.l)) -> ∃ d, qE T hT K fp0 ob0 tb ω ds = some d
def OKLd (ds ω : List D) : Prop := ∃ as, qM T hT K fp0 ob0 tb (qY 8 ds ()) = .ok as () /\ RBd T hT K fp0 ob0 tb rds as (.lst ω)
def PLd (ds : List D) : Prop := (∃ as, qM T hT K fp0 ob0 tb (qY 8 ds ()) = .ok as () /\ as.length = 5 /\ PRd T hT K fp0 ob0 tb rds as /\ ∀ d, RBd T hT K fp0 ob0 tb rds as d -> ∃ xs, d = .lst xs) /\ ∀ ω, OKLd T hT K fp0 ob0 tb rds ds ω -> ∃ d, zi T hT K fp0 ob0 tb ω ds = some d
def RLd (ds : List D) (d : D) : Prop := ∃ ω, OKLd T hT K fp0 ob0 tb rds ds ω /\ zi T hT K fp0 ob0 tb ω ds = some d
end
structure Zc where
 hb : Hp
 fp0 : Fp
 ob0 : Nat -> Option Addr
 tb : Nat -> Option D
 rds : List Rd
 h0 : tb 0 = some (.lst (rds.map rdD))
 h64 : rds.length < 64
def Tz (T : Hp -> Prop) (hb : Hp) (H : Hp) : Prop := T H /\ ∀ a ps, hb a = some (.tbl ps) -> ∃ ps', H a = some (.tbl ps')
theorem hTz {T : Hp -> Prop} (hT : HTb T) (hb : Hp) : HTb (Tz T hb) := fun H H' h k => ⟨hT H H' h.1 k, fun a ps e => by
 obtain ⟨ps', e'⟩ := h.2 a ps e
 exact ⟨ps', k a _ e' (fun _ h => nomatch h) (fun _ h => nomatch h) (fun _ h => nomatch h)⟩⟩
def wu (st go : Str) (si : Int) : List D := [.obj 0, .obj 1, .str st, .str go, .int si, .obj 2, .obj 3]
section
variable {T : Hp -> Prop} {hT : HTb T} {K : PySem.W.Frag} {fp0 : Fp} {ob0 : Nat -> Option Addr} {tb : Nat -> Option D} {rds : List Rd}
theorem Xm (st go : Str) (si : Int) : qM T hT K fp0 ob0 tb (qY 8 (wu st go si) ()) = .ok [.obj 0, .obj 1, .str go, .obj 2, .obj 3] () := rfl
theorem Zn {kvs : List (Key × D)} {st go : Str} {si : Int} {kept shared : List Int} (G : Wk (spF kvs) kvs rds) (h64 : rds.length < 64) (h1 : tb 1 = some (.dic kvs)) (hk : tb 2 = some (.lst (isD kept))) (hs : tb 3 = some (.lst (isD shared))) {ω : List D} (h : OKLd T hT K fp0 ob0 tb rds (wu st go si) ω) :
  ∃ o, zi T hT K fp0 ob0 tb ω (wu st go si) = some (optD o) /\ Best kept shared si (AllW (spF kvs) rds st go si) o := by
 obtain ⟨as, ea, ω1, ⟨hp, hw⟩, e1⟩ := h
 rw [Xm] at ea
 cases ea
 obtain ⟨found, ef, fa, fc, fl⟩ := xS T hT K fp0 ob0 tb (go := go) G h64 h1 hk hs hp hw
 rw [ef] at e1
 cases e1
 exact Xo T hT K fp0 ob0 tb fa fc fl
theorem Xl {kvs : List (Key × D)} {st go : Str} {si : Int} {kept shared : List Int} (G : Wk (spF kvs) kvs rds) (h64 : rds.length < 64) (h1 : tb 1 = some (.dic kvs)) (hk : tb 2 = some (.lst (isD kept))) (hs : tb 3 = some (.lst (isD shared))) : PLd T hT K fp0 ob0 tb rds (wu st go si) := by
 refine ⟨⟨_, Xm st go si, rfl, ⟨rfl, fun ω ⟨hp, hw⟩ => ?_⟩, fun d ⟨ω, ⟨hp, hw⟩, e⟩ => ?_⟩, fun ω h => ?_⟩
 ·obtain ⟨found, ef, _⟩ := xS T hT K fp0 ob0 tb (go := go) G h64 h1 hk hs hp hw
  exact ⟨_, ef⟩
 ·obtain ⟨found, ef, _⟩ := xS T hT K fp0 ob0 tb (go := go) G h64 h1 hk hs hp hw
  rw [ef] at e
  cases e
  exact ⟨_, rfl⟩
 ·obtain ⟨o, e, _⟩ := Zn G h64 h1 hk hs h
  exact ⟨_, e⟩
end
theorem vz {K : PySem.W.Frag} {c : Co} (c' : Co) {xs : List V} {ns : List Int} (l : xs.length = (isD ns).length) (r : ∀ (i : Nat) x d, xs[i]? = some x -> (isD ns)[i]? = some d -> Rep K c x d) : Reps K c' xs (isD ns) := ⟨l, fun i x d e1 e2 => by
 have z := r i x d e1 e2
 unfold isD at e2
 rw [List.getElem?_map] at e2
 cases hn : ns[i]? with
 | none => rw [hn] at e2; cases e2
 | some n =>
  rw [hn] at e2
  cases e2
  cases z
  exact .int n⟩
theorem Zo {P : Program} {w : World} {K : PySem.W.Frag} {mg : Str -> Option Value} {base : Heap} {f : Addr} {fd : FuncData} {ps : List Str} {k : Nat} {T : Hp -> Prop} (hT : HTb T) {Pt : Addr} {lp : Pos} {lq : Str} (hTT : ∀ H, T H -> TabOk H Pt lp lq) (hTS : ∀ H H', T H -> SaT Pt H H' -> TabOk H' Pt lp lq -> T H')
  (h : ∀ (T' : Hp -> Prop) (hT' : HTb T') (fp0 : Fp) (ob0 : Nat -> Option Addr) (tb : Nat -> Option D) (rds : List Rd), (∀ H, T' H -> TabOk H Pt lp lq) -> (∀ H H', T' H -> SaT Pt H H' -> TabOk H' Pt lp lq -> T' H') -> tb 0 = some (.lst (rds.map rdD)) -> rds.length < 64 -> FnOk P w K mg base CX0 k f fd ps (spQ K T' (BT K fp0 ob0 tb) 7 (PLd T' hT' K fp0 ob0 tb rds) (RLd T' hT' K fp0 ob0 tb rds))) :
  FnOk P w K mg base CX0 k f fd ps (spP K T 7 true F_lc) := by
 refine (FnOk.ex (α := Zc) (fun z => h (Tz T z.hb) (hTz hT z.hb) z.fp0 z.ob0 z.tb z.rds (fun H t => hTT H t.1) (fun H H' t s tk => ⟨hTS H H' t.1 s tk, fun a ps e => by
  obtain ⟨ps', e'⟩ := t.2 a ps e
  obtain ⟨m, e2⟩ := s.tbl a ps' e'
  exact ⟨_, e2⟩⟩) z.h0 z.h64)).imp fun vs H Q EX q => ?_
 obtain ⟨hl, c, ds, co, tt, rs, d, ed, q⟩ := q
 obtain ⟨o, lo, rfl⟩ := XZ ed
 obtain ⟨rds, kvs, st, go, si, kept, shared, rfl, wk, hz, h64, bs⟩ := lo
 obtain ⟨x0, t, rfl, r0, rs⟩ := rs.uncons
 obtain ⟨x1, t, rfl, r1, rs⟩ := rs.uncons
 obtain ⟨x2, t, rfl, r2, rs⟩ := rs.uncons
 obtain ⟨x3, t, rfl, r3, rs⟩ := rs.uncons
 obtain ⟨x4, t, rfl, r4, rs⟩ := rs.uncons
 obtain ⟨x5, t, rfl, r5, rs⟩ := rs.uncons
 obtain ⟨x6, t, rfl, r6, rs⟩ := rs.uncons
 cases rs.unnil
 cases r0 with | @lst a0 xs0 _ e0 l0 rr0 => ?_
 cases r1 with | @dic a1 ys1 _ e1 l1 nd1 rr1 => ?_
 cases r2
 cases r3
 cases r4
 cases r5 with | @lst a5 xs5 _ e5 l5 rr5 => ?_
 cases r6 with | @lst a6 xs6 _ e6 l6 rr6 => ?_
 have g0 := Hn.of (co _ _ e0)
 have g1 := Hn.of (co _ _ e1)
 have g5 := Hn.of (co _ _ e5)
 have g6 := Hn.of (co _ _ e6)
 have hfp : ∀ a ∈ [a0, a1, a5, a6], ∃ u, H a = some u /\ isT u = false /\ ∀ ws, u ≠ .tup ws := fun a ha => by
  simp only [List.mem_cons, List.not_mem_nil, or_false] at ha
  rcases ha with rfl | rfl | rfl | rfl
  ·exact ⟨_, g0.1, rfl, fun _ h => nomatch h⟩
  ·exact ⟨_, g1.1, rfl, fun _ h => nomatch h⟩
  ·exact ⟨_, g5.1, rfl, fun _ h => nomatch h⟩
  ·exact ⟨_, g6.1, rfl, fun _ h => nomatch h⟩
 let ob0 : Nat -> Option Addr := fun k => match k with | 0 => some a0 | 1 => some a1 | 2 => some a5 | 3 => some a6 | _ => none
 let tb : Nat -> Option D := fun k => match k with | 0 => some (.lst (rds.map rdD)) | 1 => some (.dic kvs) | 2 => some (.lst (isD kept)) | 3 => some (.lst (isD shared)) | _ => none
 let c0 : Co := ⟨(yA c).h, ob0⟩
 have hco : Same c0.h (Hn H [a0, a1, a5, a6]) := fun a u e => by
  have e2 := co a u (Kv a u e)
  obtain ⟨h1, _, h3⟩ := Hn.of e2
  refine Hn.mk h1 (fun ha => ?_) h3
  obtain ⟨u', e', _, hn⟩ := hfp a ha
  cases h1.symm.trans e'
  have e : (match c.h a with | some (.tup xs) => some (HO.tup xs) | _ => none) = some u := e
  split at e
  ·cases e; exact hn _ rfl
  ·cases e
 refine ⟨⟨H, ([a0, a1, a5, a6], H), ob0, tb, rds, rfl, h64⟩, hl, c0, wu st go si, [a0, a1, a5, a6], hco, ⟨rfl, fun _ _ => rfl, fun _ _ e => e, ?ct⟩, ⟨tt, fun a ps e => ⟨ps, e⟩⟩, fun a ha => ?fp, ?reps, Xl wk h64 rfl rfl rfl, ?_⟩
 case fp =>
  obtain ⟨u, h1, h2, _⟩ := hfp a ha
  exact ⟨u, h1, h2⟩
 case reps =>
  exact .cons (.obj rfl) (.cons (.obj rfl) (.cons (.str _) (.cons (.str _) (.cons (.int _) (.cons (.obj rfl) (.cons (.obj rfl) .nil))))))
 case ct =>
  intro k d e
  match k, e with
  | 0, e =>
   cases e
   refine ⟨a0, rfl, by simp, xs0, g0.1, l0, fun i x d h1 h2 => ?_⟩
   have z := rr0 i x d h1 h2
   rw [List.getElem?_map] at h2
   cases hn : rds[i]? with
   | none => rw [hn] at h2; cases h2
   | some r => rw [hn] at h2; cases h2; exact Kt z ob0
  | 1, e =>
   cases e
   refine ⟨a1, rfl, by simp, ys1, g1.1, l1, nd1, by have := congrArg List.length l1; simpa using this, fun i x d h1 h2 => ?_⟩
   rw [List.getElem?_map] at h1 h2
   cases hn : kvs[i]? with
   | none => rw [hn] at h2; cases h2
   | some p =>
    cases hm : ys1[i]? with
    | none => rw [hm] at h1; cases h1
    | some y =>
     rw [hn] at h2; rw [hm] at h1
     cases h2; cases h1
     have z := rr1 i y p hm hn
     obtain ⟨z', ez⟩ := hz p (List.mem_of_getElem? hn)
     rw [ez] at z
     show Rep K c0 y.2 p.2
     rw [ez]
     generalize y.2 = yv at z ⊢
     cases z
     exact .int _
  | 2, e => cases e; exact ⟨a5, rfl, by simp, xs5, g5.1, vz _ l5 rr5⟩
  | 3, e => cases e; exact ⟨a6, rfl, by simp, xs6, g6.1, vz _ l6 rr6⟩
 ·intro d v H' c' ⟨ω, ok, e⟩ F co' bt' tt' hfp' rv
  obtain ⟨o', e', b'⟩ := Zn (tb := tb) wk h64 rfl rfl rfl ok
  rw [e'] at e
  cases e
  cases bs.uniq b'
  have nn : Same (Hn H []) (Hn H' []) := fun a u e => by
   obtain ⟨h1, _, h3⟩ := Hn.of e
   by_cases ha : a ∈ [a0, a1, a5, a6]
   ·exact Hn.mk ((bt'.st a ha).trans h1) List.not_mem_nil h3
   ·obtain ⟨h4, _, h5⟩ := Hn.of (F.nn a u (Hn.mk h1 ha h3))
    exact Hn.mk h4 List.not_mem_nil h5
  refine q v H' c ⟨.refl _, nn, fun _ _ e => e, F.th⟩ (co.trans nn) tt'.1 ?_
  rw [if_pos rfl]
  cases o with
  | none =>
   have rv : Rep K c' v .non := rv
   cases rv
   exact .non
  | some ns =>
   have rv : Rep K c' v (.lst (isD ns)) := rv
   cases rv with
   | @lst a xs _ ea l r =>
    have hH := Hn.of (co' _ _ ea)
    have hnone : H a = none := by
     cases hh : H a with
     | none => rfl
     | some u =>
      exfalso
      by_cases ht : isT u = true
      ·cases u with
       | tbl pz =>
        obtain ⟨pz', e2⟩ := tt'.2 a pz hh
        cases e2.symm.trans hH.1
       | _ => cases ht
      ·have hn : Hn H [a0, a1, a5, a6] a = some u := Hn.mk hh hH.2.1 (by simpa using ht)
       cases hc : c0.h a with
       | none =>
        have := F.out a (by rw [hn]; exact Option.some_ne_none _) hc
        rw [this] at ea
        cases ea
       | some u' =>
        have := F.le.h a u' hc
        cases ea.symm.trans this
        exact Ku hc
    have hcn : c.h a = none := by
     cases hc : c.h a with
     | none => rfl
     | some u =>
      have := (Hn.of (co a u hc)).1
      rw [hnone] at this
      cases this
    exact ⟨a, xs, rfl, hcn, List.not_mem_nil, hnone, hH.1, vz _ l r⟩
end M
namespace M
open PySem PySem.Spec PyProof.Rows L2 X2
section
variable {X : Cx} {pins : List (Addr × Obj)} {σ : L2.St} {H : Hp} {s : Shared} {c : Co}
end
end M
namespace M
open PySem L2 X2
section
variable (T : Hp -> Prop) (hT : HTb T)
theorem X_ (a : Bool) : eqD (.bl a) (.bl a) = some (.bl true) := by
 show some (D.bl (a == a)) = _
 rw [beq_self_eq_true]
end
end M
namespace X2
open PySem PySem.Spec PyProof.Rows L2
section
variable {prog : Program} {w : World} {A : Around} {R : Result -> Shared -> Prop} {I : Addr} {fp wr : List Addr} {G : Array GenState -> Array GenState -> Prop} {n : Nat} {P : Nat -> Value -> Prop} {St : Nat -> Shared -> Prop}
end
section
variable {prog : Program} {w : World} {A : Around} {E : Value -> Shared -> Prop} {s : Shared}
end
theorem VJ {out : List (Str × Int)} {ns : List Str} (h : out.Pairwise (fun a b => a.1.cps.toList < b.1.cps.toList)) (hs : ∀ o ∈ out, o.1 ∈ ns) : out.length <= ns.length /\ (out.map Prod.fst).Nodup := by
 have nd : (out.map Prod.fst).Nodup := by
  refine List.pairwise_map.mpr (h.imp fun {a b} q e => ?_)
  rw [e] at q
  exact List.lt_irrefl _ q
 have := nd.length_le_of_subset (l₂ := ns) fun x hx => by
  obtain ⟨o, ho, rfl⟩ := List.mem_map.mp hx
  exact hs o ho
 rw [List.length_map] at this
 exact ⟨this, nd⟩
structure Paper (sp : Str -> Int) (rds : List Rd) (st : Str) (si : Int) (ns : List Str) (out : List (Str × Int)) : Prop where
 pw : out.Pairwise (fun a b => a.1.cps.toList < b.1.cps.toList)
 iff : ∀ x m, (x, m) ∈ out ↔ Least sp rds st si x m
 hst : st ∈ ns
 hds : ∀ d ∈ rds, d.b ∈ ns
 n5 : ns.length <= 5
theorem Paper.in' {sp : Str -> Int} {rds : List Rd} {st : Str} {si : Int} {ns : List Str} {out : List (Str × Int)} (p : Paper sp rds st si ns out) : ∀ o ∈ out, o.1 ∈ ns := by
 rintro ⟨x, m⟩ ho
 rcases (p.iff x m).mp ho with ⟨a, _⟩ | ⟨_, ⟨e, re, eb, _⟩, _⟩
 ·show x ∈ ns; rw [a]; exact p.hst
 ·show x ∈ ns; rw [<- eb]; exact p.hds e re.mem
theorem Paper.nd {sp : Str -> Int} {rds : List Rd} {st : Str} {si : Int} {ns : List Str} {out : List (Str × Int)} (p : Paper sp rds st si ns out) : (out.map Prod.fst).Nodup := (VJ p.pw p.in').2
theorem Paper.key {sp : Str -> Int} {rds : List Rd} {st : Str} {si : Int} {ns : List Str} {out : List (Str × Int)} (p : Paper sp rds st si ns out) {x : Str} : x ∈ out.map Prod.fst ↔ ∃ m, Least sp rds st si x m := by
 constructor
 ·intro h
  obtain ⟨⟨y, m⟩, ho, rfl⟩ := List.mem_map.mp h
  exact ⟨m, (p.iff _ _).mp ho⟩
 ·rintro ⟨m, h⟩
  exact List.mem_map.mpr ⟨(x, m), (p.iff _ _).mpr h, rfl⟩
section
variable {prog : Program} {w : World} {A : Around} {E : Value -> Shared -> Prop} {R : Result -> Shared -> Prop} {s : Shared}
end
structure Made (l acc : List (Str × Int)) : Prop where
 nd : (acc.map Prod.fst).Nodup
 key : ∀ x ∈ acc.map Prod.fst, x ∈ l.map Prod.fst
 all : (l.map Prod.fst).Nodup -> acc = l
end X2
namespace M
open PySem L2 X2
theorem vE {K : PySem.W.Frag} {c : Co} : ∀ {ys : List (Key × V)} {kvs : List (Key × D)}, ys.map (·.1) = kvs.map (·.1) -> (∀ (i : Nat) p q, ys[i]? = some p -> kvs[i]? = some q -> Rep K c p.2 q.2) -> (∀ q ∈ kvs, ∃ z, q.2 = D.int z) -> ∀ k : Key, (valV ys k = none /\ qW kvs k = none) \/ ∃ z, valV ys k = some (.int z) /\ qW kvs k = some (.int z)
 | [], [], _, _, _, k => .inl ⟨rfl, rfl⟩
 | [], _ :: _, h, _, _, _ => by cases h
 | _ :: _, [], h, _, _, _ => by cases h
 | y :: ys, q :: kvs, h, r, hz, k => by
  simp only [List.map_cons, List.cons.injEq] at h
  have ih := vE h.2 (fun i p q a b => r (i + 1) p q (by simpa using a) (by simpa using b)) (fun q hq => hz q (List.mem_cons_of_mem _ hq)) k
  unfold valV qW at *
  rw [List.find?_cons, List.find?_cons, h.1]
  by_cases hk : q.1 = k
  ·have r0 := r 0 y q rfl rfl
   obtain ⟨z, ez⟩ := hz q List.mem_cons_self
   rw [ez] at r0
   rw [decide_eq_true hk]
   refine .inr ⟨z, ?_, ?_⟩
   ·show some y.2 = _
    generalize y.2 = yv at r0
    cases r0
    rfl
   ·show some q.2 = _
    rw [ez]
  ·rw [decide_eq_false hk]
   exact ih
theorem VH {K : PySem.W.Frag} {c : Co} {ys : List (Key × V)} {kvs : List (Key × D)} (l : ys.map (·.1) = kvs.map (·.1)) (r : ∀ (i : Nat) p q, ys[i]? = some p -> kvs[i]? = some q -> Rep K c p.2 q.2) (hz : ∀ q ∈ kvs, ∃ z, q.2 = D.int z) : spn ys = spF kvs := funext fun x => by
 unfold spn spF
 rcases vE l r hz (Sum.inr x) with ⟨e1, e2⟩ | ⟨z, e1, e2⟩
 ·rw [e1, e2]
 ·rw [e1, e2]
theorem VM {K : PySem.W.Frag} {c : Co} {H : Hp} (hs : Same c.h H) {ys : List (Key × V)} : ∀ {xs : List V} {rds : List Rd}, Reps K c xs (rds.map rdD) -> (∀ r ∈ rds, valV ys (Sum.inr r.b : Key) = some (.int (spn ys r.b))) -> Rw H ys xs rds
 | xs, [], r, _ => by
  rw [r.unnil]
  exact .nil
 | xs, d :: rds, r, h => by
  obtain ⟨x, t, rfl, r1, r2⟩ := r.uncons
  refine .cons ?_ (VM hs r2 fun r hr => h r (List.mem_cons_of_mem _ hr))
  cases r1 with
  | @tup p ws _ e l rr =>
   match ws, l with
   | [w0, w1, w2, w3, w4], _ =>
    have z0 := rr 0 _ _ rfl rfl
    have z1 := rr 1 _ _ rfl rfl
    have z2 := rr 2 _ _ rfl rfl
    have z3 := rr 3 _ _ rfl rfl
    have z4 := rr 4 _ _ rfl rfl
    cases z0; cases z1; cases z2; cases z3; cases z4
    exact ⟨p, rfl, hs _ _ e, h d List.mem_cons_self⟩
def prI (o : Str × Int) : D := .tup [.str o.1, .int o.2]
def grow (c : Co) (H H' : Hp) : Co := ⟨fun a => match c.h a with | some u => some u | none => (match H a with | none => Hn H' [] a | some _ => none), c.ob⟩
section
variable {K : PySem.W.Frag} {c : Co} {H H' : Hp}
theorem Zz (co : Same c.h (Hn H [])) {a : Addr} {u : HO} (hn : H a = none) (e : H' a = some u) (ht : isT u = false) : (grow c H H').h a = some u := by
 show (match c.h a with | some u => some u | none => (match H a with | none => Hn H' [] a | some _ => none)) = some u
 cases hc : c.h a with
 | none => rw [hn]; exact Hn.mk e List.not_mem_nil ht
 | some v =>
  have := (Hn.of (co a v hc)).1
  rw [hn] at this
  cases this
theorem Vf (co : Same c.h (Hn H [])) (nn : Same (Hn H []) (Hn H' [])) (th : ∀ a, H' a = none -> H a = none) : FR H c [] H' (grow c H H') [] /\ Same (grow c H H').h (Hn H' []) := by
 refine ⟨⟨⟨fun a u e => ?_, fun _ _ e => e⟩, nn, fun a h1 h2 => ?_, th⟩, fun a u e => ?_⟩
 ·show (match c.h a with | some u => some u | none => (match H a with | none => Hn H' [] a | some _ => none)) = some u
  rw [e]
 ·show (match c.h a with | some u => some u | none => (match H a with | none => Hn H' [] a | some _ => none)) = none
  rw [h2]
  cases hh : H a with
  | none => exact absurd (jI hh) h1
  | some v => rfl
 ·have e : (match c.h a with | some u => some u | none => (match H a with | none => Hn H' [] a | some _ => none)) = some u := e
  cases hc : c.h a with
  | some v => rw [hc] at e; cases e; exact nn a _ (co a _ hc)
  | none =>
   rw [hc] at e
   cases hh : H a with
   | none => rw [hh] at e; exact e
   | some v => rw [hh] at e; cases e
theorem VL {P : Addr} (s : SaT P H H') : Same (Hn H []) (Hn H' []) := fun a u e => by
 obtain ⟨h1, _, h3⟩ := Hn.of e
 exact Hn.mk (s.keep a u h1 (by cases u <;> first | rfl | cases h3)) List.not_mem_nil h3
theorem Jd (co : Same c.h (Hn H [])) {r : Addr} {out : List (Str × Int)} {qs : List Addr} (hr : H r = none) (hq : ∀ q ∈ qs, H q = none) (PO : PrsAt H' r out qs) : Rep K (grow c H H') (.ref r) (.lst (out.map prI)) := by
 refine .lst (Zz co hr PO.hr rfl) (by rw [List.length_map, List.length_map, PO.len]) fun i x d h1 h2 => ?_
 rw [List.getElem?_map] at h1 h2
 cases e1 : qs[i]? with
 | none => rw [e1] at h1; cases h1
 | some q =>
  cases e2 : out[i]? with
  | none => rw [e2] at h2; cases h2
  | some o =>
   rw [e1] at h1; rw [e2] at h2
   cases h1; cases h2
   refine .tup (Zz co (hq q (List.mem_of_getElem? e1)) (PO.at' i q o e1 e2) rfl) rfl fun j y d h3 h4 => ?_
   match j, h3, h4 with
   | 0, h3, h4 => cases h3; cases h4; exact .str _
   | 1, h3, h4 => cases h3; cases h4; exact .int _
end
theorem wL {sp : Str -> Int} {rds : List Rd} {st : Str} {si : Int} (G : Good sp rds) : ∀ (suf pre : List Rd) (ms : List (Str × Int)), (∀ d ∈ suf, d ∈ rds) -> (pre ++ suf).Pairwise (fun a b => a.l <= b.l) -> Soon sp rds pre st si ms -> ∃ ms', Soon sp rds (pre ++ suf) st si ms'
 | [], pre, ms, _, _, S => ⟨ms, by rw [List.append_nil]; exact S⟩
 | d :: suf, pre, ms, hm, hp, S => by
  have e : pre ++ d :: suf = (pre ++ [d]) ++ suf := by simp
  have hb : ∀ e ∈ pre, e.l <= d.l := fun e he => (List.pairwise_append.mp hp).2.2 e he d List.mem_cons_self
  have go : ∀ ms', Soon sp rds (pre ++ [d]) st si ms' -> ∃ ms'', Soon sp rds (pre ++ d :: suf) st si ms'' := fun ms' S' => by
   rw [e] at hp ⊢
   exact wL G suf (pre ++ [d]) ms' (fun x hx => hm x (List.mem_cons_of_mem _ hx)) hp S'
  cases h1 : rdy ms d.a d.l with
  | false => exact go ms (S.skip fun z => absurd z (by rw [h1]; decide))
  | true =>
   cases h2 : rdy ms d.b (d.c + sp d.b) with
   | true => exact go ms (S.skip fun _ => h2)
   | false => exact go _ (S.step G (hm d List.mem_cons_self) hb h1 h2)
theorem xC {sp : Str -> Int} {rds : List Rd} {st : Str} {si : Int} {ns : List Str} (G : Good sp rds) (hst : st ∈ ns) (hds : ∀ d ∈ rds, d.b ∈ ns) (n5 : ns.length <= 5) : ∃ out, Paper sp rds st si ns out := by
 have pw := List.pairwise_mergeSort (le := fun a b : Rd => decide (a.l <= b.l)) (fun a b c h1 h2 => by simp at *; omega) (fun a b => by simp; omega) rds
 have pm := List.mergeSort_perm rds (fun a b : Rd => decide (a.l <= b.l))
 obtain ⟨ms, S⟩ := wL (st := st) (si := si) G (rds.mergeSort (fun a b : Rd => decide (a.l <= b.l))) [] [(st, si)] (fun d hd => pm.mem_iff.mp hd) (pw.imp fun h => by simpa using h) Soon.nil
 have pw2 := List.pairwise_mergeSort (le := fun a b : Str × Int => decide (a.1.cps.toList <= b.1.cps.toList)) (fun a b c h1 h2 => by simp only [decide_eq_true_eq] at *; exact List.le_trans h1 h2) (fun a b => by simp only [Bool.or_eq_true, decide_eq_true_eq]; exact List.le_total _ _) ms
 have pm2 := List.mergeSort_perm ms (fun a b : Str × Int => decide (a.1.cps.toList <= b.1.cps.toList))
 refine ⟨ms.mergeSort (fun a b : Str × Int => decide (a.1.cps.toList <= b.1.cps.toList)), ?_, fun x m => ?_, hst, hds, n5⟩
 ·have nd : (ms.mergeSort (fun a b : Str × Int => decide (a.1.cps.toList <= b.1.cps.toList))).Pairwise (fun a b => a.1 ≠ b.1) := by
   have := (pm2.map Prod.fst).nodup_iff.mpr S.nd
   exact List.pairwise_map.mp (List.nodup_iff_pairwise_ne.mp this)
  refine (pw2.and nd).imp fun {a b} ⟨h1, h2⟩ => ?_
  have h1 := of_decide_eq_true h1
  by_cases h : a.1.cps.toList < b.1.cps.toList
  ·exact h
  ·exact absurd (Qw (List.le_antisymm h1 h)) h2
 ·rw [pm2.mem_iff]
  exact S.least G fun d hd => by rw [List.nil_append]; exact pm.mem_iff.mpr hd
theorem Z9 {sp : Str -> Int} {rds : List Rd} {st go : Str} {si : Int} {e : Rd} (r : Reach sp rds st si e) : ∀ t, Fr sp rds go e t -> ∃ d t', Fr sp rds go d t' /\ d.a = st /\ si <= d.l := by
 induction r with
 | fst m e h => exact fun t f => ⟨_, t, f, e, h⟩
 | @nxt e d r m h ih => exact fun t f => ih (d :: t) (.cons r.mem h f)
theorem Zl {sp : Str -> Int} {rds : List Rd} {st go : Str} {si : Int} (h : ∃ m, Least sp rds st si go m) : ∃ l, AllW sp rds st go si l := by
 obtain ⟨m, h | ⟨_, ⟨e, r, eb, _⟩, _⟩⟩ := h
 ·exact ⟨[], .inl ⟨rfl, h.1.symm⟩⟩
 ·obtain ⟨d, t, f, h1, h2⟩ := Z9 r [] (.fin r.mem eb)
  exact ⟨d :: t, .inr ⟨d, t, rfl, f, h1, h2⟩⟩
def top (i : Nat) : Stmt := PySem.Challenge.pw_wayhold_k40_whole_a_ride_more_is_no_wors.main.body.getD i (.Pass ⟨0, 0, 0, 0⟩)
abbrev zn : Stmt := top 6
abbrev kC : Stmt := top 7
abbrev zf : Stmt := top 10
abbrev zt : Stmt := top 11
abbrev zm : Stmt := top 12
abbrev zN : Stmt := top 13
abbrev jo : Stmt := top 15
abbrev z_ : Stmt := top 16
abbrev jU : Stmt := top 18
abbrev jS : Stmt := top 19
abbrev jR : Stmt := top 20
abbrev kE : Stmt := top 21
abbrev jT : Stmt := top 22
abbrev kF : Stmt := top 23
abbrev xw : Stmt := top 24
structure Txt (K : PySem.W.Frag) (mg : Str -> Option Value) (qj qZ qk qr qi qp qD qw qF qJ qI q8 qK q9 zW : Addr) : Prop where
 b_min : mg "min" = none
 b_sorted : mg "sorted" = none
 b_len : mg "len" = none
 b_range : mg "range" = none
 b_dict : mg "dict" = none
 c_LEAVES : ∃ t, mg "LEAVES" = some (Value.int 3 t)
 c_COMES : ∃ t, mg "COMES" = some (Value.int 4 t)
 c_GOAL : ∃ t, mg "GOAL" = some (Value.int 2 t)
 c_START : ∃ t, mg "START" = some (Value.int 1 t)
 c_NUMBERS : ∃ t, mg "NUMBERS" = some (Value.int 4 t)
 c_NUMBER : ∃ t, mg "NUMBER" = some (Value.int 0 t)
 m_spare_between : mg "spare_between" = some (.ref qj)
 k_spare_between : PySem.W.keepIn K (.ref qj) = true
 m_hangs : mg "hangs" = some (.ref qZ)
 k_hangs : PySem.W.keepIn K (.ref qZ) = true
 m_least_change : mg "least_change" = some (.ref qk)
 k_least_change : PySem.W.keepIn K (.ref qk) = true
 m_best_rows : mg "best_rows" = some (.ref qr)
 k_best_rows : PySem.W.keepIn K (.ref qr) = true
 m_worth_of_none : mg "worth_of_none" = some (.ref qi)
 k_worth_of_none : PySem.W.keepIn K (.ref qi) = true
 m_worth_with : mg "worth_with" = some (.ref qp)
 k_worth_with : PySem.W.keepIn K (.ref qp) = true
 m_soonest : mg "soonest" = some (.ref qD)
 k_soonest : PySem.W.keepIn K (.ref qD) = true
 m_ready_by : mg "ready_by" = some (.ref qw)
 k_ready_by : PySem.W.keepIn K (.ref qw) = true
 m_Ldraws : mg "_law_draws" = some (.ref qF)
 k_Ldraws : PySem.W.keepIn K (.ref qF) = true
 m_Lnames : mg "_law_names" = some (.ref qJ)
 k_Lnames : PySem.W.keepIn K (.ref qJ) = true
 m_Lworld : mg "_law_world" = some (.ref qI)
 k_Lworld : PySem.W.keepIn K (.ref qI) = true
 m_Ltrip : mg "_law_trip" = some (.ref q8)
 k_Ltrip : PySem.W.keepIn K (.ref q8) = true
 m_Lmarks : mg "_law_marks" = some (.ref qK)
 k_Lmarks : PySem.W.keepIn K (.ref qK) = true
 m_Lcost : mg "_law_cost" = some (.ref q9)
 k_Lcost : PySem.W.keepIn K (.ref q9) = true
 m_law : mg "law" = some (.ref zW)
 k_law : PySem.W.keepIn K (.ref zW) = true
section
variable {P : Program} {w : World} {K : PySem.W.Frag} {mg : Str -> Option Value} {base : Heap} {qj qZ qk qr qi qp qD qw qF qJ qI q8 qK q9 zW : Addr} {zy kt zD zZ ze zS js jc zE jL jK ku jM kx ZD : FuncData} {T : Hp -> Prop} {hT : HTb T}
variable {fp0 : Fp} {ob0 : Nat -> Option Addr} {tb : Nat -> Option D}
theorem sc_worth_with : FnScope ["number", "worth", "kept", "shared", "less_shared", "unkept", "comes", "many", "numbers"] ["number", "worth", "kept", "shared"] (ql zN) := ⟨rfl, rfl, rfl, by decide +kernel, rfl, by decide +kernel, by decide +kernel⟩
theorem vS (Tx : Txt K mg qj qZ qk qr qi qp qD qw qF qJ qI q8 qK q9 zW) (Fu : Fun K "worth_with" "worth_with" zN qp zS) : FnOk P w K mg base CX0 1 qp zS ["number", "worth", "kept", "shared"] (spQ K T (BT K fp0 ob0 tb) 4 (fun ds => True /\ ∀ _ : Unit, True -> ∃ d, zH T hT K fp0 ob0 tb ds = some d) (fun ds d => ∃ _ : Unit, True /\ zH T hT K fp0 ob0 tb ds = some d)) := by
 have z := Xy (T := T) (hT := hT) (B := BT K fp0 ob0 tb) (hB := hBT) (P := P) (w := w) (K := K) (mg := mg) (base := base) (k := 0) (n := 4) (N := ["number", "worth", "kept", "shared", "less_shared", "unkept", "comes", "many", "numbers"]) (ps := ["number", "worth", "kept", "shared"]) (body := jx T hT K fp0 ob0 tb) (O' := []) fp0.1 (fun _ _ _ h => h.e) Fu sc_worth_with rfl (fun cdv A outer s H EX E hr =>
  (qm (yT (ji (qz qg (qz qg (qz qg (qz qg (qz qg zY)))))) (qb (pv 1) (by decide)) (kX rfl (qN qg (qH (qC (i := 4) sc_worth_with.nd rfl (by first | exact Or.inl rfl | exact Or.inr rfl))) (qN qg (qH (qC (i := 5) sc_worth_with.nd rfl (by first | exact Or.inl rfl | exact Or.inr rfl))) (qN qg (qH (qC (i := 6) sc_worth_with.nd rfl (by first | exact Or.inl rfl | exact Or.inr rfl))) (qN qg (qH (qC (i := 7) sc_worth_with.nd rfl (by first | exact Or.inl rfl | exact Or.inr rfl))) (qN qg (qH (qC (i := 8) sc_worth_with.nd rfl (by first | exact Or.inl rfl | exact Or.inr rfl))) jO)))))))
  (qm (jw (ZI (Q7 (huR hr)) o_in (qb (pv 0) (by decide)) (qb (pv 3) (by decide)) rfl)
  (qA (ZK (i := 4) sc_worth_with.nd rfl (by first | exact Or.inl rfl | exact Or.inr rfl) (by decide) (de_c qf rfl) Xu V1))
  zB)
  (qm (jw (ZI (wm (huR hr)) Xg (qb (pv 0) (by decide)) (qb (pv 2) (by decide)) rfl)
  (qA (ZK (i := 5) sc_worth_with.nd rfl (by first | exact Or.inl rfl | exact Or.inr rfl) (by decide) (de_c qf rfl) Kl J8))
  zB)
  (qA (z5 (ky (qc (m := true) (qb (pv 4) (by decide)) (qc (m := true) (qb (pv 5) (by decide)) (qc (m := true) (qb (pv 6) (by decide)) (qc (m := true) (DO.de (q_ (qb (pv 7) (by decide)) (de_c qf rfl))) (qc (m := true) (DO.de (q_ (DO.de (jj (qc (m := true) (qb (pv 0) (by decide)) (qB (m := true))))) (qb (pv 8) (by decide)))) (qB (m := true))))))))))))))
 exact z
theorem sc_best_rows : FnScope ["rides", "spans", "goal", "kept", "shared", "found", "ride", "behind"] ["rides", "spans", "goal", "kept", "shared"] (ql zt) := ⟨rfl, rfl, rfl, by decide +kernel, rfl, by decide +kernel, by decide +kernel⟩
theorem xE (Tx : Txt K mg qj qZ qk qr qi qp qD qw qF qJ qI q8 qK q9 zW) {Pt cd : Addr} {lp : Pos} (Fu : FunC K "best_rows" "best_rows" zt qr zZ cd) (hc : PySem.W.codeHdIn K cd Pt = true) (BM : Bm base mg) {rds : List Rd} (hto : tb 0 = some (.lst (rds.map rdD))) (h64 : rds.length < 64) (hTT : ∀ H, T H -> TabOk H Pt lpBR lqBR) (hTS : ∀ H H', T H -> SaT Pt H H' -> TabOk H' Pt lpBR lqBR -> T H') (Ghangs : FnOk P w K mg base CX0 2 qZ kt ["ride", "after", "spans"] (spP K T 3 false (kR T hT))) (Bhangs : Binds K kt ["ride", "after", "spans"] []) (Gworth_of_none : FnOk P w K mg base CX0 1 qi ze ["comes"] (spP K T 1 false (qU T hT))) (Bworth_of_none : Binds K ze ["comes"] []) (Gworth_with : FnOk P w K mg base CX0 1 qp zS ["number", "worth", "kept", "shared"] (spQ K T (BT K fp0 ob0 tb) 4 (fun ds => True /\ ∀ _ : Unit, True -> ∃ d, zH T hT K fp0 ob0 tb ds = some d) (fun ds d => ∃ _ : Unit, True /\ zH T hT K fp0 ob0 tb ds = some d))) (Bworth_with : Binds K zS ["number", "worth", "kept", "shared"] []) : FnOk P w K mg base CX0 3 qr zZ ["rides", "spans", "goal", "kept", "shared"] (spQ K T (BT K fp0 ob0 tb) 5 (fun ds => ds[0]? = some (.obj 0) /\ ∀ ω, (List.Perm ω rds /\ ω.Pairwise (fun a b => b.l <= a.l)) -> ∃ d, qE T hT K fp0 ob0 tb ω ds = some d) (fun ds d => ∃ ω, (List.Perm ω rds /\ ω.Pairwise (fun a b => b.l <= a.l)) /\ qE T hT K fp0 ob0 tb ω ds = some d)) := by
 obtain ⟨t_GOAL, e_GOAL⟩ := Tx.c_GOAL
 obtain ⟨t_COMES, e_COMES⟩ := Tx.c_COMES
 obtain ⟨t_NUMBER, e_NUMBER⟩ := Tx.c_NUMBER
 obtain ⟨t_LEAVES, e_LEAVES⟩ := Tx.c_LEAVES
 have z := Vi (Ω := List Rd) (T := T) (hT := hT) (B := BT K fp0 ob0 tb) (hB := hBT) (P := P) (w := w) (K := K) (mg := mg) (base := base) (k := 2) (n := 5) (N := ["rides", "spans", "goal", "kept", "shared", "found", "ride", "behind"]) (ps := ["rides", "spans", "goal", "kept", "shared"]) (body := jP T hT K fp0 ob0 tb) (O' := []) (Pr := fun ds => ds[0]? = some (.obj 0)) (Ok := fun _ ω => List.Perm ω rds /\ ω.Pairwise (fun a b => b.l <= a.l)) fp0.1 (fun _ _ _ h => h.e) Fu sc_best_rows rfl (fun A outer s H EX E hr => by
  refine jV (jt (t := tS (W := WB T hT K fp0 ob0 tb) (cxOf CX0 P w K mg base ["rides", "spans", "goal", "kept", "shared", "found", "ride", "behind"] "best_rows" (ql zt) qr (.ref cd) A outer s H EX).nox E false [] [] (sSet 5 (eLst aNil)) [5])
   (DS.weak (O := []) (O1 := []) (O2 := [5]) (kL (i := 5) sc_best_rows.nd rfl (by first | exact Or.inl rfl | exact Or.inr rfl) (jj (qB (m := true)))) (by decide) (by decide))
   (jt (t := VE (W := WB T hT K fp0 ob0 tb) (cxOf CX0 P w K mg base ["rides", "spans", "goal", "kept", "shared", "found", "ride", "behind"] "best_rows" (ql zt) qr (.ref cd) A outer s H EX).nox E false [] [5] (fun g Ok => ((g.v[0]?).join = some (.obj 0)) /\ ∃ rds : List Rd, tb 0 = some (.lst (rds.map rdD)) /\ rds.length < 64 /\ ∀ rds' : List Rd, rds'.Perm rds -> rds'.Pairwise (fun a b => b.l <= a.l) -> Ok (rds'.map rdD)) (qx 6) (lpB T hT K fp0 ob0 tb)) (KK PassesOwn.never rfl qg ?SI (qH (qC (i := 6) sc_best_rows.nd rfl (by first | exact Or.inl rfl | exact Or.inr rfl)))
   (qm (DS.weak (O := [5]) (O1 := [5]) (O2 := [5, 7]) (vm (i := 7) sc_best_rows.nd rfl (by first | exact Or.inl rfl | exact Or.inr rfl) (T := ["after", "worth"]) (caps := ["ride", "spans"]) (ix := [6, 1]) (O1 := []) (kY rfl (by rfl) (by decide +kernel) (by decide +kernel) rfl (by intro x hx; repeat (first | (rcases List.mem_cons.mp hx with rfl | hx; · exact ⟨rfl, rfl, rfl⟩) | exact absurd hx (List.not_mem_nil))) (by rfl) (by intro x hx; repeat (first | (rcases List.mem_cons.mp hx with rfl | hx; · rfl) | exact absurd hx (List.not_mem_nil)))) rfl (by decide) (ji (qz qg (qz qg zY))) (Vm (pv 5) (by decide)) (fun _ _ _ _ _ => (kX rfl (qN qg (qH (qC (i := 0) (by show (["after", "worth", "ride", "spans"] : List Str).Nodup; decide +kernel) rfl (by first | exact Or.inl rfl | exact Or.inr rfl))) (qN qg (qH (qC (i := 1) (by show (["after", "worth", "ride", "spans"] : List Str).Nodup; decide +kernel) rfl (by first | exact Or.inl rfl | exact Or.inr rfl))) jO)))) (by decide) (by decide) (fun _ _ _ _ _ => (kf (yR (JP (hr.mono (by decide)) rfl Tx.m_hangs Tx.k_hangs Bhangs (G := Ghangs) (ha := (qc (m := true) (qb (pv 2) (by decide)) (qc (m := true) (qb (pv 0) (by decide)) (qc (m := true) (qb (pv 3) (by decide)) (qB (m := true)))))))))) (fun _ _ _ _ _ => (qb (pv 1) (by decide)))) (by decide) (by decide))
   (qm (jw (zA (jG (huR hr)) o_eq (qL (huR hr) (qb (pv 6) (by decide)) (de_c (jb (v := .int 2) rfl e_GOAL ⟨_, rfl⟩) rfl)) (qb (pv 2) (by decide)) (zk _))
   (qA (vK (pv 7) (by decide) (z8 (hr.mono (by decide)) rfl Tx.m_worth_of_none Tx.k_worth_of_none Bworth_of_none (G := Gworth_of_none) (ha := (qc (m := true) (qL (huR hr) (qb (pv 6) (by decide)) (de_c (jb (v := .int 4) rfl e_COMES ⟨_, rfl⟩) rfl)) (qB (m := true)))))))
   zB)
   (qA (jw (yR (vM (pv 7) (by decide)))
   (qA (DS.weak (O := [5, 7]) (O1 := [5]) (O2 := [5]) (vK (pv 5) (by decide) (ky (qc (m := true) (qb (pv 6) (by decide)) (qc (m := true) (ZO (hr.mono (by decide)) rfl Tx.m_worth_with Tx.k_worth_with Bworth_with (G := Gworth_with) (ha := (qc (m := true) (qL (huR hr) (qb (pv 6) (by decide)) (de_c (jb (v := .int 0) rfl e_NUMBER ⟨_, rfl⟩) rfl)) (qc (m := true) (Kr rfl (huR hr) rfl Tx.b_min (qb (pv 7) (by decide))) (qc (m := true) (qb (pv 3) (by decide)) (qc (m := true) (qb (pv 4) (by decide)) (qB (m := true)))))))) (qB (m := true)))))) (by decide) (by decide)))
   (DSs.weak (O := [5, 7]) (O1 := [5, 7]) (O2 := [5]) zB (by decide) (by decide)))))))
   (u := tS (W := WB T hT K fp0 ob0 tb) (cxOf CX0 P w K mg base ["rides", "spans", "goal", "kept", "shared", "found", "ride", "behind"] "best_rows" (ql zt) qr (.ref cd) A outer s H EX).nox E false [] [5] (sRet (eVar 5)) []) (qA (DS.weak (O := [5]) (O1 := []) (O2 := []) (O' := []) (z5 (qb (pv 5) (by decide))) (by decide) (by decide))))) ?fin
  case SI => exact Jh (ko := 0) (i := 0) (c := cd) (P := Pt) hTT hTS hr rfl Tx.b_sorted (pv 0) (by decide) rfl hc BM e_LEAVES
  case fin =>
   rintro Dn σ H1 ⟨ds, c, fp, S, pr, q⟩
   refine ⟨_, c, fp, S, ?_⟩
   intro σ' H' c' fp' S' le
   refine ⟨_, c', fp', fun xs => ∃ ω : List Rd, xs = ω.map rdD /\ List.Perm ω rds /\ ω.Pairwise (fun a b => b.l <= a.l), S', ⟨?_, rds, hto, h64, fun ω h1 h2 => ⟨ω, rfl, h1, h2⟩⟩, ?_⟩
   ·cases ds with
    | nil => cases pr
    | cons d ds => cases pr; rfl
   ·rintro xs ⟨ω, rfl, h1, h2⟩
    exact ⟨S', J3 ((q ω ⟨h1, h2⟩).mono le)⟩)
 exact z
theorem sc_least_change : FnScope ["rides", "spans", "start", "goal", "since", "kept", "shared", "worths"] ["rides", "spans", "start", "goal", "since", "kept", "shared"] (ql zf) := ⟨rfl, rfl, rfl, by decide +kernel, rfl, by decide +kernel, by decide +kernel⟩
theorem vg (Tx : Txt K mg qj qZ qk qr qi qp qD qw qF qJ qI q8 qK q9 zW) (Fu : Fun K "least_change" "least_change" zf qk zD) {rds : List Rd} (Gbest_rows : FnOk P w K mg base CX0 3 qr zZ ["rides", "spans", "goal", "kept", "shared"] (spQ K T (BT K fp0 ob0 tb) 5 (fun (ds : List D) => ds[0]? = some (.obj 0) /\ ∀ ω, (List.Perm ω rds /\ ω.Pairwise (fun a b => b.l <= a.l)) -> ∃ d, qE T hT K fp0 ob0 tb ω ds = some d) (fun (ds : List D) (d : D) => ∃ ω, (List.Perm ω rds /\ ω.Pairwise (fun a b => b.l <= a.l)) /\ qE T hT K fp0 ob0 tb ω ds = some d))) (Bbest_rows : Binds K zZ ["rides", "spans", "goal", "kept", "shared"] []) (Gworth_of_none : FnOk P w K mg base CX0 1 qi ze ["comes"] (spP K T 1 false (qU T hT))) (Bworth_of_none : Binds K ze ["comes"] []) : FnOk P w K mg base CX0 4 qk zD ["rides", "spans", "start", "goal", "since", "kept", "shared"] (spQ K T (BT K fp0 ob0 tb) 7 (fun ds => (fun ds => ∃ as, qM T hT K fp0 ob0 tb (qY 8 ds ()) = .ok as () /\ as.length = 5 /\ (fun (ds : List D) => ds[0]? = some (.obj 0) /\ ∀ ω, (List.Perm ω rds /\ ω.Pairwise (fun a b => b.l <= a.l)) -> ∃ d, qE T hT K fp0 ob0 tb ω ds = some d) as /\ ∀ d, (fun (ds : List D) (d : D) => ∃ ω, (List.Perm ω rds /\ ω.Pairwise (fun a b => b.l <= a.l)) /\ qE T hT K fp0 ob0 tb ω ds = some d) as d -> ∃ xs, d = .lst xs) ds /\ ∀ ω, (fun ds ω => ∃ as, qM T hT K fp0 ob0 tb (qY 8 ds ()) = .ok as () /\ (fun (ds : List D) (d : D) => ∃ ω, (List.Perm ω rds /\ ω.Pairwise (fun a b => b.l <= a.l)) /\ qE T hT K fp0 ob0 tb ω ds = some d) as (.lst ω)) ds ω -> ∃ d, zi T hT K fp0 ob0 tb ω ds = some d) (fun ds d => ∃ ω, (fun ds ω => ∃ as, qM T hT K fp0 ob0 tb (qY 8 ds ()) = .ok as () /\ (fun (ds : List D) (d : D) => ∃ ω, (List.Perm ω rds /\ ω.Pairwise (fun a b => b.l <= a.l)) /\ qE T hT K fp0 ob0 tb ω ds = some d) as (.lst ω)) ds ω /\ zi T hT K fp0 ob0 tb ω ds = some d)) := by
 obtain ⟨t_LEAVES, e_LEAVES⟩ := Tx.c_LEAVES
 obtain ⟨t_START, e_START⟩ := Tx.c_START
 obtain ⟨t_NUMBERS, e_NUMBERS⟩ := Tx.c_NUMBERS
 have z := Ko (Ω := List D) (T := T) (hT := hT) (B := BT K fp0 ob0 tb) (hB := hBT) (P := P) (w := w) (K := K) (mg := mg) (base := base) (k := 3) (n := 7) (N := ["rides", "spans", "start", "goal", "since", "kept", "shared", "worths"]) (ps := ["rides", "spans", "start", "goal", "since", "kept", "shared"]) (body := jh T hT K fp0 ob0 tb) (O' := []) (Pr := (fun ds => ∃ as, qM T hT K fp0 ob0 tb (qY 8 ds ()) = .ok as () /\ as.length = 5 /\ (fun (ds : List D) => ds[0]? = some (.obj 0) /\ ∀ ω, (List.Perm ω rds /\ ω.Pairwise (fun a b => b.l <= a.l)) -> ∃ d, qE T hT K fp0 ob0 tb ω ds = some d) as /\ ∀ d, (fun (ds : List D) (d : D) => ∃ ω, (List.Perm ω rds /\ ω.Pairwise (fun a b => b.l <= a.l)) /\ qE T hT K fp0 ob0 tb ω ds = some d) as d -> ∃ xs, d = .lst xs)) (Ok := (fun ds ω => ∃ as, qM T hT K fp0 ob0 tb (qY 8 ds ()) = .ok as () /\ (fun (ds : List D) (d : D) => ∃ ω, (List.Perm ω rds /\ ω.Pairwise (fun a b => b.l <= a.l)) /\ qE T hT K fp0 ob0 tb ω ds = some d) as (.lst ω))) fp0.1 (fun _ _ _ h => h.e) Fu sc_least_change rfl (fun cdv A outer s H EX E hr => by
  refine jV (jt (t := JZ (W := WB T hT K fp0 ob0 tb) (cxOf CX0 P w K mg base ["rides", "spans", "start", "goal", "since", "kept", "shared", "worths"] "least_change" (ql zf) qk cdv A outer s H EX).nox E false [] [] (PcN (qM T hT K fp0 ob0 tb) 5 (fun (ds : List D) => ds[0]? = some (.obj 0) /\ ∀ ω, (List.Perm ω rds /\ ω.Pairwise (fun a b => b.l <= a.l)) -> ∃ d, qE T hT K fp0 ob0 tb ω ds = some d) (fun (ds : List D) (d : D) => ∃ ω, (List.Perm ω rds /\ ω.Pairwise (fun a b => b.l <= a.l)) /\ qE T hT K fp0 ob0 tb ω ds = some d)) 7 2 [4, 2] (pTup 2 (zd (qx 0) (zd (qx 1) pNil))) (qAnd (qCmp eqD (M.e2 ixD (eVar 0) (eC (.int 1))) (eVar 3)) (qCmp geI (M.e2 ixD (eVar 0) (eC (.int 3))) (eVar 2))) (eVar 1))
   (Jc (i := 7) sc_least_change.nd rfl (by first | exact Or.inl rfl | exact Or.inr rfl) (T := ["ride", "worth"]) (caps := ["since", "start"]) (ix := [4, 2]) (O1 := []) (kY rfl (by rfl) (by decide +kernel) (by decide +kernel) rfl (by intro x hx; repeat (first | (rcases List.mem_cons.mp hx with rfl | hx; · exact ⟨rfl, rfl, rfl⟩) | exact absurd hx (List.not_mem_nil))) (by rfl) (by intro x hx; repeat (first | (rcases List.mem_cons.mp hx with rfl | hx; · rfl) | exact absurd hx (List.not_mem_nil)))) rfl (by decide) (ji (qz qg (qz qg zY))) ?HI (fun _ _ _ _ _ => (kX rfl (qN qg (qH (qC (i := 0) (by show (["ride", "worth", "since", "start"] : List Str).Nodup; decide +kernel) rfl (by first | exact Or.inl rfl | exact Or.inr rfl))) (qN qg (qH (qC (i := 1) (by show (["ride", "worth", "since", "start"] : List Str).Nodup; decide +kernel) rfl (by first | exact Or.inl rfl | exact Or.inr rfl))) jO)))) (by decide) (by decide) (fun _ _ _ _ _ => (kf (DW.dt (ZG (zA (jG (huR hr)) o_eq (qL (huR hr) (qb (pv 0) (by decide)) (de_c (jb (v := .int 1) rfl e_START ⟨_, rfl⟩) rfl)) (qb (pv 3) (by decide)) (zk _)) (yh (zA KY o_ge (qL (huR hr) (qb (pv 0) (by decide)) (de_c (jb (v := .int 3) rfl e_LEAVES ⟨_, rfl⟩) rfl)) (qb (pv 2) (by decide)) (zk _))))))) (fun _ _ _ _ _ => (qb (pv 1) (by decide))))
   (u := tS (W := WB T hT K fp0 ob0 tb) (cxOf CX0 P w K mg base ["rides", "spans", "start", "goal", "since", "kept", "shared", "worths"] "least_change" (ql zf) qk cdv A outer s H EX).nox E false [] [7] (sSeq (sIf (qCmp eqD (eVar 2) (eVar 3))
(sApp 7 (qX 1 (qU T hT) (qd (eVar 4) aNil)))
sNil)
(sSeq (sIf (qNot (qTru (eVar 7)))
(sRet (eC .non))
sNil)
(sRet (e2 ixD (e1 (minO true) (eVar 7)) (eC (.int 4)))))) [])
   (qm (jw (zA (jG (huR hr)) o_eq (qb (pv 2) (by decide)) (qb (pv 3) (by decide)) (zk _))
   (qA (vK (pv 7) (by decide) (z8 (hr.mono (by decide)) rfl Tx.m_worth_of_none Tx.k_worth_of_none Bworth_of_none (G := Gworth_of_none) (ha := (qc (m := true) (qb (pv 4) (by decide)) (qB (m := true)))))))
   zB)
   (qm (jw (XA (yR (vM (pv 7) (by decide))))
   (qA (z5 (de_c QZ rfl)))
   zB)
   (qA (DS.weak (O := [7]) (O1 := []) (O2 := []) (O' := []) (z5 (qL (huR hr) (Kr rfl (huR hr) rfl Tx.b_min (qb (pv 7) (by decide))) (de_c (jb (v := .int 4) rfl e_NUMBERS ⟨_, rfl⟩) rfl))) (by decide) (by decide)))))) ?fin
  case HI =>
   refine XF ?_
   unfold qM
   exact (QU (hr.mono (by decide)) rfl Tx.m_best_rows Tx.k_best_rows Bbest_rows (G := Gbest_rows) (ha := (qc (m := true) (qb (pv 0) (by decide)) (qc (m := true) (qb (pv 1) (by decide)) (qc (m := true) (qb (pv 3) (by decide)) (qc (m := true) (qb (pv 5) (by decide)) (qc (m := true) (qb (pv 6) (by decide)) (qB (m := true)))))))))
  case fin =>
   rintro Dn σ H1 ⟨ds, c, fp, S, ⟨as, ea, la, pa, ha⟩, q⟩
   exact ⟨_, c, fp, fun xs => (fun (ds : List D) (d : D) => ∃ ω, (List.Perm ω rds /\ ω.Pairwise (fun a b => b.l <= a.l)) /\ qE T hT K fp0 ob0 tb ω ds = some d) as (.lst xs), S, ⟨as, ea, la, pa, ha, fun xs h => h⟩, fun xs h => ⟨S, J3 (q xs ⟨as, ea, h⟩)⟩⟩)
 exact z
def lpS : Pos := ⟨41, 65, 41, 90⟩
section
variable {Pt : Addr}
theorem wM : FnScope ["moments", "place", "moment"] ["moments", "place", "moment"] (ql z_) := ⟨rfl, rfl, rfl, by decide +kernel, rfl, by decide +kernel, by decide +kernel⟩
theorem wY (T : Txt K mg qj qZ qk qr qi qp qD qw qF qJ qI q8 qK q9 zW) (F : Fun K "ready_by" "ready_by" z_ qw jc) : FnOk P w K mg base CX0 1 qw jc ["moments", "place", "moment"] Qx := by
 refine F.ok wM (fun vs H Q E h => ?_) (fun cdv A outer s H vs Q E hr h => ?_)
 ·obtain ⟨p, ps, x, m, rfl, _⟩ := h
  rfl
 obtain ⟨p, ps, x, m, rfl, hp, k⟩ := h
 have hu := Xv hr
 refine ⟨_,
  (kI (yE (Kc (V7 (V_ hu (pv 1) (pv 0)) rfl) (Ka (Q2 XX (Q0 hu (pv 0) (pv 1) (fun _ _ => rfl)) (pv 2) (zk _)))))), ?_⟩
 refine ⟨_, rfl, _, rfl, p, _, rfl, DGet.k (k := Sum.inr x) hp, ?_⟩
 cases e : ps.lookup x with
 | none =>
  have e1 : valV (toDK ps) (Sum.inr x : Key) = none := by rw [x9, e]; rfl
  rw [e1]
  refine ⟨_, rfl, ?_⟩
  refine iteN (by decide) ?_
  have : rdy ps x m = false := by unfold rdy; rw [e]
  rw [this] at k
  exact k
 | some z =>
  have e1 : valV (toDK ps) (Sum.inr x : Key) = some (.int z) := by rw [x9, e]; rfl
  rw [e1]
  refine ⟨_, rfl, ?_⟩
  refine iteP rfl ?_
  have : rdy ps x m = decide (z <= m) := by unfold rdy; rw [e]
  rw [this] at k
  exact ⟨_, rfl, _, rfl, p, _, rfl, e1 ▸ DGet.k (k := Sum.inr x) hp, _, rfl, _, _, rfl, rfl, k⟩
theorem sc_soonest : FnScope ["rides", "spans", "start", "since", "ready", "number", "begins", "ends", "leaves", "comes", "moment"] ["rides", "spans", "start", "since"] (ql jo) := ⟨rfl, rfl, rfl, by decide +kernel, rfl, by decide +kernel, by decide +kernel⟩
theorem Qe (T : Txt K mg qj qZ qk qr qi qp qD qw qF qJ qI q8 qK q9 zW) {c : Addr} (F : FunC K "soonest" "soonest" jo qD js c) (hc : PySem.W.codeHdIn K c Pt = true) (BM : Bm base mg) (Gready_by : FnOk P w K mg base CX0 1 qw jc ["moments", "place", "moment"] Qx) (Bready_by : Binds K jc ["moments", "place", "moment"] []) : FnOk P w K mg base CX0 2 qD js ["rides", "spans", "start", "since"] (J2 K Pt lpS) := by
 obtain ⟨t_LEAVES, e_LEAVES⟩ := T.c_LEAVES
 refine F.ok sc_soonest (fun vs H Q E h => ?_) (fun A outer s H vs Q E hr h => ?_)
 ·obtain ⟨pr, ps, xs, kvs, ds, ns, st, si, rfl, _⟩ := h
  rfl
 obtain ⟨pr, ps, xs, kvs, ds, ns, st, si, rfl, hpr, hps, rw_, l64, G, n5, hst, hds, tab, k⟩ := h
 have hu := Xv hr
 refine ⟨_,
  (jt (yD (i := 4) sc_soonest.nd rfl (by first | exact Or.inl rfl | exact Or.inr rfl) (KP (Je (pv 2) (pv 3) KM) rfl rfl (by intro z; cases z) (by show 1 <= 15; decide)))
  (jt (QN PassesOwn.never rfl (vB (Jj (ix := 3) hr rfl T.b_sorted (pv 0) rfl hc BM e_LEAVES)) (J_ rfl (jW (qC (i := 5) sc_soonest.nd rfl (by first | exact Or.inl rfl | exact Or.inr rfl)) (jW (qC (i := 6) sc_soonest.nd rfl (by first | exact Or.inl rfl | exact Or.inr rfl)) (jW (qC (i := 7) sc_soonest.nd rfl (by first | exact Or.inl rfl | exact Or.inr rfl)) (jW (qC (i := 8) sc_soonest.nd rfl (by first | exact Or.inl rfl | exact Or.inr rfl)) (jW (qC (i := 9) sc_soonest.nd rfl (by first | exact Or.inl rfl | exact Or.inr rfl)) QV))))))
  (kI (KJ (J6 (j9 Gready_by hr rfl T.m_ready_by T.k_ready_by Bready_by .nil wT (zL (pv 4) (zL (pv 6) (zL (pv 8) jF)))))
  (jt (yD (i := 10) sc_soonest.nd rfl (by first | exact Or.inl rfl | exact Or.inr rfl) (KO Kf (pv 9) (Q0 hu (pv 1) (pv 7) (fun _ _ => rfl))))
  (kI (KJ (J7 (J6 (j9 Gready_by hr rfl T.m_ready_by T.k_ready_by Bready_by .nil wT (zL (pv 4) (zL (pv 7) (zL (pv 10) jF))))))
  (kI (QO hu (pv 4) (pv 7) (pv 10) rfl))
  wR)))
  wR)))
  (kI (yE (xB (vj rfl) rfl T.b_sorted vP (zL (V8 PySem.F.plainAttrs_dict PySem.F.slot_dict_items PySem.F.type_dict_items Jt (pv 4)) jF)))))), ?_⟩
 intro pd npd
 refine ⟨_, rfl, _, rfl, qv, [((Sum.inr st : Key), V.int si)], rfl, (by show 1 <= 15; decide), ?_⟩
 have e0 : upd (upd H pd (.dK [])) pd (.dK (v_ [] [((Sum.inr st : Key), V.int si)])) = upd H pd (.dK (toDK [(st, si)])) := by
  funext b
  by_cases hb : b = pd
  ·subst hb; rw [qv, qv]; rfl
  ·rw [qu hb, qu hb, qu hb]
 rw [e0]
 have t1 := zQ npd (.dK (toDK [(st, si)]))
 have lds : (ds.map (·.l)).length = xs.length := by rw [List.length_map, kJ rw_]
 refine ⟨_, rfl, pr, xs, ds.map (·.l), rfl, SqL.of (t1 _ _ hpr), l64, lds, ?items, tab.mono t1, ?_⟩
 case items =>
  intro i x kk hx hk
  obtain ⟨d, hd, q, e, g, _⟩ := wj rw_ hx
  rw [List.getElem?_map, hd] at hk
  cases hk
  exact ⟨q, _, e, t1 _ _ g, rfl⟩
 intro D out H2 s2 tab2 nD hD ko
 obtain ⟨ds', rw', pm, pw⟩ := Qi (j_ (fun _ _ r => r.mono t1) rw_) ko
 have rw2 : Rw H2 kvs out ds' := j_ (fun _ _ r => r.saT s2) rw'
 have hpd2 : H2 pd = some (.dK (toDK [(st, si)])) := s2.keep _ _ qv rfl
 have hps2 : H2 ps = some (.dK kvs) := s2.keep _ _ (t1 _ _ hps) rfl
 have nps : ps ≠ pd := qV hps npd
 have nDp : D ≠ pd := Zi hD hpd2 fun z => nomatch z
 have S02 : SaT Pt H H2 := (SaT.of t1).trans s2
 have pmem : ∀ d, d ∈ ds' ↔ d ∈ ds := fun d => pm.mem_iff
 refine ⟨D, rfl, ⟨_, SqL.of hD⟩, JI (xs := out) (fun i σ H3 => ∃ (ms : List (Str × Int)) (u1 u2 u3 u4 u5 u6 : Option V), σ = [some (.ref pr), some (.ref ps), some (.str st), some (.int si), some (.ref pd), u1, u2, u3, u4, u5, u6] /\ H3 pd = some (.dK (toDK ms)) /\ Sx pd H2 H3 /\ Soon (spn kvs) ds (ds'.take i) st si ms) ⟨[(st, si)], _, _, _, _, _, _, rfl, hpd2, Sx.refl, by rw [List.take_zero]; exact Soon.nil⟩ ?_ ?_ ?_⟩
 ·rintro i σ H3 hi ⟨ms, u1, u2, u3, u4, u5, u6, rfl, hp3, sx, S⟩
  exact SqL.of (sx _ _ nDp hD)
 ·rintro i x σ H3 hx ⟨ms, u1, u2, u3, u4, u5, u6, rfl, hp3, sx, S⟩
  obtain ⟨d, hd, r⟩ := wj rw2 hx
  obtain ⟨q, rfl, g, v⟩ := r.sx sx hpd2
  have md : d ∈ ds := (pmem d).mp (List.mem_of_getElem? hd)
  have et : ds'.take (i + 1) = ds'.take i ++ [d] := take_snoc hd
  have before : ∀ e ∈ ds'.take i, e.l <= d.l := fun e he => by
   obtain ⟨j, hj⟩ := List.mem_iff_getElem?.mp he
   rw [List.getElem?_take] at hj
   split at hj
   ·rename_i hji
    obtain ⟨hj1, rfl⟩ := List.getElem?_eq_some_iff.mp hj
    obtain ⟨hd1, rfl⟩ := List.getElem?_eq_some_iff.mp hd
    exact List.pairwise_iff_getElem.mp pw j i hj1 hd1 hji
   ·cases hj
  have len5 : ms.length <= 5 := Nat.le_trans (S.small hst hds) n5
  refine ⟨q, _, rfl, SqT.of g, rfl, _, _, rfl, _, _, rfl, _, _, rfl, _, _, rfl, _, _, rfl, rfl, ?_⟩
  refine ⟨_, rfl, _, rfl, _, rfl, pd, ms, _, _, rfl, hp3, _, rfl, ?_⟩
  cases h1 : rdy ms d.a d.l with
  | false =>
   refine iteN (by decide) ⟨ms, _, _, _, _, _, _, rfl, hp3, sx, ?_⟩
   rw [et]
   exact S.skip fun z => absurd z (by rw [h1]; decide)
  | true =>
   refine iteP rfl ?_
   refine ⟨_, rfl, _, rfl, _, rfl, ps, _, rfl, v ▸ DGet.k (k := Sum.inr d.b) (sx _ _ nps hps2), _, _, rfl, rfl, ?_⟩
   refine ⟨_, rfl, _, rfl, _, rfl, pd, ms, _, _, rfl, hp3, _, rfl, ?_⟩
   cases h2 : rdy ms d.b (d.c + spn kvs d.b) with
   | true =>
    refine iteN (by decide) ⟨ms, _, _, _, _, _, _, rfl, hp3, sx, ?_⟩
    rw [et]
    exact S.skip fun _ => h2
   | false =>
    refine iteP rfl ⟨_, rfl, _, rfl, _, rfl, pd, _, rfl, DPut.k (k := Sum.inr d.b) hp3 (vu (by rw [toDK, List.length_map]; omega)), ?_⟩
    rw [QK]
    refine ⟨_, _, _, _, _, _, _, rfl, qv, sx.put _, ?_⟩
    rw [et]
    exact S.step G md before h1 h2
 ·rintro σ H3 ⟨ms, u1, u2, u3, u4, u5, u6, rfl, hp3, sx, S⟩
  have ef : ds'.take out.length = ds' := by rw [kJ rw2, List.take_length]
  rw [ef] at S
  have len5 : ms.length <= 5 := Nat.le_trans (S.small hst hds) n5
  refine ⟨_, rfl, .inr (.inr (.inl ⟨rfl, .inl ⟨_, hp3⟩⟩)), pd, _, rfl, rfl, hp3, fun v nv => ?_⟩
  have tv := zQ nv (y_ v pd)
  refine ⟨v, pd, ms, rfl, qv, tv _ _ hp3, len5, fun l o qs H4 s4 nl opm opw hl lq its nq => ?_⟩
  have S3 : SaT Pt H H3 := S02.sx sx npd
  have S4 : SaT Pt H H4 := (S3.trans (SaT.of tv)).trans (SaT.of s4)
  have tab4 := ((tab2.sx sx hpd2).mono tv).mono s4
  exact k l o qs H4 S4 tab4 ((S3.trans (SaT.of tv)).free nl) opw hl lq its (fun a ha => (S3.trans (SaT.of tv)).free (nq a ha)) fun x m => by rw [opm.mem_iff]; exact S.least G fun d hd => (pmem d).mpr hd
end
theorem sc_Ldraws : FnScope ["_law_script", "_law_at", "_law_many", "_law_cell", "_law_seed", "_law_row", "_law_mark"] ["_law_script", "_law_at", "_law_many"] (ql jU) := ⟨rfl, rfl, rfl, by decide +kernel, rfl, by decide +kernel, by decide +kernel⟩
theorem Zb (Tx : Txt K mg qj qZ qk qr qi qp qD qw qF qJ qI q8 qK q9 zW) (Fu : Fun K "_law_draws" "_law_draws" jU qF zE) : FnOk P w K mg base CX0 1 qF zE ["_law_script", "_law_at", "_law_many"] (spP K T 3 true (za T hT)) := by
 have z := vW (P := P) (w := w) (K := K) (mg := mg) (base := base) (k := 0) (n := 3) (N := ["_law_script", "_law_at", "_law_many", "_law_cell", "_law_seed", "_law_row", "_law_mark"]) (ps := ["_law_script", "_law_at", "_law_many"]) (fr := true) (body := (xW T hT)) (O' := []) Fu sc_Ldraws rfl (fun cdv A outer s H EX E hr =>
  (qm (zc (i := 3) sc_Ldraws.nd rfl (by first | exact Or.inl rfl | exact Or.inr rfl) (DO.de (q_ (qP j5 vU (de_c qf rfl) (qb (pv 1) (by decide))) (de_c qf rfl))))
  (qm (jw (zA KW o_lt (qb (pv 1) (by decide)) (z6 rfl Tx.b_len (qb (pv 0) (by decide))) (zk _))
  (qA (zc (i := 3) sc_Ldraws.nd rfl (by first | exact Or.inl rfl | exact Or.inr rfl) (qL (huR hr) (qb (pv 0) (by decide)) (qb (pv 1) (by decide)))))
  (qA (jw (zA Q8 o_gt (z6 rfl Tx.b_len (qb (pv 0) (by decide))) (de_c qf rfl) (zk _))
  (qA (zc (i := 3) sc_Ldraws.nd rfl (by first | exact Or.inl rfl | exact Or.inr rfl) (DO.de (q_ (DO.de (q_ (qP qR zu (qL (huR hr) (qb (pv 0) (by decide)) (qP qR zu (qb (pv 1) (by decide)) (z6 rfl Tx.b_len (qb (pv 0) (by decide))))) (de_c qf rfl)) (qP j5 vU (qP j5 vU (qb (pv 1) (by decide)) (qb (pv 1) (by decide))) (de_c qf rfl)))) (de_c qf rfl)))))
  zB)))
  (qm (zc (i := 4) sc_Ldraws.nd rfl (by first | exact Or.inl rfl | exact Or.inr rfl) (DO.de (q_ (DO.de (q_ (qP qR zu (qb (pv 3) (by decide)) (de_c qf rfl)) (qP j5 vU (de_c qf rfl) (qb (pv 1) (by decide))))) (de_c qf rfl))))
  (qm (DS.weak (O := []) (O1 := []) (O2 := [5]) (kL (i := 5) sc_Ldraws.nd rfl (by first | exact Or.inl rfl | exact Or.inr rfl) (jj (qB (m := true)))) (by decide) (by decide))
  (qm (jw (zA KY o_ge (qb (pv 3) (by decide)) (qP yG Jp (de_c qf rfl) (de_c qf rfl)) (zk _))
  (qA (yS PassesOwn.never (DW.dt (ZG (zA Q8 o_gt (qb (pv 3) (by decide)) (de_c qf rfl) (zk _)) (yh (zA KW o_lt (z6 rfl Tx.b_len (vM (pv 5) (by decide))) (qb (pv 2) (by decide)) (zk _)))))
  (qm (vK (pv 5) (by decide) (qP qR zu (qb (pv 3) (by decide)) (de_c qf rfl)))
  (qA (DS.weak (O := [5]) (O1 := [5]) (O2 := [5]) (zc (i := 3) sc_Ldraws.nd rfl (by first | exact Or.inl rfl | exact Or.inr rfl) (qP wX Zg (qb (pv 3) (by decide)) (de_c qf rfl))) (by decide) (by decide))))))
  zB)
  (qm (yS PassesOwn.never (zA KW o_lt (z6 rfl Tx.b_len (vM (pv 5) (by decide))) (qb (pv 2) (by decide)) (zk _))
  (qm (DS.weak (O := [5]) (O1 := [5]) (O2 := [5]) (zc (i := 6) sc_Ldraws.nd rfl (by first | exact Or.inl rfl | exact Or.inr rfl) (DO.de (q_ (z6 rfl Tx.b_len (vM (pv 5) (by decide))) (de_c qf rfl)))) (by decide) (by decide))
  (qm (DS.weak (O := [5]) (O1 := [5]) (O2 := [5]) (zc (i := 4) sc_Ldraws.nd rfl (by first | exact Or.inl rfl | exact Or.inr rfl) (qP qR zu (DO.de (q_ (DO.de (q_ (qP j5 vU (qb (pv 4) (by decide)) (de_c qf rfl)) (qP j5 vU (qP j5 vU (qb (pv 6) (by decide)) (qb (pv 6) (by decide))) (de_c qf rfl)))) (de_c qf rfl))) (de_c qf rfl))) (by decide) (by decide))
  (qA (vK (pv 5) (by decide) (qP qR zu (qP qR zu (qP j5 vU (qP qR zu (qb (pv 4) (by decide)) (de_c qf rfl)) (DO.de (q_ (qP qR zu (qP wX Zg (qb (pv 4) (by decide)) (de_c qf rfl)) (de_c qf rfl)) (de_c qf rfl)))) (de_c qf rfl)) (de_c qf rfl)))))))
  (qA (ZJ (pv 5) (by decide))))))))))
 exact z
theorem sc_Lnames : FnScope ["_law_d", "_law_many", "_law_letters", "_law_names_here", "_law_k", "_law_own", "_law_rest"] ["_law_d", "_law_many"] (ql jS) := ⟨rfl, rfl, rfl, by decide +kernel, rfl, by decide +kernel, by decide +kernel⟩
theorem Q_ (Tx : Txt K mg qj qZ qk qr qi qp qD qw qF qJ qI q8 qK q9 zW) (Fu : Fun K "_law_names" "_law_names" jS qJ jL) : FnOk P w K mg base CX0 1 qJ jL ["_law_d", "_law_many"] (spP K T 2 true (jY T hT)) := by
 have z := vW (P := P) (w := w) (K := K) (mg := mg) (base := base) (k := 0) (n := 2) (N := ["_law_d", "_law_many", "_law_letters", "_law_names_here", "_law_k", "_law_own", "_law_rest"]) (ps := ["_law_d", "_law_many"]) (fr := true) (body := (xU T hT)) (O' := []) Fu sc_Lnames rfl (fun cdv A outer s H EX E hr =>
  (qm (zc (i := 2) sc_Lnames.nd rfl (by first | exact Or.inl rfl | exact Or.inr rfl) (de_c QX rfl))
  (qm (DS.weak (O := []) (O1 := []) (O2 := [3]) (kL (i := 3) sc_Lnames.nd rfl (by first | exact Or.inl rfl | exact Or.inr rfl) (jj (qB (m := true)))) (by decide) (by decide))
  (qm (xh PassesOwn.never rfl qg (je rfl Tx.b_range (qc (m := true) (qb (pv 1) (by decide)) (qB (m := true)))) (qH (qC (i := 4) sc_Lnames.nd rfl (by first | exact Or.inl rfl | exact Or.inr rfl)))
  (qm (DS.weak (O := [3]) (O1 := [3]) (O2 := [3]) (zc (i := 5) sc_Lnames.nd rfl (by first | exact Or.inl rfl | exact Or.inr rfl) (qL (huR hr) (qb (pv 2) (by decide)) (qP qR zu (DO.de (q_ (qP j5 vU (qb (pv 4) (by decide)) (qL (huR hr) (DO.de (jj (qc (m := true) (de_c qf rfl) (qc (m := true) (de_c qf rfl) (qc (m := true) (de_c qf rfl) (qc (m := true) (de_c qf rfl) (qc (m := true) (de_c qf rfl) (qc (m := true) (de_c qf rfl) (qB (m := true)))))))))) (qP qR zu (qL (huR hr) (qb (pv 0) (by decide)) (de_c qf rfl)) (de_c qf rfl)))) (qL (huR hr) (qb (pv 0) (by decide)) (de_c qf rfl)))) (de_c qf rfl)))) (by decide) (by decide))
  (qm (DS.weak (O := [3]) (O1 := [3]) (O2 := [3]) (zc (i := 6) sc_Lnames.nd rfl (by first | exact Or.inl rfl | exact Or.inr rfl) (Vn (de_c QX rfl) (DO.de (yi (T := ["_law_j"]) (caps := ["_law_d", "_law_letters"]) (ix := [0, 2]) (O1 := []) (kY rfl (by rfl) (by decide +kernel) (by decide +kernel) rfl (by intro x hx; repeat (first | (rcases List.mem_cons.mp hx with rfl | hx; · exact ⟨rfl, rfl, rfl⟩) | exact absurd hx (List.not_mem_nil))) (by rfl) (by intro x hx; repeat (first | (rcases List.mem_cons.mp hx with rfl | hx; · rfl) | exact absurd hx (List.not_mem_nil)))) rfl (by decide) qg (DI.toC (je rfl Tx.b_range (qc (m := true) (qP qR zu (qL (huR hr) (qb (pv 0) (by decide)) (DO.de (q_ (de_c qf rfl) (qb (pv 4) (by decide))))) (de_c qf rfl)) (qB (m := true))))) (fun _ _ _ _ _ => (qH (qC (i := 0) (by show (["_law_j", "_law_d", "_law_letters"] : List Str).Nodup; decide +kernel) rfl (by first | exact Or.inl rfl | exact Or.inr rfl)))) (by decide) (by decide) (fun _ _ _ _ _ => Vj) (fun _ _ _ _ _ => (qL (huR hr) (DO.de (q_ (qb (pv 2) (by decide)) (de_c QX rfl))) (qP qR zu (DO.de (q_ (qL (huR hr) (qb (pv 1) (by decide)) (de_c qf rfl)) (qP j5 vU (qb (pv 0) (by decide)) (qL (huR hr) (qb (pv 1) (by decide)) (de_c qf rfl))))) (de_c qf rfl)))))))) (by decide) (by decide))
  (qA (vK (pv 3) (by decide) (qL (huR hr) (DO.de (jj (qc (m := true) (DO.de (q_ (qb (pv 5) (by decide)) (qb (pv 6) (by decide)))) (qc (m := true) (DO.de (q_ (qb (pv 6) (by decide)) (qb (pv 5) (by decide)))) (qB (m := true)))))) (qP qR zu (qP wX Zg (qL (huR hr) (qb (pv 0) (by decide)) (de_c qf rfl)) (de_c qf rfl)) (de_c qf rfl))))))))
  (qA (ZJ (pv 3) (by decide)))))))
 exact z
theorem sc_Lworld : FnScope ["_law_script", "_law_at", "_law_most", "_law_d", "_law_names_here", "_law_base", "_law_spans", "_law_rides", "_law_k", "_law_number", "_law_e", "_law_start", "_law_goal", "_law_leaves"] ["_law_script", "_law_at", "_law_most"] (ql jR) := ⟨rfl, rfl, rfl, by decide +kernel, rfl, by decide +kernel, by decide +kernel⟩
theorem Q9 (Tx : Txt K mg qj qZ qk qr qi qp qD qw qF qJ qI q8 qK q9 zW) (Fu : Fun K "_law_world" "_law_world" jR qI jK) (GLdraws : FnOk P w K mg base CX0 1 qF zE ["_law_script", "_law_at", "_law_many"] (spP K T 3 true (za T hT))) (BLdraws : Binds K zE ["_law_script", "_law_at", "_law_many"] []) (GLnames : FnOk P w K mg base CX0 1 qJ jL ["_law_d", "_law_many"] (spP K T 2 true (jY T hT))) (BLnames : Binds K jL ["_law_d", "_law_many"] []) : FnOk P w K mg base CX0 2 qI jK ["_law_script", "_law_at", "_law_most"] (spP K T 3 false (kB T hT)) := by
 have z := vW (P := P) (w := w) (K := K) (mg := mg) (base := base) (k := 1) (n := 3) (N := ["_law_script", "_law_at", "_law_most", "_law_d", "_law_names_here", "_law_base", "_law_spans", "_law_rides", "_law_k", "_law_number", "_law_e", "_law_start", "_law_goal", "_law_leaves"]) (ps := ["_law_script", "_law_at", "_law_most"]) (fr := false) (body := (xT T hT)) (O' := []) Fu sc_Lworld rfl (fun cdv A outer s H EX E hr =>
  (qm (zc (i := 3) sc_Lworld.nd rfl (by first | exact Or.inl rfl | exact Or.inr rfl) (DO.de (jd (hr.mono (by decide)) rfl Tx.m_Ldraws Tx.k_Ldraws BLdraws (G := GLdraws) (ha := (qc (m := true) (qb (pv 0) (by decide)) (qc (m := true) (qb (pv 1) (by decide)) (qc (m := true) (de_c qf rfl) (qB (m := true)))))))))
  (qm (zc (i := 4) sc_Lworld.nd rfl (by first | exact Or.inl rfl | exact Or.inr rfl) (DO.de (jd (hr.mono (by decide)) rfl Tx.m_Lnames Tx.k_Lnames BLnames (G := GLnames) (ha := (qc (m := true) (qb (pv 3) (by decide)) (qc (m := true) (DO.de (q_ (de_c qf rfl) (qP qR zu (qL (huR hr) (qb (pv 3) (by decide)) (de_c qf rfl)) (de_c qf rfl)))) (qB (m := true))))))))
  (qm (zc (i := 5) sc_Lworld.nd rfl (by first | exact Or.inl rfl | exact Or.inr rfl) (qL (huR hr) (DO.de (jj (qc (m := true) (de_c qf rfl) (qc (m := true) (de_c qf rfl) (qc (m := true) (DO.de (q_ (qP yG Jp (de_c qf rfl) (de_c qf rfl)) (qL (huR hr) (qb (pv 3) (by decide)) (de_c qf rfl)))) (qc (m := true) (qP v9 Qf (de_c qf rfl) (qP yG Jp (de_c qf rfl) (de_c qf rfl))) (qB (m := true)))))))) (qP qR zu (qL (huR hr) (qb (pv 3) (by decide)) (de_c qf rfl)) (de_c qf rfl))))
  (qm (DS.weak (O := []) (O1 := []) (O2 := [6]) (kL (i := 6) sc_Lworld.nd rfl (by first | exact Or.inl rfl | exact Or.inr rfl) (Vl Jk)) (by decide) (by decide))
  (qm (DS.weak (O := [6]) (O1 := [6]) (O2 := [6, 7]) (kL (i := 7) sc_Lworld.nd rfl (by first | exact Or.inl rfl | exact Or.inr rfl) (jj (qB (m := true)))) (by decide) (by decide))
  (qm (xh PassesOwn.never rfl qg (je rfl Tx.b_range (qc (m := true) (z6 rfl Tx.b_len (qb (pv 4) (by decide))) (qB (m := true)))) (qH (qC (i := 8) sc_Lworld.nd rfl (by first | exact Or.inl rfl | exact Or.inr rfl)))
  (qA (Vk (huR hr) (pv 6) (by decide) (qL (huR hr) (qb (pv 4) (by decide)) (qb (pv 8) (by decide))) (qL (huR hr) (DO.de (jj (qc (m := true) (de_c qf rfl) (qc (m := true) (de_c qf rfl) (qc (m := true) (de_c qf rfl) (qc (m := true) (de_c qf rfl) (qc (m := true) (qP yG Jp (de_c qf rfl) (de_c qf rfl)) (qB (m := true))))))))) (qP qR zu (qL (huR hr) (DO.de (jd (hr.mono (by decide)) rfl Tx.m_Ldraws Tx.k_Ldraws BLdraws (G := GLdraws) (ha := (qc (m := true) (qb (pv 0) (by decide)) (qc (m := true) (DO.de (q_ (qb (pv 1) (by decide)) (de_c qf rfl))) (qc (m := true) (de_c qf rfl) (qB (m := true)))))))) (qb (pv 8) (by decide))) (qL (huR hr) (DO.de (jj (qc (m := true) (de_c qf rfl) (qc (m := true) (de_c qf rfl) (qc (m := true) (de_c qf rfl) (qB (m := true))))))) (qP qR zu (qL (huR hr) (qb (pv 3) (by decide)) (de_c qf rfl)) (de_c qf rfl))))))))
  (qm (DS.weak (O := [6, 7]) (O1 := [6, 7]) (O2 := [6, 7]) (zc (i := 9) sc_Lworld.nd rfl (by first | exact Or.inl rfl | exact Or.inr rfl) (qP qR zu (qL (huR hr) (qb (pv 3) (by decide)) (de_c qf rfl)) (de_c qf rfl))) (by decide) (by decide))
  (qm (xh PassesOwn.never rfl qg (je rfl Tx.b_range (qc (m := true) (qP qR zu (qL (huR hr) (DO.de (jd (hr.mono (by decide)) rfl Tx.m_Ldraws Tx.k_Ldraws BLdraws (G := GLdraws) (ha := (qc (m := true) (qb (pv 0) (by decide)) (qc (m := true) (DO.de (q_ (qb (pv 1) (by decide)) (de_c qf rfl))) (qc (m := true) (de_c qf rfl) (qB (m := true)))))))) (de_c qf rfl)) (DO.de (q_ (qb (pv 2) (by decide)) (de_c qf rfl)))) (qB (m := true)))) (qH (qC (i := 8) sc_Lworld.nd rfl (by first | exact Or.inl rfl | exact Or.inr rfl)))
  (qm (DS.weak (O := [6, 7]) (O1 := [6, 7]) (O2 := [6, 7]) (zc (i := 10) sc_Lworld.nd rfl (by first | exact Or.inl rfl | exact Or.inr rfl) (DO.de (jd (hr.mono (by decide)) rfl Tx.m_Ldraws Tx.k_Ldraws BLdraws (G := GLdraws) (ha := (qc (m := true) (qb (pv 0) (by decide)) (qc (m := true) (DO.de (q_ (DO.de (q_ (qb (pv 1) (by decide)) (de_c qf rfl))) (qb (pv 8) (by decide)))) (qc (m := true) (de_c qf rfl) (qB (m := true))))))))) (by decide) (by decide))
  (qm (DS.weak (O := [6, 7]) (O1 := [6, 7]) (O2 := [6, 7]) (zc (i := 11) sc_Lworld.nd rfl (by first | exact Or.inl rfl | exact Or.inr rfl) (qP qR zu (qL (huR hr) (qb (pv 10) (by decide)) (de_c qf rfl)) (z6 rfl Tx.b_len (qb (pv 4) (by decide))))) (by decide) (by decide))
  (qm (DS.weak (O := [6, 7]) (O1 := [6, 7]) (O2 := [6, 7]) (zc (i := 12) sc_Lworld.nd rfl (by first | exact Or.inl rfl | exact Or.inr rfl) (qP qR zu (DO.de (q_ (DO.de (q_ (qb (pv 11) (by decide)) (de_c qf rfl))) (qP qR zu (qL (huR hr) (qb (pv 10) (by decide)) (de_c qf rfl)) (qP v9 Qf (z6 rfl Tx.b_len (qb (pv 4) (by decide))) (de_c qf rfl))))) (z6 rfl Tx.b_len (qb (pv 4) (by decide))))) (by decide) (by decide))
  (qm (DS.weak (O := [6, 7]) (O1 := [6, 7]) (O2 := [6, 7]) (zc (i := 13) sc_Lworld.nd rfl (by first | exact Or.inl rfl | exact Or.inr rfl) (DO.de (q_ (qb (pv 5) (by decide)) (qP qR zu (qL (huR hr) (qb (pv 10) (by decide)) (de_c qf rfl)) (de_c qf rfl))))) (by decide) (by decide))
  (qm (vK (pv 7) (by decide) (ky (qc (m := true) (qb (pv 9) (by decide)) (qc (m := true) (qL (huR hr) (qb (pv 4) (by decide)) (qb (pv 11) (by decide))) (qc (m := true) (qL (huR hr) (qb (pv 4) (by decide)) (qb (pv 12) (by decide))) (qc (m := true) (qb (pv 13) (by decide)) (qc (m := true) (DO.de (q_ (DO.de (q_ (qb (pv 13) (by decide)) (de_c qf rfl))) (qP qR zu (qL (huR hr) (qb (pv 10) (by decide)) (de_c qf rfl)) (de_c qf rfl)))) (qB (m := true)))))))))
  (qA (ZK (i := 9) sc_Lworld.nd rfl (by first | exact Or.inl rfl | exact Or.inr rfl) (by decide) (DO.de (q_ (de_c qf rfl) (qP qR zu (qL (huR hr) (qb (pv 10) (by decide)) (de_c qf rfl)) (de_c qf rfl)))) Kl J8))))))))
  (qm (jw (zA (jG (huR hr)) o_eq (qP qR zu (qL (huR hr) (qb (pv 3) (by decide)) (de_c qf rfl)) (de_c qf rfl)) (de_c qf rfl) (zk _))
  (qA (DS.weak (O := [6, 7]) (O1 := [6]) (O2 := [6, 7]) (DS.weak (O := [6]) (O1 := [6]) (O2 := [6, 7]) (kL (i := 7) sc_Lworld.nd rfl (by first | exact Or.inl rfl | exact Or.inr rfl) (Kq (qb (pv 7) (by decide)) (ZN (de_c qf rfl)) (fun o i => Qu _ _ _ _ o i))) (by decide) (by decide)) (by decide) (by decide)))
  zB)
  (qA (DS.weak (O := [6, 7]) (O1 := [6]) (O2 := []) (O' := []) (DS.weak (O := [6]) (O1 := []) (O2 := []) (O' := []) (z5 (ky (qc (m := true) (qb (pv 4) (by decide)) (qc (m := true) (qb (pv 6) (by decide)) (qc (m := true) (qb (pv 7) (by decide)) (qc (m := true) (qb (pv 5) (by decide)) (qB (m := true)))))))) (by decide) (by decide)) (by decide) (by decide)))))))))))))
 exact z
theorem vc : FnScope ["ride", "after", "spans"] ["ride", "after", "spans"] (ql zn) := ⟨rfl, rfl, rfl, by decide +kernel, rfl, by decide +kernel, by decide +kernel⟩
theorem vf (Tx : Txt K mg qj qZ qk qr qi qp qD qw qF qJ qI q8 qK q9 zW) (Fu : Fun K "spare_between" "spare_between" zn qj zy) : FnOk P w K mg base CX0 1 qj zy ["ride", "after", "spans"] (spP K T 3 false (zG T hT)) := by
 obtain ⟨t_LEAVES, e_LEAVES⟩ := Tx.c_LEAVES
 obtain ⟨t_COMES, e_COMES⟩ := Tx.c_COMES
 obtain ⟨t_GOAL, e_GOAL⟩ := Tx.c_GOAL
 have z := vW (P := P) (w := w) (K := K) (mg := mg) (base := base) (k := 0) (n := 3) (N := ["ride", "after", "spans"]) (ps := ["ride", "after", "spans"]) (fr := false) (body := (jg T hT)) (O' := []) Fu vc rfl (fun cdv A outer s H EX E hr =>
  (qA (z5 (qP v9 Qf (qP v9 Qf (qL (huR hr) (qb (pv 1) (by decide)) (de_c (jb (v := .int 3) rfl e_LEAVES ⟨_, rfl⟩) rfl)) (qL (huR hr) (qb (pv 0) (by decide)) (de_c (jb (v := .int 4) rfl e_COMES ⟨_, rfl⟩) rfl))) (qL (huR hr) (qb (pv 2) (by decide)) (qL (huR hr) (qb (pv 0) (by decide)) (de_c (jb (v := .int 2) rfl e_GOAL ⟨_, rfl⟩) rfl)))))))
 exact z
theorem Z6 : FnScope ["ride", "after", "spans"] ["ride", "after", "spans"] (ql kC) := ⟨rfl, rfl, rfl, by decide +kernel, rfl, by decide +kernel, by decide +kernel⟩
theorem Jm (Tx : Txt K mg qj qZ qk qr qi qp qD qw qF qJ qI q8 qK q9 zW) (Fu : Fun K "hangs" "hangs" kC qZ kt) (Gspare_between : FnOk P w K mg base CX0 1 qj zy ["ride", "after", "spans"] (spP K T 3 false (zG T hT))) (Bspare_between : Binds K zy ["ride", "after", "spans"] []) : FnOk P w K mg base CX0 2 qZ kt ["ride", "after", "spans"] (spP K T 3 false (kR T hT)) := by
 obtain ⟨t_START, e_START⟩ := Tx.c_START
 obtain ⟨t_GOAL, e_GOAL⟩ := Tx.c_GOAL
 have z := vW (P := P) (w := w) (K := K) (mg := mg) (base := base) (k := 1) (n := 3) (N := ["ride", "after", "spans"]) (ps := ["ride", "after", "spans"]) (fr := false) (body := (yn T hT)) (O' := []) Fu Z6 rfl (fun cdv A outer s H EX E hr =>
  (qA (z5 (XC (wC (jG (huR hr)) o_eq (qL (huR hr) (qb (pv 1) (by decide)) (de_c (jb (v := .int 1) rfl e_START ⟨_, rfl⟩) rfl)) (qL (huR hr) (qb (pv 0) (by decide)) (de_c (jb (v := .int 2) rfl e_GOAL ⟨_, rfl⟩) rfl)) (zk _)) (XB (wC KY o_ge (z8 (hr.mono (by decide)) rfl Tx.m_spare_between Tx.k_spare_between Bspare_between (G := Gspare_between) (ha := (qc (m := true) (qb (pv 0) (by decide)) (qc (m := true) (qb (pv 1) (by decide)) (qc (m := true) (qb (pv 2) (by decide)) (qB (m := true))))))) (de_c qf rfl) (zk _)))))))
 exact z
theorem vb : FnScope ["comes"] ["comes"] (ql zm) := ⟨rfl, rfl, rfl, by decide +kernel, rfl, by decide +kernel, by decide +kernel⟩
theorem jz (Tx : Txt K mg qj qZ qk qr qi qp qD qw qF qJ qI q8 qK q9 zW) (Fu : Fun K "worth_of_none" "worth_of_none" zm qi ze) : FnOk P w K mg base CX0 1 qi ze ["comes"] (spP K T 1 false (qU T hT)) := by
 have z := vW (P := P) (w := w) (K := K) (mg := mg) (base := base) (k := 0) (n := 1) (N := ["comes"]) (ps := ["comes"]) (fr := false) (body := (jf T hT)) (O' := []) Fu vb rfl (fun cdv A outer s H EX E hr =>
  (qA (z5 (ky (qc (m := true) (de_c qf rfl) (qc (m := true) (de_c qf rfl) (qc (m := true) (qb (pv 0) (by decide)) (qc (m := true) (de_c qf rfl) (qc (m := true) (DO.de (jj (qB (m := true)))) (qB (m := true)))))))))))
 exact z
theorem sc_Ltrip : FnScope ["_law_script", "_law_at", "_law_most", "_law_d", "_law_start", "_law_goal", "_law_since", "_law_names_here", "_law_spans", "_law_rides", "_law_base"] ["_law_script", "_law_at", "_law_most"] (ql kE) := ⟨rfl, rfl, rfl, by decide +kernel, rfl, by decide +kernel, by decide +kernel⟩
theorem Jn (Tx : Txt K mg qj qZ qk qr qi qp qD qw qF qJ qI q8 qK q9 zW) (Fu : Fun K "_law_trip" "_law_trip" kE q8 ku) (GLworld : FnOk P w K mg base CX0 2 qI jK ["_law_script", "_law_at", "_law_most"] (spP K T 3 false (kB T hT))) (BLworld : Binds K jK ["_law_script", "_law_at", "_law_most"] []) (GLdraws : FnOk P w K mg base CX0 1 qF zE ["_law_script", "_law_at", "_law_many"] (spP K T 3 true (za T hT))) (BLdraws : Binds K zE ["_law_script", "_law_at", "_law_many"] []) : FnOk P w K mg base CX0 3 q8 ku ["_law_script", "_law_at", "_law_most"] (spP K T 3 false (xZ T hT)) := by
 have z := vW (P := P) (w := w) (K := K) (mg := mg) (base := base) (k := 2) (n := 3) (N := ["_law_script", "_law_at", "_law_most", "_law_d", "_law_start", "_law_goal", "_law_since", "_law_names_here", "_law_spans", "_law_rides", "_law_base"]) (ps := ["_law_script", "_law_at", "_law_most"]) (fr := false) (body := (yo T hT)) (O' := []) Fu sc_Ltrip rfl (fun cdv A outer s H EX E hr =>
  (qm (yT (ji (qz qg (qz qg (qz qg (qz qg zY))))) (z8 (hr.mono (by decide)) rfl Tx.m_Lworld Tx.k_Lworld BLworld (G := GLworld) (ha := (qc (m := true) (qb (pv 0) (by decide)) (qc (m := true) (qb (pv 1) (by decide)) (qc (m := true) (qb (pv 2) (by decide)) (qB (m := true))))))) (kX rfl (qN qg (qH (qC (i := 7) sc_Ltrip.nd rfl (by first | exact Or.inl rfl | exact Or.inr rfl))) (qN qg (qH (qC (i := 8) sc_Ltrip.nd rfl (by first | exact Or.inl rfl | exact Or.inr rfl))) (qN qg (qH (qC (i := 9) sc_Ltrip.nd rfl (by first | exact Or.inl rfl | exact Or.inr rfl))) (qN qg (qH (qC (i := 10) sc_Ltrip.nd rfl (by first | exact Or.inl rfl | exact Or.inr rfl))) jO))))))
  (qm (zc (i := 3) sc_Ltrip.nd rfl (by first | exact Or.inl rfl | exact Or.inr rfl) (DO.de (jd (hr.mono (by decide)) rfl Tx.m_Ldraws Tx.k_Ldraws BLdraws (G := GLdraws) (ha := (qc (m := true) (qb (pv 0) (by decide)) (qc (m := true) (DO.de (q_ (qb (pv 1) (by decide)) (de_c qf rfl))) (qc (m := true) (de_c qf rfl) (qB (m := true)))))))))
  (qm (zc (i := 4) sc_Ltrip.nd rfl (by first | exact Or.inl rfl | exact Or.inr rfl) (qL (huR hr) (qb (pv 7) (by decide)) (qP qR zu (qL (huR hr) (qb (pv 3) (by decide)) (de_c qf rfl)) (z6 rfl Tx.b_len (qb (pv 7) (by decide))))))
  (qm (zc (i := 5) sc_Ltrip.nd rfl (by first | exact Or.inl rfl | exact Or.inr rfl) (qL (huR hr) (qb (pv 7) (by decide)) (qP qR zu (qL (huR hr) (qb (pv 3) (by decide)) (de_c qf rfl)) (z6 rfl Tx.b_len (qb (pv 7) (by decide))))))
  (qm (zc (i := 6) sc_Ltrip.nd rfl (by first | exact Or.inl rfl | exact Or.inr rfl) (DO.de (q_ (qb (pv 10) (by decide)) (qL (huR hr) (DO.de (jj (qc (m := true) (de_c qf rfl) (qc (m := true) (qP qR zu (qL (huR hr) (qb (pv 3) (by decide)) (de_c qf rfl)) (de_c qf rfl)) (qc (m := true) (qP v9 Qf (de_c qf rfl) (de_c qf rfl)) (qc (m := true) (qP qR zu (qL (huR hr) (qb (pv 3) (by decide)) (de_c qf rfl)) (de_c qf rfl)) (qB (m := true)))))))) (qP qR zu (qL (huR hr) (qb (pv 3) (by decide)) (de_c qf rfl)) (de_c qf rfl))))))
  (qA (z5 (ky (qc (m := true) (qb (pv 7) (by decide)) (qc (m := true) (qb (pv 8) (by decide)) (qc (m := true) (qb (pv 9) (by decide)) (qc (m := true) (qb (pv 4) (by decide)) (qc (m := true) (qb (pv 5) (by decide)) (qc (m := true) (qb (pv 6) (by decide)) (qB (m := true)))))))))))))))))
 exact z
theorem sc_Lmarks : FnScope ["_law_script", "_law_at", "_law_rides", "_law_d", "_law_kept", "_law_shared"] ["_law_script", "_law_at", "_law_rides"] (ql jT) := ⟨rfl, rfl, rfl, by decide +kernel, rfl, by decide +kernel, by decide +kernel⟩
theorem Za (Tx : Txt K mg qj qZ qk qr qi qp qD qw qF qJ qI q8 qK q9 zW) (Fu : Fun K "_law_marks" "_law_marks" jT qK jM) (GLdraws : FnOk P w K mg base CX0 1 qF zE ["_law_script", "_law_at", "_law_many"] (spP K T 3 true (za T hT))) (BLdraws : Binds K zE ["_law_script", "_law_at", "_law_many"] []) : FnOk P w K mg base CX0 2 qK jM ["_law_script", "_law_at", "_law_rides"] (spP K T 3 false (vn T hT)) := by
 have z := vW (P := P) (w := w) (K := K) (mg := mg) (base := base) (k := 1) (n := 3) (N := ["_law_script", "_law_at", "_law_rides", "_law_d", "_law_kept", "_law_shared"]) (ps := ["_law_script", "_law_at", "_law_rides"]) (fr := false) (body := (xV T hT)) (O' := []) Fu sc_Lmarks rfl (fun cdv A outer s H EX E hr =>
  (qm (zc (i := 3) sc_Lmarks.nd rfl (by first | exact Or.inl rfl | exact Or.inr rfl) (DO.de (jd (hr.mono (by decide)) rfl Tx.m_Ldraws Tx.k_Ldraws BLdraws (G := GLdraws) (ha := (qc (m := true) (qb (pv 0) (by decide)) (qc (m := true) (qb (pv 1) (by decide)) (qc (m := true) (de_c qf rfl) (qB (m := true)))))))))
  (qm (DS.weak (O := []) (O1 := []) (O2 := []) (vm (i := 4) sc_Lmarks.nd rfl (by first | exact Or.inl rfl | exact Or.inr rfl) (T := ["_law_k"]) (caps := ["_law_d", "_law_rides"]) (ix := [3, 2]) (O1 := []) (kY rfl (by rfl) (by decide +kernel) (by decide +kernel) rfl (by intro x hx; repeat (first | (rcases List.mem_cons.mp hx with rfl | hx; · exact ⟨rfl, rfl, rfl⟩) | exact absurd hx (List.not_mem_nil))) (by rfl) (by intro x hx; repeat (first | (rcases List.mem_cons.mp hx with rfl | hx; · rfl) | exact absurd hx (List.not_mem_nil)))) rfl (by decide) qg (DI.toC (je rfl Tx.b_range (qc (m := true) (z6 rfl Tx.b_len (qb (pv 2) (by decide))) (qB (m := true))))) (fun _ _ _ _ _ => (qH (qC (i := 0) (by show (["_law_k", "_law_d", "_law_rides"] : List Str).Nodup; decide +kernel) rfl (by first | exact Or.inl rfl | exact Or.inr rfl)))) (by decide) (by decide) (fun _ _ _ _ _ => (kf (zA (jG (huR hr)) o_eq (qP qR zu (qL (huR hr) (qb (pv 1) (by decide)) (qb (pv 0) (by decide))) (de_c qf rfl)) (de_c qf rfl) (zk _)))) (fun _ _ _ _ _ => (qL (huR hr) (qL (huR hr) (qb (pv 2) (by decide)) (qb (pv 0) (by decide))) (de_c qf rfl)))) (by decide) (by decide))
  (qm (DS.weak (O := []) (O1 := []) (O2 := []) (vm (i := 5) sc_Lmarks.nd rfl (by first | exact Or.inl rfl | exact Or.inr rfl) (T := ["_law_k"]) (caps := ["_law_d", "_law_rides"]) (ix := [3, 2]) (O1 := []) (kY rfl (by rfl) (by decide +kernel) (by decide +kernel) rfl (by intro x hx; repeat (first | (rcases List.mem_cons.mp hx with rfl | hx; · exact ⟨rfl, rfl, rfl⟩) | exact absurd hx (List.not_mem_nil))) (by rfl) (by intro x hx; repeat (first | (rcases List.mem_cons.mp hx with rfl | hx; · rfl) | exact absurd hx (List.not_mem_nil)))) rfl (by decide) qg (DI.toC (je rfl Tx.b_range (qc (m := true) (z6 rfl Tx.b_len (qb (pv 2) (by decide))) (qB (m := true))))) (fun _ _ _ _ _ => (qH (qC (i := 0) (by show (["_law_k", "_law_d", "_law_rides"] : List Str).Nodup; decide +kernel) rfl (by first | exact Or.inl rfl | exact Or.inr rfl)))) (by decide) (by decide) (fun _ _ _ _ _ => (kf (zA (jG (huR hr)) o_eq (qP qR zu (qL (huR hr) (qb (pv 1) (by decide)) (DO.de (q_ (de_c qf rfl) (qb (pv 0) (by decide))))) (de_c qf rfl)) (de_c qf rfl) (zk _)))) (fun _ _ _ _ _ => (qL (huR hr) (qL (huR hr) (qb (pv 2) (by decide)) (qb (pv 0) (by decide))) (de_c qf rfl)))) (by decide) (by decide))
  (qm (jw (zA (jG (huR hr)) o_eq (qP qR zu (qL (huR hr) (qb (pv 3) (by decide)) (de_c qf rfl)) (de_c qf rfl)) (de_c qf rfl) (zk _))
  (qA (zc (i := 4) sc_Lmarks.nd rfl (by first | exact Or.inl rfl | exact Or.inr rfl) (DO.de (Kq (DO.de (q_ (qb (pv 4) (by decide)) (DO.de (jj (qc (m := true) (de_c qf rfl) (qB (m := true))))))) (ZN (de_c qf rfl)) (fun o i => Qu _ _ _ _ o i)))))
  zB)
  (qm (jw (zA (jG (huR hr)) o_eq (qP qR zu (qL (huR hr) (qb (pv 3) (by decide)) (de_c qf rfl)) (de_c qf rfl)) (de_c qf rfl) (zk _))
  (qA (zc (i := 5) sc_Lmarks.nd rfl (by first | exact Or.inl rfl | exact Or.inr rfl) (DO.de (jj (qB (m := true))))))
  zB)
  (qA (z5 (ky (qc (m := true) (qb (pv 4) (by decide)) (qc (m := true) (qb (pv 5) (by decide)) (qB (m := true)))))))))))))
 exact z
end
end M
namespace X2
open PySem PySem.Spec PyProof.Rows L2
section
variable {prog : Program} {w : World} {A : Around} {E : Value -> Shared -> Prop} {s : Shared}
theorem Zq {a : Addr} {o : Obj} {xs : Array Value} {k : Nat} {Q : Option Value -> Shared -> Prop}
  (hx : s.heap.get? a = some o) (hc : o.cls = .type "list") (hdat : o.data = .seq xs k) (hd : o.dict = none) (hA : A.handled = none)
  (h : ∀ h' tk, (∀ b ob, s.heap.get? b = some ob -> h'.get? b = some ob) -> Q none { s with heap := h', toks := tk }) :
  wpAny (model prog w) A (getAttr? (.ref a) "keys") Q E s := by
 obtain ⟨c, dct, dat, sl⟩ := o
 simp only at hc hdat hd
 subst hc hdat hd
 obtain ⟨hp, g, d, tk, os⟩ := s
 have hT : ∀ tk', (⟨hp, g, d, tk', os⟩ : Shared).TypeIs (.ref a) "list" := fun _ => ⟨_, hx, rfl⟩
 have hmiss : typeLookup (.type "list") "keys" = pure none := am_miss_of_fast (by decide +kernel)
 have f1 := sub_AttributeError
 have f3 := PySem.F.slot_list_getattribute.lookup
 have f4 := PySem.F.slot_list_getattribute.bind (.ref a)
 have f5 := am_list_getattr_none
 unfold getAttr? getAttrBy? getAttrBy
 repeat (any_goals (first | assumption | exact hT _ | ((with_reducible show wpAny _ _ (call (Value.builtin "list.__getattribute__") _ _) _ _ _); refine call_meets PySem.F.slot_list_getattribute (hT _) am_entry_list_getattribute (PySem.F.args_list_getattribute_2 _ _) (meets_getattribute_miss_list a xs k sl "keys" _ hmiss (by decide +kernel) (by size_fits)) ⟨hx, hA, fun h' tk' e hx' => ?_⟩) | wp_step))
 obtain ⟨t', u', he⟩ := hx'.there
 show wpAny _ _ (getattributeRaised _ _ _ _ _ _ _) _ _ _
 unfold getattributeRaised
 repeat (any_goals (first | assumption | wp_step))
 exact h h' tk' hx'.keeps
end
theorem wz : entryFor table "dict.update.loop" = some Builtin.«dict.update.loop» := entryFor_of_tree (by kernel_rfl)
theorem kj : plainId "dict.update.loop" = true := by decide +kernel
section
variable {prog : Program} {w : World} {A : Around} {R : Result -> Shared -> Prop} {I : Addr} {fp wr : List Addr} {G : Array GenState -> Array GenState -> Prop} {n : Nat} {St : Nat -> Shared -> Prop}
theorem Qm {K : Type} [DecidableEq K] (knd : KeyKind prog w K) {P : Nat -> Value -> Prop} (W : WalksS prog w A.in1 I fp wr G n P St) (S : Addr) (hSf : S ∉ fp) (h0 : Heap) (kvs : List (K × Value)) (hn : kvs.length = n) (nd : (kvs.map (·.1)).Nodup) (hz : n <= sizeLine)
  (hval : ∀ i v, P i v -> ∃ q k key x, v = .ref q /\ kvs[i]? = some (k, x) /\ knd.is k key = true /\ q ∉ S :: wr /\ ∃ o m, h0.get? q = some o /\ o.cls = .type "tuple" /\ o.data = .seq #[key, x] m) :
  ∀ (j i : Nat) (s : Shared), n - i = j -> i <= n -> St i s -> s.heap.DictOf knd S (kvs.take i) -> (∀ b o, b ∉ S :: wr -> h0.get? b = some o -> s.heap.get? b = some o) ->
   (∀ s', Moved (S :: wr) G s s' -> s'.heap.DictOf knd S kvs -> R (.ok (.ret .none)) s') ->
   codeAny (model prog w) A (.builtin "dict.update.loop" ⟨[.ref S, .ref I, rawInt i, .none], []⟩) R s := by
 have hSw : S ∉ wr := fun h => hSf (W.sub _ h)
 have up : ∀ b ∈ wr, b ∈ S :: wr := fun b hb => List.mem_cons_of_mem _ hb
 intro j
 induction j with
 | zero =>
  intro i s hk hi hst hS hkeep hR
  have e : i = n := by omega
  subst e
  refine codeAny_builtin wz ?_
  rw [Around.under_plainId kj _]
  show wpAny _ A.in1 (pyNext (.ref I) >>= _) _ _ s
  refine wpAny_bind (W.done s _ _ hst fun s' hm => ?_)
  show wpAny _ A.in1 (Builtin.Dict.addKeywords S [] >>= _) _ _ s'
  refine wpAny_bind (wpAny_pure ?_)
  refine wpAny_pure (hR s' (hm.mono up) ?_)
  rw [<- hn, List.take_length] at hS
  obtain ⟨o, es, ep, ho, rest⟩ := hS
  exact ⟨o, es, ep, hm.heap S _ hSw ho, rest⟩
 | succ j ih =>
  intro i s hk hi hst hS hkeep hR
  have lt : i < n := by omega
  refine codeAny_builtin wz ?_
  rw [Around.under_plainId kj _]
  show wpAny _ A.in1 (pyNext (.ref I) >>= _) _ _ s
  refine wpAny_bind (W.item i s _ _ lt hst fun v s' hP hst' hm => ?_)
  obtain ⟨q, k, key, x, rfl, hx, hkey, hq, o, m, ho, hoc, hod⟩ := hval i v hP
  have hS' : s'.heap.DictOf knd S (kvs.take i) := by
   obtain ⟨o, es, ep, ho, rest⟩ := hS
   exact ⟨o, es, ep, hm.heap S _ hSw ho, rest⟩
  have hkeep' : ∀ b o, b ∉ S :: wr -> h0.get? b = some o -> s'.heap.get? b = some o := fun b o hb e => hm.heap b o (fun z => hb (up b z)) (hkeep b o hb e)
  have ht := hkeep' q o hq ho
  have new : k ∉ (kvs.take i).map (·.1) := fun z => by
   rw [List.map_take] at z
   obtain ⟨j', hj⟩ := List.mem_iff_getElem?.mp z
   rw [List.getElem?_take] at hj
   split at hj
   ·rename_i hji
    have e1 : (kvs.map (·.1))[i]? = some k := by rw [List.getElem?_map, hx]; rfl
    have := (List.getElem?_inj (by rw [List.length_map]; omega) nd).mp (hj.trans e1.symm)
    omega
   ·cases hj
  have es : stored (kvs.take i) k x = kvs.take (i + 1) := by
   unfold stored
   rw [if_neg, take_snoc hx]
   rw [List.any_eq_true]
   rintro ⟨kv, hkv, he⟩
   exact new (List.mem_map.mpr ⟨kv, hkv, of_decide_eq_true he⟩)
  show wpAny _ A.in1 (holding [Value.ref q] _ >>= _) _ _ s'
  refine wpAny_bind (wpAny_holding (wpAny_bind ?_))
  refine wpAny_tryCatch ?_
  unfold Builtin.Dict.pairItems
  refine wpAny_bind (wpAny_typeOf (T := "tuple") ⟨o, ht, hoc⟩ ?_)
  rw [if_pos (by decide)]
  refine wpAny_bind (wpAny_seqItems ht hod (wpAny_pure ?_))
  show wpAny _ A.in1 (holding [key, x] (dictSet S key x)) _ _ s'
  refine wpAny_holding (wpAny_dictSet_pairs hkey hS' (fun h' hD hsb => ?_) (by rw [List.length_take]; omega))
  rw [es] at hD
  refine wpAny_pure ⟨plainId_quiet kj _, ?_⟩
  have ei : rawInt ((i : Int) + 1) = rawInt ((i + 1 : Nat) : Int) := by push_cast; rfl
  show codeAny _ _ (.builtin "dict.update.loop" ⟨[.ref S, .ref I, rawInt ((i : Int) + 1), .none], []⟩) _ _
  rw [ei]
  refine ih (i + 1) _ (by omega) lt (W.frame _ s' _ _ hst' (Nat.le_succ _) fun b hb o e => ?_) hD (fun b o hb e => ?_) fun s'' hm'' hS'' => ?_
  ·rw [hsb.2 b (fun h : b = S => hSf (by rw [<- h]; exact hb))]; exact e
  ·rw [hsb.2 b (fun h : b = S => hb (by rw [h]; exact List.mem_cons_self))]; exact hkeep' b o hb e
  ·refine hR s'' (Moved.trans W.gtrans ((hm.mono up).then_heap (Nat.le_succ _) fun b o hb e => ?_) hm'') hS''
   rw [hsb.2 b (fun h : b = S => hb (by rw [h]; exact List.mem_cons_self))]; exact e
end
section
variable {prog : Program} {w : World} {A : Around} {E : Value -> Shared -> Prop} {s : Shared}
theorem xL {K : Type} [DecidableEq K] {knd : KeyKind prog w K} {l : Addr} {ol : Obj} {items : Array Value} {nl : Nat} {kvs : List (K × Value)} {Q : Value -> Shared -> Prop} (hh : A.handled = none) (hol : s.heap.get? l = some ol) (hc : ol.cls = .type "list") (hd : ol.dict = none) (hdat : ol.data = .seq items nl)
  (hi : ∀ (i : Nat) (v : Value), items[i]? = some v -> ∃ (q : Addr) (k : K) (key x : Value), v = Value.ref q /\ kvs[i]? = some (k, x) /\ knd.is k key = true /\ ∃ o m, s.heap.get? q = some o /\ o.cls = .type "tuple" /\ o.data = .seq #[key, x] m) (hn : kvs.length = items.size) (nd : (kvs.map (·.1)).Nodup) (hz : items.size <= sizeLine)
  (h : ∀ h' tk, h'.DictOf knd s.heap.objs.size kvs -> (∀ b o, s.heap.get? b = some o -> h'.get? b = some o) -> Q (.ref s.heap.objs.size) { s with heap := h', toks := tk }) :
  wpAny (model prog w) A (call (.type "dict") [.ref l]) Q E s := by
 refine callType_codes (Q₁ := fun obj s₁ => obj = .ref s.heap.objs.size /\ s₁ = { s with heap := s.heap.push { cls := .type "dict", data := .dict #[] } }) F.kt_called_dict (F.kt_typeCall_dict_1 _) F.entry_dict_init (kt_code_dict_new _ ⟨rfl, rfl⟩) ?_
 rintro obj s₁ ⟨rfl, rfl⟩
 have hnew : (s.heap.push { cls := .type "dict", data := .dict #[] }).DictOf knd s.heap.objs.size [] := Heap.DictOf.new s.heap
 have hol' : (s.heap.push { cls := .type "dict", data := .dict #[] }).get? l = some ol := Heap.get?_push_of_some _ hol
 refine ⟨hnew.typeIs, F.args_dict_init_2 _ _, ?_⟩
 unfold Builtin.«dict.__init__»
 refine wpAny_bind ?_
 unfold Builtin.Dict.selfAndRest
 refine wpAny_bind (wpAny_notOrdered_dict hnew.typeIs ?_)
 show wpAny _ _ (pure (s.heap.objs.size, [Value.ref l])) _ _ _
 refine wpAny_pure ?_
 show wpAny _ _ (Builtin.Dict.updateFrom "dict.__init__" s.heap.objs.size (.ref l) [] .none) _ _ _
 unfold Builtin.Dict.updateFrom
 refine wpAny_bind (wpAny_typeOf (T := "list") ⟨_, hol', hc⟩ ?_)
 rw [if_pos (by decide)]
 have z2 : A.in1.in1.handled = none := by simp [hh]
 refine wpAny_bind (Zq hol' hc hdat hd z2 fun h1 tk1 keep => ?_)
 rw [if_pos (by rfl)]
 have hl1 : h1.IsList l items := ⟨ol, keep l ol hol', hc, nl, hdat⟩
 refine wpAny_bind (wpAny_rule (wpAny_bind (wpAny_pyIter_list hl1 (wpAny_pure ⟨plainId_quiet kj _, ?_⟩))))
 have hlS : l < s.heap.objs.size := Heap.lt_size hol
 have hS1 : s.heap.objs.size < h1.objs.size := by
  obtain ⟨o, es, ep, ho, _⟩ := hnew
  exact Heap.lt_size (keep _ _ ho)
 have neI : l ≠ h1.objs.size := Nat.ne_of_lt (Nat.lt_trans hlS hS1)
 have nSf : s.heap.objs.size ∉ [h1.objs.size, l] := by
  simp only [List.mem_cons, List.mem_singleton, List.not_mem_nil, or_false, not_or]
  exact ⟨Nat.ne_of_lt hS1, Nat.ne_of_gt hlS⟩
 have hD0 : (h1.push { cls := .type "list_iterator", data := .fields #[.ref l, .int 0 0] }).DictOf knd s.heap.objs.size [] := by
  obtain ⟨o, es, ep, ho, rest⟩ := hnew
  exact ⟨o, es, ep, Heap.get?_push_of_some _ (keep _ _ ho), rest⟩
 refine Qm (A := A.in1) knd ((Walks.list z2 h1.objs.size l neI items).toS) s.heap.objs.size nSf s.heap kvs hn nd hz (fun i v hv => ?_) (items.size - 0) 0 _ (by omega) (Nat.zero_le _) ⟨⟨_, Heap.get?_push_size _ rfl, rfl, rfl⟩, (hl1.push _)⟩ hD0 (fun b o hb e => Heap.get?_push_of_some _ (keep b o (Heap.get?_push_of_some _ e))) ?_
 ·obtain ⟨q, k, key, x, e1, e2, e3, o, m, e4, e5, e6⟩ := hi i v hv
  refine ⟨q, k, key, x, e1, e2, e3, ?_, o, m, e4, e5, e6⟩
  have hq : q < s.heap.objs.size := Heap.lt_size e4
  simp only [List.mem_cons, List.mem_singleton, List.not_mem_nil, or_false, not_or]
  exact ⟨Nat.ne_of_lt hq, Nat.ne_of_lt (Nat.lt_trans hq hS1)⟩
 ·intro s' hm hS'
  obtain ⟨h', g', d', tk', os'⟩ := s'
  have eg : g' = s.gens := hm.gens
  have ed : d' = s.drawn := hm.drawn
  have eo : os' = s.os := hm.os
  subst eg; subst ed; subst eo
  refine ⟨rfl, h h' tk' hS' fun b o e => ?_⟩
  have hb : b < s.heap.objs.size := Heap.lt_size e
  exact hm.heap b o (by simp only [List.mem_cons, List.mem_singleton, List.not_mem_nil, or_false, not_or]; exact ⟨Nat.ne_of_lt hb, Nat.ne_of_lt (Nat.lt_trans hb hS1)⟩) (Heap.get?_push_of_some _ (keep b o (Heap.get?_push_of_some _ e)))
end
end X2
namespace M
open PySem PySem.Spec PyProof.Rows L2 X2
theorem v5 {X : Cx} {pins : List (Addr × Obj)} {σ : L2.St} {H : Hp} {s : Shared} (I : Inv X pins σ H s) : ∀ {xs : List V} {its : List Value} {kvs : List (Key × V)}, Vals xs its -> xs.length = kvs.length -> (∀ (i : Nat) x p, xs[i]? = some x -> kvs[i]? = some p -> ∃ q, x = V.ref q /\ H q = some (.tup [kV p.1, p.2])) ->
  ∃ vs : List (Key × Value), KV kvs vs /\ ∀ (i : Nat) (v : Value), its[i]? = some v -> ∃ (q : Addr) (k : Key) (key x : Value), v = Value.ref q /\ vs[i]? = some (k, x) /\ (zo X.prog X.w).is k key = true /\ ∃ o m, s.heap.get? q = some o /\ o.cls = .type "tuple" /\ o.data = .seq #[key, x] m
 | _, _, [], .nil, _, _ => ⟨[], .nil, fun i v h => by simp at h⟩
 | _, _, _ :: _, .nil, h, _ => by simp at h
 | _, _, [], .cons _ _, h, _ => by simp at h
 | _, _, p :: kvs, .cons (a := x) (b := u) r rs, h, hp => by
  obtain ⟨vs, hk, hv⟩ := v5 I rs (by simpa using h) (fun i x q a b => hp (i + 1) x q (by simpa using a) (by simpa using b))
  obtain ⟨q, e, hq⟩ := hp 0 _ _ rfl rfl
  subst e
  obtain ⟨its2, r2, ⟨o, e1, e2, m, e3⟩, _⟩ := I.tuple (SqT.of hq)
  cases r2 with
  | cons k1 t1 =>
   cases t1 with
   | cons k2 t2 =>
    cases t2
    rename_i key x2
    cases (show u = Value.ref q from r)
    refine ⟨(p.1, x2) :: vs, .cons ⟨rfl, k2⟩ hk, fun i v hi => ?_⟩
    cases i with
    | zero =>
     cases hi
     exact ⟨q, p.1, key, x2, rfl, rfl, yb k1, o, m, e1, e2, e3⟩
    | succ i => simpa using hv i v (by simpa using hi)
theorem vO {X : Cx} (hcm : X.calm = true) : CallR X (.type "dict") (fun xs H Q => ∃ (a : Addr) (ys : List V) (kvs : List (Key × V)), xs = [.ref a] /\ H a = some (.lst ys) /\ ys.length = kvs.length /\ (∀ (i : Nat) x p, ys[i]? = some x -> kvs[i]? = some p -> ∃ q, x = V.ref q /\ H q = some (.tup [kV p.1, p.2])) /\ (kvs.map (·.1)).Nodup /\ ∀ p, H p = none -> Q (.ref p) (upd H p (.dK kvs))) := by
 intro pins s σ H xs us Q I r h
 obtain ⟨a, ys, kvs, rfl, ha, hl, hp, nd, q⟩ := h
 obtain ⟨u, rfl, ru⟩ := vals1 r
 cases (show u = Value.ref a from ru)
 obtain ⟨hz, its, n, rv, el, e⟩ := I.lstM ha
 obtain ⟨vs, hk, hv⟩ := v5 I rv hl hp
 have lv : vs.length = its.toArray.size := by rw [List.size_toArray, <- el, hl]; exact hk.length.symm
 have ndv : (vs.map (·.1)).Nodup := by
  have e : vs.map (·.1) = kvs.map (·.1) := by
   clear lv hv nd q hp hl
   unfold KV at hk
   induction hk with
   | nil => rfl
   | cons a b ih => rw [List.map_cons, List.map_cons, ih, a.1]
  rw [e]
  exact nd
 refine xL (knd := zo X.prog X.w) (I.ok.hd hcm) e rfl rfl rfl (fun i v h => hv i v (by simpa using h)) lv ndv (by rw [List.size_toArray, <- el]; exact hz) fun h' tk dd keep => ?_
 exact ⟨.ref s.heap.objs.size, _, I.laid (a := s.heap.objs.size) (o := .dK kvs) (t' := tk) keep (Nat.le_refl _) (ZL (by rw [<- hl]; exact hz) (beq_eq_false_iff_ne.mpr (Ne.symm (Nat.ne_of_lt I.big))) hk dd), rfl, q _ (I.hok.fresh (Nat.le_refl _))⟩
def pairD : D -> Option (Key × D)
 | .tup [k, v] => (z9 k).map fun k => (k, v)
 | _ => none
def jZ : List D -> Option (List (Key × D))
 | [] => some []
 | d :: ds => match pairD d, jZ ds with | some p, some r => some (p :: r) | _, _ => none
def ZM (d : D) : Option D := match d with
 | .lst ds => (jZ ds).bind fun kvs => if (kvs.map (·.1)).Nodup then some (.dic kvs) else none
 | _ => none
theorem K8 {K : PySem.W.Frag} {c : Co} {x : V} {d : D} {k : Key} (r : Rep K c x d) (e : z9 d = some k) : x = kV k := by
 cases d with
 | int i => cases e; cases r; rfl
 | str i => cases e; cases r; rfl
 | _ => cases e
theorem we {K : PySem.W.Frag} {c : Co} {H : Hp} (hs : Same c.h H) : ∀ {xs : List V} {ds : List D} {kvs : List (Key × D)}, Reps K c xs ds -> jZ ds = some kvs -> ∃ ys : List (Key × V), ys.map (·.1) = kvs.map (·.1) /\ xs.length = ys.length /\ (∀ (i : Nat) x p, xs[i]? = some x -> ys[i]? = some p -> ∃ q, x = V.ref q /\ H q = some (.tup [kV p.1, p.2])) /\ Reps K c (ys.map (·.2)) (kvs.map (·.2))
 | xs, [], kvs, r, e => by
  cases e
  rw [r.unnil]
  exact ⟨[], rfl, rfl, fun i x p h => by simp at h, .nil⟩
 | xs, d :: ds, kvs, r, e => by
  obtain ⟨x, t, rfl, r1, r2⟩ := r.uncons
  unfold jZ at e
  cases e1 : pairD d with
  | none => rw [e1] at e; cases e
  | some p =>
   cases e2 : jZ ds with
   | none => rw [e1, e2] at e; cases e
   | some rest =>
    rw [e1, e2] at e
    cases e
    obtain ⟨ys, h1, h2, h3, h4⟩ := we hs r2 e2
    cases r1 with
    | @tup q ws es ex l rr =>
     match es, l, e1 with
     | [dk, dv], l, e1 =>
      match ws, l with
      | [wk, wv], _ =>
       have z0 := rr 0 _ _ rfl rfl
       have z1 := rr 1 _ _ rfl rfl
       have e1 : (z9 dk).map (fun k => (k, dv)) = some p := e1
       cases ek : z9 dk with
       | none => rw [ek] at e1; cases e1
       | some k =>
        rw [ek] at e1
        cases e1
        have := K8 z0 ek
        subst this
        refine ⟨(k, wv) :: ys, by rw [List.map_cons, List.map_cons, h1], by rw [List.length_cons, List.length_cons, h2], fun i x p g1 g2 => ?_, .cons z1 h4⟩
        cases i with
        | zero => cases g1; cases g2; exact ⟨q, rfl, hs _ _ ex⟩
        | succ i => exact h3 i x p (by simpa using g1) (by simpa using g2)
     | [], _, e1 => cases e1
     | [_], _, e1 => cases e1
     | _ :: _ :: _ :: _, _, e1 => cases e1
    | _ => cases e1
section
variable {W : Wo} {X : Cx} {E : En} {O : List Nat} {pos : Pos} {a : Expr} {fa : SS W -> R W D}
theorem JM {p : Pos} (hcm : X.calm = true) (hg : Gl X "dict") (hm : X.mg "dict" = none) (ha : DE W E true X O a fa) (hs : starEach [a] X.env = (false, eval a X.env) :: starEach [] X.env := by rfl) : DO W E X O (.Call (.Name "dict" p) [a] [] pos) (e1 ZM fa) :=
 zg (Q3 (vO hcm) hg hm Vu (zL ha jF hs) (he := hs)) fun σ H Q ⟨g, c, fp, q⟩ => ⟨g, c, fp, q.bind (rel := Rep X.K) fun d b v H1 c1 fp1 S1 F1 r1 h1 => by
  obtain ⟨z, ez, k⟩ := h1.opt
  have r1 : Rep X.K c1 v d := r1
  cases r1 with
  | @lst a0 xs ds ex l r =>
   have ez : (jZ ds).bind (fun kvs => if (kvs.map (·.1)).Nodup then some (D.dic kvs) else none) = some z := ez
   cases ep : jZ ds with
   | none => rw [ep] at ez; cases ez
   | some kvs =>
    rw [ep] at ez
    have ez : (if (kvs.map (·.1)).Nodup then some (D.dic kvs) else none) = some z := ez
    split at ez
    ·rename_i nd
     cases ez
     have hs1 : Same c1.h H1 := fun a u e => S1.toSE.all (m := true) _ _ e
     obtain ⟨ys, k1, k2, k3, k4⟩ := we hs1 ⟨l, r⟩ ep
     exact ⟨_, _, ys, rfl, hs1 _ _ ex, k2, k3, by rw [k1]; exact nd, fun q hq => k _ _ c1 fp1 (S1.newO hq) (FR.newO hq _) ⟨q, _, rfl, (S1.toSE.free hq).1, (S1.toSE.free hq).2, S1.toSE.freeE hq, qv, k1, nd, k4⟩ fun _ z ez => by cases ez; exact hq⟩
    ·cases ez
  | _ => cases ez⟩
end
section
variable {X : Cx}
def rGtG (X : Cx) : R2 := fun x y H Q => ∃ c dx dy b, Same c.h H /\ Rep X.K c x dx /\ Rep X.K c y dy /\ ordN false deep dx dy = some b /\ Q (.bl b) H
theorem Ke (hu : X.A.units + deep < cLine) : OpR X (compareOp .Gt) (rGtG X) := fun pins s σ H x y v u Q I rx ry ⟨c, dx, dy, b, hs, r1, r2, he, q⟩ =>
 xD I hs false deep X.A x y v u dx dy b hu r1 r2 rx ry he X.prog X.w X.xe _ ⟨.bl b, H, I, rfl, q⟩
def gtD (d e : D) : Option D := (ordN false deep d e).map .bl
theorem Xh : Op2 X (rGtG X) gtD := fun H c x y dx dy d Q hs rx ry e k => by
 unfold gtD at e
 cases q : ordN false deep dx dy with
 | none => rw [q] at e; cases e
 | some b => rw [q] at e; cases e; exact ⟨c, dx, dy, b, hs, rx, ry, q, k _ rfl⟩
end
end M
namespace M
open PySem L2 X2
def SoOk (ds : List D) (d : D) : Prop := ∃ (rds : List Rd) (kvs : List (Key × D)) (ns : List Str) (st : Str) (si : Int), ds = [.lst (rds.map rdD), .dic kvs, .str st, .int si] /\ Wk (spF kvs) kvs rds /\ (∀ q ∈ kvs, ∃ z, q.2 = D.int z) /\ rds.length < 64 /\ ∃ out, Paper (spF kvs) rds st si ns out /\ d = .lst (out.map prI)
theorem SoOk.uniq {ds : List D} {d d' : D} (h : SoOk ds d) (h' : SoOk ds d') : d = d' := by
 obtain ⟨rds, kvs, ns, st, si, rfl, _, _, _, out, p, rfl⟩ := h
 obtain ⟨rds', kvs', ns', st', si', e, _, _, _, out', p', rfl⟩ := h'
 simp only [List.cons.injEq, D.lst.injEq, D.dic.injEq, D.str.injEq, D.int.injEq, and_true] at e
 obtain ⟨e1, rfl, rfl, rfl⟩ := e
 cases map_inj (fun _ _ => QH) e1
 rw [vw (P := Least (spF kvs) rds st si) p.pw p'.pw fun o => (p.iff o.1 o.2).trans (p'.iff o.1 o.2).symm]
open Classical in
noncomputable def F_so (ds : List D) : Option D := if h : ∃ d, SoOk ds d then some h.choose else none
theorem Kz {ds : List D} {d : D} (h : SoOk ds d) : F_so ds = some d := by
 have hx : ∃ d, SoOk ds d := ⟨d, h⟩
 unfold F_so
 rw [dif_pos hx, hx.choose_spec.uniq h]
theorem XY {ds : List D} {d : D} (h : F_so ds = some d) : SoOk ds d := by
 unfold F_so at h
 split at h
 ·rename_i hx
  cases h
  exact hx.choose_spec
 ·cases h
theorem Qz {P : Program} {w : World} {K : PySem.W.Frag} {mg : Str -> Option Value} {base : Heap} {f : Addr} {fd : FuncData} {ps : List Str} {k : Nat} {T : Hp -> Prop} {Pt : Addr} {lp : Pos} (hTT : ∀ H, T H -> TabOk H Pt lp lqS) (hTS : ∀ H H', T H -> SaT Pt H H' -> TabOk H' Pt lp lqS -> T H') (h : FnOk P w K mg base CX0 k f fd ps (J2 K Pt lp)) : FnOk P w K mg base CX0 k f fd ps (spP K T 4 false F_so) := by
 refine h.imp fun vs H Q EX q => ?_
 obtain ⟨hl, c, ds, co, tt, rs, d, ed, q⟩ := q
 have no := XY ed
 obtain ⟨rds, kvs, ns, st, si, rfl, wk, hz, h64, out, pp, rfl⟩ := no
 obtain ⟨x0, t, rfl, r0, rs⟩ := rs.uncons
 obtain ⟨x1, t, rfl, r1, rs⟩ := rs.uncons
 obtain ⟨x2, t, rfl, r2, rs⟩ := rs.uncons
 obtain ⟨x4, t, rfl, r4, rs⟩ := rs.uncons
 cases rs.unnil
 have hs : Same c.h H := co.trans Hn.same
 cases r0 with | @lst a0 xs0 _ e0 l0 rr0 => ?_
 cases r1 with | @dic a1 ys1 _ e1 l1 nd1 rr1 => ?_
 cases r2
 cases r4
 have es := VH l1 rr1 hz
 have hv : ∀ r ∈ rds, valV ys1 (Sum.inr r.b : Key) = some (.int (spn ys1 r.b)) := fun r hr => by
  rcases vE l1 rr1 hz (Sum.inr r.b) with ⟨_, e2⟩ | ⟨z, e1, e2⟩
  ·rw [wk.sps r hr] at e2; cases e2
  ·rw [wk.sps r hr] at e2; cases e2; rw [es]; exact e1
 refine ⟨a0, a1, xs0, ys1, rds, ns, st, si, rfl, hs _ _ e0, hs _ _ e1, VM hs ⟨l0, rr0⟩ hv, by rw [l0, List.length_map]; exact h64, by rw [es]; exact wk.toGood, pp.n5, pp.hst, pp.hds, hTT H tt, fun r out' qs H' s tab' nr pw hr lq its nq iff => ?_⟩
 rw [es] at iff
 obtain ⟨fr, co'⟩ := Vf (H' := H') co (VL s) (fun a e => s.free e)
 refine q (.ref r) H' (grow c H H') fr co' (hTS H H' tt s tab') ?_
 rw [if_neg (by decide), vw (P := Least (spF kvs) rds st si) pp.pw pw fun o => (pp.iff o.1 o.2).trans (iff o.1 o.2).symm]
 exact Jd co nr nq ⟨hr, lq, its⟩
theorem vA {sp : Str -> Int} {rds : List Rd} {st : Str} {si : Int} (G : Good sp rds) {d : Rd} (r : Reach sp rds st si d) : ∃ m, Least sp rds st si d.b m := by
 have pw := List.pairwise_mergeSort (le := fun a b : Rd => decide (a.l <= b.l)) (fun a b c h1 h2 => by simp at *; omega) (fun a b => by simp; omega) rds
 have pm := List.mergeSort_perm rds (fun a b : Rd => decide (a.l <= b.l))
 obtain ⟨ms, S⟩ := wL (st := st) (si := si) G (rds.mergeSort (fun a b : Rd => decide (a.l <= b.l))) [] [(st, si)] (fun d hd => pm.mem_iff.mp hd) (pw.imp fun h => by simpa using h) Soon.nil
 have hp : ∀ d ∈ rds, d ∈ [] ++ rds.mergeSort (fun a b : Rd => decide (a.l <= b.l)) := fun d hd => by rw [List.nil_append]; exact pm.mem_iff.mpr hd
 obtain ⟨z, e, _⟩ := rdy_iff.mp (S.all hp r)
 exact ⟨z, (S.least G hp).mp ((mem_lookup S.nd).mpr e)⟩
theorem JH {sp : Str -> Int} {rds : List Rd} {st go : Str} {si : Int} {d : Rd} {t : List Rd} (f : Fr sp rds go d t) : Reach sp rds st si d -> ∃ e, Reach sp rds st si e /\ e.b = go := by
 induction f with
 | fin m e => exact fun r => ⟨_, r, e⟩
 | @cons d e l m h fr ih =>
  intro r
  refine ih (.nxt r ?_ h)
  cases fr with
  | fin m e => exact m
  | cons m h r => exact m
theorem Qp {sp : Str -> Int} {rds : List Rd} {st go : Str} {si : Int} (G : Good sp rds) {l : List Rd} (h : AllW sp rds st go si l) : ∃ m, Least sp rds st si go m := by
 rcases h with ⟨_, e⟩ | ⟨d, t, _, f, h1, h2⟩
 ·exact ⟨si, .inl ⟨e.symm, rfl⟩⟩
 ·have hm : d ∈ rds := by
   cases f with
   | fin m e => exact m
   | cons m h r => exact m
  obtain ⟨e, r, eb⟩ := JH f (.fst hm h1 h2)
  rw [<- eb]
  exact vA G r
theorem QG {sp : Str -> Int} {rds rds' : List Rd} {st : Str} {si si' : Int} (h : ∀ r ∈ rds, r ∈ rds') (hs : si' <= si) {d : Rd} (r : Reach sp rds st si d) : Reach sp rds' st si' d := by
 induction r with
 | fst m e hl => exact .fst (h _ m) e (by omega)
 | nxt r m hh ih => exact .nxt ih (h _ m) hh
theorem wq {sp : Str -> Int} {rds rds' : List Rd} {st x : Str} {si si' m : Int} (G : Good sp rds') (h : ∀ r ∈ rds, r ∈ rds') (hs : si' <= si) (L : Least sp rds st si x m) : ∃ m', Least sp rds' st si' x m' /\ m' <= m := by
 rcases L with ⟨e1, e2⟩ | ⟨hx, ⟨e, r, eb, em⟩, _⟩
 ·exact ⟨si', .inl ⟨e1, rfl⟩, by omega⟩
 ·have r' := QG h hs r
  obtain ⟨m', L'⟩ := vA G r'
  rw [eb] at L'
  refine ⟨m', L', ?_⟩
  rcases L' with ⟨e1, _⟩ | ⟨_, _, hm⟩
  ·exact absurd e1 hx
  ·have := hm e r' eb
   omega
section
variable (T : Hp -> Prop) (hT : HTb T)
noncomputable def yp : SS (W0 T hT) -> Ou (W0 T hT) :=
 (sSeq (sIf (qCmp isND (eVar 1) (eC .non))
 (sRet (eTup (qd (eC (.int 1)) (qd (eC (.int 0)) (qd (eC (.int 0)) aNil)))))
 sNil)
 (sSeq (sSet 5 (eVar 4))
 (sSeq (sFor (iSeq (eVar 0)) (qx 6)
 (sIf (qAnd (qTru (eVar 1)) (qCmp eqD (e2 ixD (eVar 6) (eC (.int 0))) (e2 ixD (eVar 1) (e1 negI (eC (.int 1))))))
 (sSet 5 (e2 ixD (eVar 6) (eC (.int 4))))
 sNil))
 (sSeq (sSet 7 (e1 lenD (zq 1 [3] (iSeq (eVar 1)) (qx 0) (qCmp inO (eVar 0) (eVar 1)) (eVar 0))))
 (sRet (eTup (qd (e2 subI (eC (.int 0)) (eVar 7)) (qd (e1 lenD (zq 1 [2] (iSeq (eVar 1)) (qx 0) (qCmp ninO (eVar 0) (eVar 1)) (eVar 0))) (qd (eVar 5) aNil)))))))))
noncomputable def kT : List D -> Option D := zr 8 (yp T hT)
noncomputable def Vw : SS (W0 T hT) -> Ou (W0 T hT) :=
 (sSeq (sAsg (pTup 6 (zd (qx 7) (zd (qx 8) (zd (qx 9) (zd (qx 10) (zd (qx 11) (zd (qx 12) pNil))))))) (qX 3 (xZ T hT) (qd (eVar 0) (qd (eC (.int 0)) (qd (eC (.int 9)) aNil)))))
 (sSeq (sAsg (pTup 2 (zd (qx 13) (zd (qx 14) pNil))) (qX 3 (vn T hT) (qd (eVar 0) (qd (eC (.int 22)) (qd (eVar 9) aNil)))))
 (sSeq (sSet 1 (qX 3 (za T hT) (qd (eVar 0) (qd (eC (.int 23)) (qd (eC (.int 12)) aNil)))))
 (sSeq (sSet 2 (zq 1 [1, 9] (qS (qd (e1 lenD (eVar 9)) aNil)) (qx 0) (qCmp gtI (e2 modI (e2 ixD (eVar 1) (eVar 0)) (eC (.int 4))) (eC (.int 0))) (e2 ixD (eVar 2) (eVar 0))))
 (sSeq (sSet 3 (qX 7 F_lc (qd (eVar 9) (qd (eVar 8) (qd (eVar 10) (qd (eVar 11) (qd (eVar 12) (qd (eVar 13) (qd (eVar 14) aNil)))))))))
 (sSeq (sSet 4 (qX 7 F_lc (qd (eVar 2) (qd (eVar 8) (qd (eVar 10) (qd (eVar 11) (qd (eVar 12) (qd (eVar 13) (qd (eVar 14) aNil)))))))))
 (sSeq (sSet 5 (qX 5 (kT T hT) (qd (eVar 9) (qd (eVar 3) (qd (eVar 13) (qd (eVar 14) (qd (eVar 12) aNil)))))))
 (sSeq (sIf (qCmp gtD (eVar 5) (qX 5 (kT T hT) (qd (eVar 2) (qd (eVar 4) (qd (eVar 13) (qd (eVar 14) (qd (eVar 12) aNil)))))))
 (sRet (eC (.bl false)))
 sNil)
 (sSeq (sIf (qCmp neD (eVar 10) (eVar 11))
 (sSeq (sSet 15 (qX 7 F_lc (qd (eVar 9) (qd (eVar 8) (qd (eVar 10) (qd (eVar 11) (qd (e2 addD (eVar 12) (e2 modI (e2 ixD (eVar 1) (eC (.int 10))) (eC (.int 9)))) (qd (eVar 13) (qd (eVar 14) aNil)))))))))
 (sIf (qCmp gtD (eVar 5) (qX 5 (kT T hT) (qd (eVar 9) (qd (eVar 15) (qd (eVar 13) (qd (eVar 14) (qd (eVar 12) aNil)))))))
 (sRet (eC (.bl false)))
 sNil))
 sNil)
 (sSeq (sSet 6 (e1 ZM (qX 4 F_so (qd (eVar 9) (qd (eVar 8) (qd (eVar 10) (qd (eVar 12) aNil)))))))
 (sSeq (sFor (iSeq (qX 4 F_so (qd (eVar 2) (qd (eVar 8) (qd (eVar 10) (qd (eVar 12) aNil)))))) (pTup 2 (zd (qx 16) (zd (qx 17) pNil)))
 (sIf (qCmp gtI (e2 ixD (eVar 6) (eVar 16)) (eVar 17))
 (sRet (eC (.bl false)))
 sNil))
 (sSeq (sFor (iSeq (qX 4 F_so (qd (eVar 9) (qd (eVar 8) (qd (eVar 10) (qd (e2 addD (eVar 12) (e2 modI (e2 ixD (eVar 1) (eC (.int 10))) (eC (.int 9)))) aNil)))))) (pTup 2 (zd (qx 16) (zd (qx 17) pNil)))
 (sIf (qCmp gtI (e2 ixD (eVar 6) (eVar 16)) (eVar 17))
 (sRet (eC (.bl false)))
 sNil))
 (sRet (e2 eqD (e2 inO (eVar 11) (eVar 6)) (e2 K3 (eVar 3) (eC .non))))))))))))))))
noncomputable def XE : List D -> Option D := zr 18 (Vw T hT)
end
section
variable {P : Program} {w : World} {K : PySem.W.Frag} {mg : Str -> Option Value} {base : Heap} {qj qZ qk qr qi qp qD qw qF qJ qI q8 qK q9 zW : Addr} {zy kt zD zZ ze zS js jc zE jL jK ku jM kx ZD : FuncData} {T : Hp -> Prop} {hT : HTb T}
variable {fp0 : Fp} {ob0 : Nat -> Option Addr} {tb : Nat -> Option D}
theorem sc_Lcost : FnScope ["_law_rides", "_law_numbers", "_law_kept", "_law_shared", "_law_since", "_law_comes", "_law_ride", "_law_lost"] ["_law_rides", "_law_numbers", "_law_kept", "_law_shared", "_law_since"] (ql kF) := ⟨rfl, rfl, rfl, by decide +kernel, rfl, by decide +kernel, by decide +kernel⟩
theorem Jo (Tx : Txt K mg qj qZ qk qr qi qp qD qw qF qJ qI q8 qK q9 zW) (Fu : Fun K "_law_cost" "_law_cost" kF q9 kx) : FnOk P w K mg base CX0 1 q9 kx ["_law_rides", "_law_numbers", "_law_kept", "_law_shared", "_law_since"] (spP K T 5 false (kT T hT)) := by
 have z := vW (P := P) (w := w) (K := K) (mg := mg) (base := base) (k := 0) (n := 5) (N := ["_law_rides", "_law_numbers", "_law_kept", "_law_shared", "_law_since", "_law_comes", "_law_ride", "_law_lost"]) (ps := ["_law_rides", "_law_numbers", "_law_kept", "_law_shared", "_law_since"]) (fr := false) (body := (yp T hT)) (O' := []) Fu sc_Lcost rfl (fun cdv A outer s H EX E hr =>
  (qm (jw (zA Xc X0 (qb (pv 1) (by decide)) (de_c QZ rfl) (zk _))
  (qA (z5 (ky (qc (m := true) (de_c qf rfl) (qc (m := true) (de_c qf rfl) (qc (m := true) (de_c qf rfl) (qB (m := true))))))))
  zB)
  (qm (zc (i := 5) sc_Lcost.nd rfl (by first | exact Or.inl rfl | exact Or.inr rfl) (qb (pv 4) (by decide)))
  (qm (xh PassesOwn.never rfl qg (wB (qb (pv 0) (by decide))) (qH (qC (i := 6) sc_Lcost.nd rfl (by first | exact Or.inl rfl | exact Or.inr rfl)))
  (qA (jw (DW.dt (ZG (yR (qb (pv 1) (by decide))) (yh (zA (jG (huR hr)) o_eq (qL (huR hr) (qb (pv 6) (by decide)) (de_c qf rfl)) (qL (huR hr) (qb (pv 1) (by decide)) (ZN (de_c qf rfl))) (zk _)))))
  (qA (zc (i := 5) sc_Lcost.nd rfl (by first | exact Or.inl rfl | exact Or.inr rfl) (qL (huR hr) (qb (pv 6) (by decide)) (de_c qf rfl))))
  zB)))
  (qm (zc (i := 7) sc_Lcost.nd rfl (by first | exact Or.inl rfl | exact Or.inr rfl) (z6 rfl Tx.b_len (DO.de (yi (T := ["_law_number"]) (caps := ["_law_shared"]) (ix := [3]) (O1 := []) (kY rfl (by rfl) (by decide +kernel) (by decide +kernel) rfl (by intro x hx; repeat (first | (rcases List.mem_cons.mp hx with rfl | hx; · exact ⟨rfl, rfl, rfl⟩) | exact absurd hx (List.not_mem_nil))) (by rfl) (by intro x hx; repeat (first | (rcases List.mem_cons.mp hx with rfl | hx; · rfl) | exact absurd hx (List.not_mem_nil)))) rfl (by decide) qg (DI.toC (wB (qb (pv 1) (by decide)))) (fun _ _ _ _ _ => (qH (qC (i := 0) (by show (["_law_number", "_law_shared"] : List Str).Nodup; decide +kernel) rfl (by first | exact Or.inl rfl | exact Or.inr rfl)))) (by decide) (by decide) (fun _ _ _ _ _ => (kf (zA (Q7 (huR hr)) o_in (qb (pv 0) (by decide)) (qb (pv 1) (by decide)) rfl))) (fun _ _ _ _ _ => (qb (pv 0) (by decide)))))))
  (qA (z5 (ky (qc (m := true) (qP v9 Qf (de_c qf rfl) (qb (pv 7) (by decide))) (qc (m := true) (z6 rfl Tx.b_len (DO.de (yi (T := ["_law_number"]) (caps := ["_law_kept"]) (ix := [2]) (O1 := []) (kY rfl (by rfl) (by decide +kernel) (by decide +kernel) rfl (by intro x hx; repeat (first | (rcases List.mem_cons.mp hx with rfl | hx; · exact ⟨rfl, rfl, rfl⟩) | exact absurd hx (List.not_mem_nil))) (by rfl) (by intro x hx; repeat (first | (rcases List.mem_cons.mp hx with rfl | hx; · rfl) | exact absurd hx (List.not_mem_nil)))) rfl (by decide) qg (DI.toC (wB (qb (pv 1) (by decide)))) (fun _ _ _ _ _ => (qH (qC (i := 0) (by show (["_law_number", "_law_kept"] : List Str).Nodup; decide +kernel) rfl (by first | exact Or.inl rfl | exact Or.inr rfl)))) (by decide) (by decide) (fun _ _ _ _ _ => (kf (zA (wm (huR hr)) Xg (qb (pv 0) (by decide)) (qb (pv 1) (by decide)) rfl))) (fun _ _ _ _ _ => (qb (pv 0) (by decide)))))) (qc (m := true) (qb (pv 5) (by decide)) (qB (m := true)))))))))))))
 exact z
theorem sc_law : FnScope ["_law_script", "_law_d", "_law_fewer", "_law_told", "_law_less", "_law_whole", "_law_moments", "_law_names_here", "_law_spans", "_law_rides", "_law_start", "_law_goal", "_law_since", "_law_kept", "_law_shared", "_law_late", "_law_place", "_law_moment"] ["_law_script"] (ql xw) := ⟨rfl, rfl, rfl, by decide +kernel, rfl, by decide +kernel, by decide +kernel⟩
theorem Xe (Tx : Txt K mg qj qZ qk qr qi qp qD qw qF qJ qI q8 qK q9 zW) (Fu : Fun K "law" "law" xw zW ZD) (GLtrip : FnOk P w K mg base CX0 3 q8 ku ["_law_script", "_law_at", "_law_most"] (spP K T 3 false (xZ T hT))) (BLtrip : Binds K ku ["_law_script", "_law_at", "_law_most"] []) (GLmarks : FnOk P w K mg base CX0 2 qK jM ["_law_script", "_law_at", "_law_rides"] (spP K T 3 false (vn T hT))) (BLmarks : Binds K jM ["_law_script", "_law_at", "_law_rides"] []) (GLdraws : FnOk P w K mg base CX0 1 qF zE ["_law_script", "_law_at", "_law_many"] (spP K T 3 true (za T hT))) (BLdraws : Binds K zE ["_law_script", "_law_at", "_law_many"] []) (Gleast_change : FnOk P w K mg base CX0 4 qk zD ["rides", "spans", "start", "goal", "since", "kept", "shared"] (spP K T 7 true F_lc)) (Bleast_change : Binds K zD ["rides", "spans", "start", "goal", "since", "kept", "shared"] []) (GLcost : FnOk P w K mg base CX0 1 q9 kx ["_law_rides", "_law_numbers", "_law_kept", "_law_shared", "_law_since"] (spP K T 5 false (kT T hT))) (BLcost : Binds K kx ["_law_rides", "_law_numbers", "_law_kept", "_law_shared", "_law_since"] []) (Gsoonest : FnOk P w K mg base CX0 2 qD js ["rides", "spans", "start", "since"] (spP K T 4 false F_so)) (Bsoonest : Binds K js ["rides", "spans", "start", "since"] []) : FnOk P w K mg base CX0 9 zW ZD ["_law_script"] (spP K T 1 false (XE T hT)) := by
 have z := vW (P := P) (w := w) (K := K) (mg := mg) (base := base) (k := 8) (n := 1) (N := ["_law_script", "_law_d", "_law_fewer", "_law_told", "_law_less", "_law_whole", "_law_moments", "_law_names_here", "_law_spans", "_law_rides", "_law_start", "_law_goal", "_law_since", "_law_kept", "_law_shared", "_law_late", "_law_place", "_law_moment"]) (ps := ["_law_script"]) (fr := false) (body := (Vw T hT)) (O' := []) Fu sc_law rfl (fun cdv A outer s H EX E hr =>
  (qm (yT (ji (qz qg (qz qg (qz qg (qz qg (qz qg (qz qg zY))))))) (z8 (hr.mono (by decide)) rfl Tx.m_Ltrip Tx.k_Ltrip BLtrip (G := GLtrip) (ha := (qc (m := true) (qb (pv 0) (by decide)) (qc (m := true) (de_c qf rfl) (qc (m := true) (de_c qf rfl) (qB (m := true))))))) (kX rfl (qN qg (qH (qC (i := 7) sc_law.nd rfl (by first | exact Or.inl rfl | exact Or.inr rfl))) (qN qg (qH (qC (i := 8) sc_law.nd rfl (by first | exact Or.inl rfl | exact Or.inr rfl))) (qN qg (qH (qC (i := 9) sc_law.nd rfl (by first | exact Or.inl rfl | exact Or.inr rfl))) (qN qg (qH (qC (i := 10) sc_law.nd rfl (by first | exact Or.inl rfl | exact Or.inr rfl))) (qN qg (qH (qC (i := 11) sc_law.nd rfl (by first | exact Or.inl rfl | exact Or.inr rfl))) (qN qg (qH (qC (i := 12) sc_law.nd rfl (by first | exact Or.inl rfl | exact Or.inr rfl))) jO))))))))
  (qm (yT (ji (qz qg (qz qg zY))) (z8 (hr.mono (by decide)) rfl Tx.m_Lmarks Tx.k_Lmarks BLmarks (G := GLmarks) (ha := (qc (m := true) (qb (pv 0) (by decide)) (qc (m := true) (de_c qf rfl) (qc (m := true) (qb (pv 9) (by decide)) (qB (m := true))))))) (kX rfl (qN qg (qH (qC (i := 13) sc_law.nd rfl (by first | exact Or.inl rfl | exact Or.inr rfl))) (qN qg (qH (qC (i := 14) sc_law.nd rfl (by first | exact Or.inl rfl | exact Or.inr rfl))) jO))))
  (qm (zc (i := 1) sc_law.nd rfl (by first | exact Or.inl rfl | exact Or.inr rfl) (DO.de (jd (hr.mono (by decide)) rfl Tx.m_Ldraws Tx.k_Ldraws BLdraws (G := GLdraws) (ha := (qc (m := true) (qb (pv 0) (by decide)) (qc (m := true) (de_c qf rfl) (qc (m := true) (de_c qf rfl) (qB (m := true)))))))))
  (qm (DS.weak (O := []) (O1 := []) (O2 := []) (vm (i := 2) sc_law.nd rfl (by first | exact Or.inl rfl | exact Or.inr rfl) (T := ["_law_k"]) (caps := ["_law_d", "_law_rides"]) (ix := [1, 9]) (O1 := []) (kY rfl (by rfl) (by decide +kernel) (by decide +kernel) rfl (by intro x hx; repeat (first | (rcases List.mem_cons.mp hx with rfl | hx; · exact ⟨rfl, rfl, rfl⟩) | exact absurd hx (List.not_mem_nil))) (by rfl) (by intro x hx; repeat (first | (rcases List.mem_cons.mp hx with rfl | hx; · rfl) | exact absurd hx (List.not_mem_nil)))) rfl (by decide) qg (DI.toC (je rfl Tx.b_range (qc (m := true) (z6 rfl Tx.b_len (qb (pv 9) (by decide))) (qB (m := true))))) (fun _ _ _ _ _ => (qH (qC (i := 0) (by show (["_law_k", "_law_d", "_law_rides"] : List Str).Nodup; decide +kernel) rfl (by first | exact Or.inl rfl | exact Or.inr rfl)))) (by decide) (by decide) (fun _ _ _ _ _ => (kf (zA Q8 o_gt (qP qR zu (qL (huR hr) (qb (pv 1) (by decide)) (qb (pv 0) (by decide))) (de_c qf rfl)) (de_c qf rfl) (zk _)))) (fun _ _ _ _ _ => (qL (huR hr) (qb (pv 2) (by decide)) (qb (pv 0) (by decide))))) (by decide) (by decide))
  (qm (zc (i := 3) sc_law.nd rfl (by first | exact Or.inl rfl | exact Or.inr rfl) (DO.de (jd (hr.mono (by decide)) rfl Tx.m_least_change Tx.k_least_change Bleast_change (G := Gleast_change) (ha := (qc (m := true) (qb (pv 9) (by decide)) (qc (m := true) (qb (pv 8) (by decide)) (qc (m := true) (qb (pv 10) (by decide)) (qc (m := true) (qb (pv 11) (by decide)) (qc (m := true) (qb (pv 12) (by decide)) (qc (m := true) (qb (pv 13) (by decide)) (qc (m := true) (qb (pv 14) (by decide)) (qB (m := true)))))))))))))
  (qm (zc (i := 4) sc_law.nd rfl (by first | exact Or.inl rfl | exact Or.inr rfl) (DO.de (jd (hr.mono (by decide)) rfl Tx.m_least_change Tx.k_least_change Bleast_change (G := Gleast_change) (ha := (qc (m := true) (qb (pv 2) (by decide)) (qc (m := true) (qb (pv 8) (by decide)) (qc (m := true) (qb (pv 10) (by decide)) (qc (m := true) (qb (pv 11) (by decide)) (qc (m := true) (qb (pv 12) (by decide)) (qc (m := true) (qb (pv 13) (by decide)) (qc (m := true) (qb (pv 14) (by decide)) (qB (m := true)))))))))))))
  (qm (zc (i := 5) sc_law.nd rfl (by first | exact Or.inl rfl | exact Or.inr rfl) (z8 (hr.mono (by decide)) rfl Tx.m_Lcost Tx.k_Lcost BLcost (G := GLcost) (ha := (qc (m := true) (qb (pv 9) (by decide)) (qc (m := true) (qb (pv 3) (by decide)) (qc (m := true) (qb (pv 13) (by decide)) (qc (m := true) (qb (pv 14) (by decide)) (qc (m := true) (qb (pv 12) (by decide)) (qB (m := true))))))))))
  (qm (jw (zA (Ke (huR hr)) Xh (qb (pv 5) (by decide)) (z8 (hr.mono (by decide)) rfl Tx.m_Lcost Tx.k_Lcost BLcost (G := GLcost) (ha := (qc (m := true) (qb (pv 2) (by decide)) (qc (m := true) (qb (pv 4) (by decide)) (qc (m := true) (qb (pv 13) (by decide)) (qc (m := true) (qb (pv 14) (by decide)) (qc (m := true) (qb (pv 12) (by decide)) (qB (m := true))))))))) (zk _))
  (qA (z5 (de_c Q4 rfl)))
  zB)
  (qm (jw (zA (Xb (huR hr)) o_ne (qb (pv 10) (by decide)) (qb (pv 11) (by decide)) (zk _))
  (qm (zc (i := 15) sc_law.nd rfl (by first | exact Or.inl rfl | exact Or.inr rfl) (DO.de (jd (hr.mono (by decide)) rfl Tx.m_least_change Tx.k_least_change Bleast_change (G := Gleast_change) (ha := (qc (m := true) (qb (pv 9) (by decide)) (qc (m := true) (qb (pv 8) (by decide)) (qc (m := true) (qb (pv 10) (by decide)) (qc (m := true) (qb (pv 11) (by decide)) (qc (m := true) (DO.de (q_ (qb (pv 12) (by decide)) (qP qR zu (qL (huR hr) (qb (pv 1) (by decide)) (de_c qf rfl)) (de_c qf rfl)))) (qc (m := true) (qb (pv 13) (by decide)) (qc (m := true) (qb (pv 14) (by decide)) (qB (m := true)))))))))))))
  (qA (jw (zA (Ke (huR hr)) Xh (qb (pv 5) (by decide)) (z8 (hr.mono (by decide)) rfl Tx.m_Lcost Tx.k_Lcost BLcost (G := GLcost) (ha := (qc (m := true) (qb (pv 9) (by decide)) (qc (m := true) (qb (pv 15) (by decide)) (qc (m := true) (qb (pv 13) (by decide)) (qc (m := true) (qb (pv 14) (by decide)) (qc (m := true) (qb (pv 12) (by decide)) (qB (m := true))))))))) (zk _))
  (qA (z5 (de_c Q4 rfl)))
  zB)))
  zB)
  (qm (zc (i := 6) sc_law.nd rfl (by first | exact Or.inl rfl | exact Or.inr rfl) (DO.de (JM rfl rfl Tx.b_dict (z8 (hr.mono (by decide)) rfl Tx.m_soonest Tx.k_soonest Bsoonest (G := Gsoonest) (ha := (qc (m := true) (qb (pv 9) (by decide)) (qc (m := true) (qb (pv 8) (by decide)) (qc (m := true) (qb (pv 10) (by decide)) (qc (m := true) (qb (pv 12) (by decide)) (qB (m := true)))))))))))
  (qm (xh PassesOwn.never rfl (ji (qz qg (qz qg zY))) (wB (z8 (hr.mono (by decide)) rfl Tx.m_soonest Tx.k_soonest Bsoonest (G := Gsoonest) (ha := (qc (m := true) (qb (pv 2) (by decide)) (qc (m := true) (qb (pv 8) (by decide)) (qc (m := true) (qb (pv 10) (by decide)) (qc (m := true) (qb (pv 12) (by decide)) (qB (m := true))))))))) (kX rfl (qN qg (qH (qC (i := 16) sc_law.nd rfl (by first | exact Or.inl rfl | exact Or.inr rfl))) (qN qg (qH (qC (i := 17) sc_law.nd rfl (by first | exact Or.inl rfl | exact Or.inr rfl))) jO)))
  (qA (jw (zA Q8 o_gt (qL (huR hr) (qb (pv 6) (by decide)) (qb (pv 16) (by decide))) (qb (pv 17) (by decide)) (zk _))
  (qA (z5 (de_c Q4 rfl)))
  zB)))
  (qm (xh PassesOwn.never rfl (ji (qz qg (qz qg zY))) (wB (z8 (hr.mono (by decide)) rfl Tx.m_soonest Tx.k_soonest Bsoonest (G := Gsoonest) (ha := (qc (m := true) (qb (pv 9) (by decide)) (qc (m := true) (qb (pv 8) (by decide)) (qc (m := true) (qb (pv 10) (by decide)) (qc (m := true) (DO.de (q_ (qb (pv 12) (by decide)) (qP qR zu (qL (huR hr) (qb (pv 1) (by decide)) (de_c qf rfl)) (de_c qf rfl)))) (qB (m := true))))))))) (kX rfl (qN qg (qH (qC (i := 16) sc_law.nd rfl (by first | exact Or.inl rfl | exact Or.inr rfl))) (qN qg (qH (qC (i := 17) sc_law.nd rfl (by first | exact Or.inl rfl | exact Or.inr rfl))) jO)))
  (qA (jw (zA Q8 o_gt (qL (huR hr) (qb (pv 6) (by decide)) (qb (pv 16) (by decide))) (qb (pv 17) (by decide)) (zk _))
  (qA (z5 (de_c Q4 rfl)))
  zB)))
  (qA (z5 (wC (jG (huR hr)) o_eq (wC (Q7 (huR hr)) o_in (qb (pv 11) (by decide)) (qb (pv 6) (by decide)) rfl) (wC KU Xf (qb (pv 3) (by decide)) (de_c QZ rfl) (zk _)) (zk _)))))))))))))))))
 exact z
end
section
variable {T : Hp -> Prop} {hT : HTb T} {B : Hp -> Co -> List Addr -> Prop} {hB : HBb B}
end
theorem Xw {sp : Str -> Int} {rds rds' : List Rd} {go : Str} (h : ∀ r ∈ rds, r ∈ rds') {d : Rd} {t : List Rd} (f : Fr sp rds go d t) : Fr sp rds' go d t := by
 induction f with
 | fin m e => exact .fin (h _ m) e
 | cons m hh r ih => exact .cons (h _ m) hh ih
theorem JV {sp : Str -> Int} {rds rds' : List Rd} {st go : Str} {si : Int} (h : ∀ r ∈ rds, r ∈ rds') {l : List Rd} (a : AllW sp rds st go si l) : AllW sp rds' st go si l := by
 rcases a with a | ⟨d, t, e, f, x⟩
 ·exact .inl a
 ·exact .inr ⟨d, t, e, Xw h f, x⟩
theorem Wk.sub {sp : Str -> Int} {kvs : List (Key × D)} {rds rds' : List Rd} (h : ∀ r ∈ rds', r ∈ rds) (G : Wk sp kvs rds) : Wk sp kvs rds' := ⟨⟨fun d hd => G.lc d (h d hd), fun d hd => G.s0 d (h d hd)⟩, fun d hd => G.sps d (h d hd)⟩
section
variable (T : Hp -> Prop) (hT : HTb T)
theorem K6 (T : Hp -> Prop) (hT : HTb T) {kvs : List (Key × D)} {rds : List Rd} (G : Wk (spF kvs) kvs rds) (iv : ∀ q ∈ kvs, ∃ z, q.2 = D.int z) (h9 : rds.length <= 9) (st go : Str) (si : Int) (kept shared : List Int) (hk : kept.length <= 1000) (hs : shared.length <= 1000) : ∃ o, F_lc [.lst (rds.map rdD), .dic kvs, .str st, .str go, .int si, .lst (isD kept), .lst (isD shared)] = some (optD o) /\ Best kept shared si (AllW (spF kvs) rds st go si) o := by
 obtain ⟨o, _, bs⟩ := Vv T hT G h9 st go si kept shared hk hs
 exact ⟨o, X4 ⟨rds, kvs, st, go, si, kept, shared, rfl, G, iv, by omega, bs⟩, bs⟩
end
theorem Xx {sp : Str -> Int} {rds : List Rd} {go : Str} {d : Rd} {t : List Rd} (f : Fr sp rds go d t) : ∀ x ∈ d :: t, x ∈ rds := by
 induction f with
 | fin m e => intro x hx; rw [List.mem_singleton.mp hx]; exact m
 | cons m h r ih =>
  intro x hx
  rcases List.mem_cons.mp hx with rfl | hx
  ·exact m
  ·exact ih x hx
theorem xY {sp : Str -> Int} {rds : List Rd} {st go : Str} {si : Int} {l : List Rd} (h : AllW sp rds st go si l) : ∀ x ∈ l, x ∈ rds := by
 rcases h with ⟨rfl, _⟩ | ⟨d, t, rfl, f, _⟩
 ·exact fun x hx => nomatch hx
 ·exact Xx f
def cst (kept shared : List Int) (si : Int) : Option (List Rd) -> D
 | none => .tup [.int 1, .int 0, .int 0]
 | some l => .tup [.int (wLaw kept shared si l).s, .int (wLaw kept shared si l).u, .int (kc si l)]
def rowO (ol : Option (List Rd)) : Option (List Int) := ol.map fun l => l.map (·.n)
theorem gt3 {a b c a' b' c' : Int} (h1 : ¬ a' < a) (h2 : a = a' -> ¬ b' < b) (h3 : a = a' -> b = b' -> ¬ c' < c) : gtD (.tup [.int a, .int b, .int c]) (.tup [.int a', .int b', .int c']) = some (.bl false) := by
 show (ordL false (eqN 29) (ordN false 29) [.int a, .int b, .int c] [.int a', .int b', .int c']).map D.bl = _
 have e : ∀ x y : Int, eqN 29 (.int x) (.int y) = some (x == y) := fun _ _ => rfl
 have o : ∀ x y : Int, ordN false 29 (.int x) (.int y) = some (decide (y < x)) := fun _ _ => rfl
 by_cases ha : a = a'
 ·by_cases hb : b = b'
  ·by_cases hc : c = c'
   ·subst ha hb hc
    simp [ordL, e, o]
   ·subst ha hb
    have := h3 rfl rfl
    have hc' : (c == c') = false := by simp [hc]
    simp [ordL, e, o, hc', this]
  ·subst ha
   have := h2 rfl
   have hb' : (b == b') = false := by simp [hb]
   simp [ordL, e, o, hb', this]
 ·have ha' : (a == a') = false := by simp [ha]
  simp [ordL, e, o, ha', h1]
theorem ym {kept shared : List Int} {si : Int} {P : List Rd -> Prop} {o : Option (List Int)} (h : Best kept shared si P o) : ∃ ol, o = rowO ol /\ (ol = none -> ∀ l, ¬ P l) /\ ∀ l, ol = some l -> P l /\ ∀ l', P l' -> ¬ (wLaw kept shared si l').key < (wLaw kept shared si l).key := by
 rcases h with ⟨rfl, h⟩ | ⟨l, hl, e, hm⟩
 ·exact ⟨none, rfl, fun _ => h, by intro l e; cases e⟩
 ·refine ⟨some l, by rw [e, jQ]; rfl, (by intro e; cases e), fun l' e => ?_⟩
  cases e
  refine ⟨hl, fun l' hl' => ?_⟩
  have := hm l' hl'
  rw [jQ, jQ] at this
  exact this
theorem Ks {kept shared : List Int} {si : Int} {P : List Rd -> Prop} {ol ol' : Option (List Rd)} (h0 : ol = none -> ∀ l, ¬ P l) (h1 : ∀ l, ol = some l -> P l /\ ∀ l', P l' -> ¬ (wLaw kept shared si l').key < (wLaw kept shared si l).key) (h2 : ∀ l, ol' = some l -> P l) : gtD (cst kept shared si ol) (cst kept shared si ol') = some (.bl false) := by
 cases ol with
 | none =>
  cases ol' with
  | none => exact gt3 (by decide) (fun _ => by decide) (fun _ _ => by decide)
  | some l' => exact absurd (h2 l' rfl) (h0 rfl l')
 | some l =>
  cases ol' with
  | none =>
   have hs : (wLaw kept shared si l).s <= 0 := by
    show (0 : Int) - (((l.map (·.n)).filter (fun n => decide (n ∈ shared))).length : Int) <= 0
    omega
   exact gt3 (by omega) (fun e => by omega) (fun e => by omega)
  | some l' =>
   have h := (h1 l rfl).2 l' (h2 l' rfl)
   have hk : ∀ w : Wt, w.key = w.s :: w.u :: w.c :: w.m :: w.ns := fun _ => rfl
   rw [hk, hk, List.cons_lt_cons_iff, List.cons_lt_cons_iff, List.cons_lt_cons_iff] at h
   exact gt3 (fun z => h (.inl z)) (fun e z => h (.inr ⟨e.symm, .inl z⟩)) (fun e e' z => h (.inr ⟨e.symm, .inr ⟨e'.symm, .inl z⟩⟩))
section
variable (T : Hp -> Prop) (hT : HTb T)
theorem yk {rds : List Rd} (nn : (rds.map (·.n)).Nodup) (kept shared : List Int) (si : Int) (ol : Option (List Rd)) (hl : ∀ l, ol = some l -> l.length <= 9 /\ ∀ x ∈ l, x ∈ rds) : kT T hT [.lst (rds.map rdD), optD (rowO ol), .lst (isD kept), .lst (isD shared), .int si] = some (cst kept shared si ol) := by
 refine zF ?_
 unfold yp
 cases ol with
 | none =>
  exact QA (Eq.trans (if_t (q_ok (qa rfl) c_ok rfl)) (zU (jE (qe c_ok (qe c_ok (qe c_ok qO))) (by simp))))
 | some l =>
  obtain ⟨l9, hm⟩ := hl l rfl
  obtain ⟨ns, hns⟩ : ∃ ns, ns = l.map (·.n) := ⟨_, rfl⟩
  have lns : ns.length <= 9 := by rw [hns, List.length_map]; exact l9
  let S (c r lo : Option D) : SS (W0 T hT) := ⟨[some (.lst (rds.map rdD)), some (.lst (isD ns)), some (.lst (isD kept)), some (.lst (isD shared)), some (.int si), c, r, lo], ()⟩
  have e0 : (qY 8 [.lst (rds.map rdD), optD (rowO (some l)), .lst (isD kept), .lst (isD shared), .int si] () : SS (W0 T hT)) = S none none none := by
   show (qY 8 [.lst (rds.map rdD), .lst (isD (l.map (·.n))), .lst (isD kept), .lst (isD shared), .int si] () : SS (W0 T hT)) = _
   rw [<- hns]
   rfl
  rw [e0]
  refine Eq.trans (qo (g' := S none none none) (Eq.trans (if_f (q_ok (qa rfl) c_ok rfl)) rfl)) ?_
  refine Eq.trans (qo (g' := S (some (.int si)) none none) (qy (qa rfl))) ?_
  obtain ⟨r', ef⟩ : ∃ r', sFor (iSeq (eVar 0)) (qx 6) (sIf (qAnd (qTru (eVar 1)) (qCmp eqD (M.e2 ixD (eVar 6) (eC (.int 0))) (M.e2 ixD (eVar 1) (M.e1 negI (eC (.int 1)))))) (sSet 5 (M.e2 ixD (eVar 6) (eC (.int 4)))) sNil) (S (some (.int si)) none none) = .nx (S (some (.int (kc si l))) r' none) := by
   cases hlast : l.getLast? with
   | none =>
    have h0 : l = [] := List.getLast?_eq_none_iff.mp hlast
    have hn0 : ns = [] := by rw [hns, h0]; rfl
    have ec : kc si l = si := by unfold kc; rw [hlast]
    rw [ec]
    obtain ⟨g', e, r, rfl⟩ := jv (T := T) (hT := hT) (B := B0) (hB := hB0) (emb := rdD) (p := qx 6) (h := sIf (qAnd (qTru (eVar 1)) (qCmp eqD (M.e2 ixD (eVar 6) (eC (.int 0))) (M.e2 ixD (eVar 1) (M.e1 negI (eC (.int 1)))))) (sSet 5 (M.e2 ixD (eVar 6) (eC (.int 4)))) sNil) (xs := rds) (g := S (some (.int si)) none none) (I := fun _ g => ∃ r, g = S (some (.int si)) r none) ⟨none, rfl⟩ (by
     rintro dn d g _ ⟨r, rfl⟩
     exact ⟨S (some (.int si)) (some (rdD d)) none, S (some (.int si)) (some (rdD d)) none, rfl, Eq.trans (if_f (JU (jy (x := .lst (isD ns)) (qa rfl) (by rw [hn0]; rfl)))) rfl, _, rfl⟩)
    exact ⟨r, jJ (jn (qa rfl) rfl) e⟩
   | some x =>
    obtain ⟨p, rfl⟩ : ∃ p, l = p ++ [x] := List.getLast?_eq_some_iff.mp hlast
    have hx : x ∈ rds := hm x (by simp)
    have ec : kc si (p ++ [x]) = x.c := by unfold kc; rw [hlast]
    rw [ec]
    have eis : isD ns = isD (p.map (·.n)) ++ [.int x.n] := by rw [hns, List.map_append]; exact List.map_append
    have eix : ixD (.lst (isD ns)) (.int (-1)) = some (.int x.n) := by rw [eis]; exact Zu
    have etr : truD (.lst (isD ns)) = some true := by rw [eis]; show some (!(isD (p.map (·.n)) ++ [D.int x.n]).isEmpty) = _; simp
    obtain ⟨g', e, r, rfl⟩ := jv (T := T) (hT := hT) (B := B0) (hB := hB0) (emb := rdD) (p := qx 6) (h := sIf (qAnd (qTru (eVar 1)) (qCmp eqD (M.e2 ixD (eVar 6) (eC (.int 0))) (M.e2 ixD (eVar 1) (M.e1 negI (eC (.int 1)))))) (sSet 5 (M.e2 ixD (eVar 6) (eC (.int 4)))) sNil) (xs := rds) (g := S (some (.int si)) none none) (I := fun dn g => ∃ r, g = S (some (.int (if x.n ∈ dn.map (·.n) then x.c else si))) r none) ⟨none, by rw [if_neg (by simp)]⟩ (by
     rintro dn d g ⟨post, hpost⟩ ⟨r, rfl⟩
     have hd : d ∈ rds := by rw [hpost]; simp
     by_cases hdn : d.n = x.n
     ·have hdx : d = x := by
       obtain ⟨i, hi⟩ := List.mem_iff_getElem?.mp hd
       obtain ⟨j, hj⟩ := List.mem_iff_getElem?.mp hx
       have hil := (List.getElem?_eq_some_iff.mp hi).1
       have e1 : (rds.map (·.n))[i]? = some d.n := by rw [List.getElem?_map, hi]; rfl
       have e2 : (rds.map (·.n))[j]? = some x.n := by rw [List.getElem?_map, hj]; rfl
       have := (List.getElem?_inj (by rw [List.length_map]; exact hil) nn).mp (e1.trans (by rw [hdn]; exact e2.symm))
       subst this
       rw [hi] at hj
       exact Option.some.inj hj
      refine ⟨S (some (.int (if x.n ∈ dn.map (·.n) then x.c else si))) (some (rdD d)) none, S (some (.int d.c)) (some (rdD d)) none, rfl, Eq.trans (if_t (Qn (jy (qa rfl) etr) (q_ok (qh (qa rfl) c_ok (xf d)) (qh (qa rfl) (zO c_ok neg1) eix) (by rw [jN, hdn, beq_self_eq_true])))) (qy (qh (qa rfl) c_ok (xb d))), some (rdD d), ?_⟩
      rw [if_pos (by rw [List.map_append]; exact List.mem_append.mpr (.inr (by simp [hdn]))), hdx]
     ·have hb : (d.n == x.n) = false := by simp [hdn]
      refine ⟨S (some (.int (if x.n ∈ dn.map (·.n) then x.c else si))) (some (rdD d)) none, S (some (.int (if x.n ∈ dn.map (·.n) then x.c else si))) (some (rdD d)) none, rfl, Eq.trans (if_f (Qn (jy (qa rfl) etr) (q_ok (qh (qa rfl) c_ok (xf d)) (qh (qa rfl) (zO c_ok neg1) eix) (by rw [jN, hb])))) rfl, some (rdD d), ?_⟩
      have hx' : ¬ x.n = d.n := fun z => hdn z.symm
      have : (x.n ∈ (dn ++ [d]).map (·.n)) ↔ x.n ∈ dn.map (·.n) := by rw [List.map_append, List.mem_append]; simp [hx']
      simp only [this])
    refine ⟨r, ?_⟩
    rw [if_pos (List.mem_map.mpr ⟨x, hx, rfl⟩)] at e
    exact jJ (jn (qa rfl) rfl) e
  refine Eq.trans (qo ef) ?_
  have c2 := zJ (T := T) (hT := hT) (B := B0) (hB := hB0) (emb := D.int) (p := qx 0) (t := qCmp inO (eVar 0) (eVar 1)) (f := eVar 0) (n := 1) (ix := [3]) (fi := iSeq (eVar 1)) (xs := ns) (g := S (some (.int (kc si l))) r' none)
   (I := fun g => ∃ z, g = ⟨[z, some (.lst (isD shared))], ()⟩) (sel := fun n => decide (n ∈ shared)) (out := D.int) (jn (qa rfl) rfl) ⟨none, rfl⟩ (by
    rintro d hd g ⟨z, rfl⟩
    exact ⟨⟨[some (.int d), some (.lst (isD shared))], ()⟩, rfl, ⟨_, rfl⟩, q_ok (qa rfl) (qa rfl) yd, fun _ => qa rfl⟩) (by unfold big; omega)
  refine Eq.trans (qo (g' := S (some (.int (kc si l))) r' (some (.int (ns.filter fun n => decide (n ∈ shared)).length))) (qy (zO c2 (by rw [kr, List.length_map])))) ?_
  have c3 := zJ (T := T) (hT := hT) (B := B0) (hB := hB0) (emb := D.int) (p := qx 0) (t := qCmp ninO (eVar 0) (eVar 1)) (f := eVar 0) (n := 1) (ix := [2]) (fi := iSeq (eVar 1)) (xs := ns) (g := S (some (.int (kc si l))) r' (some (.int (ns.filter fun n => decide (n ∈ shared)).length)))
   (I := fun g => ∃ z, g = ⟨[z, some (.lst (isD kept))], ()⟩) (sel := fun n => decide (n ∉ kept)) (out := D.int) (jn (qa rfl) rfl) ⟨none, rfl⟩ (by
    rintro d hd g ⟨z, rfl⟩
    exact ⟨⟨[some (.int d), some (.lst (isD kept))], ()⟩, rfl, ⟨_, rfl⟩, q_ok (qa rfl) (qa rfl) xF, fun _ => qa rfl⟩) (by unfold big; omega)
  refine Eq.trans (zU (jE (qe (qh c_ok (qa rfl) Qv) (qe (zO c3 (by rw [kr, List.length_map])) (qe (qa rfl) qO))) (by simp))) ?_
  show (Ou.rt (D.tup [.int (0 - (ns.filter fun n => decide (n ∈ shared)).length), .int (ns.filter fun n => decide (n ∉ kept)).length, .int (kc si l)]) () : Ou (W0 T hT)) = _
  rw [hns]
  rfl
end
def outK (o : Str × Int) : Key × D := (.inr o.1, .int o.2)
theorem wf : ∀ out : List (Str × Int), jZ (out.map prI) = some (out.map outK)
 | [] => rfl
 | o :: out => by
  rw [List.map_cons]
  unfold jZ
  rw [wf out]
  rfl
theorem Zh {out : List (Str × Int)} (h : (out.map Prod.fst).Nodup) : ((out.map outK).map (·.1)).Nodup := by
 rw [List.map_map]
 have e : ((fun x : Key × D => x.1) ∘ outK) = (Sum.inr : Str -> Key) ∘ Prod.fst := rfl
 rw [e, <- List.map_map]
 exact (List.pairwise_map.mpr ((List.nodup_iff_pairwise_ne.mp h).imp fun hne z => hne (Sum.inr.inj z)))
theorem JO {out : List (Str × Int)} (h : (out.map Prod.fst).Nodup) : ZM (.lst (out.map prI)) = some (.dic (out.map outK)) := by
 show (jZ (out.map prI)).bind (fun kvs => if (kvs.map (·.1)).Nodup then some (D.dic kvs) else none) = _
 rw [wf]
 exact if_pos (Zh h)
theorem yJ : ∀ {out : List (Str × Int)} (_ : (out.map Prod.fst).Nodup) {x : Str} {m : Int}, (x, m) ∈ out -> qW (out.map outK) (Sum.inr x) = some (.int m)
 | o :: out, h, x, m, hm => by
  unfold qW
  rw [List.map_cons, List.find?_cons]
  rcases List.mem_cons.mp hm with e | hm
  ·subst e
   rw [show decide ((outK (x, m)).1 = Sum.inr x) = true from decide_eq_true rfl]
   rfl
  ·have hne : o.1 ≠ x := fun z => by
    rw [List.map_cons, List.nodup_cons] at h
    exact h.1 (by rw [z]; exact List.mem_map.mpr ⟨_, hm, rfl⟩)
   rw [show decide ((outK o).1 = Sum.inr x) = false from decide_eq_false fun z => hne (Sum.inr.inj z)]
   exact yJ (by rw [List.map_cons, List.nodup_cons] at h; exact h.2) hm
theorem look_some {out : List (Str × Int)} {x : Str} : (qW (out.map outK) (Sum.inr x)).isSome = true ↔ x ∈ out.map Prod.fst := by
 induction out with
 | nil => simp [qW]
 | cons o out ih =>
  unfold qW at *
  rw [List.map_cons, List.find?_cons]
  by_cases h : o.1 = x
  ·rw [show decide ((outK o).1 = Sum.inr x) = true from decide_eq_true (by show Sum.inr o.1 = Sum.inr x; rw [h])]
   simp [h]
  ·rw [show decide ((outK o).1 = Sum.inr x) = false from decide_eq_false fun z => h (Sum.inr.inj z)]
   have h' : ¬ x = o.1 := fun z => h z.symm
   simp only [List.map_cons, List.mem_cons, h', false_or]
   exact ih
theorem Jy {sp : Str -> Int} {rds : List Rd} {st go : Str} {si si' : Int} (h : si <= si') (hn : st ≠ go) {l : List Rd} (a : AllW sp rds st go si' l) : AllW sp rds st go si l := by
 rcases a with ⟨_, e⟩ | ⟨d, t, e, f, h1, h2⟩
 ·exact absurd e hn
 ·exact .inr ⟨d, t, e, f, h1, by omega⟩
section
variable (T : Hp -> Prop) (hT : HTb T)
theorem Jx (ins : List Int) : XE T hT [.scr (isD ins)] = some (.bl true) := by
 obtain ⟨ns, kvs, rds, st, go, si, et, Mk, lr, hst, _⟩ := Kx T hT ins 0 9 (by decide) (by decide) (by decide) (by decide)
 have h9 : rds.length <= 9 := by omega
 obtain ⟨kept, shared, em, lk, ls⟩ := Ju T hT ins 22 (by decide) (by decide) (rds := rds) h9
 obtain ⟨vs, ed, hd⟩ := kg T hT ins 23 (by decide) (by decide) (m := 12) 12 rfl (by decide)
 have x10 := dri hd (i := 10) (by decide) (by decide)
 obtain ⟨dx, hdx⟩ : ∃ dx, dx = gv vs 10 % 9 := ⟨_, rfl⟩
 have dx0 : 0 <= dx := by rw [hdx]; exact (zT (by decide)).1
 let S (d fe to le wh mo la pl mm : Option D) : SS (W0 T hT) := ⟨[some (.scr (isD ins)), d, fe, to, le, wh, mo, some (.lst (ns.map .str)), some (.dic kvs), some (.lst (rds.map rdD)), some (.str st), some (.str go), some (.int si), some (.lst (isD kept)), some (.lst (isD shared)), la, pl, mm], ()⟩
 refine zF ?_
 unfold Vw
 refine Eq.trans (qo (y8 (zb (qe (qa rfl) (qe c_ok (qe c_ok qO))) rfl et) rfl)) ?_
 refine Eq.trans (qo (g' := S none none none none none none none none none) (y8 (zb (qe (qa rfl) (qe c_ok (qe (qa rfl) qO))) rfl em) rfl)) ?_
 refine Eq.trans (qo (g' := S (some (.lst (isD vs))) none none none none none none none none) (qy (zb (qe (qa rfl) (qe c_ok (qe c_ok qO))) rfl ed))) ?_
 have lrd : lenD (.lst (rds.map rdD)) = some (.int rds.length) := by rw [kr, List.length_map]
 have c1 := zJ (T := T) (hT := hT) (B := B0) (hB := hB0) (emb := fun k : Nat => D.int (0 + (k : Int))) (p := qx 0) (t := qCmp gtI (M.e2 modI (M.e2 ixD (eVar 1) (eVar 0)) (eC (.int 4))) (eC (.int 0))) (f := M.e2 ixD (eVar 2) (eVar 0)) (n := 1) (ix := [1, 9]) (fi := qS (qd (M.e1 lenD (eVar 9)) aNil)) (xs := List.range rds.length) (g := S (some (.lst (isD vs))) none none none none none none none none)
  (I := fun g => ∃ z, g = ⟨[z, some (.lst (isD vs)), some (.lst (rds.map rdD))], ()⟩) (sel := fun k => decide (0 < gv vs (0 + (k : Int)) % 4)) (out := fun k => rdD (rds.getD k ⟨0, "", "", 0, 0⟩)) (vv (qe (zO (qa rfl) lrd) qO) (by omega)) ⟨none, rfl⟩ (by
   rintro k hk g ⟨z, rfl⟩
   have hk' := List.mem_range.mp hk
   refine ⟨⟨[some (.int (0 + (k : Int))), some (.lst (isD vs)), some (.lst (rds.map rdD))], ()⟩, rfl, ⟨_, rfl⟩, q_ok (qh (qh (qa rfl) (qa rfl) (dri hd (by omega) (by omega))) c_ok (zp (by decide))) c_ok gt_i, fun _ => qh (qa rfl) (qa rfl) ?_⟩
   rw [Zt (by omega), show (0 + (k : Int)).toNat = k by omega, List.getElem?_map, List.getElem?_eq_getElem hk']
   simp [hk']) (by rw [List.length_range]; unfold big; omega)
 obtain ⟨few, hfew⟩ : ∃ few, few = ((List.range rds.length).filter fun (k : Nat) => decide (0 < gv vs (0 + (k : Int)) % 4)).map fun k => rds.getD k ⟨0, "", "", 0, 0⟩ := ⟨_, rfl⟩
 have ec1 : ((List.range rds.length).filter fun (k : Nat) => decide (0 < gv vs (0 + (k : Int)) % 4)).map (fun k => rdD (rds.getD k ⟨0, "", "", 0, 0⟩)) = few.map rdD := by rw [hfew, List.map_map]; rfl
 rw [ec1] at c1
 have hsub : few.Sublist rds := by
  have := (List.filter_sublist (l := List.range rds.length) (p := fun (k : Nat) => decide (0 < gv vs (0 + (k : Int)) % 4))).map (fun k => rds.getD k ⟨0, "", "", 0, 0⟩)
  rw [range_getD, <- hfew] at this
  exact this
 clear ec1 hfew
 have fsub : ∀ r ∈ few, r ∈ rds := fun r hr => hsub.subset hr
 have flen : few.length <= 9 := Nat.le_trans hsub.length_le h9
 have fnn : (few.map (·.n)).Nodup := (hsub.map (·.n)).nodup Mk.nn
 have fwk := Mk.wk.sub fsub
 refine Eq.trans (qo (g' := S (some (.lst (isD vs))) (some (.lst (few.map rdD))) none none none none none none none) (qy c1)) ?_
 obtain ⟨rows, _, mem, _, l9⟩ := xm T hT Mk.wk h9 st go si
 obtain ⟨frows, _, fmem, _, fl9⟩ := xm T hT fwk flen st go si
 obtain ⟨lrows, _, lmem, _, ll9⟩ := xm T hT Mk.wk h9 st go (si + dx)
 obtain ⟨o1, lc1, bs1⟩ := K6 T hT Mk.wk Mk.sk.iv h9 st go si kept shared (by omega) (by omega)
 obtain ⟨o2, lc2, bs2⟩ := K6 T hT fwk Mk.sk.iv flen st go si kept shared (by omega) (by omega)
 obtain ⟨o3, lc3, bs3⟩ := K6 T hT Mk.wk Mk.sk.iv h9 st go (si + dx) kept shared (by omega) (by omega)
 obtain ⟨l1, rfl, n1, m1⟩ := ym bs1
 obtain ⟨l2, rfl, n2, m2⟩ := ym bs2
 obtain ⟨l3, rfl, n3, m3⟩ := ym bs3
 have k1 := yk T hT Mk.nn kept shared si l1 fun l e => ⟨l9 l ((mem l).mpr (m1 l e).1), xY (m1 l e).1⟩
 have k2 := yk T hT fnn kept shared si l2 fun l e => ⟨fl9 l ((fmem l).mpr (m2 l e).1), xY (m2 l e).1⟩
 have k3 := yk T hT Mk.nn kept shared si l3 fun l e => ⟨ll9 l ((lmem l).mpr (m3 l e).1), xY (m3 l e).1⟩
 have g2 := Ks (ol' := l2) n1 m1 fun l e => JV fsub (m2 l e).1
 refine Eq.trans (qo (g' := S (some (.lst (isD vs))) (some (.lst (few.map rdD))) (some (optD (rowO l1))) none none none none none none) (qy (zb (qe (qa rfl) (qe (qa rfl) (qe (qa rfl) (qe (qa rfl) (qe (qa rfl) (qe (qa rfl) (qe (qa rfl) qO))))))) rfl lc1))) ?_
 refine Eq.trans (qo (g' := S (some (.lst (isD vs))) (some (.lst (few.map rdD))) (some (optD (rowO l1))) (some (optD (rowO l2))) none none none none none) (qy (zb (qe (qa rfl) (qe (qa rfl) (qe (qa rfl) (qe (qa rfl) (qe (qa rfl) (qe (qa rfl) (qe (qa rfl) qO))))))) rfl lc2))) ?_
 refine Eq.trans (qo (g' := S (some (.lst (isD vs))) (some (.lst (few.map rdD))) (some (optD (rowO l1))) (some (optD (rowO l2))) (some (cst kept shared si l1)) none none none none) (qy (zb (qe (qa rfl) (qe (qa rfl) (qe (qa rfl) (qe (qa rfl) (qe (qa rfl) qO))))) rfl k1))) ?_
 refine Eq.trans (qo (g' := S (some (.lst (isD vs))) (some (.lst (few.map rdD))) (some (optD (rowO l1))) (some (optD (rowO l2))) (some (cst kept shared si l1)) none none none none) (Eq.trans (if_f (q_ok (qa rfl) (zb (qe (qa rfl) (qe (qa rfl) (qe (qa rfl) (qe (qa rfl) (qe (qa rfl) qO))))) rfl k2) g2)) rfl)) ?_
 have esi : ∀ la, (M.e2 addD (eVar 12) (M.e2 modI (M.e2 ixD (eVar 1) (eC (.int 10))) (eC (.int 9)))) (S (some (.lst (isD vs))) (some (.lst (few.map rdD))) (some (optD (rowO l1))) (some (optD (rowO l2))) (some (cst kept shared si l1)) la none none none) = .ok (.int (si + dx)) () := fun la => by
  rw [hdx]
  exact qh (qa rfl) (qh (qh (qa rfl) c_ok x10) c_ok (zp (by decide))) zP
 obtain ⟨la, hl1, hl2⟩ : ∃ la : Option D, (st = go -> la = none) /\ (st ≠ go -> la = some (optD (rowO l3))) := by
  by_cases h : st = go
  ·exact ⟨none, fun _ => rfl, fun z => absurd h z⟩
  ·exact ⟨_, fun z => absurd z h, fun _ => rfl⟩
 refine Eq.trans (qo (g' := S (some (.lst (isD vs))) (some (.lst (few.map rdD))) (some (optD (rowO l1))) (some (optD (rowO l2))) (some (cst kept shared si l1)) none la none none) ?late) ?_
 case late =>
  by_cases hsg : st = go
  ·rw [hl1 hsg]
   exact Eq.trans (if_f (q_ok (qa rfl) (qa rfl) (by show some (D.bl (!(st == go))) = _; rw [hsg, beq_self_eq_true]; rfl))) rfl
  ·rw [hl2 hsg]
   have hb : (st == go) = false := by simp [hsg]
   have g3 := Ks (ol' := l3) n1 m1 fun l e => Jy (by omega) hsg (m3 l e).1
   refine Eq.trans (if_t (q_ok (qa rfl) (qa rfl) (by show some (D.bl (!(st == go))) = _; rw [hb]; rfl))) ?_
   refine Eq.trans (qo (g' := S (some (.lst (isD vs))) (some (.lst (few.map rdD))) (some (optD (rowO l1))) (some (optD (rowO l2))) (some (cst kept shared si l1)) none (some (optD (rowO l3))) none none) (qy (zb (qe (qa rfl) (qe (qa rfl) (qe (qa rfl) (qe (qa rfl) (qe (esi none) (qe (qa rfl) (qe (qa rfl) qO))))))) rfl lc3))) ?_
   exact Eq.trans (if_f (q_ok (qa rfl) (zb (qe (qa rfl) (qe (qa rfl) (qe (qa rfl) (qe (qa rfl) (qe (qa rfl) qO))))) rfl k3) g3)) rfl
 have hds : ∀ d ∈ rds, d.b ∈ ns := fun d hd => (Mk.ra d hd).2.1
 obtain ⟨out, pp⟩ := xC (si := si) Mk.wk.toGood hst hds Mk.n5
 obtain ⟨out2, pp2⟩ := xC (si := si) fwk.toGood hst (fun d hd => hds d (fsub d hd)) Mk.n5
 obtain ⟨out3, pp3⟩ := xC (si := si + dx) Mk.wk.toGood hst hds Mk.n5
 have so1 : F_so [.lst (rds.map rdD), .dic kvs, .str st, .int si] = some (.lst (out.map prI)) := Kz ⟨rds, kvs, ns, st, si, rfl, Mk.wk, Mk.sk.iv, by omega, out, pp, rfl⟩
 have so2 : F_so [.lst (few.map rdD), .dic kvs, .str st, .int si] = some (.lst (out2.map prI)) := Kz ⟨few, kvs, ns, st, si, rfl, fwk, Mk.sk.iv, by omega, out2, pp2, rfl⟩
 have so3 : F_so [.lst (rds.map rdD), .dic kvs, .str st, .int (si + dx)] = some (.lst (out3.map prI)) := Kz ⟨rds, kvs, ns, st, si + dx, rfl, Mk.wk, Mk.sk.iv, by omega, out3, pp3, rfl⟩
 have low : ∀ {x : Str} {m : Int}, (∃ m', Least (spF kvs) rds st si x m' /\ m' <= m) -> ∃ m', ixD (.dic (out.map outK)) (.str x) = some (.int m') /\ gtI (.int m') (.int m) = some (.bl false) := fun {x m} ⟨m', L, le⟩ => ⟨m', by rw [yN]; exact yJ pp.nd ((pp.iff x m').mpr L), by rw [gt_i, decide_eq_false (by omega)]⟩
 refine Eq.trans (qo (g' := S (some (.lst (isD vs))) (some (.lst (few.map rdD))) (some (optD (rowO l1))) (some (optD (rowO l2))) (some (cst kept shared si l1)) (some (.dic (out.map outK))) la none none) (qy (zO (zb (qe (qa rfl) (qe (qa rfl) (qe (qa rfl) (qe (qa rfl) qO)))) rfl so1) (JO pp.nd)))) ?_
 obtain ⟨g2', ef2, pl2, mm2, rfl⟩ := jv (T := T) (hT := hT) (B := B0) (hB := hB0) (emb := prI) (p := pTup 2 (zd (qx 16) (zd (qx 17) pNil))) (h := sIf (qCmp gtI (M.e2 ixD (eVar 6) (eVar 16)) (eVar 17)) (sRet (eC (.bl false))) sNil) (xs := out2) (g := S (some (.lst (isD vs))) (some (.lst (few.map rdD))) (some (optD (rowO l1))) (some (optD (rowO l2))) (some (cst kept shared si l1)) (some (.dic (out.map outK))) la none none)
  (I := fun _ g => ∃ pl mm, g = S (some (.lst (isD vs))) (some (.lst (few.map rdD))) (some (optD (rowO l1))) (some (optD (rowO l2))) (some (cst kept shared si l1)) (some (.dic (out.map outK))) la pl mm) ⟨none, none, rfl⟩ (by
   rintro dn o g ⟨post, hpost⟩ ⟨pl, mm, rfl⟩
   have ho : o ∈ out2 := by rw [hpost]; simp
   obtain ⟨m', e1', e2'⟩ := low (wq Mk.wk.toGood fsub (Int.le_refl si) ((pp2.iff o.1 o.2).mp ho))
   exact ⟨S (some (.lst (isD vs))) (some (.lst (few.map rdD))) (some (optD (rowO l1))) (some (optD (rowO l2))) (some (cst kept shared si l1)) (some (.dic (out.map outK))) la (some (.str o.1)) (some (.int o.2)), S (some (.lst (isD vs))) (some (.lst (few.map rdD))) (some (optD (rowO l1))) (some (optD (rowO l2))) (some (cst kept shared si l1)) (some (.dic (out.map outK))) la (some (.str o.1)) (some (.int o.2)), rfl, Eq.trans (if_f (q_ok (qh (qa rfl) (qa rfl) e1') (qa rfl) e2')) rfl, _, _, rfl⟩)
 refine Eq.trans (qo (jJ (jn (zb (qe (qa rfl) (qe (qa rfl) (qe (qa rfl) (qe (qa rfl) qO)))) rfl so2) rfl) ef2)) ?_
 have esi2 : (M.e2 addD (eVar 12) (M.e2 modI (M.e2 ixD (eVar 1) (eC (.int 10))) (eC (.int 9)))) (S (some (.lst (isD vs))) (some (.lst (few.map rdD))) (some (optD (rowO l1))) (some (optD (rowO l2))) (some (cst kept shared si l1)) (some (.dic (out.map outK))) la pl2 mm2) = .ok (.int (si + dx)) () := by
  rw [hdx]
  exact qh (qa rfl) (qh (qh (qa rfl) c_ok x10) c_ok (zp (by decide))) zP
 obtain ⟨g3', ef3, pl3, mm3, rfl⟩ := jv (T := T) (hT := hT) (B := B0) (hB := hB0) (emb := prI) (p := pTup 2 (zd (qx 16) (zd (qx 17) pNil))) (h := sIf (qCmp gtI (M.e2 ixD (eVar 6) (eVar 16)) (eVar 17)) (sRet (eC (.bl false))) sNil) (xs := out3) (g := S (some (.lst (isD vs))) (some (.lst (few.map rdD))) (some (optD (rowO l1))) (some (optD (rowO l2))) (some (cst kept shared si l1)) (some (.dic (out.map outK))) la pl2 mm2)
  (I := fun _ g => ∃ pl mm, g = S (some (.lst (isD vs))) (some (.lst (few.map rdD))) (some (optD (rowO l1))) (some (optD (rowO l2))) (some (cst kept shared si l1)) (some (.dic (out.map outK))) la pl mm) ⟨_, _, rfl⟩ (by
   rintro dn o g ⟨post, hpost⟩ ⟨pl, mm, rfl⟩
   have ho : o ∈ out3 := by rw [hpost]; simp
   obtain ⟨m', e1', e2'⟩ := low (wq Mk.wk.toGood (fun _ h => h) (show si <= si + dx by omega) ((pp3.iff o.1 o.2).mp ho))
   exact ⟨S (some (.lst (isD vs))) (some (.lst (few.map rdD))) (some (optD (rowO l1))) (some (optD (rowO l2))) (some (cst kept shared si l1)) (some (.dic (out.map outK))) la (some (.str o.1)) (some (.int o.2)), S (some (.lst (isD vs))) (some (.lst (few.map rdD))) (some (optD (rowO l1))) (some (optD (rowO l2))) (some (cst kept shared si l1)) (some (.dic (out.map outK))) la (some (.str o.1)) (some (.int o.2)), rfl, Eq.trans (if_f (q_ok (qh (qa rfl) (qa rfl) e1') (qa rfl) e2')) rfl, _, _, rfl⟩)
 refine Eq.trans (qo (jJ (jn (zb (qe (qa rfl) (qe (qa rfl) (qe (qa rfl) (qe esi2 qO)))) rfl so3) rfl) ef3)) ?_
 have ein : inO (.str go) (.dic (out.map outK)) = some (.bl (qW (out.map outK) (Sum.inr go)).isSome) := rfl
 have enn : K3 (optD (rowO l1)) .non = some (.bl l1.isSome) := by cases l1 <;> rfl
 have eqb : (qW (out.map outK) (Sum.inr go)).isSome = l1.isSome := by
  cases l1 with
  | none =>
   cases hz : (qW (out.map outK) (Sum.inr go)).isSome with
   | false => rfl
   | true =>
    obtain ⟨l, hl⟩ := Zl (pp.key.mp (look_some.mp hz))
    exact absurd hl (n1 rfl l)
  | some l => exact look_some.mpr (pp.key.mpr (Qp Mk.wk.toGood (m1 l rfl).1))
 exact zU (qh (qh (qa rfl) (qa rfl) ein) (qh (qa rfl) c_ok enn) (by rw [eqb]; exact X_ _))
end
theorem all_mk {l : PySem.W.OpenLaw} {w : World} {K : PySem.W.Frag} {h : Heap} {mg : Str -> Option Value} {fa qj qZ qk qr qi qp qD qw qF qJ qI q8 qK q9 zW P1 P2 : Addr} (hne : P1 ≠ P2) (X : K.In h) (G : h.Ns mainGlobals mg) (hfa : mg "law" = some (.ref fa))
  {od0 an0 od1 an1 od2 an2 od3 an3 od4 an4 od5 an5 od6 an6 od7 an7 od8 an8 od9 an9 od10 an10 od11 an11 od12 an12 od13 an13 od14 an14 : Option Addr} {sl0 sl1 sl2 sl3 sl4 sl5 sl6 sl7 sl8 sl9 sl10 sl11 sl12 sl13 sl14 : Array (Option Value)} {oc0 kV0 dc0 pm0 ct0 cd0 oc1 kV1 dc1 pm1 ct1 cd1 oc2 kV2 dc2 pm2 ct2 cd2 oc3 kV3 dc3 pm3 ct3 oc4 kV4 dc4 pm4 ct4 cd4 oc5 kV5 dc5 pm5 ct5 cd5 oc6 kV6 dc6 pm6 ct6 oc7 kV7 dc7 pm7 ct7 cd7 oc8 kV8 dc8 pm8 ct8 cd8 oc9 kV9 dc9 pm9 ct9 cd9 oc10 kV10 dc10 pm10 ct10 cd10 oc11 kV11 dc11 pm11 ct11 cd11 oc12 kV12 dc12 pm12 ct12 cd12 oc13 kV13 dc13 pm13 ct13 cd13 oc14 kV14 dc14 pm14 ct14 cd14 : Value} {cc3 cc6 : Addr} {t_LEAVES t_COMES t_GOAL t_START t_NUMBERS t_NUMBER : Tok}
  (a0 : PySem.W.nsIn K mainGlobals "spare_between" = some (some (.ref qj))) (l0 : K.lookup qj = some ⟨oc0, od0, .func (PySem.W.fnOf "spare_between" "spare_between" (zh zn) (qT zn) (ql zn) .none kV0 dc0 pm0 an0 cd0 ct0), sl0⟩) (c0 : PySem.W.codeIn K cd0 "spare_between" = true) (k0 : PySem.W.keepIn K (.ref qj) = true)
  (a1 : PySem.W.nsIn K mainGlobals "hangs" = some (some (.ref qZ))) (l1 : K.lookup qZ = some ⟨oc1, od1, .func (PySem.W.fnOf "hangs" "hangs" (zh kC) (qT kC) (ql kC) .none kV1 dc1 pm1 an1 cd1 ct1), sl1⟩) (c1 : PySem.W.codeIn K cd1 "hangs" = true) (k1 : PySem.W.keepIn K (.ref qZ) = true)
  (a2 : PySem.W.nsIn K mainGlobals "least_change" = some (some (.ref qk))) (l2 : K.lookup qk = some ⟨oc2, od2, .func (PySem.W.fnOf "least_change" "least_change" (zh zf) (qT zf) (ql zf) .none kV2 dc2 pm2 an2 cd2 ct2), sl2⟩) (c2 : PySem.W.codeIn K cd2 "least_change" = true) (k2 : PySem.W.keepIn K (.ref qk) = true)
  (a3 : PySem.W.nsIn K mainGlobals "best_rows" = some (some (.ref qr))) (l3 : K.lookup qr = some ⟨oc3, od3, .func (PySem.W.fnOf "best_rows" "best_rows" (zh zt) (qT zt) (ql zt) .none kV3 dc3 pm3 an3 (.ref cc3) ct3), sl3⟩) (c3 : PySem.W.codeIn K (.ref cc3) "best_rows" = true) (k3 : PySem.W.keepIn K (.ref qr) = true)
  {dct3 : Option Addr} {vsx3 : Array Value} {slx3 : Array (Option Value)} (h3 : K.lookup cc3 = some ⟨.type "code", dct3, .fields vsx3, slx3⟩) (e3 : Ve vsx3 cc3 P1 = true)
  (a4 : PySem.W.nsIn K mainGlobals "worth_of_none" = some (some (.ref qi))) (l4 : K.lookup qi = some ⟨oc4, od4, .func (PySem.W.fnOf "worth_of_none" "worth_of_none" (zh zm) (qT zm) (ql zm) .none kV4 dc4 pm4 an4 cd4 ct4), sl4⟩) (c4 : PySem.W.codeIn K cd4 "worth_of_none" = true) (k4 : PySem.W.keepIn K (.ref qi) = true)
  (a5 : PySem.W.nsIn K mainGlobals "worth_with" = some (some (.ref qp))) (l5 : K.lookup qp = some ⟨oc5, od5, .func (PySem.W.fnOf "worth_with" "worth_with" (zh zN) (qT zN) (ql zN) .none kV5 dc5 pm5 an5 cd5 ct5), sl5⟩) (c5 : PySem.W.codeIn K cd5 "worth_with" = true) (k5 : PySem.W.keepIn K (.ref qp) = true)
  (a6 : PySem.W.nsIn K mainGlobals "soonest" = some (some (.ref qD))) (l6 : K.lookup qD = some ⟨oc6, od6, .func (PySem.W.fnOf "soonest" "soonest" (zh jo) (qT jo) (ql jo) .none kV6 dc6 pm6 an6 (.ref cc6) ct6), sl6⟩) (c6 : PySem.W.codeIn K (.ref cc6) "soonest" = true) (k6 : PySem.W.keepIn K (.ref qD) = true)
  {dct6 : Option Addr} {vsx6 : Array Value} {slx6 : Array (Option Value)} (h6 : K.lookup cc6 = some ⟨.type "code", dct6, .fields vsx6, slx6⟩) (e6 : Ve vsx6 cc6 P2 = true)
  (a7 : PySem.W.nsIn K mainGlobals "ready_by" = some (some (.ref qw))) (l7 : K.lookup qw = some ⟨oc7, od7, .func (PySem.W.fnOf "ready_by" "ready_by" (zh z_) (qT z_) (ql z_) .none kV7 dc7 pm7 an7 cd7 ct7), sl7⟩) (c7 : PySem.W.codeIn K cd7 "ready_by" = true) (k7 : PySem.W.keepIn K (.ref qw) = true)
  (a8 : PySem.W.nsIn K mainGlobals "_law_draws" = some (some (.ref qF))) (l8 : K.lookup qF = some ⟨oc8, od8, .func (PySem.W.fnOf "_law_draws" "_law_draws" (zh jU) (qT jU) (ql jU) .none kV8 dc8 pm8 an8 cd8 ct8), sl8⟩) (c8 : PySem.W.codeIn K cd8 "_law_draws" = true) (k8 : PySem.W.keepIn K (.ref qF) = true)
  (a9 : PySem.W.nsIn K mainGlobals "_law_names" = some (some (.ref qJ))) (l9 : K.lookup qJ = some ⟨oc9, od9, .func (PySem.W.fnOf "_law_names" "_law_names" (zh jS) (qT jS) (ql jS) .none kV9 dc9 pm9 an9 cd9 ct9), sl9⟩) (c9 : PySem.W.codeIn K cd9 "_law_names" = true) (k9 : PySem.W.keepIn K (.ref qJ) = true)
  (a10 : PySem.W.nsIn K mainGlobals "_law_world" = some (some (.ref qI))) (l10 : K.lookup qI = some ⟨oc10, od10, .func (PySem.W.fnOf "_law_world" "_law_world" (zh jR) (qT jR) (ql jR) .none kV10 dc10 pm10 an10 cd10 ct10), sl10⟩) (c10 : PySem.W.codeIn K cd10 "_law_world" = true) (k10 : PySem.W.keepIn K (.ref qI) = true)
  (a11 : PySem.W.nsIn K mainGlobals "_law_trip" = some (some (.ref q8))) (l11 : K.lookup q8 = some ⟨oc11, od11, .func (PySem.W.fnOf "_law_trip" "_law_trip" (zh kE) (qT kE) (ql kE) .none kV11 dc11 pm11 an11 cd11 ct11), sl11⟩) (c11 : PySem.W.codeIn K cd11 "_law_trip" = true) (k11 : PySem.W.keepIn K (.ref q8) = true)
  (a12 : PySem.W.nsIn K mainGlobals "_law_marks" = some (some (.ref qK))) (l12 : K.lookup qK = some ⟨oc12, od12, .func (PySem.W.fnOf "_law_marks" "_law_marks" (zh jT) (qT jT) (ql jT) .none kV12 dc12 pm12 an12 cd12 ct12), sl12⟩) (c12 : PySem.W.codeIn K cd12 "_law_marks" = true) (k12 : PySem.W.keepIn K (.ref qK) = true)
  (a13 : PySem.W.nsIn K mainGlobals "_law_cost" = some (some (.ref q9))) (l13 : K.lookup q9 = some ⟨oc13, od13, .func (PySem.W.fnOf "_law_cost" "_law_cost" (zh kF) (qT kF) (ql kF) .none kV13 dc13 pm13 an13 cd13 ct13), sl13⟩) (c13 : PySem.W.codeIn K cd13 "_law_cost" = true) (k13 : PySem.W.keepIn K (.ref q9) = true)
  (a14 : PySem.W.nsIn K mainGlobals "law" = some (some (.ref zW))) (l14 : K.lookup zW = some ⟨oc14, od14, .func (PySem.W.fnOf "law" "law" (zh xw) (qT xw) (ql xw) .none kV14 dc14 pm14 an14 cd14 ct14), sl14⟩) (c14 : PySem.W.codeIn K cd14 "law" = true) (k14 : PySem.W.keepIn K (.ref zW) = true)
  (z_min : PySem.W.nsIn K mainGlobals "min" = some none)
  (z_sorted : PySem.W.nsIn K mainGlobals "sorted" = some none)
  (z_len : PySem.W.nsIn K mainGlobals "len" = some none)
  (z_range : PySem.W.nsIn K mainGlobals "range" = some none)
  (z_dict : PySem.W.nsIn K mainGlobals "dict" = some none)
  (q_LEAVES : PySem.W.nsIn K mainGlobals "LEAVES" = some (some (.int 3 t_LEAVES)))
  (q_COMES : PySem.W.nsIn K mainGlobals "COMES" = some (some (.int 4 t_COMES)))
  (q_GOAL : PySem.W.nsIn K mainGlobals "GOAL" = some (some (.int 2 t_GOAL)))
  (q_START : PySem.W.nsIn K mainGlobals "START" = some (some (.int 1 t_START)))
  (q_NUMBERS : PySem.W.nsIn K mainGlobals "NUMBERS" = some (some (.int 4 t_NUMBERS)))
  (q_NUMBER : PySem.W.nsIn K mainGlobals "NUMBER" = some (some (.int 0 t_NUMBER)))
  : ∃ fd : FuncData, (∀ (s : Shared) (v : Value), BindsTo s fd ⟨[v], []⟩ [("_law_script", v)]) /\ ∀ base : Heap, K.In base -> base.Ns mainGlobals mg -> Bm base mg -> FnOk l.prog w K mg base CX0 9 fa fd ["_law_script"] (xt K P1 lpBR lqBR P2 lpS lqS) := by
 have e := hfa.symm.trans (PySem.W.mg_of X G a14)
 have e2 : zW = fa := by cases e; rfl
 subst e2
 have Tx : Txt K mg qj qZ qk qr qi qp qD qw qF qJ qI q8 qK q9 zW := ⟨PySem.W.mg_none_of X G z_min, PySem.W.mg_none_of X G z_sorted, PySem.W.mg_none_of X G z_len, PySem.W.mg_none_of X G z_range, PySem.W.mg_none_of X G z_dict, ⟨t_LEAVES, PySem.W.mg_of X G q_LEAVES⟩, ⟨t_COMES, PySem.W.mg_of X G q_COMES⟩, ⟨t_GOAL, PySem.W.mg_of X G q_GOAL⟩, ⟨t_START, PySem.W.mg_of X G q_START⟩, ⟨t_NUMBERS, PySem.W.mg_of X G q_NUMBERS⟩, ⟨t_NUMBER, PySem.W.mg_of X G q_NUMBER⟩, PySem.W.mg_of X G a0, k0, PySem.W.mg_of X G a1, k1, PySem.W.mg_of X G a2, k2, PySem.W.mg_of X G a3, k3, PySem.W.mg_of X G a4, k4, PySem.W.mg_of X G a5, k5, PySem.W.mg_of X G a6, k6, PySem.W.mg_of X G a7, k7, PySem.W.mg_of X G a8, k8, PySem.W.mg_of X G a9, k9, PySem.W.mg_of X G a10, k10, PySem.W.mg_of X G a11, k11, PySem.W.mg_of X G a12, k12, PySem.W.mg_of X G a13, k13, PySem.W.mg_of X G a14, k14⟩
 have U_spare_between := jr (st := zn) l0 c0 k0
 have Bspare_between := U_spare_between.binds (ps := ["ride", "after", "spans"]) fun _ _ _ _ _ _ us hl => match us, hl with | [_, _, _], _ => rfl
 have U_hangs := jr (st := kC) l1 c1 k1
 have Bhangs := U_hangs.binds (ps := ["ride", "after", "spans"]) fun _ _ _ _ _ _ us hl => match us, hl with | [_, _, _], _ => rfl
 have U_least_change := jr (st := zf) l2 c2 k2
 have Bleast_change := U_least_change.binds (ps := ["rides", "spans", "start", "goal", "since", "kept", "shared"]) fun _ _ _ _ _ _ us hl => match us, hl with | [_, _, _, _, _, _, _], _ => rfl
 have U_best_rows := ZA (st := zt) l3 c3 k3
 have Bbest_rows := U_best_rows.plain.binds (ps := ["rides", "spans", "goal", "kept", "shared"]) fun _ _ _ _ _ _ us hl => match us, hl with | [_, _, _, _, _], _ => rfl
 have U_worth_of_none := jr (st := zm) l4 c4 k4
 have Bworth_of_none := U_worth_of_none.binds (ps := ["comes"]) fun _ _ _ _ _ _ us hl => match us, hl with | [_], _ => rfl
 have U_worth_with := jr (st := zN) l5 c5 k5
 have Bworth_with := U_worth_with.binds (ps := ["number", "worth", "kept", "shared"]) fun _ _ _ _ _ _ us hl => match us, hl with | [_, _, _, _], _ => rfl
 have U_soonest := ZA (st := jo) l6 c6 k6
 have Bsoonest := U_soonest.plain.binds (ps := ["rides", "spans", "start", "since"]) fun _ _ _ _ _ _ us hl => match us, hl with | [_, _, _, _], _ => rfl
 have U_ready_by := jr (st := z_) l7 c7 k7
 have Bready_by := U_ready_by.binds (ps := ["moments", "place", "moment"]) fun _ _ _ _ _ _ us hl => match us, hl with | [_, _, _], _ => rfl
 have U_Ldraws := jr (st := jU) l8 c8 k8
 have BLdraws := U_Ldraws.binds (ps := ["_law_script", "_law_at", "_law_many"]) fun _ _ _ _ _ _ us hl => match us, hl with | [_, _, _], _ => rfl
 have U_Lnames := jr (st := jS) l9 c9 k9
 have BLnames := U_Lnames.binds (ps := ["_law_d", "_law_many"]) fun _ _ _ _ _ _ us hl => match us, hl with | [_, _], _ => rfl
 have U_Lworld := jr (st := jR) l10 c10 k10
 have BLworld := U_Lworld.binds (ps := ["_law_script", "_law_at", "_law_most"]) fun _ _ _ _ _ _ us hl => match us, hl with | [_, _, _], _ => rfl
 have U_Ltrip := jr (st := kE) l11 c11 k11
 have BLtrip := U_Ltrip.binds (ps := ["_law_script", "_law_at", "_law_most"]) fun _ _ _ _ _ _ us hl => match us, hl with | [_, _, _], _ => rfl
 have U_Lmarks := jr (st := jT) l12 c12 k12
 have BLmarks := U_Lmarks.binds (ps := ["_law_script", "_law_at", "_law_rides"]) fun _ _ _ _ _ _ us hl => match us, hl with | [_, _, _], _ => rfl
 have U_Lcost := jr (st := kF) l13 c13 k13
 have BLcost := U_Lcost.binds (ps := ["_law_rides", "_law_numbers", "_law_kept", "_law_shared", "_law_since"]) fun _ _ _ _ _ _ us hl => match us, hl with | [_, _, _, _, _], _ => rfl
 have Wd := jr (st := xw) l14 c14 k14
 refine ⟨PySem.W.fnOf "law" "law" (zh xw) (qT xw) (ql xw) .none kV14 dc14 pm14 an14 cd14 ct14, fun s v => .of_eq rfl, fun base _ _ BM => ?_⟩
 have hTT : ∀ H, (Tw P1 lpBR lqBR P2 lpS lqS) H -> TabOk H P1 lpBR lqBR := fun _ h => h.1
 have hTS : ∀ H H', (Tw P1 lpBR lqBR P2 lpS lqS) H -> SaT P1 H H' -> TabOk H' P1 lpBR lqBR -> (Tw P1 lpBR lqBR P2 lpS lqS) H' := fun _ _ h s t => ⟨t, TabOk.oth hne.symm s h.2⟩
 have hUT : ∀ H, (Tw P1 lpBR lqBR P2 lpS lqS) H -> TabOk H P2 lpS lqS := fun _ h => h.2
 have hUS : ∀ H H', (Tw P1 lpBR lqBR P2 lpS lqS) H -> SaT P2 H H' -> TabOk H' P2 lpS lqS -> (Tw P1 lpBR lqBR P2 lpS lqS) H' := fun _ _ h s t => ⟨TabOk.oth hne s h.1, t⟩
 have GLdraws := Zb (T := (Tw P1 lpBR lqBR P2 lpS lqS)) (hT := hTw) (P := l.prog) (w := w) (base := base) Tx U_Ldraws
 have GLnames := Q_ (T := (Tw P1 lpBR lqBR P2 lpS lqS)) (hT := hTw) (P := l.prog) (w := w) (base := base) Tx U_Lnames
 have GLworld := Q9 (T := (Tw P1 lpBR lqBR P2 lpS lqS)) (hT := hTw) (P := l.prog) (w := w) (base := base) Tx U_Lworld GLdraws BLdraws GLnames BLnames
 have GLtrip := Jn (T := (Tw P1 lpBR lqBR P2 lpS lqS)) (hT := hTw) (P := l.prog) (w := w) (base := base) Tx U_Ltrip GLworld BLworld GLdraws BLdraws
 have GLmarks := Za (T := (Tw P1 lpBR lqBR P2 lpS lqS)) (hT := hTw) (P := l.prog) (w := w) (base := base) Tx U_Lmarks GLdraws BLdraws
 have Gleast_change := Zo (P := l.prog) (w := w) (K := K) (mg := mg) (base := base) (hTw (P1 := P1) (p1 := lpBR) (q1 := lqBR) (P2 := P2) (p2 := lpS) (q2 := lqS)) hTT hTS fun T' hT' fp0 ob0 tb rds j1 j2 j3 j4 => vg (T := T') (hT := hT') (fp0 := fp0) (ob0 := ob0) (tb := tb) (rds := rds) Tx U_least_change (xE (T := T') (hT := hT') (lp := lpBR) Tx U_best_rows (codeHd_mk h3 e3) BM j3 j4 j1 j2 (Jm (T := T') (hT := hT') Tx U_hangs (vf (T := T') (hT := hT') Tx U_spare_between) Bspare_between) Bhangs (jz (T := T') (hT := hT') Tx U_worth_of_none) Bworth_of_none (vS (T := T') (hT := hT') Tx U_worth_with) Bworth_with) Bbest_rows (jz (T := T') (hT := hT') Tx U_worth_of_none) Bworth_of_none
 have GLcost := Jo (T := (Tw P1 lpBR lqBR P2 lpS lqS)) (hT := hTw) (P := l.prog) (w := w) (base := base) Tx U_Lcost
 have Gready_by := wY (P := l.prog) (w := w) (base := base) Tx U_ready_by
 have Gsoonest := Qe (P := l.prog) (w := w) (base := base) (Pt := P2) Tx U_soonest (codeHd_mk h6 e6) BM Gready_by Bready_by
 have z := Xe (T := (Tw P1 lpBR lqBR P2 lpS lqS)) (hT := hTw) (P := l.prog) (w := w) (base := base) Tx Wd GLtrip BLtrip GLmarks BLmarks GLdraws BLdraws Gleast_change Bleast_change GLcost BLcost (Qz hUT hUS Gsoonest) Bsoonest
 exact z.imp fun vs H Q EX q => K7 (Jx (Tw P1 lpBR lqBR P2 lpS lqS) hTw) (fun _ a b => ⟨a, b⟩) q
theorem walk {l : PySem.W.OpenLaw} {q : Program} {loose : List Str} {XP : (Str -> Option Value) -> Heap -> Prop} {d : DefRec} {K : Params -> PySem.W.Frag} {as : List Addr} {e : ∀ P, as = (K P).map (·.1)} {P1 P2 : Addr} (hn : l.most = some 63) (hdf : d.params.defaults = [])
  (hts : ∀ P ∈ [P2, P1], P ∉ as) (hc1 : ∀ w : World, ∃ c, PySem.W.codeHdIn (K w.params) c P1 = true) (hc2 : ∀ w : World, ∃ c, PySem.W.codeHdIn (K w.params) c P2 = true)
  (F : ∀ (w : World) (mg : Str -> Option Value) (fa : Addr) (h : Heap), (K w.params).In h -> h.Ns mainGlobals mg -> mg d.name = some (.ref fa) ->
   ∃ fd : FuncData, (∀ (s : Shared) (u : Value), BindsTo s fd ⟨[u], []⟩ [("_law_script", u)]) /\ ∀ base : Heap, (K w.params).In base -> base.Ns mainGlobals mg -> Bm base mg -> FnOk l.prog w (K w.params) mg base CX0 9 fa fd ["_law_script"] (xt (K w.params) P1 lpBR lqBR P2 lpS lqS)) :
  PySem.W.WalkO q loose XP (PySem.W.kmHook K as e [P2, P1]).says l.row.toRowW d [] (fun f vs => PySem.call f vs) :=
 Z5 (n := 63) (k := 9) (x := "_law_script") (CX := fun _ => CX0) (sp := fun w => (xt (K w.params) P1 lpBR lqBR P2 lpS lqS)) hn (by decide) hdf ⟨rfl, by decide, by decide⟩ hts (fun w P hP => by
  simp only [List.mem_cons, List.not_mem_nil, or_false] at hP
  rcases hP with rfl | rfl
  ·exact hc2 w
  ·exact hc1 w) F (fun w H a ns hl ht hS => ⟨a, ns, rfl, hS, hl, TabOk.nil (ht P1 (by simp)), TabOk.nil (ht P2 (by simp)), fun _ => rfl⟩) fun _ _ _ _ _ z => z
end M
open PySem PySem.W PyProof.Rows
set_option maxHeartbeats 0 in
theorem PySem.Challenge.cw_wayhold_k40_whole_a_ride_more_is_no_wors_holds : PySem.Challenge.rw_wayhold_k40_whole_a_ride_more_is_no_wors.Holds := by
 w_on; o_law; k_head; (case hw => w_witness2)
 k_fill
 refine M.walk (l := PySem.Challenge.rw_wayhold_k40_whole_a_ride_more_is_no_wors) rfl rfl (by decide) ?C ?C2 ?F
 case C =>
  intro w
  refine' ⟨37, X2.codeHd_mk ?h ?e⟩
  (case h => k_is)
  (case e => exact rfl)
 case C2 =>
  intro w
  refine' ⟨58, X2.codeHd_mk ?h ?e⟩
  (case h => k_is)
  (case e => exact rfl)
 case F =>
  intro w mg fa h KX G hmg
  refine' M.all_mk (by decide) KX G hmg ?a0 ?l0 ?c0 ?k0 ?a1 ?l1 ?c1 ?k1 ?a2 ?l2 ?c2 ?k2 ?a3 ?l3 ?c3 ?k3 ?h3 ?e3 ?a4 ?l4 ?c4 ?k4 ?a5 ?l5 ?c5 ?k5 ?a6 ?l6 ?c6 ?k6 ?h6 ?e6 ?a7 ?l7 ?c7 ?k7 ?a8 ?l8 ?c8 ?k8 ?a9 ?l9 ?c9 ?k9 ?a10 ?l10 ?c10 ?k10 ?a11 ?l11 ?c11 ?k11 ?a12 ?l12 ?c12 ?k12 ?a13 ?l13 ?c13 ?k13 ?a14 ?l14 ?c14 ?k14 ?z_min ?z_sorted ?z_len ?z_range ?z_dict ?q_LEAVES ?q_COMES ?q_GOAL ?q_START ?q_NUMBERS ?q_NUMBER
  (case a0 => k_is)
  (case l0 => k_is)
  (case c0 => k_is)
  (case k0 => k_is)
  (case a1 => k_is)
  (case l1 => k_is)
  (case c1 => k_is)
  (case k1 => k_is)
  (case a2 => k_is)
  (case l2 => k_is)
  (case c2 => k_is)
  (case k2 => k_is)
  (case a3 => k_is)
  (case l3 => k_is)
  (case c3 => k_is)
  (case k3 => k_is)
  (case h3 => k_is)
  (case e3 => exact rfl)
  (case a4 => k_is)
  (case l4 => k_is)
  (case c4 => k_is)
  (case k4 => k_is)
  (case a5 => k_is)
  (case l5 => k_is)
  (case c5 => k_is)
  (case k5 => k_is)
  (case a6 => k_is)
  (case l6 => k_is)
  (case c6 => k_is)
  (case k6 => k_is)
  (case h6 => k_is)
  (case e6 => exact rfl)
  (case a7 => k_is)
  (case l7 => k_is)
  (case c7 => k_is)
  (case k7 => k_is)
  (case a8 => k_is)
  (case l8 => k_is)
  (case c8 => k_is)
  (case k8 => k_is)
  (case a9 => k_is)
  (case l9 => k_is)
  (case c9 => k_is)
  (case k9 => k_is)
  (case a10 => k_is)
  (case l10 => k_is)
  (case c10 => k_is)
  (case k10 => k_is)
  (case a11 => k_is)
  (case l11 => k_is)
  (case c11 => k_is)
  (case k11 => k_is)
  (case a12 => k_is)
  (case l12 => k_is)
  (case c12 => k_is)
  (case k12 => k_is)
  (case a13 => k_is)
  (case l13 => k_is)
  (case c13 => k_is)
  (case k13 => k_is)
  (case a14 => k_is)
  (case l14 => k_is)
  (case c14 => k_is)
  (case k14 => k_is)
  (case z_min => k_is)
  (case z_sorted => k_is)
  (case z_len => k_is)
  (case z_range => k_is)
  (case z_dict => k_is)
  (case q_LEAVES => k_is)
  (case q_COMES => k_is)
  (case q_GOAL => k_is)
  (case q_START => k_is)
  (case q_NUMBERS => k_is)
  (case q_NUMBER => k_is)
