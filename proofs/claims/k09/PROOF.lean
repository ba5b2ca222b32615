import PyProof.Rows.All
import Wide.All
import OpenK.AllK
import Wide.FinOn
import Lean
import PyProof.EqAt
import PyProof.EqKinds
import PyProof.TupleCall
import PyProof.LongRange
import PyProof.ListRange
import PyProof.CompFree
import KE.KRevSl
import KE.KEqDict
import PyProof.StrCalls2
import PyProof.StrLawsJoin
import PyProof.FitsReplace
import PyProof.WalksEnum
import PyProof.EnumMake
import PyProof.ZipIter
import PyProof.LayNew
import PyProof.NeKinds
import KE.KNestM
import KE.KLam
import PyProof.OldK
import KE.KSortKey
import PyProof.Rows.CallKwBuiltin
import PyProof.Rows.CallKw2
import KE.KSortTup
import KE.KItemsList
import PyProof.Rows.SortStr
import PyProof.Rows.MinMaxN
import PyProof.Rows.SetFrom
import PyProof.CallStr
import PyProof.DictCompW
import PyProof.AutoSeq1
import PySem.Challenge.RW_wayhold_k09_papers_looked_at
set_option Elab.async false
set_option linter.all false
set_option maxRecDepth 100000
/-! THE HAND LAYER, for ints, bools, texts, own classes, LISTS and tuples (index, slices, in, append, pop ..), calls, loops. Paste it whole ahead of your own text; what your proof does not reach may be deleted. -/
namespace L2
open PySem PySem.Spec PyProof.Rows

/-- a key: an int or a str -/
abbrev Key := Sum Int Str
def keyIs : Key → Value → Bool
  | .inl k, v => Value.isInt k v
  | .inr x, v => Value.isStrOf x v
def keyH (w : World) : Key → Int
  | .inl k => hashInt k
  | .inr x => hashStr w x
theorem keyIs_shape : ∀ {k : Key} {v : Value}, keyIs k v = true → (∃ i t, k = Sum.inl i ∧ v = Value.int i t) ∨ (∃ x t, k = Sum.inr x ∧ v = Value.str x t)
  | .inl i, v, h => by
    obtain ⟨t, e⟩ := Value.isInt_shape (k := i) (v := v) h
    exact .inl ⟨i, t, rfl, e⟩
  | .inr x, v, h => by
    obtain ⟨t, e⟩ := Value.isStrOf_shape (x := x) (v := v) h
    exact .inr ⟨x, t, rfl, e⟩
theorem keyIs_int (i : Int) (t : Tok) : keyIs (.inl i) (.int i t) = true := by simp [keyIs, Value.isInt]
theorem keyIs_str (x : Str) (t : Tok) : keyIs (.inr x) (.str x t) = true := by simp [keyIs, Value.isStrOf]
theorem key_ll (a b : Int) : decide ((Sum.inl a : Key) = Sum.inl b) = (a == b) := by
  by_cases e : a = b
  · subst e; simp
  · have h : ¬ (Sum.inl a : Key) = Sum.inl b := fun q => e (Sum.inl.inj q)
    rw [decide_eq_false h]
    exact (beq_eq_false_iff_ne.mpr e).symm
theorem key_rr (a b : Str) : decide ((Sum.inr a : Key) = Sum.inr b) = decide (a = b) := by
  by_cases e : a = b
  · subst e; simp
  · have h : ¬ (Sum.inr a : Key) = Sum.inr b := fun q => e (Sum.inr.inj q)
    rw [decide_eq_false h, decide_eq_false e]
theorem key_lr (a : Int) (b : Str) : decide ((Sum.inl a : Key) = Sum.inr b) = false := decide_eq_false (fun q => nomatch q)
theorem key_rl (a : Str) (b : Int) : decide ((Sum.inr a : Key) = Sum.inl b) = false := decide_eq_false (fun q => nomatch q)

def mixKind (prog : Program) (w : World) : PySem.KeyKind prog w Key where
  is := keyIs
  hash := keyH w
  inj := fun v a b ha hb => by
    rcases keyIs_shape ha with ⟨i, t, rfl, rfl⟩ | ⟨x, t, rfl, rfl⟩
    · rcases keyIs_shape hb with ⟨j, u, rfl, e⟩ | ⟨y, u, rfl, e⟩
      · injection e with e1 _; rw [e1]
      · exact nomatch e
    · rcases keyIs_shape hb with ⟨j, u, rfl, e⟩ | ⟨y, u, rfl, e⟩
      · exact nomatch e
      · injection e with e1 _; rw [e1]
  byValue := fun k v h => by
    rcases keyIs_shape h with ⟨i, t, rfl, rfl⟩ | ⟨x, t, rfl, rfl⟩ <;> rfl
  pyHash := fun hv h => by
    rcases keyIs_shape hv with ⟨i, t, rfl, rfl⟩ | ⟨x, t, rfl, rfl⟩
    · exact wpAny_pyHash_int h
    · exact wpAny_pyHash_str h
  eqBool := fun hu hv h => by
    rcases keyIs_shape hu with ⟨i, t, rfl, rfl⟩ | ⟨x, t, rfl, rfl⟩
    · rcases keyIs_shape hv with ⟨j, u, rfl, rfl⟩ | ⟨y, u, rfl, rfl⟩
      · rw [key_ll] at h; exact wpAny_eqBool_int h
      · rw [key_lr] at h; exact SeqAt.EqAt.int_str i t y u _ _ _ _ h
    · rcases keyIs_shape hv with ⟨j, u, rfl, rfl⟩ | ⟨y, u, rfl, rfl⟩
      · rw [key_rl] at h; exact SeqAt.EqAt.str_int x t j u _ _ _ _ h
      · rw [key_rr] at h; exact wpAny_eqBool_str h
  «strs» := fun k x t v h => by
    rcases keyIs_shape h with ⟨i, u, rfl, e⟩ | ⟨y, u, rfl, e⟩
    · exact nomatch e
    · injection e with e1 _
      subst e1
      cases v <;> rfl

theorem mixKind_is (prog : Program) (w : World) (k : Key) (v : Value) : (mixKind prog w).is k v = keyIs k v := rfl
theorem mixKind_int (prog : Program) (w : World) (i : Int) (t : Tok) : (mixKind prog w).is (.inl i) (.int i t) = true := keyIs_int i t
theorem mixKind_str (prog : Program) (w : World) (x : Str) (t : Tok) : (mixKind prog w).is (.inr x) (.str x t) = true := keyIs_str x t
end L2

namespace L2
open PySem PySem.Spec PyProof.Rows

/-- a value, without the heap -/
inductive V where
  | non | bl (b : Bool) | int (i : Int) | str (x : Str) | byt (b : Array UInt8) | flt (b : UInt64) | ref (a : Addr) | ty (n : String)
  deriving DecidableEq

def RelV : V → Value → Prop
  | .non, u => u = Value.none
  | .bl b, u => u = Value.bool b
  | .int i, u => ∃ t, u = Value.int i t
  | .str x, u => ∃ t, u = Value.str x t
  | .byt b, u => ∃ t, u = Value.bytes b t
  | .flt b, u => ∃ t, u = Value.float b t
  | .ref a, u => u = Value.ref a
  | .ty n, u => u = Value.type n

abbrev Vals : List V → List Value → Prop := Paired RelV
theorem Vals.length {xs : List V} {us : List Value} (r : Vals xs us) : xs.length = us.length := Paired.length r
theorem Vals.get : ∀ {xs : List V} {us : List Value} {i : Nat} {x : V}, Vals xs us → xs[i]? = some x → ∃ u, us[i]? = some u ∧ RelV x u
  | _, _, _, _, .nil, e => by simp at e
  | _, _, 0, _, .cons r _, e => by simp at e; subst e; exact ⟨_, rfl, r⟩
  | _, _, i + 1, x, .cons _ t, e => by
    obtain ⟨u, h1, h2⟩ := Vals.get (i := i) (x := x) t (by simpa using e)
    exact ⟨u, by simpa using h1, h2⟩
theorem Vals.set {x : V} {u : Value} (r : RelV x u) : ∀ {xs : List V} {us : List Value} (i : Nat), Vals xs us → Vals (xs.set i x) (us.set i u)
  | _, _, _, .nil => .nil
  | _, _, 0, .cons _ t => .cons r t
  | _, _, i + 1, .cons q t => .cons q (Vals.set r i t)
theorem Vals.append : ∀ {xs ys : List V} {us ws : List Value}, Vals xs us → Vals ys ws → Vals (xs ++ ys) (us ++ ws)
  | _, _, _, _, .nil, s => s
  | _, _, _, _, .cons r t, s => .cons r (Vals.append t s)
theorem Vals.take : ∀ {xs : List V} {us : List Value} (n : Nat), Vals xs us → Vals (xs.take n) (us.take n)
  | _, _, 0, _ => .nil
  | _, _, _ + 1, .nil => .nil
  | _, _, n + 1, .cons r t => .cons r (Vals.take n t)
theorem Vals.drop : ∀ {xs : List V} {us : List Value} (n : Nat), Vals xs us → Vals (xs.drop n) (us.drop n)
  | _, _, 0, r => r
  | _, _, _ + 1, .nil => .nil
  | _, _, n + 1, .cons _ t => Vals.drop n t
theorem Vals.none_of : ∀ {xs : List V} {us : List Value} {i : Nat}, Vals xs us → xs[i]? = none → us[i]? = none := fun {xs us i} r e => by
  have h1 := r.length
  have h2 : xs.length ≤ i := List.getElem?_eq_none_iff.mp e
  exact List.getElem?_eq_none_iff.mpr (by omega)

def RelO : Option V → Option Value → Prop
  | some v, some u => RelV v u
  | none, none => True
  | _, _ => False
def KV {κ : Type} : List (κ × V) → List (κ × Value) → Prop := Paired fun (p : κ × V) (q : κ × Value) => p.1 = q.1 ∧ RelV p.2 q.2

/-- a key of a dict (00_mix): an int or a text -/
def kV : Key → V
  | .inl i => .int i
  | .inr x => .str x

/-- what stands at a tracked address -/
inductive HO where
  /-- a list -/
  | lst (xs : List V)
  /-- a tuple (never changes) -/
  | tup (xs : List V)
  /-- a dict whose keys are ints and texts; one whose keys are tuples of ints and texts (the empty one is both) -/
  | dK (kvs : List (Key × V)) | dT (kvs : List (List Key × V))
  /-- a set of ints: its members, its size -/
  | set (S : Int → Bool) (n : Nat)
  /-- an instance of the class at C, its dict at dx, its attributes -/
  | ins (C dx : Addr) (fs : List (Str × V))
  /-- the dict of the instance at x -/
  | own (x : Addr)
  /-- the dict of an exception -/
  | xd (fs : List (Str × V))
  /-- a bound method, f of x -/
  | met (f x : Addr)
  /-- a range object lo, lo + 1, .. below hi -/
  | rng (lo hi : Int)
  /-- a thing that is known to the object (the script; a dict while a loop walks it): read, never written while it is so -/
  | frz (o : Obj) (u : HO)
  /-- a code object's table -/
  | tbl (ps : Array Value)
  /-- any other thing, by what is true of its one object (a def of one's own: SetO a S n := HO.ext fun h => ..) -/
  | ext (φ : Heap → Prop)

abbrev Hp := Addr → Option HO
def upd (H : Hp) (a : Addr) (o : HO) : Hp := fun b => if b = a then some o else H b
theorem upd_same {H : Hp} {a : Addr} {o : HO} : upd H a o a = some o := by unfold upd; rw [if_pos rfl]
theorem upd_ne {H : Hp} {a b : Addr} {o : HO} (h : b ≠ a) : upd H a o b = H b := by unfold upd; rw [if_neg h]
theorem upd_upd {H : Hp} {a : Addr} {o u : HO} : upd (upd H a o) a u = upd H a u := by
  funext b; unfold upd; split <;> rfl
/-- two objects of different content stand apart -/
theorem ne_of {H : Hp} {a b : Addr} {o u : HO} (h : H a = some o) (h' : H b = some u) (d : o ≠ u) : a ≠ b := by
  intro e; subst e; rw [h] at h'; exact d (Option.some.inj h')
theorem ne_of_none {H : Hp} {a b : Addr} {o : HO} (h : H a = some o) (h' : H b = none) : a ≠ b := by
  intro e; subst e; rw [h] at h'; cases h'

section
variable (P : Program) (w : World)
def ObjOk (H : Hp) (h : Heap) (a : Addr) : HO → Prop
  | .lst xs => xs.length ≤ sizeLine ∧ ∃ (its : List Value) (n : Nat), Vals xs its ∧ h.get? a = some { cls := .type "list", data := .seq its.toArray n }
  | .tup xs => xs.length ≤ sizeLine ∧ ∃ its : List Value, Vals xs its ∧ IsTup h a its.toArray
  | .dK kvs => kvs.length ≤ sizeLine ∧ (a == sysModules) = false ∧ ∃ vs, KV kvs vs ∧ h.DictOf (mixKind P w) a vs
  | .dT kvs => kvs.length ≤ sizeLine ∧ (a == sysModules) = false ∧ ∃ xs : List (List Key × Addr × Value),
      Paired (fun (p : List Key × V) (q : List Key × Addr × Value) => p.1 = q.1 ∧ H q.2.1 = some (.tup (p.1.map kV)) ∧ RelV p.2 q.2.2) kvs xs ∧
      ∃ o es ep, h.get? a = some o ∧ o.ExactDict ∧ o.data = .dict es ep ∧ es.toList = xs.map (entryOfKey (tupleKind (mixKind P w))) ∧ (xs.map (·.1)).Nodup
  | .set S n => h.SetOf (intKind P w) a S n
  | .ins C dx fs => H dx = some (.own a) ∧ fs.length ≤ 1000 ∧ dx ≠ a ∧ h.get? a = some (PySem.W.instObj C dx) ∧
      ∃ mA, h.Ns1 dx mA ∧ (∀ f, RelO (fs.lookup f) (mA f)) ∧ PySem.Within mA (fs.map (·.1))
  | .own _ => ∃ o, h.get? a = some o
  | .xd fs => ∃ mA, h.Ns1 a mA ∧ ∀ f, RelO (fs.lookup f) (mA f)
  | .rng lo hi => ∃ t u v, h.get? a = some { cls := .type "range", data := .fields #[.int lo t, .int hi u, .int 1 v] }
  | .frz o u => h.get? a = some o ∧ ObjOk H h a u
  | .tbl ps => h.get? a = some { cls := .none, data := .fields ps }
  | .met f x => h.get? a = some (PySem.W.methodObj (.ref f) (.ref x))
  | .ext φ => φ h ∧ (∃ o, h.get? a = some o) ∧ ∀ h1 h2 : Heap, φ h1 → (∀ o, h1.get? a = some o → h2.get? a = some o) → φ h2
/-- the abstract heap is held -/
def HOk (H : Hp) (h : Heap) : Prop := ∀ a o, H a = some o → ObjOk P w H h a o
end

section
variable {P : Program} {w : World} {H H' : Hp} {h h' : Heap} {a : Addr} {o : HO}
theorem ObjOk.lt (x : ObjOk P w H h a o) : a < h.objs.size := by
  cases o with
  | lst xs => obtain ⟨_, _, _, _, e⟩ := x; exact Heap.lt_size e
  | tup xs => obtain ⟨_, _, _, p⟩ := x; exact p.lt
  | dK kvs => obtain ⟨_, _, _, _, o, _, _, e, _⟩ := x; exact Heap.lt_size e
  | dT kvs => obtain ⟨_, _, _, _, o, _, _, e, _⟩ := x; exact Heap.lt_size e
  | set S n => obtain ⟨o, _, _, _, e, _⟩ := x; exact Heap.lt_size e
  | ins C dx fs => obtain ⟨_, _, _, e, _⟩ := x; exact Heap.lt_size e
  | own y => obtain ⟨_, e⟩ := x; exact Heap.lt_size e
  | xd fs => obtain ⟨_, ⟨_, _, _, e, _⟩, _⟩ := x; exact Heap.lt_size e
  | rng lo hi => obtain ⟨_, _, _, e⟩ := x; exact Heap.lt_size e
  | frz ob u => obtain ⟨e, _⟩ := x; exact Heap.lt_size e
  | tbl ps => exact Heap.lt_size (show h.get? a = some _ from x)
  | met f y => exact Heap.lt_size (show h.get? a = some _ from x)
  | ext φ => obtain ⟨_, ⟨_, e⟩, _⟩ := x; exact Heap.lt_size e
theorem Paired.mapP {α β : Type} {F G : α → β → Prop} : ∀ {l₁ : List α} {l₂ : List β}, Paired F l₁ l₂ → (∀ a b, F a b → G a b) → Paired G l₁ l₂
  | _, _, .nil, _ => .nil
  | _, _, .cons r t, f => .cons (f _ _ r) (Paired.mapP t f)
theorem Paired.imp' {α β : Type} {F G : α → β → Prop} (f : ∀ a b, F a b → G a b) {l₁ : List α} {l₂ : List β} (r : Paired F l₁ l₂) : Paired G l₁ l₂ := Paired.mapP r f
/-- what an object's description leans on: its own object, its own dict, the tuples -/
theorem ObjOk.stay (x : ObjOk P w H h a o) (k : ∀ b u, (b = a ∨ H b = some (.own a)) → h.get? b = some u → h'.get? b = some u)
    (ho : ∀ b, H b = some (.own a) → H' b = some (.own a)) (ht : ∀ b xs, H b = some (.tup xs) → H' b = some (.tup xs)) : ObjOk P w H' h' a o := by
  induction o with
  | lst xs => obtain ⟨z, its, n, r, e⟩ := x; exact ⟨z, its, n, r, k _ _ (.inl rfl) e⟩
  | tup xs => obtain ⟨z, its, r, ob, e, c⟩ := x; exact ⟨z, its, r, ob, k _ _ (.inl rfl) e, c⟩
  | dK kvs => obtain ⟨z, y, vs, r, ob, es, ep, e, c⟩ := x; exact ⟨z, y, vs, r, ob, es, ep, k _ _ (.inl rfl) e, c⟩
  | dT kvs =>
    obtain ⟨z, y, xs, r, ob, es, ep, e, c⟩ := x
    exact ⟨z, y, xs, Paired.mapP r fun p q z => ⟨z.1, ht _ _ z.2.1, z.2.2⟩, ob, es, ep, k _ _ (.inl rfl) e, c⟩
  | set S n => obtain ⟨ob, es, ep, t, e, c⟩ := x; exact ⟨ob, es, ep, t, k _ _ (.inl rfl) e, c⟩
  | ins C dx fs =>
    obtain ⟨d, z, ne, e, mA, ⟨od, es, ep, e2, c⟩, r⟩ := x
    exact ⟨ho _ d, z, ne, k _ _ (.inl rfl) e, mA, ⟨od, es, ep, k _ _ (.inr d) e2, c⟩, r⟩
  | own y => obtain ⟨ob, e⟩ := x; exact ⟨ob, k _ _ (.inl rfl) e⟩
  | xd fs => obtain ⟨mA, ⟨od, es, ep, e, c⟩, r⟩ := x; exact ⟨mA, ⟨od, es, ep, k _ _ (.inl rfl) e, c⟩, r⟩
  | rng lo hi => obtain ⟨t, u, v, e⟩ := x; exact ⟨t, u, v, k _ _ (.inl rfl) e⟩
  | frz ob u ih => obtain ⟨e, q⟩ := x; exact ⟨k _ _ (.inl rfl) e, ih q⟩
  | tbl ps =>
    have e : h.get? a = some { cls := .none, data := .fields ps } := x
    show h'.get? a = some { cls := .none, data := .fields ps }
    exact k a _ (.inl rfl) e
  | met f y =>
    have e : h.get? a = some (PySem.W.methodObj (.ref f) (.ref y)) := x
    show h'.get? a = some (PySem.W.methodObj (.ref f) (.ref y))
    exact k a _ (.inl rfl) e
  | ext φ => obtain ⟨p, ⟨o, e⟩, st⟩ := x; exact ⟨st _ _ p fun o q => k _ _ (.inl rfl) q, ⟨o, k _ _ (.inl rfl) e⟩, st⟩
theorem HOk.lt (x : HOk P w H h) (e : H a = some o) : a < h.objs.size := (x a o e).lt
theorem HOk.fresh (x : HOk P w H h) (e : h.objs.size ≤ a) : H a = none := by
  cases q : H a with
  | none => rfl
  | some u => exact absurd (Nat.lt_of_lt_of_le (x.lt q) e) (Nat.lt_irrefl _)
/-- every object of the heap is kept -/
theorem HOk.kept (x : HOk P w H h) (k : ∀ b u, h.get? b = some u → h'.get? b = some u) : HOk P w H h' := fun a o e =>
  (x a o e).stay (fun b u _ q => k b u q) (fun _ q => q) fun _ _ q => q
/-- a new object is laid and tracked -/
theorem HOk.laid (x : HOk P w H h) (k : ∀ b u, h.get? b = some u → h'.get? b = some u) (hp : h.objs.size ≤ a) (new : ObjOk P w (upd H a o) h' a o) : HOk P w (upd H a o) h' := fun b u e => by
  have hn := x.fresh hp
  by_cases hb : b = a
  · subst hb; rw [upd_same] at e; cases e; exact new
  · rw [upd_ne hb] at e
    exact (x b u e).stay (fun c v _ q => k c v q) (fun c q => by rw [upd_ne (ne_of_none q hn)]; exact q) fun c xs q => by rw [upd_ne (ne_of_none q hn)]; exact q
end

/-- what may be read as u: it is u, or a known u -/
def Rd (H : Hp) (a : Addr) (u : HO) : Prop := H a = some u ∨ ∃ o, H a = some (.frz o u)
theorem Rd.of {H : Hp} {a : Addr} {u : HO} (h : H a = some u) : Rd H a u := .inl h
theorem Rd.ok {P : Program} {w : World} {H : Hp} {h : Heap} {a : Addr} {u : HO} (r : Rd H a u) (x : HOk P w H h) : ObjOk P w H h a u := by
  rcases r with r | ⟨o, r⟩
  · exact x a u r
  · obtain ⟨_, q⟩ := x a _ r
    exact q
/-- what may be written -/
def Mut : Option HO → Prop
  | some (.lst _) => True
  | some (.dK _) => True
  | some (.dT _) => True
  | some (.set _ _) => True
  | some (.ins _ _ _) => True
  | some (.ext _) => True
  | _ => False
section
variable {P : Program} {w : World} {H : Hp} {h h' : Heap} {x e : Addr} {o' : HO}
/-- the object at e is changed: x itself, or the dict of the instance x -/
theorem HOk.write (ok : HOk P w H h) (mu : Mut (H x)) (he : e = x ∨ H e = some (.own x)) (k : ∀ b u, b ≠ e → h.get? b = some u → h'.get? b = some u) (heo : ∃ u, h'.get? e = some u)
    (new : ObjOk P w (upd H x o') h' x o') : HOk P w (upd H x o') h' := fun b u q => by
  have nown : ∀ c y, H c = some (.own y) → c ≠ x := fun c y r z => by subst z; rw [r] at mu; exact mu
  have ntup : ∀ c xs, H c = some (.tup xs) → c ≠ x := fun c xs r z => by subst z; rw [r] at mu; exact mu
  by_cases hb : b = x
  · subst hb; rw [upd_same] at q; cases q; exact new
  · rw [upd_ne hb] at q
    by_cases hbe : b = e
    · have q' : H b = some (.own x) := by
        rcases he with z | z
        · exact absurd (hbe.trans z) hb
        · rw [hbe]; exact z
      rw [q] at q'; cases q'
      obtain ⟨v, hv⟩ := heo
      exact ⟨v, by rw [hbe]; exact hv⟩
    · refine (ok b u q).stay (fun c v hc r => k c v ?_ r) (fun c r => by rw [upd_ne (nown c b r)]; exact r) fun c xs r => by rw [upd_ne (ntup c xs r)]; exact r
      rcases hc with rfl | hc
      · exact hbe
      · rintro rfl
        rcases he with z | z
        · exact nown c b hc z
        · rw [hc] at z; cases z; exact hb rfl
end

/-! ### kept unless tracked; of the frames at fs (the callers') the slots may change (an exception that passes writes there); of the records at ex (iterators) nothing is said -/
structure Un (fs ex : List Addr) (H H' : Hp) (h h' : Heap) : Prop where
  keep : ∀ b o, h.get? b = some o → H b = none → b ∉ fs → b ∉ ex → h'.get? b = some o
  slot : ∀ b o, h.get? b = some o → H b = none → b ∈ fs → b ∉ ex → ∃ sl, h'.get? b = some { o with slots := sl }
  free : ∀ b o, h.get? b = some o → H b = none → b ∉ ex → H' b = none
  there : ∀ b o, h.get? b = some o → b ∉ ex → ∃ o', h'.get? b = some o'
  tups : ∀ b xs, H b = some (.tup xs) → H' b = some (.tup xs)
  frzs : ∀ b o u, H b = some (.frz o u) → H' b = some (.frz o u)
  tbls : ∀ b ps, H b = some (.tbl ps) → ∃ more, H' b = some (.tbl (ps ++ more))
section
variable {fs fs' ex ex' : List Addr} {H H1 H2 : Hp} {h h1 h2 h' : Heap} {a x e : Addr} {o : HO}
theorem Un.any (u : Un fs ex H H1 h h1) {b : Addr} {ob : Obj} (q : h.get? b = some ob) (n : H b = none) (hx : b ∉ ex) : ∃ sl, h1.get? b = some { ob with slots := sl } := by
  by_cases hb : b ∈ fs
  · exact u.slot b ob q n hb hx
  · exact ⟨ob.slots, u.keep b ob q n hb hx⟩
theorem Un.trans (a : Un fs ex H H1 h h1) (b : Un fs ex H1 H2 h1 h2) : Un fs ex H H2 h h2 where
  keep := fun c ob q n hc hx => b.keep c ob (a.keep c ob q n hc hx) (a.free c ob q n hx) hc hx
  slot := fun c ob q n hc hx => by
    obtain ⟨sl, e1⟩ := a.slot c ob q n hc hx
    obtain ⟨sl', e2⟩ := b.slot c _ e1 (a.free c ob q n hx) hc hx
    exact ⟨sl', e2⟩
  free := fun c ob q n hx => by
    obtain ⟨o', e1⟩ := a.there c ob q hx
    exact b.free c o' e1 (a.free c ob q n hx) hx
  there := fun c ob q hx => by
    obtain ⟨o', e1⟩ := a.there c ob q hx
    exact b.there c o' e1 hx
  tups := fun c xs q => b.tups c xs (a.tups c xs q)
  frzs := fun c ob xs q => b.frzs c ob xs (a.frzs c ob xs q)
  tbls := fun c ps q => by
    obtain ⟨m1, e1⟩ := a.tbls c ps q
    obtain ⟨m2, e2⟩ := b.tbls c _ e1
    exact ⟨m1 ++ m2, by rw [e2, Array.append_assoc]⟩
theorem Un.kept (k : ∀ b u, h.get? b = some u → h'.get? b = some u) : Un fs ex H H h h' :=
  ⟨fun b ob q _ _ _ => k b ob q, fun b ob q _ _ _ => ⟨ob.slots, k b ob q⟩, fun _ _ _ n _ => n, fun b ob q _ => ⟨ob, k b ob q⟩, fun _ _ q => q, fun _ _ _ q => q, fun _ ps q => ⟨#[], by rw [q]; simp⟩⟩
theorem Un.refl : Un fs ex H H h h := Un.kept fun _ _ q => q
theorem Un.laid (k : ∀ b u, h.get? b = some u → h'.get? b = some u) (hp : h.objs.size ≤ a) (hn : H a = none) : Un fs ex H (upd H a o) h h' where
  keep := fun b u q _ _ _ => k b u q
  slot := fun b u q _ _ _ => ⟨u.slots, k b u q⟩
  free := fun b u q n _ => by rw [upd_ne (Nat.ne_of_lt (Nat.lt_of_lt_of_le (Heap.lt_size q) hp))]; exact n
  there := fun b u q _ => ⟨u, k b u q⟩
  tups := fun b xs q => by rw [upd_ne (ne_of_none q hn)]; exact q
  frzs := fun b u xs q => by rw [upd_ne (ne_of_none q hn)]; exact q
  tbls := fun b ps q => ⟨#[], by rw [upd_ne (ne_of_none q hn), q]; simp⟩
theorem Un.write (mu : Mut (H x)) (he : e = x ∨ H e = some (.own x)) (k : ∀ b u, b ≠ e → h.get? b = some u → h'.get? b = some u) (heo : ∃ u, h'.get? e = some u) : Un fs ex H (upd H x o) h h' := by
  have hx : ∀ b, H b = none → b ≠ x := fun b n z => by subst z; rw [n] at mu; exact mu
  have hb : ∀ b, H b = none → b ≠ e := fun b n z => by
    subst z
    rcases he with r | r
    · exact hx b n r
    · rw [n] at r; cases r
  have hm : ∀ b u, H b = some u → ¬ Mut (some u) → b ≠ x := fun b u q nm z => by subst z; rw [q] at mu; exact nm mu
  refine ⟨fun b u q n _ _ => k b u (hb b n) q, fun b u q n _ _ => ⟨u.slots, k b u (hb b n) q⟩, fun b u q n _ => by rw [upd_ne (hx b n)]; exact n, fun b u q _ => ?_,
    fun b xs q => by rw [upd_ne (hm b _ q fun z => z)]; exact q, fun b u xs q => by rw [upd_ne (hm b _ q fun z => z)]; exact q, fun b ps q => ⟨#[], by rw [upd_ne (hm b _ q fun z => z), q]; simp⟩⟩
  by_cases hbe : b = e
  · subst hbe; exact heo
  · exact ⟨u, k b u hbe q⟩
theorem Un.mono (u : Un fs ex H H1 h h1) (hs : ∀ b ∈ fs, b ∈ fs') (hx : ∀ b ∈ ex, b ∈ ex') : Un fs' ex' H H1 h h1 :=
  ⟨fun b ob q n hb he => u.keep b ob q n (fun z => hb (hs b z)) fun z => he (hx b z), fun _ _ q n _ he => u.any q n fun z => he (hx _ z), fun b ob q n he => u.free b ob q n fun z => he (hx b z), fun b ob q he => u.there b ob q fun z => he (hx b z), u.tups, u.frzs, u.tbls⟩
end

/-! ### the heap without what is tracked -/
def trk (h : Heap) (H : Hp) : List Addr := (List.range h.objs.size).filter fun a => (H a).isSome
def hidT (h : Heap) (H : Hp) : Heap := PySem.W.hideAll h (trk h H)
theorem hidT_size (h : Heap) (H : Hp) : (hidT h H).objs.size = h.objs.size := PySem.W.hideAll_size _ _
theorem hidT_get {h : Heap} {H : Hp} {b : Addr} {o : Obj} (e : h.get? b = some o) (n : H b = none) : (hidT h H).get? b = some o :=
  PySem.W.hideAll_get _ e fun hm => by
    have q : (H b).isSome = true := (List.mem_filter.mp hm).2
    rw [n] at q; simp at q
theorem of_hidT {h : Heap} {H : Hp} {b : Addr} {o : Obj} (e : (hidT h H).get? b = some o) : h.get? b = some o ∧ H b = none := by
  have e' : h.get? b = some o := PySem.W.of_hideAll (trk h H) e
  refine ⟨e', ?_⟩
  cases q : H b with
  | none => rfl
  | some x =>
    have hm : b ∈ trk h H := List.mem_filter.mpr ⟨List.mem_range.mpr (Heap.lt_size e'), by simp [q]⟩
    have z : (hidT h H).get? b = none := PySem.W.hideAll_none (trk h H) hm
    rw [z] at e; cases e

/-! ### OpenK's ledger, filled with every new object but one -/
def allNews (g h : Heap) (L : Addr) : List (Addr × Obj) := (List.range h.objs.size).filterMap fun a => if a = L ∨ (g.get? a).isSome = true then none else (h.get? a).map fun o => (a, o)
theorem mem_allNews {g h : Heap} {L a : Addr} {o : Obj} (h1 : a ≠ L) (h2 : g.get? a = none) (h3 : h.get? a = some o) : (a, o) ∈ allNews g h L :=
  List.mem_filterMap.mpr ⟨a, List.mem_range.mpr (Heap.lt_size h3), by simp [h1, h2, h3]⟩
theorem of_mem_allNews {g h : Heap} {L : Addr} {p : Addr × Obj} (hp : p ∈ allNews g h L) : p.1 ≠ L ∧ g.get? p.1 = none ∧ h.get? p.1 = some p.2 := by
  obtain ⟨b, _, e⟩ := List.mem_filterMap.mp hp
  split at e
  · cases e
  · rename_i hn
    cases q : h.get? b with
    | none => rw [q] at e; simp at e
    | some u =>
      rw [q] at e
      simp only [Option.map_some, Option.some.injEq] at e
      subst e
      refine ⟨fun z => hn (.inl z), ?_, q⟩
      show g.get? b = none
      cases r : g.get? b with
      | none => rfl
      | some v => exact (hn (.inr (by simp [r]))).elim
def rest (g h : Heap) (L d : Addr) : List (Addr × Obj) := (allNews g h L).filter fun p => decide (p.1 ≠ d)
theorem rest_ne {g h : Heap} {L d : Addr} : ∀ p ∈ rest g h L d, p.1 ≠ d := fun p hp => of_decide_eq_true (List.mem_filter.mp hp).2
theorem mem_rest {g h : Heap} {L d a : Addr} {o : Obj} (h1 : a ≠ L) (h2 : g.get? a = none) (h3 : h.get? a = some o) (h4 : a ≠ d) : (a, o) ∈ rest g h L d :=
  List.mem_filter.mpr ⟨mem_allNews h1 h2 h3, decide_eq_true h4⟩
theorem news_all {g h : Heap} {L : Addr} : News g L h (allNews g h L) := fun p hp => let ⟨a, b, c⟩ := of_mem_allNews hp; ⟨c, a, b⟩
theorem news_at {g h : Heap} {L d : Addr} {o : Obj} (h1 : d ≠ L) (h2 : g.get? d = none) (h3 : h.get? d = some o) : News g L h ((d, o) :: rest g h L d) := fun p hp => by
  rcases List.mem_cons.mp hp with rfl | hp
  · exact ⟨h3, h1, h2⟩
  · exact news_all p (List.mem_filter.mp hp).1
/-- behind a rule that changed d alone: all else but the frame is kept -/
theorem kept_of_news {g h h' : Heap} {L d : Addr} {m : Str → Option Value} (k : ∀ b o, g.get? b = some o → h.get? b = some o) (F : Fr g L h' m) (N : News g L h' (rest g h L d)) :
    ∀ b o, b ≠ L → b ≠ d → h.get? b = some o → h'.get? b = some o := fun b o h1 h2 e => by
  cases q : g.get? b with
  | some u =>
    have := k b u q
    rw [e] at this; cases this
    exact F.keep b _ q
  | none => exact (N (b, o) (mem_rest h1 q e h2)).1
end L2

namespace L2
open PySem PySem.Spec PyProof.Rows

/-- the module's facts, over the base: the heap at the law's entry without what is tracked there -/
structure Mod (K : PySem.W.Frag) (mg : Str → Option Value) (base : Heap) : Prop where
  kin : K.In base
  glob : base.Ns mainGlobals mg
  blt : ∃ mb, base.Ns builtinsNs mb ∧ ∀ x : Str, x ≠ "__name__" → mb x = bootBuiltins x
  nolimit : base.NoLimit

/-- the context: a def's body (or a comprehension's block) running. base: fixed through the whole law; s₀, H₀: the entry; outer: the frames whose slots others may change (a def's callers); stack: all frames that run;
   ex: iterators that were made ahead of the entry and are walked here (a comprehension's); fn: the names whose cells were made at the entry (a def: all; a comprehension's block: its own); calm: not within an except suite; pn: pins that every state bears; xe: what is wanted of an exception that leaves the code -/
structure Cx where
  prog : Program
  w : World
  K : PySem.W.Frag
  mg : Str → Option Value
  base : Heap
  A : Around
  N : List Str
  s₀ : Shared
  H₀ : Hp
  env : Env
  outer : List Env
  stack : List Env
  ex : List Addr
  fn : Str → Bool
  calm : Bool
  pn : List (Addr × Obj)
  xe : Value → Shared → Prop
/-- the callers' frames -/
def frs (l : List Env) : List Addr := l.filterMap (·.frame)
abbrev Cx.fs (X : Cx) : List Addr := frs X.outer

def Vis (sc : Scope) (x : Str) : Prop := sc.names.lookup x = some .local ∨ sc.names.lookup x = some .cell ∨ sc.names.lookup x = some .free
def Loc (sc : Scope) (x : Str) : Prop := sc.names.lookup x = some .local ∨ sc.names.lookup x = some .cell
def Look (env : Env) (h : Heap) (m : Str → Option Value) (x : Str) (u : Value) : Prop :=
  (env.kindOf x = some .local ∧ m x = some u) ∨ ((env.kindOf x = some .cell ∨ env.kindOf x = some .free) ∧ ∃ c, env.cells.lookup x = some c ∧ h.IsCell c (some u))

structure Cx.Ok (X : Cx) : Prop where
  mod : Mod X.K X.mg X.base
  kind : X.env.scope.kind = .function
  glob : X.env.globals = mainGlobals
  blt : X.env.builtins = builtinsNs
  above : X.s₀.heap.objs.size ≤ X.env.locals
  inj : ∀ x y c, X.env.cells.lookup x = some c → X.env.cells.lookup y = some c → x = y
  has : ∀ x, (X.env.kindOf x = some .cell ∨ X.env.kindOf x = some .free) → ∃ c, X.env.cells.lookup x = some c
  cab : ∀ x c, X.fn x = true → X.env.cells.lookup x = some c → X.s₀.heap.objs.size ≤ c
  hd : X.calm = true → X.A.handled = none
  frames : X.A.frames = some X.stack
  stk : X.stack = X.outer ∨ (X.stack = X.env :: X.outer ∧ X.env.frame = some X.env.locals)
  exf : ∀ b ∈ X.ex, b ≠ X.env.locals ∧ ∀ x c, X.env.cells.lookup x = some c → c ≠ b
  bs : ∀ b o, X.base.get? b = some o → X.s₀.heap.get? b = some o ∧ X.H₀ b = none
  bsz : X.base.objs.size ≤ X.s₀.heap.objs.size
  noex : ∀ b o, X.base.get? b = some o → b ∉ X.ex
  exfs : ∀ b ∈ X.ex, b ∉ X.fs
  funs : X.s₀.heap.FunFrames X.base X.outer
  frf : ∀ b ∈ X.fs, X.H₀ b = none

structure Inv (X : Cx) (pins : List (Addr × Obj)) (σ : List (Option V)) (H : Hp) (s : Shared) : Prop where
  ok : X.Ok
  os : s.os = X.s₀.os
  bare : AllBare s.gens
  base : Un X.fs X.ex X.H₀ H X.s₀.heap s.heap
  loc : ∃ m, s.heap.Ns X.env.locals m ∧ ∀ (i : Nat) (x : Str) (v : V), X.N[i]? = some x → σ[i]? = some (some v) → Vis X.env.scope x → ∃ u, RelV v u ∧ Look X.env s.heap m x u
  cell : ∀ x c, X.env.cells.lookup x = some c → ∃ v, s.heap.IsCell c v
  free : H X.env.locals = none
  freeC : ∀ x c, X.env.cells.lookup x = some c → H c = none
  pin : ∀ p ∈ X.pn ++ pins, s.heap.get? p.1 = some p.2 ∧ H p.1 = none ∧ p.1 ≠ X.env.locals ∧ p.1 ∉ X.fs ∧ ∀ v, p.2.data ≠ .cell v
  hok : HOk X.prog X.w H s.heap
  len : σ.length = X.N.length

section
variable {X : Cx} {pins : List (Addr × Obj)} {σ : List (Option V)} {H H' : Hp} {s : Shared} {h' : Heap}

theorem Cx.Ok.nofr (ok : X.Ok) {b : Addr} {o : Obj} (e : X.base.get? b = some o) : b ∉ X.fs := fun hb => by
  have := (ok.funs.mem hb).1
  rw [e] at this; cases this
theorem Inv.bs (I : Inv X pins σ H s) : ∀ b o, X.base.get? b = some o → s.heap.get? b = some o ∧ H b = none := fun b o e =>
  ⟨I.base.keep b o (I.ok.bs b o e).1 (I.ok.bs b o e).2 (I.ok.nofr e) (I.ok.noex b o e), I.base.free b o (I.ok.bs b o e).1 (I.ok.bs b o e).2 (I.ok.noex b o e)⟩
theorem Inv.bk (I : Inv X pins σ H s) : ∀ b o, X.base.get? b = some o → s.heap.get? b = some o := fun b o e => (I.bs b o e).1
theorem Inv.mod (I : Inv X pins σ H s) : Mod X.K X.mg X.base := I.ok.mod
theorem Inv.kIn (I : Inv X pins σ H s) : X.K.In s.heap := I.ok.mod.kin.keeps I.bk
theorem Inv.nolimit (I : Inv X pins σ H s) : s.heap.NoLimit := I.ok.mod.nolimit.keeps I.bk
/-- the frame over the base: for OpenK's rules (K.In X.base is I.mod.kin) -/
theorem Inv.fr (I : Inv X pins σ H s) : ∃ m, Fr X.base X.env.locals s.heap m :=
  let ⟨m, hn, _⟩ := I.loc
  ⟨m, hn, I.bk, Nat.le_trans I.ok.bsz I.ok.above⟩
theorem Inv.lt (I : Inv X pins σ H s) : X.env.locals < s.heap.objs.size := let ⟨_, hn, _⟩ := I.loc; hn.lt
theorem Inv.sz (I : Inv X pins σ H s) : X.s₀.heap.objs.size ≤ s.heap.objs.size := Nat.le_trans I.ok.above (Nat.le_of_lt I.lt)
theorem Inv.nofs (I : Inv X pins σ H s) {a : Addr} (h : s.heap.objs.size ≤ a) : a ∉ X.fs := fun hb => by
  obtain ⟨_, o, ho, _⟩ := I.ok.funs.mem hb
  exact absurd (Nat.lt_of_lt_of_le (Heap.lt_size ho) (Nat.le_trans I.sz h)) (Nat.lt_irrefl _)
theorem Inv.cne (I : Inv X pins σ H s) : ∀ x c, X.env.cells.lookup x = some c → c ≠ X.env.locals := fun x c e z => by
  obtain ⟨v, o, ho, hd⟩ := I.cell x c e
  obtain ⟨m, ⟨o', es, ep, ho', hd', _⟩, _⟩ := I.loc
  rw [z, ho'] at ho; cases ho; rw [hd'] at hd; cases hd
theorem Inv.funs (I : Inv X pins σ H s) : s.heap.FunFrames X.base X.outer := by
  have all : ∀ (l : List Env), (∀ b ∈ frs l, b ∈ X.fs) → X.s₀.heap.FunFrames X.base l → s.heap.FunFrames X.base l := by
    intro l
    induction l with
    | nil => intro _ _; trivial
    | cons env r ih =>
      intro hs hl
      obtain ⟨hk, ⟨L, o, hf, hn, ho, hd⟩, hr⟩ := hl
      have hL : L ∈ X.fs := hs L (by unfold frs; rw [List.filterMap_cons, hf]; exact List.mem_cons_self)
      obtain ⟨sl, e⟩ := I.base.slot L o ho (I.ok.frf L hL) hL fun z => I.ok.exfs L z hL
      exact ⟨hk, ⟨L, _, hf, hn, e, hd⟩, ih (fun b hb => hs b (by unfold frs; rw [List.filterMap_cons, hf]; exact List.mem_cons_of_mem _ hb)) hr⟩
  exact all X.outer (fun _ hb => hb) I.ok.funs

/-- the frames that run, for a call -/
theorem Inv.stack (I : Inv X pins σ H s) : s.heap.FunFrames X.base X.stack := by
  rcases I.ok.stk with e | ⟨e, hf⟩
  · rw [e]; exact I.funs
  · rw [e]
    obtain ⟨m, hn, _⟩ := I.loc
    refine .cons (by rw [I.ok.kind]; decide) hf hn ?_ I.funs
    exact Heap.get?_none_of_le (Nat.le_trans I.ok.bsz I.ok.above)
theorem Inv.stkSub (I : Inv X pins σ H s) : ∀ b ∈ frs X.stack, b ∈ X.env.locals :: X.fs := fun b hb => by
  rcases I.ok.stk with e | ⟨e, hf⟩
  · rw [e] at hb; exact List.mem_cons_of_mem _ hb
  · rw [e] at hb
    unfold frs at hb
    rw [List.filterMap_cons, hf] at hb
    exact hb
theorem Inv.stkFree (I : Inv X pins σ H s) : ∀ b ∈ frs X.stack, H b = none := fun b hb => by
  rcases List.mem_cons.mp (I.stkSub b hb) with e | hb
  · rw [e]; exact I.free
  · obtain ⟨_, o, ho, _⟩ := I.ok.funs.mem hb
    exact I.base.free b o ho (I.ok.frf b hb) fun z => I.ok.exfs b z hb

/-- THE STEP: the untracked objects but the frame and the records at ch are kept (the callers' frames up to slots), the frame's map is kept, the new abstract heap is held -/
theorem Inv.step {g' : Array GenState} {t' : Nat} {d' : Drawn} {ch : List Addr} (I : Inv X pins σ H s)
    (hch : ∀ b ∈ ch, (b ∈ X.ex ∨ X.s₀.heap.objs.size ≤ b) ∧ b ≠ X.env.locals ∧ (∀ x c, X.env.cells.lookup x = some c → c ≠ b) ∧ ∀ p ∈ X.pn ++ pins, p.1 ≠ b)
    (keep : ∀ b o, b ≠ X.env.locals → b ∉ X.fs → b ∉ ch → s.heap.get? b = some o → H b = none → h'.get? b = some o)
    (slot : ∀ b o, b ≠ X.env.locals → b ∈ X.fs → b ∉ ch → s.heap.get? b = some o → H b = none → ∃ sl, h'.get? b = some { o with slots := sl }) (free : ∀ b o, b ∉ ch → s.heap.get? b = some o → H b = none → H' b = none)
    (there : ∀ b o, b ∉ ch → s.heap.get? b = some o → ∃ o', h'.get? b = some o')
    (tups : ∀ b xs, H b = some (.tup xs) → H' b = some (.tup xs)) (frzs : ∀ b o u, H b = some (.frz o u) → H' b = some (.frz o u)) (tbls : ∀ b ps, H b = some (.tbl ps) → ∃ more, H' b = some (.tbl (ps ++ more)))
    (ns : ∀ m, s.heap.Ns X.env.locals m → h'.Ns X.env.locals m) (hok : HOk X.prog X.w H' h') (hg : AllBare g') :
    Inv X pins σ H' { s with heap := h', gens := g', drawn := d', toks := t' } := by
  have neL : ∀ b o, X.s₀.heap.get? b = some o → b ≠ X.env.locals := fun b o e => Nat.ne_of_lt (Nat.lt_of_lt_of_le (Heap.lt_size e) I.ok.above)
  have neC : ∀ b o, X.s₀.heap.get? b = some o → b ∉ X.ex → b ∉ ch := fun b o e hx hb => by
    rcases (hch b hb).1 with z | z
    · exact hx z
    · exact absurd (Nat.lt_of_lt_of_le (Heap.lt_size e) z) (Nat.lt_irrefl _)
  have cellK : ∀ x c, X.env.cells.lookup x = some c → ∀ v, s.heap.IsCell c v → h'.IsCell c v := fun x c e v ⟨o, ho, hd⟩ => by
    have nch : c ∉ ch := fun z => (hch c z).2.2.1 x c e rfl
    by_cases hc : c ∈ X.fs
    · obtain ⟨sl, q⟩ := slot c o (I.cne x c e) hc nch ho (I.freeC x c e)
      exact ⟨_, q, hd⟩
    · exact ⟨o, keep c o (I.cne x c e) hc nch ho (I.freeC x c e), hd⟩
  refine ⟨I.ok, I.os, hg, ⟨fun b o e n hb hx => ?_, fun b o e n hb hx => ?_, fun b o e n hx => ?_, fun b o e hx => ?_, fun b xs e => tups b xs (I.base.tups b xs e), fun b o xs e => frzs b o xs (I.base.frzs b o xs e), fun b ps e => ?_⟩, ?_, fun x c e => ?_, ?_, fun x c e => ?_, fun p hp => ?_, hok, I.len⟩
  · exact keep b o (neL b o e) hb (neC b o e hx) (I.base.keep b o e n hb hx) (I.base.free b o e n hx)
  · obtain ⟨sl, e1⟩ := I.base.slot b o e n hb hx
    obtain ⟨sl', e2⟩ := slot b _ (neL b o e) hb (neC b o e hx) e1 (I.base.free b o e n hx)
    exact ⟨sl', e2⟩
  · obtain ⟨o', e1⟩ := I.base.there b o e hx
    exact free b o' (neC b o e hx) e1 (I.base.free b o e n hx)
  · obtain ⟨o', e1⟩ := I.base.there b o e hx
    exact there b o' (neC b o e hx) e1
  · obtain ⟨m1, e1⟩ := I.base.tbls b ps e
    obtain ⟨m2, e2⟩ := tbls b _ e1
    exact ⟨m1 ++ m2, by rw [e2, Array.append_assoc]⟩
  · obtain ⟨m, hn, hl⟩ := I.loc
    refine ⟨m, ns m hn, fun i x v e1 e2 e3 => ?_⟩
    obtain ⟨u, r, l⟩ := hl i x v e1 e2 e3
    refine ⟨u, r, ?_⟩
    rcases l with l | ⟨k, c, e, z⟩
    · exact .inl l
    · exact .inr ⟨k, c, e, cellK x c e _ z⟩
  · obtain ⟨v, z⟩ := I.cell x c e
    exact ⟨v, cellK x c e v z⟩
  · obtain ⟨m, ⟨o, _, _, ho, _⟩, _⟩ := I.loc
    exact free _ o (fun z => (hch _ z).2.1 rfl) ho I.free
  · obtain ⟨v, o, ho, hd⟩ := I.cell x c e
    exact free c o (fun z => (hch c z).2.2.1 x c e rfl) ho (I.freeC x c e)
  · obtain ⟨e, n, ne, nf, d⟩ := I.pin p hp
    have nch : p.1 ∉ ch := fun z => (hch p.1 z).2.2.2 p hp rfl
    exact ⟨keep p.1 p.2 ne nf nch e n, free p.1 p.2 nch e n, ne, nf, d⟩
/-- .. where the frame's own object is kept too -/
theorem Inv.un {t' : Nat} (I : Inv X pins σ H s) (u : Un X.fs [] H H' s.heap h') (hok : HOk X.prog X.w H' h') : Inv X pins σ H' { s with heap := h', toks := t' } := by
  obtain ⟨m, ⟨o, es, ep, ho, r⟩, _⟩ := id I.loc
  obtain ⟨sl, hL⟩ := u.any ho I.free (by simp)
  exact I.step (g' := s.gens) (d' := s.drawn) (ch := []) (fun _ z => nomatch z) (fun b o _ hb _ e n => u.keep b o e n hb (by simp)) (fun b o _ hb _ e n => u.slot b o e n hb (by simp)) (fun b o _ e n => u.free b o e n (by simp)) (fun b o _ e => u.there b o e (by simp)) u.tups u.frzs u.tbls (fun m' hm => by
    obtain ⟨o', es', ep', ho', r'⟩ := hm
    rw [ho] at ho'; cases ho'
    exact ⟨_, es', ep', hL, r'⟩) hok I.bare
/-- behind a call (or a comprehension's block): the slots of this frame may have changed too, the records at ch may have turned -/
theorem Inv.call {g' : Array GenState} {t' : Nat} {d' : Drawn} {ch : List Addr} (I : Inv X pins σ H s) (u : Un (frs X.stack) ch H H' s.heap h') (hok : HOk X.prog X.w H' h') (hg : AllBare g')
    (hch : ∀ b ∈ ch, (b ∈ X.ex ∨ X.s₀.heap.objs.size ≤ b) ∧ b ≠ X.env.locals ∧ (∀ x c, X.env.cells.lookup x = some c → c ≠ b) ∧ ∀ p ∈ X.pn ++ pins, p.1 ≠ b) :
    Inv X pins σ H' { s with heap := h', gens := g', drawn := d', toks := t' } := by
  obtain ⟨m, ⟨o, es, ep, ho, r⟩, _⟩ := id I.loc
  obtain ⟨sl, hL⟩ := u.any ho I.free fun z => (hch _ z).2.1 rfl
  exact I.step (ch := ch) hch (fun b o hL hb hc e n => u.keep b o e n (fun z => (List.mem_cons.mp (I.stkSub b z)).elim hL hb) hc) (fun b o _ _ hc e n => u.any e n hc) (fun b o hc e n => u.free b o e n hc) (fun b o hc e => u.there b o e hc) u.tups u.frzs u.tbls (fun m' hm => by
    obtain ⟨o', es', ep', ho', r'⟩ := hm
    rw [ho] at ho'; cases ho'
    exact ⟨_, es', ep', hL, r'⟩) hok hg
/-- an untracked record of ours (an iterator) has turned -/
theorem Inv.turned {t' : Nat} {it : Addr} (I : Inv X pins σ H s) (k : ∀ b o, b ≠ it → s.heap.get? b = some o → h'.get? b = some o) (hn : H it = none) (hL : it ≠ X.env.locals)
    (h1 : it ∈ X.ex ∨ X.s₀.heap.objs.size ≤ it) (h2 : ∀ x c, X.env.cells.lookup x = some c → c ≠ it) (h3 : ∀ p ∈ X.pn ++ pins, p.1 ≠ it) : Inv X pins σ H { s with heap := h', toks := t' } := by
  have nit : ∀ b u, H b = some u → b ≠ it := fun b u e z => by rw [z, hn] at e; cases e
  refine I.step (g' := s.gens) (d' := s.drawn) (ch := [it]) (fun b hb => ?_) (fun b o _ _ hc e _ => k b o (fun z => hc (by simp [z])) e) (fun b o _ _ hc e _ => ⟨o.slots, k b o (fun z => hc (by simp [z])) e⟩) (fun _ _ _ _ n => n)
    (fun b o hc e => ⟨o, k b o (fun z => hc (by simp [z])) e⟩) (fun _ _ e => e) (fun _ _ _ e => e) (fun b ps e => ⟨#[], by rw [e]; simp⟩) (fun m hm => ?_) (fun b u e => ?_) I.bare
  · have e : b = it := by simpa using hb
    subst e
    exact ⟨h1, hL, h2, h3⟩
  · obtain ⟨o, es, ep, ho, r⟩ := hm
    exact ⟨o, es, ep, k _ o (Ne.symm hL) ho, r⟩
  · refine (I.hok b u e).stay (fun c v hc q => k c v ?_ q) (fun _ q => q) fun _ _ q => q
    rcases hc with z | z
    · rw [z]; exact nit b u e
    · exact nit c _ z
theorem Inv.tok (I : Inv X pins σ H s) (t : Nat) : Inv X pins σ H { s with toks := t } := I.un (h' := s.heap) (t' := t) Un.refl I.hok
/-- all objects kept -/
theorem Inv.kept {t' : Nat} (I : Inv X pins σ H s) (k : ∀ b u, s.heap.get? b = some u → h'.get? b = some u) : Inv X pins σ H { s with heap := h', toks := t' } := I.un (Un.kept k) (I.hok.kept k)
/-- a new object laid and tracked -/
theorem Inv.laid {a : Addr} {o : HO} {t' : Nat} (I : Inv X pins σ H s) (k : ∀ b u, s.heap.get? b = some u → h'.get? b = some u) (hp : s.heap.objs.size ≤ a) (new : ObjOk X.prog X.w (upd H a o) h' a o) :
    Inv X pins σ (upd H a o) { s with heap := h', toks := t' } := I.un (Un.laid k hp (I.hok.fresh hp)) (I.hok.laid k hp new)
/-- an object written -/
theorem Inv.write {x e : Addr} {o : HO} {t' : Nat} (I : Inv X pins σ H s) (mu : Mut (H x)) (he : e = x ∨ H e = some (.own x)) (k : ∀ b u, b ≠ e → s.heap.get? b = some u → h'.get? b = some u) (heo : ∃ u, h'.get? e = some u)
    (new : ObjOk X.prog X.w (upd H x o) h' x o) : Inv X pins σ (upd H x o) { s with heap := h', toks := t' } := I.un (Un.write mu he k heo) (I.hok.write mu he k heo new)
/-- forgetting slots, pins -/
theorem Inv.weak {σ' : List (Option V)} (I : Inv X pins σ H s) (hl : σ'.length = σ.length) (w : ∀ (i : Nat) v, σ'[i]? = some (some v) → σ[i]? = some (some v)) : Inv X pins σ' H s :=
  ⟨I.ok, I.os, I.bare, I.base, let ⟨m, hn, hl'⟩ := I.loc; ⟨m, hn, fun i x v e1 e2 e3 => hl' i x v e1 (w i v e2) e3⟩, I.cell, I.free, I.freeC, I.pin, I.hok, hl.trans I.len⟩
theorem Inv.pins_of {pins' : List (Addr × Obj)} (I : Inv X pins σ H s) (h : ∀ p ∈ pins', s.heap.get? p.1 = some p.2 ∧ H p.1 = none ∧ p.1 ≠ X.env.locals ∧ p.1 ∉ X.fs ∧ ∀ v, p.2.data ≠ .cell v) : Inv X pins' σ H s :=
  ⟨I.ok, I.os, I.bare, I.base, I.loc, I.cell, I.free, I.freeC, fun p hp => (List.mem_append.mp hp).elim (fun z => I.pin p (List.mem_append_left _ z)) (h p), I.hok, I.len⟩

theorem nodup_ix {N : List Str} (hN : N.Nodup) {i j : Nat} {x : Str} (a : N[i]? = some x) (b : N[j]? = some x) : i = j := by
  obtain ⟨h1, e1⟩ := List.getElem?_eq_some_iff.mp a
  obtain ⟨h2, e2⟩ := List.getElem?_eq_some_iff.mp b
  exact (List.getElem_inj hN).mp (e1.trans e2.symm)

/-- a name is stored; what changed -/
theorem store_ok2 {M : Model} {A : Around} {E : Value → Shared → Prop} {i : Nat} {x : Str} {v : V} {u : Value} {Q : Unit → Shared → Prop} (I : Inv X pins σ H s) (hN : X.N.Nodup) (hi : X.N[i]? = some x) (hx : Loc X.env.scope x) (r : RelV v u)
    (h : ∀ s', Inv X pins (σ.set i (some v)) H s' → (∃ a, Heap.SameBut a s.heap s'.heap ∧ (a = X.env.locals ∨ X.env.cells.lookup x = some a)) → Q () s') (hf : X.fn x = true ∨ X.env.scope.names.lookup x = some .local := by first | exact .inl rfl | exact .inr rfl | assumption) : wpAny M A (storeName X.env x u) Q E s := by
  obtain ⟨m, hn, hl⟩ := id I.loc
  have hcls : (X.env.scope.kind == .class || (X.env.scope.kind == .module && X.env.locals != X.env.globals)) = false := by rw [I.ok.kind]; rfl
  have hiσ : i < σ.length := by rw [I.len]; exact (List.getElem?_eq_some_iff.mp hi).1
  have cne := I.cne
  have tracked : ∀ {a : Addr} {h' : Heap}, (∃ o, s.heap.get? a = some o ∧ H a = none) → Heap.SameBut a s.heap h' → HOk X.prog X.w H h' := fun {a h'} ha hs b ob e => by
    obtain ⟨_, _, hfree⟩ := ha
    refine (I.hok b ob e).stay (fun c w' hc q => (hs.2 c ?_).trans q) (fun _ q => q) fun _ _ q => q
    rintro rfl
    rcases hc with rfl | hc
    · rw [hfree] at e; cases e
    · rw [hfree] at hc; cases hc
  rcases hx with hk | hk
  · refine wpAny_storeName_local hk hn (fun h' hn' hs => ?_) hcls
    obtain ⟨oL, _, _, hoL, _⟩ := id hn
    refine h _ ⟨I.ok, I.os, I.bare, ⟨fun b o e n hb hx => ?_, fun b o e n hb hx => ?_, I.base.free, fun b o e hx => ?_, I.base.tups, I.base.frzs, I.base.tbls⟩, ⟨_, hn', fun j y v' e1 e2 e3 => ?_⟩, fun y c e => ?_, I.free, I.freeC, fun p hp => ?_, tracked ⟨oL, hoL, I.free⟩ hs, by simpa using I.len⟩ ⟨_, hs, .inl rfl⟩
    · exact (hs.2 b (Nat.ne_of_lt (Nat.lt_of_lt_of_le (Heap.lt_size e) I.ok.above))).trans (I.base.keep b o e n hb hx)
    · obtain ⟨sl, e1⟩ := I.base.slot b o e n hb hx
      exact ⟨sl, (hs.2 b (Nat.ne_of_lt (Nat.lt_of_lt_of_le (Heap.lt_size e) I.ok.above))).trans e1⟩
    · obtain ⟨o', e1⟩ := I.base.there b o e hx
      exact ⟨o', (hs.2 b (Nat.ne_of_lt (Nat.lt_of_lt_of_le (Heap.lt_size e) I.ok.above))).trans e1⟩
    · by_cases hj : j = i
      · subst hj
        rw [hi] at e1; cases e1
        rw [List.getElem?_set_self hiσ] at e2
        cases e2
        exact ⟨u, r, .inl ⟨hk, by simp⟩⟩
      · rw [List.getElem?_set_ne (Ne.symm hj)] at e2
        obtain ⟨u', r', q⟩ := hl j y v' e1 e2 e3
        refine ⟨u', r', ?_⟩
        rcases q with ⟨k, e⟩ | ⟨k, c, e, z⟩
        · refine .inl ⟨k, ?_⟩
          have : y ≠ x := fun e => hj (nodup_ix hN e1 (e ▸ hi))
          simp [this, e]
        · exact .inr ⟨k, c, e, z.sameBut hs (cne y c e)⟩
    · obtain ⟨w', z⟩ := I.cell y c e
      exact ⟨w', z.sameBut hs (cne y c e)⟩
    · obtain ⟨e, n, ne, nf, d⟩ := I.pin p hp
      exact ⟨(hs.2 p.1 ne).trans e, n, ne, nf, d⟩
  · have hfn : X.fn x = true := by
      rcases hf with z | z
      · exact z
      · rw [z] at hk; cases hk
    obtain ⟨c, hc⟩ := I.ok.has x (.inl hk)
    obtain ⟨w', z⟩ := I.cell x c hc
    refine wpAny_storeName_cell I.ok.kind hk hc z (fun h' hc' hs => ?_)
    obtain ⟨oc, hoc, hocd⟩ := id z
    refine h { s with heap := h' } ⟨I.ok, I.os, I.bare, ⟨fun b o e n hb hx => ?_, fun b o e n hb hx => ?_, I.base.free, fun b o e hx => ?_, I.base.tups, I.base.frzs, I.base.tbls⟩, ⟨m, hn.sameBut hs (Ne.symm (cne x c hc)), fun j y v' e1 e2 e3 => ?_⟩, fun y c' e => ?_, I.free, I.freeC, fun p hp => ?_, tracked ⟨oc, hoc, I.freeC x c hc⟩ hs, by simpa using I.len⟩ ⟨c, hs, .inr hc⟩
    · exact (hs.2 b (Nat.ne_of_lt (Nat.lt_of_lt_of_le (Heap.lt_size e) (I.ok.cab x c hfn hc)))).trans (I.base.keep b o e n hb hx)
    · obtain ⟨sl, e1⟩ := I.base.slot b o e n hb hx
      exact ⟨sl, (hs.2 b (Nat.ne_of_lt (Nat.lt_of_lt_of_le (Heap.lt_size e) (I.ok.cab x c hfn hc)))).trans e1⟩
    · obtain ⟨o', e1⟩ := I.base.there b o e hx
      exact ⟨o', (hs.2 b (Nat.ne_of_lt (Nat.lt_of_lt_of_le (Heap.lt_size e) (I.ok.cab x c hfn hc)))).trans e1⟩
    · by_cases hj : j = i
      · subst hj
        rw [hi] at e1; cases e1
        rw [List.getElem?_set_self hiσ] at e2
        cases e2
        exact ⟨u, r, .inr ⟨.inl hk, c, hc, hc'⟩⟩
      · rw [List.getElem?_set_ne (Ne.symm hj)] at e2
        obtain ⟨u', r', q⟩ := hl j y v' e1 e2 e3
        refine ⟨u', r', ?_⟩
        rcases q with q | ⟨k, c', e, z'⟩
        · exact .inl q
        · refine .inr ⟨k, c', e, z'.sameBut hs ?_⟩
          rintro rfl
          exact hj (nodup_ix hN e1 (I.ok.inj _ _ _ e hc ▸ hi))
    · by_cases hcc : c' = c
      · subst hcc; exact ⟨_, hc'⟩
      · obtain ⟨w2, z2⟩ := I.cell y c' e
        exact ⟨w2, z2.sameBut hs hcc⟩
    · obtain ⟨e, n, ne, nf, d⟩ := I.pin p hp
      refine ⟨(hs.2 p.1 ?_).trans e, n, ne, nf, d⟩
      intro q
      rw [q, hoc] at e
      have q' : oc = p.2 := Option.some.inj e
      exact d w' (by rw [← q']; exact hocd)
theorem store_ok {M : Model} {A : Around} {E : Value → Shared → Prop} {i : Nat} {x : Str} {v : V} {u : Value} {Q : Unit → Shared → Prop} (I : Inv X pins σ H s) (hN : X.N.Nodup) (hi : X.N[i]? = some x) (hx : Loc X.env.scope x) (r : RelV v u)
    (h : ∀ s', Inv X pins (σ.set i (some v)) H s' → Q () s') (hf : X.fn x = true ∨ X.env.scope.names.lookup x = some .local := by first | exact .inl rfl | exact .inr rfl | assumption) : wpAny M A (storeName X.env x u) Q E s :=
  store_ok2 I hN hi hx r (fun s' I' _ => h s' I') hf
/-- behind a call or a block, the state as it is -/
theorem Inv.call' {s' : Shared} {ch : List Addr} (I : Inv X pins σ H s) (ho : s'.os = s.os) (u : Un (frs X.stack) ch H H' s.heap s'.heap) (hok : HOk X.prog X.w H' s'.heap) (hg : AllBare s'.gens)
    (hch : ∀ b ∈ ch, (b ∈ X.ex ∨ X.s₀.heap.objs.size ≤ b) ∧ b ≠ X.env.locals ∧ (∀ x c, X.env.cells.lookup x = some c → c ≠ b) ∧ ∀ p ∈ X.pn ++ pins, p.1 ≠ b) : Inv X pins σ H' s' := by
  obtain ⟨h', g', d', t', o'⟩ := s'
  have e : o' = s.os := ho
  subst e
  exact I.call (g' := g') (t' := t') (d' := d') u hok hg hch
end

/-! ### the judgements -/
/-- an exception: its class, its own dict's address (where it has one), the abstract heap behind it -/
abbrev XK := Value → Option Addr → Hp → Prop
abbrev St := List (Option V)
abbrev VK := V → Hp → Prop
/-- an expression's reading; a test's; an argument list's -/
abbrev TE := St → Hp → VK → Prop
abbrev TT := St → Hp → (Bool → Hp → Prop) → Prop
abbrev TA := St → Hp → (List V → Hp → Prop) → Prop
/-- what is wanted behind a statement -/
structure Ends where
  nx : St → Hp → Prop
  rt : VK
  bk : St → Hp → Prop := fun _ _ => False
  ct : St → Hp → Prop := fun _ _ => False
abbrev TS := Ends → St → Hp → Prop

def EP (X : Cx) (pins : List (Addr × Obj)) (σ : St) (Q : VK) (u : Value) (s' : Shared) : Prop := ∃ v H', Inv X pins σ H' s' ∧ RelV v u ∧ Q v H'
def TP (X : Cx) (pins : List (Addr × Obj)) (σ : St) (Q : Bool → Hp → Prop) (b : Bool) (s' : Shared) : Prop := ∃ H', Inv X pins σ H' s' ∧ Q b H'
def AP (X : Cx) (pins : List (Addr × Obj)) (σ : St) (Q : List V → Hp → Prop) (us : List Value) (s' : Shared) : Prop := ∃ vs H', Inv X pins σ H' s' ∧ Vals vs us ∧ Q vs H'
def SP (X : Cx) (pins : List (Addr × Obj)) (D : Ends) (f : Flow) (s' : Shared) : Prop :=
  match f with
  | .next => ∃ σ' H', Inv X pins σ' H' s' ∧ D.nx σ' H'
  | .brk => ∃ σ' H', Inv X pins σ' H' s' ∧ D.bk σ' H'
  | .cont => ∃ σ' H', Inv X pins σ' H' s' ∧ D.ct σ' H'
  | .ret u => ∃ v σ' H', Inv X pins σ' H' s' ∧ RelV v u ∧ D.rt v H'

def PE (X : Cx) (e : Expr) (t : TE) : Prop :=
  ∀ (pins : List (Addr × Obj)) (s : Shared) (σ : St) (H : Hp) (Q : VK), Inv X pins σ H s → t σ H Q → wpAny (model X.prog X.w) X.A (eval e X.env) (EP X pins σ Q) X.xe s
def PT (X : Cx) (e : Expr) (t : TT) : Prop :=
  ∀ (pins : List (Addr × Obj)) (s : Shared) (σ : St) (H : Hp) (Q : Bool → Hp → Prop), Inv X pins σ H s → t σ H Q → wpAny (model X.prog X.w) X.A (isTrue e X.env (eval e X.env)) (TP X pins σ Q) X.xe s
/-- a test whatever its 'whole' is (and, or) -/
def PW (X : Cx) (e : Expr) (t : TT) : Prop :=
  ∀ (whole : Sem Value) (pins : List (Addr × Obj)) (s : Shared) (σ : St) (H : Hp) (Q : Bool → Hp → Prop), Inv X pins σ H s → t σ H Q → wpAny (model X.prog X.w) X.A (isTrue e X.env whole) (TP X pins σ Q) X.xe s
theorem PW.pt {X : Cx} {e : Expr} {t : TT} (h : PW X e t) : PT X e t := h _
/-- an argument list (no star), from the left -/
def PA (X : Cx) (es : List Expr) (t : TA) : Prop :=
  ∀ (pos : Pos) (pins : List (Addr × Obj)) (s : Shared) (σ : St) (H : Hp) (Q : List V → Hp → Prop), Inv X pins σ H s → t σ H Q → wpAny (model X.prog X.w) X.A (spliced (backTo pos (starEach es X.env))) (AP X pins σ Q) X.xe s
def PS (X : Cx) (st : Stmt) (t : TS) : Prop :=
  ∀ (pins : List (Addr × Obj)) (s : Shared) (σ : St) (H : Hp) (D : Ends), Inv X pins σ H s → t D σ H → wpAny (model X.prog X.w) X.A (exec st X.env) (SP X pins D) X.xe s
def PSs (X : Cx) (st : List Stmt) (t : TS) : Prop :=
  ∀ (pins : List (Addr × Obj)) (s : Shared) (σ : St) (H : Hp) (D : Ends), Inv X pins σ H s → t D σ H → wpAny (model X.prog X.w) X.A (execs st X.env) (SP X pins D) X.xe s
/-- weaken the end -/
theorem thn {α : Type} {t : Sem α} {Q Q' : α → Shared → Prop} {M : Model} {A : Around} {E : Value → Shared → Prop} {s : Shared} (h : wpAny M A t Q E s) (hQ : ∀ a s, Q a s → Q' a s) : wpAny M A t Q' E s := wpAny_mono h hQ fun _ _ x => x
end L2

namespace L2
open PySem PySem.Spec PyProof.Rows
section
variable {X : Cx}

/-- two expressions in a row -/
theorem bin {a b : Expr} {ta tb : TE} (ha : PE X a ta) (hb : PE X b tb) {pins : List (Addr × Obj)} {s : Shared} {σ : St} {H : Hp} {R : V → V → Hp → Prop} (I : Inv X pins σ H s) (h : ta σ H fun x H1 => tb σ H1 fun y H2 => R x y H2)
    {α : Type} {Q : α → Shared → Prop} {f : Value → Value → Sem α}
    (hf : ∀ v u s2 x y H2, Inv X pins σ H2 s2 → RelV x v → RelV y u → R x y H2 → wpAny (model X.prog X.w) X.A (f v u) Q X.xe s2) :
    wpAny (model X.prog X.w) X.A (eval a X.env) (fun v s₁ => wpAny (model X.prog X.w) X.A (eval b X.env) (fun u s₂ => wpAny (model X.prog X.w) X.A (f v u) Q X.xe s₂) X.xe s₁) X.xe s := by
  refine thn (ha pins s σ H _ I h) fun v s1 ⟨x, H1, I1, r1, q1⟩ => ?_
  refine thn (hb pins s1 σ H1 _ I1 q1) fun u s2 ⟨y, H2, I2, r2, q2⟩ => ?_
  exact hf v u s2 x y H2 I2 r1 r2 q2

/-! ### names and constants -/
def tVar (i : Nat) : TE := fun σ H Q => ∃ v, σ[i]? = some (some v) ∧ Q v H
def tC (v : V) : TE := fun _ H Q => Q v H
theorem pe_var {i : Nat} {x : Str} {pos : Pos} (hN : X.N[i]? = some x) (hv : Vis X.env.scope x) (hd : (x == ("__debug__" : Str)) = false := by decide) (hcd : (x == ("__classdict__" : Str)) = false := by decide) : PE X (.Name x pos) (tVar i) := by
  intro pins s σ H Q I h
  obtain ⟨v, e, h⟩ := h
  obtain ⟨m, hn, hl⟩ := I.loc
  obtain ⟨u, r, l⟩ := hl i x v hN e hv
  have fin : EP X pins σ Q u s := ⟨v, H, I, r, h⟩
  rcases l with ⟨hk, hm⟩ | ⟨hk, c, hc, hcell⟩
  · exact wpAny_Name (wpAny_loadName_local I.ok.kind hk hn hm fin) hd
  · rcases hk with hk | hk
    · exact wpAny_Name (wpAny_loadName_cell I.ok.kind hk hc hcell fin) hd
    · exact wpAny_Name (wpAny_loadName_free I.ok.kind hk hc hcell fin hcd) hd
theorem pe_int {i j pos} : PE X (.Constant (.int i) j pos) (tC (.int i)) := fun _ _ _ H _ I h => wpAny_Constant_int ⟨.int i, H, I.tok _, ⟨_, rfl⟩, h⟩
theorem pe_bl {b j pos} : PE X (.Constant (.bool b) j pos) (tC (.bl b)) := fun _ _ _ H _ I h => Constant_bool ⟨.bl b, H, I, rfl, h⟩
theorem pe_non {j pos} : PE X (.Constant .none j pos) (tC .non) := fun _ _ _ H _ I h => Constant_none ⟨.non, H, I, rfl, h⟩
theorem pe_str {x j pos} : PE X (.Constant (.str x) j pos) (tC (.str x)) := fun _ _ _ H _ I h => Calls.Constant_str ⟨.str x, H, I.tok _, ⟨_, rfl⟩, h⟩

/-- a global name of the def -/
def Gl (X : Cx) (x : Str) : Prop := X.env.kindOf x = some .globalImplicit
theorem ld_glob {E : Value → Shared → Prop} {pins : List (Addr × Obj)} {s : Shared} {σ : St} {H : Hp} {x : Str} {u : Value} {pos : Pos} {Q : Value → Shared → Prop} (I : Inv X pins σ H s) (hg : Gl X x) (hm : X.mg x = some u) (h : Q u s)
    (hd : (x == ("__debug__" : Str)) = false := by decide) : wpAny (model X.prog X.w) X.A (eval (.Name x pos) X.env) Q E s :=
  Calls.Name_function_global I.ok.kind hg (Calls.loadGlobal_global (by rw [I.ok.glob]; exact I.mod.glob.keeps I.bk) hm h) hd
theorem ld_blt {E : Value → Shared → Prop} {pins : List (Addr × Obj)} {s : Shared} {σ : St} {H : Hp} {x : Str} {u : Value} {pos : Pos} {Q : Value → Shared → Prop} (I : Inv X pins σ H s) (hg : Gl X x) (hm : X.mg x = none) (hv : bootBuiltins x = some u) (h : Q u s)
    (hn : x ≠ "__name__" := by decide) (hd : (x == ("__debug__" : Str)) = false := by decide) : wpAny (model X.prog X.w) X.A (eval (.Name x pos) X.env) Q E s := by
  obtain ⟨mb, h1, h2⟩ := I.mod.blt
  exact Calls.Name_function_global I.ok.kind hg (Calls.loadGlobal_builtin (by rw [I.ok.glob]; exact I.mod.glob.keeps I.bk) hm (by rw [I.ok.blt]; exact h1.keeps I.bk) ((h2 x hn).trans hv) h) hd
/-- a module's constant, a class, a function, as a value -/
theorem pe_glob {x : Str} {v : V} {u : Value} {pos : Pos} (hg : Gl X x) (hm : X.mg x = some u) (r : RelV v u) (hd : (x == ("__debug__" : Str)) = false := by decide) : PE X (.Name x pos) (tC v) :=
  fun _ _ _ H _ I h => ld_glob I hg hm ⟨v, H, I, r, h⟩ hd
theorem pe_bltn {x : Str} {v : V} {u : Value} {pos : Pos} (hg : Gl X x) (hm : X.mg x = none) (hv : bootBuiltins x = some u) (r : RelV v u) (hn : x ≠ "__name__" := by decide) (hd : (x == ("__debug__" : Str)) = false := by decide) : PE X (.Name x pos) (tC v) :=
  fun _ _ _ H _ I h => ld_blt I hg hm hv ⟨v, H, I, r, h⟩ hn hd

/-! ### arithmetic -/
/-- two ints -/
def t2I (ta tb : TE) (k : Int → Int → Hp → Prop) : St → Hp → Prop := fun σ H => ta σ H fun x H1 => tb σ H1 fun y H2 => ∃ i j, x = .int i ∧ y = .int j ∧ k i j H2
def tAdd (ta tb : TE) : TE := fun σ H Q => t2I ta tb (fun i j H2 => Q (.int (i + j)) H2) σ H
def tSub (ta tb : TE) : TE := fun σ H Q => t2I ta tb (fun i j H2 => Q (.int (i - j)) H2) σ H
/-- the left factor below 2^64 -/
def tMul (ta tb : TE) : TE := fun σ H Q => t2I ta tb (fun i j H2 => (-(2 ^ 64) < i ∧ i < 2 ^ 64) ∧ Q (.int (i * j)) H2) σ H
variable {a b : Expr} {ta tb : TE} {pos : Pos}
theorem pe_add (ha : PE X a ta) (hb : PE X b tb) : PE X (.BinOp a .Add b pos) (tAdd ta tb) := by
  intro pins s σ H Q I h
  refine wpAny_BinOp (bin ha hb I h fun v u s2 x y H2 I2 rx ry q => ?_)
  obtain ⟨i, j, rfl, rfl, q⟩ := q
  obtain ⟨t, rfl⟩ := rx
  obtain ⟨t', rfl⟩ := ry
  exact add_int ⟨.int _, H2, I2.tok _, ⟨_, rfl⟩, q⟩
theorem pe_sub (ha : PE X a ta) (hb : PE X b tb) : PE X (.BinOp a .Sub b pos) (tSub ta tb) := by
  intro pins s σ H Q I h
  refine wpAny_BinOp (bin ha hb I h fun v u s2 x y H2 I2 rx ry q => ?_)
  obtain ⟨i, j, rfl, rfl, q⟩ := q
  obtain ⟨t, rfl⟩ := rx
  obtain ⟨t', rfl⟩ := ry
  exact sub_int ⟨.int _, H2, I2.tok _, ⟨_, rfl⟩, q⟩
theorem pe_mul (ha : PE X a ta) (hb : PE X b tb) : PE X (.BinOp a .Mult b pos) (tMul ta tb) := by
  intro pins s σ H Q I h
  refine wpAny_BinOp (bin ha hb I h fun v u s2 x y H2 I2 rx ry q => ?_)
  obtain ⟨i, j, rfl, rfl, ⟨q1, q2⟩, q⟩ := q
  obtain ⟨t, rfl⟩ := rx
  obtain ⟨t', rfl⟩ := ry
  exact mul_int ⟨.int _, H2, I2.tok _, ⟨_, rfl⟩, q⟩ (.of_left (intBits_le_64 q1 q2))

/-! ### comparisons -/
def PC (X : Cx) (op : CmpOp) (a b : Expr) (t : TE) : Prop :=
  ∀ (pins : List (Addr × Obj)) (s : Shared) (σ : St) (H : Hp) (Q : VK), Inv X pins σ H s → t σ H Q →
    wpAny (model X.prog X.w) X.A (eval a X.env) (fun v s₁ => wpAny (model X.prog X.w) X.A (eval b X.env) (fun u s₂ => wpAny (model X.prog X.w) X.A (compareOp op v u) (EP X pins σ Q) X.xe s₂) X.xe s₁) X.xe s
theorem nobehind (b : Expr) {op : CmpOp} (h : op ≠ .In) (h2 : op ≠ .NotIn) : behindInMarks op b = false := by
  have e1 : (op == CmpOp.In) = false := by cases op <;> first | rfl | exact absurd rfl h
  have e2 : (op == CmpOp.NotIn) = false := by cases op <;> first | rfl | exact absurd rfl h2
  cases b <;> simp [behindInMarks, e1, e2]
def tCmp (p : Int → Int → Bool) (ta tb : TE) : TE := fun σ H Q => t2I ta tb (fun i j H2 => Q (.bl (p i j)) H2) σ H
abbrev tLt : TE → TE → TE := tCmp fun i j => decide (i < j)
abbrev tLe : TE → TE → TE := tCmp fun i j => decide (i ≤ j)
abbrev tGt : TE → TE → TE := tCmp fun i j => decide (j < i)
abbrev tGe : TE → TE → TE := tCmp fun i j => decide (j ≤ i)
abbrev tEqI : TE → TE → TE := tCmp fun i j => decide (i = j)
abbrev tNeI : TE → TE → TE := tCmp fun i j => !decide (i = j)
/-- a comparison of two ints, by its rule -/
theorem pc_int {op : CmpOp} {p : Int → Int → Bool} (ha : PE X a ta) (hb : PE X b tb)
    (rule : ∀ (i j : Int) (t u : Tok) (Q : Value → Shared → Prop) (s : Shared), Q (.bool (p i j)) s → wpAny (model X.prog X.w) X.A (compareOp op (.int i t) (.int j u)) Q X.xe s) : PC X op a b (tCmp p ta tb) := by
  intro pins s σ H Q I h
  refine bin ha hb I h fun v u s2 x y H2 I2 rx ry q => ?_
  obtain ⟨i, j, rfl, rfl, q⟩ := q
  obtain ⟨t, rfl⟩ := rx
  obtain ⟨t', rfl⟩ := ry
  exact rule i j t t' _ s2 ⟨.bl _, H2, I2, rfl, q⟩
theorem pc_lt (ha : PE X a ta) (hb : PE X b tb) : PC X .Lt a b (tLt ta tb) := pc_int ha hb fun _ _ _ _ _ _ h => lt_int h
theorem pc_le (ha : PE X a ta) (hb : PE X b tb) : PC X .LtE a b (tLe ta tb) := pc_int ha hb fun _ _ _ _ _ _ h => le_int h
theorem pc_gt (ha : PE X a ta) (hb : PE X b tb) : PC X .Gt a b (tGt ta tb) := pc_int ha hb fun _ _ _ _ _ _ h => gt_int h
theorem pc_ge (ha : PE X a ta) (hb : PE X b tb) : PC X .GtE a b (tGe ta tb) := pc_int ha hb fun _ _ _ _ _ _ h => ge_int h
theorem pc_eqI (ha : PE X a ta) (hb : PE X b tb) : PC X .Eq a b (tEqI ta tb) := pc_int ha hb fun _ _ _ _ _ _ h => eq_int (by rw [Bool.beq_eq_decide_eq]; exact h)
theorem pc_neI (ha : PE X a ta) (hb : PE X b tb) : PC X .NotEq a b (tNeI ta tb) := pc_int ha hb fun _ _ _ _ _ _ h => ne_int (by rw [bne, Bool.beq_eq_decide_eq]; exact h)
/-- is None -/
def tIsN (ta : TE) : TE := fun σ H Q => ta σ H fun x H1 => Q (.bl (decide (x = .non))) H1
def tNotN (ta : TE) : TE := fun σ H Q => ta σ H fun x H1 => Q (.bl (!decide (x = .non))) H1
theorem RelV.none_iff {x : V} {v : Value} (r : RelV x v) : (v == Value.none) = decide (x = .non) := by
  cases x with
  | non => cases r; rfl
  | bl _ => cases r; rfl
  | int _ => obtain ⟨t, rfl⟩ := r; rfl
  | str _ => obtain ⟨t, rfl⟩ := r; rfl
  | byt _ => obtain ⟨t, rfl⟩ := r; rfl
  | flt _ => obtain ⟨t, rfl⟩ := r; rfl
  | ref _ => cases r; rfl
  | ty _ => cases r; rfl
theorem pc_isN {j pos'} (ha : PE X a ta) : PC X .Is a (.Constant .none j pos') (tIsN ta) := by
  intro pins s σ H Q I h
  refine thn (ha pins s σ H _ I h) fun v s1 ⟨x, H1, I1, r1, q1⟩ => ?_
  exact Constant_none (is_none_gen ⟨.bl _, H1, I1, by rw [r1.none_iff]; rfl, q1⟩)
theorem pc_notN {j pos'} (ha : PE X a ta) : PC X .IsNot a (.Constant .none j pos') (tNotN ta) := by
  intro pins s σ H Q I h
  refine thn (ha pins s σ H _ I h) fun v s1 ⟨x, H1, I1, r1, q1⟩ => ?_
  exact Constant_none (isnot_none_gen ⟨.bl _, H1, I1, by rw [r1.none_iff]; rfl, q1⟩)
/-- a comparison as a value, as a test -/
def tB (t : TE) : TT := fun σ H Q => t σ H fun x H1 => ∃ c, x = .bl c ∧ Q c H1
theorem pe_cmp {op : CmpOp} {t : TE} (h : PC X op a b t) (h1 : behindInMarks op b = false := by first | exact nobehind _ (by decide) (by decide) | rfl) : PE X (.Compare a [op] [b] pos) t := fun pins s σ H Q I hw => wpAny_Compare1 (h pins s σ H Q I hw) h1
theorem pt_cmp {op : CmpOp} {t : TE} (h : PC X op a b t) (h1 : behindInMarks op b = false := by first | exact nobehind _ (by decide) (by decide) | rfl) : PT X (.Compare a [op] [b] pos) (tB t) := by
  intro pins s σ H Q I hw
  refine wpAny_isTrue_Compare1 (thn (h pins s σ H _ I hw) fun v s1 h1 => thn h1 fun u s2 h2 => thn h2 fun c s3 ⟨x, H1, I1, r1, q1⟩ => ?_) h1
  obtain ⟨d, rfl, q⟩ := q1
  cases r1
  exact wpAny_truthy_bool ⟨H1, I1, q⟩
/-- an expression whose value is a bool, as a test -/
theorem pt_val {e : Expr} {t : TE} (h : PE X e t) (he : ∀ whole, isTrue e X.env whole = (do let v ← whole; standAt e.pos; holding [v] (truthy v)) := by intro _; rfl) : PT X e (tB t) := by
  intro pins s σ H Q I hw
  refine isTrue_plain (thn (h pins s σ H _ I hw) fun v s1 ⟨x, H1, I1, r1, q1⟩ => ?_) (he _)
  obtain ⟨d, rfl, q⟩ := q1
  cases r1
  exact wpAny_truthy_bool ⟨H1, I1, q⟩

/-! ### and, or, not -/
variable {tA tB' : TT} {rest : List Expr}
def tAnd (t u : TT) : TT := fun σ H Q => t σ H fun c H1 => if c = true then u σ H1 Q else Q false H1
def tOr (t u : TT) : TT := fun σ H Q => t σ H fun c H1 => if c = true then Q true H1 else u σ H1 Q
def tNot (t : TT) : TT := fun σ H Q => t σ H fun c H1 => Q (!c) H1
theorem pw_and1 (ha : PT X a tA) : PW X (.BoolOp .And [a] pos) tA := by
  intro wh pins s σ H Q I h
  refine isTrue_and (thn (ha pins s σ H Q I h) fun c s1 e => ?_)
  cases c with
  | true => exact isTrue_and_nil e
  | false => exact e
theorem pw_or1 (ha : PT X a tA) : PW X (.BoolOp .Or [a] pos) tA := by
  intro wh pins s σ H Q I h
  refine isTrue_or (thn (ha pins s σ H Q I h) fun c s1 e => ?_)
  cases c with
  | false => exact isTrue_or_nil e
  | true => exact e
theorem pw_and (ha : PT X a tA) (hb : PW X (.BoolOp .And (b :: rest) pos) tB') : PW X (.BoolOp .And (a :: b :: rest) pos) (tAnd tA tB') := by
  intro wh pins s σ H Q I h
  refine isTrue_and (thn (ha pins s σ H _ I h) fun c s1 ⟨H1, I1, q1⟩ => ?_)
  cases c with
  | true => exact hb wh pins s1 σ H1 Q I1 q1
  | false => exact ⟨H1, I1, q1⟩
theorem pw_or (ha : PT X a tA) (hb : PW X (.BoolOp .Or (b :: rest) pos) tB') : PW X (.BoolOp .Or (a :: b :: rest) pos) (tOr tA tB') := by
  intro wh pins s σ H Q I h
  refine isTrue_or (thn (ha pins s σ H _ I h) fun c s1 ⟨H1, I1, q1⟩ => ?_)
  cases c with
  | true => exact ⟨H1, I1, q1⟩
  | false => exact hb wh pins s1 σ H1 Q I1 q1
theorem pt_not (ha : PT X a tA) : PT X (.UnaryOp .Not a pos) (tNot tA) := by
  intro pins s σ H Q I h
  exact isTrue_not (ha pins s σ H (fun c H1 => Q (!c) H1) I h)
/-- .. as values (bools) -/
def tAndV (ta tb : TE) : TE := fun σ H Q => ta σ H fun x H1 => ∃ c, x = .bl c ∧ if c = true then tb σ H1 Q else Q (.bl false) H1
def tOrV (ta tb : TE) : TE := fun σ H Q => ta σ H fun x H1 => ∃ c, x = .bl c ∧ if c = true then Q (.bl true) H1 else tb σ H1 Q
def tNotV (ta : TE) : TE := fun σ H Q => ta σ H fun x H1 => ∃ c, x = .bl c ∧ Q (.bl (!c)) H1
theorem pe_one {op} {t : TE} (h : PE X a t) : PE X (.BoolOp op [a] pos) t := fun pins s σ H Q I hw => BoolOp_one (h pins s σ H Q I hw)
theorem pe_and (ha : PE X a ta) (hb : PE X (.BoolOp .And (b :: rest) pos) tb) : PE X (.BoolOp .And (a :: b :: rest) pos) (tAndV ta tb) := by
  intro pins s σ H Q I h
  refine BoolOp_and (thn (ha pins s σ H _ I h) fun v s1 ⟨x, H1, I1, r1, q1⟩ => ?_)
  obtain ⟨c, rfl, q1⟩ := q1
  cases r1
  refine wpAny_truthy_bool ?_
  cases c with
  | true => exact hb pins s1 σ H1 Q I1 q1
  | false => exact ⟨.bl false, H1, I1, rfl, q1⟩
theorem pe_or (ha : PE X a ta) (hb : PE X (.BoolOp .Or (b :: rest) pos) tb) : PE X (.BoolOp .Or (a :: b :: rest) pos) (tOrV ta tb) := by
  intro pins s σ H Q I h
  refine BoolOp_or (thn (ha pins s σ H _ I h) fun v s1 ⟨x, H1, I1, r1, q1⟩ => ?_)
  obtain ⟨c, rfl, q1⟩ := q1
  cases r1
  refine wpAny_truthy_bool ?_
  cases c with
  | false => exact hb pins s1 σ H1 Q I1 q1
  | true => exact ⟨.bl true, H1, I1, rfl, q1⟩
theorem pe_not (ha : PE X a ta) : PE X (.UnaryOp .Not a pos) (tNotV ta) := by
  intro pins s σ H Q I h
  refine UnaryOp_ (thn (ha pins s σ H _ I h) fun v s1 ⟨x, H1, I1, r1, q1⟩ => ?_)
  obtain ⟨c, rfl, q1⟩ := q1
  cases r1
  exact not_of (wpAny_truthy_bool ⟨.bl (!c), H1, I1, rfl, q1⟩)
/-- a if t else b -/
def tIf (t : TT) (ta tb : TE) : TE := fun σ H Q => t σ H fun c H1 => if c = true then ta σ H1 Q else tb σ H1 Q
theorem pe_ifExp {c : Expr} (hc : PT X c tA) (ha : PE X a ta) (hb : PE X b tb) : PE X (.IfExp c a b pos) (tIf tA ta tb) := by
  intro pins s σ H Q I h
  refine wpAny_IfExp (thn (hc pins s σ H _ I h) fun d s1 ⟨H1, I1, q1⟩ => ?_)
  cases d with
  | true => exact ha pins s1 σ H1 Q I1 q1
  | false => exact hb pins s1 σ H1 Q I1 q1
end
end L2

namespace L2
open PySem PySem.Spec PyProof.Rows

/-! ### a list, a tuple that is read: tracked, frozen, or an object of the module -/
def SqL (K : PySem.W.Frag) (H : Hp) (a : Addr) (xs : List V) : Prop :=
  Rd H a (.lst xs) ∨
    ∃ (o : Obj) (its : Array Value) (n : Nat), K.lookup a = some o ∧ o.cls = .type "list" ∧ o.dict = none ∧ o.data = .seq its n ∧ its.size ≤ sizeLine ∧ Vals xs its.toList
def SqT (K : PySem.W.Frag) (H : Hp) (a : Addr) (xs : List V) : Prop :=
  Rd H a (.tup xs) ∨
    ∃ (o : Obj) (its : Array Value) (n : Nat), K.lookup a = some o ∧ o.cls = .type "tuple" ∧ o.data = .seq its n ∧ its.size ≤ sizeLine ∧ Vals xs its.toList
def absV : Value → Option V
  | .none => some .non
  | .bool b => some (.bl b)
  | .int i _ => some (.int i)
  | .str x _ => some (.str x)
  | .bytes b _ => some (.byt b)
  | .float b _ => some (.flt b)
  | .ref a => some (.ref a)
  | .type n => some (.ty n)
  | _ => none
theorem RelV.abs {x : V} {u : Value} (r : RelV x u) : absV u = some x := by
  cases x with
  | non => cases r; rfl
  | bl _ => cases r; rfl
  | int _ => obtain ⟨t, rfl⟩ := r; rfl
  | str _ => obtain ⟨t, rfl⟩ := r; rfl
  | byt _ => obtain ⟨t, rfl⟩ := r; rfl
  | flt _ => obtain ⟨t, rfl⟩ := r; rfl
  | ref _ => cases r; rfl
  | ty _ => cases r; rfl
theorem RelV.inj {x y : V} {u : Value} (r : RelV x u) (q : RelV y u) : x = y := Option.some.inj (r.abs.symm.trans q.abs)
theorem Vals.inj : ∀ {xs ys : List V} {us : List Value}, Vals xs us → Vals ys us → xs = ys
  | _, _, _, .nil, .nil => rfl
  | _, _, _, .cons r t, .cons r' t' => by rw [r.inj r', Vals.inj t t']
section
variable {X : Cx} {pins : List (Addr × Obj)} {σ : St} {H : Hp} {s : Shared} {a : Addr} {xs ys : List V}
theorem SqL.of {K : PySem.W.Frag} (h : H a = some (.lst xs)) : SqL K H a xs := .inl (.inl h)
theorem SqT.of {K : PySem.W.Frag} (h : H a = some (.tup xs)) : SqT K H a xs := .inl (.inl h)
theorem Inv.list (I : Inv X pins σ H s) (h : SqL X.K H a xs) : ∃ its : List Value, Vals xs its ∧ PlainL s.heap a its.toArray ∧ xs.length ≤ sizeLine := by
  rcases h with h | ⟨o, its, n, hk, hc, hd, hs, hz, r⟩
  · obtain ⟨z, its, n, r, e⟩ := h.ok I.hok
    exact ⟨its, r, ⟨_, n, e, rfl, rfl, rfl⟩, z⟩
  · refine ⟨its.toList, r, ⟨o, n, I.kIn a o hk, hc, hd, by simpa using hs⟩, ?_⟩
    have e := r.length
    simp only [Array.length_toList] at e
    omega
theorem Inv.tuple (I : Inv X pins σ H s) (h : SqT X.K H a xs) : ∃ its : List Value, Vals xs its ∧ IsTup s.heap a its.toArray ∧ xs.length ≤ sizeLine := by
  rcases h with h | ⟨o, its, n, hk, hc, hs, hz, r⟩
  · obtain ⟨z, its, r, p⟩ := h.ok I.hok
    exact ⟨its, r, p, z⟩
  · refine ⟨its.toList, r, ⟨o, I.kIn a o hk, hc, n, by simpa using hs⟩, ?_⟩
    have e := r.length
    simp only [Array.length_toList] at e
    omega
theorem Inv.list_inj (I : Inv X pins σ H s) (h : SqL X.K H a xs) (h' : SqL X.K H a ys) : xs = ys := by
  obtain ⟨its, r, ⟨o, n, e, _, _, d⟩, _⟩ := I.list h
  obtain ⟨its', r', ⟨o', n', e', _, _, d'⟩, _⟩ := I.list h'
  rw [e] at e'; cases e'
  rw [d] at d'
  injection d' with d1 _
  have : its = its' := by simpa using congrArg Array.toList d1
  subst this
  exact r.inj r'
theorem Inv.tuple_inj (I : Inv X pins σ H s) (h : SqT X.K H a xs) (h' : SqT X.K H a ys) : xs = ys := by
  obtain ⟨its, r, ⟨o, e, _, n, d⟩, _⟩ := I.tuple h
  obtain ⟨its', r', ⟨o', e', _, n', d'⟩, _⟩ := I.tuple h'
  rw [e] at e'; cases e'
  rw [d] at d'
  injection d' with d1 _
  have : its = its' := by simpa using congrArg Array.toList d1
  subst this
  exact r.inj r'
end

/-! ### another wish about exceptions -/
abbrev Cx.wish (X : Cx) (E : Value → Shared → Prop) : Cx := { X with xe := E }
/-- no exception leaves -/
abbrev Cx.nox (X : Cx) : Cx := X.wish fun _ _ => False
theorem Cx.Ok.wish {X : Cx} (ok : X.Ok) (E : Value → Shared → Prop) : (X.wish E).Ok :=
  ⟨ok.mod, ok.kind, ok.glob, ok.blt, ok.above, ok.inj, ok.has, ok.cab, ok.hd, ok.frames, ok.stk, ok.exf, ok.bs, ok.bsz, ok.noex, ok.exfs, ok.funs, ok.frf⟩
theorem Cx.Ok.unwish {X : Cx} {E : Value → Shared → Prop} (ok : (X.wish E).Ok) : X.Ok :=
  ⟨ok.mod, ok.kind, ok.glob, ok.blt, ok.above, ok.inj, ok.has, ok.cab, ok.hd, ok.frames, ok.stk, ok.exf, ok.bs, ok.bsz, ok.noex, ok.exfs, ok.funs, ok.frf⟩
section
variable {X : Cx} {pins : List (Addr × Obj)} {σ : St} {H : Hp} {s : Shared} {E : Value → Shared → Prop}
theorem Inv.wish (I : Inv X pins σ H s) (E : Value → Shared → Prop) : Inv (X.wish E) pins σ H s := ⟨I.ok.wish E, I.os, I.bare, I.base, I.loc, I.cell, I.free, I.freeC, I.pin, I.hok, I.len⟩
theorem Inv.unwish (I : Inv (X.wish E) pins σ H s) : Inv X pins σ H s := ⟨I.ok.unwish, I.os, I.bare, I.base, I.loc, I.cell, I.free, I.freeC, I.pin, I.hok, I.len⟩
theorem SP.unwish {D : Ends} {f : Flow} {s' : Shared} (h : SP (X.wish E) pins D f s') : SP X pins D f s' := by
  cases f with
  | next => obtain ⟨σ', H', I, q⟩ := h; exact ⟨σ', H', I.unwish, q⟩
  | brk => obtain ⟨σ', H', I, q⟩ := h; exact ⟨σ', H', I.unwish, q⟩
  | cont => obtain ⟨σ', H', I, q⟩ := h; exact ⟨σ', H', I.unwish, q⟩
  | ret u => obtain ⟨v, σ', H', I, r, q⟩ := h; exact ⟨v, σ', H', I.unwish, r, q⟩
theorem PE.nox {e : Expr} {t : TE} (h : PE X.nox e t) : PE X e t := fun pins s σ H Q I hw =>
  wpAny_mono (h pins s σ H Q (I.wish _) hw) (fun _ _ ⟨v, H', I', r, q⟩ => ⟨v, H', I'.unwish, r, q⟩) fun _ _ z => False.elim z
theorem PT.nox {e : Expr} {t : TT} (h : PT X.nox e t) : PT X e t := fun pins s σ H Q I hw =>
  wpAny_mono (h pins s σ H Q (I.wish _) hw) (fun _ _ ⟨H', I', q⟩ => ⟨H', I'.unwish, q⟩) fun _ _ z => False.elim z
theorem PSs.nox {st : List Stmt} {t : TS} (h : PSs X.nox st t) : PSs X st t := fun pins s σ H D I hw =>
  wpAny_mono (h pins s σ H D (I.wish _) hw) (fun _ _ q => q.unwish) fun _ _ z => False.elim z
end

/-! ### blocks and small statements -/
section
variable {X : Cx} {st : Stmt} {rest : List Stmt} {t u : TS} {e : Expr} {te : TE} {pos : Pos}
def tNext : TS := fun D σ H => D.nx σ H
def tSeq (t u : TS) : TS := fun D σ H => t { D with nx := u D } σ H
theorem pss_nil : PSs X [] tNext := fun _ _ σ H _ I h => wpAny_execs_nil ⟨σ, H, I, h⟩
theorem pss_cons (h1 : PS X st t) (h2 : PSs X rest u) : PSs X (st :: rest) (tSeq t u) := by
  intro pins s σ H D I h
  refine wpAny_execs_cons (thn (h1 pins s σ H { D with nx := u D } I h) fun f s1 q => ?_)
  cases f with
  | next =>
    obtain ⟨σ', H', I', q⟩ := q
    exact h2 pins s1 σ' H' D I' q
  | ret v => exact q
  | brk => exact q
  | cont => exact q
theorem pss_one (h1 : PS X st t) : PSs X [st] t := by
  intro pins s σ H D I h
  refine wpAny_execs_cons (thn (h1 pins s σ H D I h) fun f s1 q => ?_)
  cases f with
  | next => exact wpAny_execs_nil q
  | ret v => exact q
  | brk => exact q
  | cont => exact q
def tBreak : TS := fun D σ H => D.bk σ H
def tCont : TS := fun D σ H => D.ct σ H
theorem ps_pass : PS X (.Pass pos) tNext := fun _ _ σ H _ I h => wpAny_Pass ⟨σ, H, I, h⟩
theorem ps_break : PS X (.Break pos) tBreak := fun _ _ σ H _ I h => wpAny_Break ⟨σ, H, I, h⟩
theorem ps_continue : PS X (.Continue pos) tCont := fun _ _ σ H _ I h => wpAny_Continue ⟨σ, H, I, h⟩
/-- in a def's body nothing is shown -/
theorem Inv.quiet {pins : List (Addr × Obj)} {σ : St} {H : Hp} {s : Shared} (I : Inv X pins σ H s) : interactive X.env = false := by simp [interactive, I.ok.kind]
/-- a docstring -/
theorem ps_doc {x j pos pos'} : PS X (.Expr (.Constant (.str x) j pos) pos') tNext := fun _ s σ H _ I h => wpAny_Expr (Calls.Constant_str (show SP X _ _ .next { s with toks := s.toks + 1 } from ⟨σ, H, I.tok _, h⟩)) I.quiet
/-- an expression whose value is dropped -/
def tDrop (te : TE) : TS := fun D σ H => te σ H fun _ H1 => D.nx σ H1
theorem ps_expr (he : PE X e te) (hs : swapsWith e none pos.line X.env = pure false := by rfl) : PS X (.Expr e pos) (tDrop te) := by
  intro pins s σ H D I h
  exact wpAny_Expr_any (thn (he pins s σ H _ I h) fun v s1 ⟨x, H1, I1, r1, q1⟩ => ⟨σ, H1, I1, q1⟩) I.quiet hs
def tRet (te : TE) : TS := fun D σ H => te σ H D.rt
theorem ps_ret (he : PE X e te) : PS X (.Return (some e) pos) (tRet te) := by
  intro pins s σ H D I h
  exact wpAny_Return_some (thn (he pins s σ H _ I h) fun v s1 ⟨x, H1, I1, r1, q1⟩ => ⟨x, σ, H1, I1, r1, q1⟩)
def tRetN : TS := fun D _ H => D.rt .non H
theorem ps_retN : PS X (.Return none pos) tRetN := fun _ _ σ H _ I h => wpAny_Return_none ⟨.non, σ, H, I, rfl, h⟩
def tIfS (c : TT) (t u : TS) : TS := fun D σ H => c σ H fun b H1 => if b = true then t D σ H1 else u D σ H1
theorem ps_if {c : Expr} {a b : List Stmt} {tc : TT} (hc : PT X c tc) (ha : PSs X a t) (hb : PSs X b u) : PS X (.If c a b pos) (tIfS tc t u) := by
  intro pins s σ H D I h
  refine wpAny_If (thn (hc pins s σ H _ I h) fun d s1 ⟨H1, I1, q1⟩ => ?_)
  cases d with
  | true => exact ha pins s1 σ H1 D I1 q1
  | false => exact hb pins s1 σ H1 D I1 q1
/-- code that the proof never comes to -/
def tNever : TS := fun _ _ _ => False
theorem ps_never : PS X st tNever := fun _ _ _ _ _ _ h => h.elim
theorem pss_never {sts : List Stmt} : PSs X sts tNever := fun _ _ _ _ _ _ h => h.elim
end

/-! ### targets -/
abbrev TG := V → St → Hp → (St → Hp → Prop) → Prop
abbrev TGs := List V → St → Hp → (St → Hp → Prop) → Prop
def PG (X : Cx) (target : Expr) (t : TG) : Prop :=
  ∀ (pins : List (Addr × Obj)) (s : Shared) (σ : St) (H : Hp) (v : V) (u : Value) (Q : St → Hp → Prop), Inv X pins σ H s → RelV v u → t v σ H Q →
    wpAny (model X.prog X.w) X.A (assign target X.env u) (fun _ s' => ∃ σ' H', Inv X pins σ' H' s' ∧ Q σ' H') X.xe s
/-- several targets, one after another -/
def PGs (X : Cx) (ts : List Expr) (t : TGs) : Prop :=
  ∀ (pins : List (Addr × Obj)) (s : Shared) (σ : St) (H : Hp) (vs : List V) (us : List Value) (Q : St → Hp → Prop), Inv X pins σ H s → Vals vs us → t vs σ H Q →
    wpAny (model X.prog X.w) X.A (assignInOrder ((assignEach ts X.env).map (·.2)) us) (fun _ s' => ∃ σ' H', Inv X pins σ' H' s' ∧ Q σ' H') X.xe s
/-- o[i] = v, by values -/
abbrev TSet := V → V → V → Hp → (Hp → Prop) → Prop
def PSet (X : Cx) (t : TSet) : Prop :=
  ∀ (pins : List (Addr × Obj)) (s : Shared) (σ : St) (H : Hp) (o i v : V) (ov iv u : Value) (Q : Hp → Prop), Inv X pins σ H s → RelV o ov → RelV i iv → RelV v u → t o i v H Q →
    wpAny (model X.prog X.w) X.A (setItem ov iv u) (fun _ s' => ∃ H', Inv X pins σ H' s' ∧ Q H') X.xe s
/-- a op= b, by values -/
abbrev TIp := V → V → Hp → VK → Prop
def PIp (X : Cx) (op : Operator) (t : TIp) : Prop :=
  ∀ (pins : List (Addr × Obj)) (s : Shared) (σ : St) (H : Hp) (x y : V) (v u : Value) (Q : VK), Inv X pins σ H s → RelV x v → RelV y u → t x y H Q →
    wpAny (model X.prog X.w) X.A (inplaceOp op v u) (EP X pins σ Q) X.xe s
section
variable {X : Cx} {pos : Pos}
def gName (i : Nat) : TG := fun v σ H Q => Q (σ.set i (some v)) H
theorem pg_name {i : Nat} {x : Str} (hN : X.N.Nodup) (hi : X.N[i]? = some x) (hx : Loc X.env.scope x) (hf : X.fn x = true ∨ X.env.scope.names.lookup x = some .local := by first | exact .inl rfl | exact .inr rfl | assumption) : PG X (.Name x pos) (gName i) := by
  intro pins s σ H v u Q I r h
  exact wpAny_assign_Name (store_ok I hN hi hx r (fun s' I' => ⟨_, H, I', h⟩) hf)
def gNil : TGs := fun vs σ H Q => vs = [] ∧ Q σ H
def gCons (t : TG) (u : TGs) : TGs := fun vs σ H Q => ∃ v r, vs = v :: r ∧ t v σ H fun σ' H' => u r σ' H' Q
theorem pgs_nil : PGs X [] gNil := by
  intro pins s σ H vs us Q I r h
  obtain ⟨e, h⟩ := h
  subst e
  cases r
  exact assignInOrder_nil ⟨σ, H, I, h⟩
theorem pgs_cons {e : Expr} {es : List Expr} {t : TG} {u : TGs} (h1 : PG X e t) (h2 : PGs X es u)
    (hs : (assignEach (e :: es) X.env).map (·.2) = assign e X.env :: (assignEach es X.env).map (·.2) := by rfl) : PGs X (e :: es) (gCons t u) := by
  intro pins s σ H vs us Q I r h
  obtain ⟨v, vr, e1, h⟩ := h
  subst e1
  cases r with
  | cons r rr =>
    rw [hs]
    refine assignInOrder_cons (thn (h1 pins s σ H _ _ _ I r h) fun _ s1 ⟨σ1, H1, I1, q1⟩ => ?_)
    exact h2 pins s1 σ1 H1 _ _ Q I1 rr q1
/-- (a, b, ..) = a tuple of that length -/
def gTup (K : PySem.W.Frag) (n : Nat) (t : TGs) : TG := fun v σ H Q => ∃ a xs, v = .ref a ∧ SqT K H a xs ∧ xs.length = n ∧ t xs σ H Q
theorem pg_tup {es : List Expr} {k : Nat} {t : TGs} {n : Nat} (hc : X.calm = true) (h : PGs X es t)
    (hn : (assignEach es X.env).length = n := by rfl) (hst : (assignEach es X.env).findIdx? (·.1) = none := by rfl) : PG X (.Tuple es k pos) (gTup X.K n t) := by
  intro pins s σ H v u Q I r hw
  obtain ⟨a, xs, e1, hq, hl, hw⟩ := hw
  subst e1
  cases r
  obtain ⟨its, rv, ht, hz⟩ := I.tuple hq
  refine assign_Tuple_tuple (I.ok.hd hc) ht (by simp [hn, ← hl, rv.length]) hst fun h' hx => ?_
  have I1 : Inv X pins σ H { s with heap := h' } := I.kept (t' := s.toks) fun b o e => hx b o (Nat.ne_of_lt (Heap.lt_size e)) e
  exact h pins _ σ H xs _ Q I1 (by simpa using rv) hw
/-- o[i] = .. -/
def gSub (to ti : TE) (t : TSet) : TG := fun v σ H Q => to σ H fun o H1 => ti σ H1 fun i H2 => t o i v H2 fun H3 => Q σ H3
theorem pg_sub {o i : Expr} {to ti : TE} {t : TSet} (ho : PE X o to) (hi : PE X i ti) (hs : PSet X t)
    (ha : ∀ v, assign (.Subscript o i pos) X.env v = (do
      let ov ← holding [v] (eval o X.env)
      let iv ← holding [v, ov] (eval i X.env)
      standAt pos
      holding [v, ov, iv] (setItem ov iv v)
      release [v, ov, iv] []) := by intro _; rfl) : PG X (.Subscript o i pos) (gSub to ti t) := by
  intro pins s σ H v u Q I r h
  rw [ha]
  refine wpAny_bind (wpAny_holding (thn (ho pins s σ H _ I h) fun ov s1 ⟨x, H1, I1, r1, q1⟩ => ?_))
  refine wpAny_bind (wpAny_holding (thn (hi pins s1 σ H1 _ I1 q1) fun iv s2 ⟨y, H2, I2, r2, q2⟩ => ?_))
  refine wpAny_bind (wpAny_standAt (wpAny_bind (wpAny_holding (thn (hs pins s2 σ H2 x y v ov iv u _ I2 r1 r2 r q2) fun _ s3 ⟨H3, I3, q3⟩ => ?_))))
  exact wpAny_release ⟨σ, H3, I3, q3⟩
/-- target = value -/
def tAsg (te : TE) (g : TG) : TS := fun D σ H => te σ H fun x H1 => g x σ H1 D.nx
theorem ps_asg {tg e : Expr} {te : TE} {g : TG} (he : PE X e te) (hg : PG X tg g) (hs : swapsWithSole [tg] e pos.line X.env = pure false := by rfl) (hw : swappedStores [tg] e X.env = pure none := by rfl)
    (h1 : (assignEach [tg] X.env).map (·.2) = [assign tg X.env] := by rfl) : PS X (.Assign [tg] e pos) (tAsg te g) := by
  intro pins s σ H D I h
  refine wpAny_Assign_stores (thn (he pins s σ H _ I h) fun v s1 ⟨x, H1, I1, r1, q1⟩ => ?_) hs hw
  rw [h1]
  exact thn (hg pins s1 σ H1 x v _ I1 r1 q1) fun _ s2 q => q
/-- name = value -/
theorem ps_set {i : Nat} {x : Str} {e : Expr} {te : TE} {pos' : Pos} (hN : X.N.Nodup) (hi : X.N[i]? = some x) (hx : Loc X.env.scope x) (he : PE X e te) (hs : swapsWith e (some (.Name x pos')) pos.line X.env = pure false := by rfl) (hf : X.fn x = true ∨ X.env.scope.names.lookup x = some .local := by first | exact .inl rfl | exact .inr rfl | assumption) :
    PS X (.Assign [.Name x pos'] e pos) (tAsg te (gName i)) := by
  intro pins s σ H D I h
  refine wpAny_Assign_Name (thn (he pins s σ H _ I h) fun v s1 ⟨y, H1, I1, r1, q1⟩ => ?_) hs
  exact store_ok I1 hN hi hx r1 (fun s2 I2 => ⟨_, H1, I2, q1⟩) hf
/-- a, b = x, y with plain local names: stored from the right; the pair itself is not tracked (the opening rows as in PyProof/Rows/TupAssign.lean:23) -/
def tPar (i j : Nat) (ta : TA) : TS := fun D σ H => ta σ H fun vs H1 => ∃ v w, vs = [v, w] ∧ D.nx ((σ.set i (some v)).set j (some w)) H1
theorem ps_par {i j : Nat} {x y : Str} {a b : Expr} {ta : TA} {px py pt : Pos} {kt k2 pt2} (hc : X.calm = true) (hN : X.N.Nodup) (hi : X.N[i]? = some x) (hj : X.N[j]? = some y) (hij : i ≠ j)
    (hx : X.env.scope.names.lookup x = some .local) (hy : X.env.scope.names.lookup y = some .local) (ha : PA X [a, b] ta)
    (hw : swappedStores [.Tuple [.Name x px, .Name y py] kt pt] (.Tuple [a, b] k2 pt2) X.env = pure (some [x, y]))
    (hs : swapsWithSole [.Tuple [.Name x px, .Name y py] kt pt] (.Tuple [a, b] k2 pt2) pos.line X.env = pure false := by rfl) :
    PS X (.Assign [.Tuple [.Name x px, .Name y py] kt pt] (.Tuple [a, b] k2 pt2) pos) (tPar i j ta) := by
  intro pins s σ H D I h
  rw [exec_Assign_arm]
  refine wpAny_bind (wpAny_standAt ?_)
  rw [hs]
  refine wpAny_bind (wpAny_pure ?_)
  rw [if_neg (by decide)]
  refine wpAny_bind (Tuple_ (thn (ha _ pins s σ H _ I h) fun us s1 ⟨vs, H1, I1, r1, q1⟩ => ?_))
  obtain ⟨v, w, e1, q1⟩ := q1
  subst e1
  obtain ⟨u1, u2, rfl, rv, rw'⟩ : ∃ u1 u2, us = [u1, u2] ∧ RelV v u1 ∧ RelV w u2 := by
    cases r1 with
    | cons p q =>
      cases q with
      | cons p' q' =>
        cases q'
        exact ⟨_, _, rfl, p, p'⟩
  refine wpAny_newObj_type ?_ (by show 2 ≤ sizeLine; decide)
  have I2 : Inv X pins σ H1 { s1 with heap := s1.heap.push { cls := .type "tuple", data := .seq [u1, u2].toArray } } := I1.kept (t' := s1.toks) fun b o e => Heap.get?_push_of_some _ e
  rw [hw]
  refine wpAny_bind (wpAny_pure ?_)
  show wpAny (model X.prog X.w) X.A (do rule "assign.swapped-stores"; let items ← unpackItems (.ref s1.heap.objs.size) 2 none; assignInOrder [fun v => bindName X.env y v, fun v => bindName X.env x v] items.reverse; pure Flow.next) _ _ _
  refine wpAny_bind (wpAny_rule (wpAny_bind (unpackItems_tuple (items := #[u1, u2]) (I.ok.hd hc) (IsTup.new s1.heap _) fun h' hx' => ?_)))
  have I3 := I2.kept (h' := h') (t' := s1.toks) fun b o e => hx' b o (Nat.ne_of_lt (Heap.lt_size e)) e
  show wpAny _ _ (assignInOrder [fun v => bindName X.env y v, fun v => bindName X.env x v] [u2, u1] >>= fun _ => pure Flow.next) _ _ _
  refine wpAny_bind (assignInOrder_cons (wpAny_bindName (store_ok I3 hN hj (.inl hy) rw' (fun s2 I4 => ?_) (.inr hy))))
  refine assignInOrder_cons (wpAny_bindName (store_ok I4 hN hi (.inl hx) rv (fun s3 I5 => assignInOrder_nil (wpAny_pure ?_)) (.inr hx)))
  rw [List.set_comm _ _ (Ne.symm hij)] at I5
  exact ⟨_, H1, I5, q1⟩
/-- name op= e -/
def tAug (i : Nat) (te : TE) (ti : TIp) : TS := fun D σ H => ∃ x, σ[i]? = some (some x) ∧ te σ H fun y H1 => ti x y H1 fun z H2 => D.nx (σ.set i (some z)) H2
theorem ps_aug {i : Nat} {x : Str} {e : Expr} {te : TE} {op : Operator} {ti : TIp} {pos' : Pos} (hN : X.N.Nodup) (hi : X.N[i]? = some x) (hx : Loc X.env.scope x) (he : PE X e te) (ho : PIp X op ti) (hf : X.fn x = true ∨ X.env.scope.names.lookup x = some .local := by first | exact .inl rfl | exact .inr rfl | assumption) :
    PS X (.AugAssign (.Name x pos') op e pos) (tAug i te ti) := by
  intro pins s σ H D I h
  obtain ⟨v, e1, h⟩ := h
  obtain ⟨m, hn, hl⟩ := I.loc
  have vis : Vis X.env.scope x := by rcases hx with k | k; exact .inl k; exact .inr (.inl k)
  obtain ⟨u, r, l⟩ := hl i x v hi e1 vis
  refine wpAny_AugAssign_Name ?_
  have go : wpAny (model X.prog X.w) X.A (eval e X.env) (fun w s₂ => wpAny (model X.prog X.w) X.A (inplaceOp op u w) (fun r s₃ => wpAny (model X.prog X.w) X.A (storeName X.env x r) (fun _ => SP X pins D .next) X.xe s₃) X.xe s₂) X.xe s := by
    refine thn (he pins s σ H _ I h) fun w s1 ⟨y, H1, I1, r1, q1⟩ => ?_
    refine thn (ho pins s1 σ H1 v y u w _ I1 r r1 q1) fun z s2 ⟨zv, H2, I2, r2, q2⟩ => ?_
    exact store_ok I2 hN hi hx r2 (fun s3 I3 => ⟨_, H2, I3, q2⟩) hf
  rcases l with ⟨hk, hm⟩ | ⟨hk, c, hc, hcell⟩
  · exact wpAny_loadName_local I.ok.kind hk hn hm go
  · rcases hk with hk | hk
    · exact wpAny_loadName_cell I.ok.kind hk hc hcell go
    · rcases hx with k | k
      · have : X.env.scope.names.lookup x = some .free := hk
        rw [k] at this; cases this
      · have : X.env.scope.names.lookup x = some .free := hk
        rw [k] at this; cases this
/-- o[i] op= e -/
def tAugS (to ti te : TE) (tget : V → V → Hp → VK → Prop) (tip : TIp) (tset : TSet) : TS := fun D σ H => to σ H fun o H1 => ti σ H1 fun i H2 => tget o i H2 fun x H3 => te σ H3 fun y H4 => tip x y H4 fun z H5 => tset o i z H5 fun H6 => D.nx σ H6
/-- o[i], by values -/
def PGet (X : Cx) (t : V → V → Hp → VK → Prop) : Prop :=
  ∀ (pins : List (Addr × Obj)) (s : Shared) (σ : St) (H : Hp) (o i : V) (ov iv : Value) (Q : VK), Inv X pins σ H s → RelV o ov → RelV i iv → t o i H Q →
    wpAny (model X.prog X.w) X.A (getItem ov iv) (EP X pins σ Q) X.xe s
theorem ps_augS {o i e : Expr} {to ti te : TE} {tget : V → V → Hp → VK → Prop} {tip : TIp} {tset : TSet} {op : Operator} {tpos : Pos} (ho : PE X o to) (hi : PE X i ti) (hg : PGet X tget) (he : PE X e te) (hp : PIp X op tip) (hs : PSet X tset)
    (ha : ∀ ov iv new, augStore i ov iv new = (do holding [new, ov, iv] (setItem ov iv new); release [new, ov, iv] []; pure .next) := by intros; rfl) : PS X (.AugAssign (.Subscript o i tpos) op e pos) (tAugS to ti te tget tip tset) := by
  intro pins s σ H D I h
  refine wpAny_AugAssign_SubscriptAny (thn (ho pins s σ H _ I h) fun ov s1 ⟨x1, H1, I1, r1, q1⟩ => ?_) ha
  refine thn (hi pins s1 σ H1 _ I1 q1) fun iv s2 ⟨x2, H2, I2, r2, q2⟩ => ?_
  refine thn (hg pins s2 σ H2 x1 x2 ov iv _ I2 r1 r2 q2) fun old s3 ⟨x3, H3, I3, r3, q3⟩ => ?_
  refine thn (he pins s3 σ H3 _ I3 q3) fun v s4 ⟨x4, H4, I4, r4, q4⟩ => ?_
  refine thn (hp pins s4 σ H4 x3 x4 old v _ I4 r3 r4 q4) fun new s5 ⟨x5, H5, I5, r5, q5⟩ => ?_
  exact thn (hs pins s5 σ H5 x1 x2 x5 ov iv new _ I5 r1 r2 r5 q5) fun _ s6 ⟨H6, I6, q6⟩ => ⟨σ, H6, I6, q6⟩
/-- ints -/
def ipI (f : Int → Int → Int) : TIp := fun x y H Q => ∃ i j, x = .int i ∧ y = .int j ∧ Q (.int (f i j)) H
theorem ip_add : PIp X .Add (ipI fun i j => i + j) := by
  intro pins s σ H x y v u Q I r1 r2 h
  obtain ⟨i, j, e1, e2, q⟩ := h
  subst e1; subst e2
  obtain ⟨t, rfl⟩ := r1
  obtain ⟨t', rfl⟩ := r2
  exact iadd_int ⟨.int _, H, I.tok _, ⟨_, rfl⟩, q⟩
theorem ip_sub : PIp X .Sub (ipI fun i j => i - j) := by
  intro pins s σ H x y v u Q I r1 r2 h
  obtain ⟨i, j, e1, e2, q⟩ := h
  subst e1; subst e2
  obtain ⟨t, rfl⟩ := r1
  obtain ⟨t', rfl⟩ := r2
  exact isub_int ⟨.int _, H, I.tok _, ⟨_, rfl⟩, q⟩
end

/-! ### while -/
section
variable {X : Cx} {pos : Pos}
/-- the invariant W with its measure -/
def tWhile (c : TT) (tb : TS) : TS := fun D σ H => ∃ W : Nat → St → Hp → Prop, (∃ m, W m σ H) ∧ ∀ m σ H, W m σ H →
  c σ H fun b H1 => if b = true then ∃ N : St → Hp → Prop, (∀ σ' H', N σ' H' → ∃ m', m' < m ∧ W m' σ' H') ∧ tb { D with nx := N, ct := N, bk := D.nx } σ H1 else D.nx σ H1
theorem ps_while {c : Expr} {body : List Stmt} {tc : TT} {tb : TS} (hp : PassesOwn (model X.prog X.w) X.A X.env X.xe) (hc : PT X c tc) (hb : PSs X body tb) : PS X (.While c body [] pos) (tWhile tc tb) := by
  intro pins s σ H D I h
  obtain ⟨W, ⟨m0, w0⟩, turn⟩ := h
  refine wpAny_While (codeAny_whileLoop (fun n s' => ∃ σ' H', Inv X pins σ' H' s' ∧ W n σ' H') ?_ m0 ⟨σ, H, I, w0⟩)
  rintro n s1 ⟨σ1, H1, I1, w1⟩
  refine wpAny_passesOwn hp (thn (hc pins s1 σ1 H1 _ I1 (turn n σ1 H1 w1)) fun b s2 ⟨H2, I2, q2⟩ => ?_)
  cases b with
  | true =>
    obtain ⟨N, hN, q2⟩ := q2
    rw [if_pos rfl]
    refine wpAny_passesOwn hp (thn (hb pins s2 σ1 H2 _ I2 q2) fun f s3 q3 => ?_)
    cases f with
    | next =>
      obtain ⟨σ3, H3, I3, n3⟩ := q3
      obtain ⟨m', hm, w3⟩ := hN σ3 H3 n3
      exact ⟨m', hm, σ3, H3, I3, w3⟩
    | cont =>
      obtain ⟨σ3, H3, I3, n3⟩ := q3
      obtain ⟨m', hm, w3⟩ := hN σ3 H3 n3
      exact ⟨m', hm, σ3, H3, I3, w3⟩
    | brk => exact q3
    | ret v => exact q3
  | false =>
    rw [if_neg Bool.false_ne_true]
    exact wpAny_execs_nil ⟨σ1, H2, I2, q2⟩
end

/-! ### what a loop or a comprehension walks -/
/-- at turn i: it yields x (the heap may grow), or it stops -/
structure It where
  go : Nat → Hp → Prop
  yld : Nat → Hp → V → Hp → Prop
  stop : Nat → Hp → Prop
/-- the iterator's own objects may turn: they are not the frame's, not pinned, younger than the entry (or a comprehension's own) -/
def FpOk (X : Cx) (pins : List (Addr × Obj)) (H : Hp) (b : Addr) : Prop :=
  H b = none ∧ b ≠ X.env.locals ∧ b ∉ X.fs ∧ (b ∈ X.ex ∨ X.s₀.heap.objs.size ≤ b) ∧ (∀ x c, X.env.cells.lookup x = some c → c ≠ b) ∧ ∀ p ∈ X.pn ++ pins, p.1 ≠ b
theorem Inv.fpOk {X : Cx} {pins : List (Addr × Obj)} {σ : St} {H H' : Hp} {s : Shared} {b : Addr} (I : Inv X pins σ H s) (hb : s.heap.objs.size ≤ b) (hn : H' b = none) : FpOk X pins H' b := by
  refine ⟨hn, Nat.ne_of_gt (Nat.lt_of_lt_of_le I.lt hb), I.nofs hb, .inr (Nat.le_trans I.sz hb), fun x c e z => ?_, fun p hp z => ?_⟩
  · obtain ⟨v, q⟩ := I.cell x c e
    exact absurd (Nat.lt_of_lt_of_le q.lt (by rw [z]; exact hb)) (Nat.lt_irrefl _)
  · exact absurd (Nat.lt_of_lt_of_le (Heap.lt_size (I.pin p hp).1) (by rw [z]; exact hb)) (Nat.lt_irrefl _)
structure Turn (P : Program) (w : World) (K : PySem.W.Frag) (tg : Expr) (J : It) (fp : List Addr) (it : Addr) (tn : Nat → Heap → Prop) : Prop where
  mem : it ∈ fp
  obj : ∀ i h, tn i h → ∀ b ∈ fp, ∃ o, h.get? b = some o ∧ ∀ v, o.data ≠ .cell v
  keep : ∀ i h h', tn i h → (∀ b ∈ fp, ∀ o, h.get? b = some o → h'.get? b = some o) → tn i h'
  item : ∀ (X : Cx), X.prog = P → X.w = w → X.K = K → X.calm = true → ∀ (i : Nat) (pins : List (Addr × Obj)) (s : Shared) (σ : St) (H : Hp) (E : Value → Shared → Prop), Inv X pins σ H s → (∀ b ∈ fp, FpOk X pins H b) → tn i s.heap → J.go i H →
    wpAny (model P w) X.A (pyNext (.ref it)) (fun r s1 => ∃ u, r = some u ∧
      wpAny (model P w) X.A (letOwnedTupleGo tg (.ref it) u) (fun _ s2 => ∃ x H', Inv X pins σ H' s2 ∧ RelV x u ∧ J.yld i H x H' ∧ tn (i + 1) s2.heap ∧ ∀ b ∈ fp, H' b = none) E s1) E s
  done : ∀ (X : Cx), X.prog = P → X.w = w → X.K = K → X.calm = true → ∀ (i : Nat) (pins : List (Addr × Obj)) (s : Shared) (σ : St) (H : Hp) (E : Value → Shared → Prop), Inv X pins σ H s → (∀ b ∈ fp, FpOk X pins H b) → tn i s.heap → J.stop i H →
    wpAny (model P w) X.A (pyNext (.ref it)) (fun r s1 => r = none ∧ Inv X pins σ H s1) E s
  self : ∀ (A : Around) (i : Nat) (s : Shared) (Q : Value → Shared → Prop) (E : Value → Shared → Prop), tn i s.heap → Q (.ref it) s → wpAny (model P w) A (pyIter (.ref it)) Q E s
abbrev TI := St → Hp → (It → Hp → Prop) → Prop
/-- an iterator has come -/
def PIE (X : Cx) (pins : List (Addr × Obj)) (σ : St) (tg : Expr) (R : It → Hp → Prop) (itv : Value) (s2 : Shared) : Prop :=
  ∃ (it : Addr) (fp : List Addr) (tn : Nat → Heap → Prop) (J : It) (H' : Hp), itv = .ref it ∧ Inv X pins σ H' s2 ∧ Turn X.prog X.w X.K tg J fp it tn ∧ tn 0 s2.heap ∧ (∀ b ∈ fp, FpOk X pins H' b) ∧ R J H'
def PI (X : Cx) (tg iter : Expr) (wi : TI) : Prop :=
  ∀ (pins : List (Addr × Obj)) (s : Shared) (σ : St) (H : Hp) (R : It → Hp → Prop), Inv X pins σ H s → wi σ H R →
    wpAny (model X.prog X.w) X.A (eval iter X.env) (fun v s1 => wpAny (model X.prog X.w) X.A (pyIter v) (PIE X pins σ tg R) X.xe s1) X.xe s

/-- the step ahead of the store is nothing for an iterator that keeps no tuple -/
theorem go_of {M : Model} {A : Around} {E : Value → Shared → Prop} {s : Shared} {tg : Expr} {it : Addr} {u : Value} {o : Obj} {n : String} {vs : Array Value} {Q : Unit → Shared → Prop} (ho : s.heap.get? it = some o) (hc : o.cls = .type n) (hd : o.data = .fields vs)
    (hn : ["enumerate", "zip", "dict_itemiterator", "dict_reverseitemiterator", "odict_iterator", "itertools.zip_longest", "itertools.pairwise"].contains n = false) (hQ : Q () s) : wpAny M A (letOwnedTupleGo tg (.ref it) u) Q E s := by
  unfold letOwnedTupleGo
  cases tg <;> first
    | exact wpAny_pure hQ
    | (cases u <;> first
        | exact wpAny_pure hQ
        | (refine wpAny_bind (wpAny_load ho ?_)
           rw [hc, hd]
           show wpAny M A (if (["enumerate", "zip", "dict_itemiterator", "dict_reverseitemiterator", "odict_iterator", "itertools.zip_longest", "itertools.pairwise"].contains n && vs[0]? == some (rawInt _)) = true then _ else _) Q E s
           rw [if_neg (by intro h; rw [hn, Bool.false_and] at h; cases h)]
           exact wpAny_pure hQ))

/-- the list at a, as it stands at each turn (a loop may append to it) -/
def Itl (K : PySem.W.Frag) (a : Addr) : It :=
  ⟨fun i H => ∃ xs x, SqL K H a xs ∧ xs[i]? = some x, fun i H x H' => H' = H ∧ ∀ xs, SqL K H a xs → xs[i]? = some x, fun i H => ∃ xs, SqL K H a xs ∧ xs.length ≤ i⟩
def Itt (K : PySem.W.Frag) (a : Addr) : It :=
  ⟨fun i H => ∃ xs x, SqT K H a xs ∧ xs[i]? = some x, fun i H x H' => H' = H ∧ ∀ xs, SqT K H a xs → xs[i]? = some x, fun i H => ∃ xs, SqT K H a xs ∧ xs.length ≤ i⟩
/-- lo, lo + 1, .. (n of them) -/
def Itr (lo : Int) (n : Nat) : It := ⟨fun i _ => i < n, fun i H x H' => H' = H ∧ x = .int (lo + i), fun i _ => n ≤ i⟩
theorem turn_list {P : Program} {w : World} {K : PySem.W.Frag} {tg : Expr} (a it : Addr) : Turn P w K tg (Itl K a) [it] it (fun i h => h.IsListIter it a i) where
  mem := by simp
  obj := fun i h st b hb => by
    have e : b = it := by simpa using hb
    subst e
    obtain ⟨o, e, c, d⟩ := st
    exact ⟨o, e, fun v z => by rw [d] at z; cases z⟩
  keep := fun i h h' st k => st.at fun o e => k it (by simp) o e
  item := by
    intro X hP hw hK hc i pins s σ H E I hf st hg
    subst hP hw hK
    obtain ⟨xs, x, hq, hx⟩ := hg
    obtain ⟨its, rv, p, hz⟩ := I.list hq
    obtain ⟨u, hu, ru⟩ := rv.get hx
    obtain ⟨f0, f1, f2, f3, f4, f5⟩ := hf it (by simp)
    refine wpAny_pyNext_list_item st p.isList (x := u) (by simpa using hu) fun h' st' sb => ?_
    have I1 : Inv X pins σ H { s with heap := h' } := I.turned (t' := s.toks) (fun b o hb e => (sb.2 b hb).trans e) f0 f1 f3 f4 f5
    obtain ⟨o, e, c, d⟩ := id st'
    exact ⟨u, rfl, go_of (s := { s with heap := h' }) e c d (by decide) ⟨x, H, I1, ru, ⟨rfl, fun ys hy => by rw [I.list_inj hy hq]; exact hx⟩, st', fun b hb => (hf b hb).1⟩⟩
  done := by
    intro X hP hw hK hc i pins s σ H E I hf st hg
    subst hP hw hK
    obtain ⟨xs, hq, hx⟩ := hg
    obtain ⟨its, rv, p, hz⟩ := I.list hq
    obtain ⟨f0, f1, f2, f3, f4, f5⟩ := hf it (by simp)
    have hl := rv.length
    exact wpAny_pyNext_list_end (I.ok.hd hc) st p.isList (by simp; omega) fun h' eb => ⟨rfl, I.turned (t' := s.toks) (fun b o hb e => eb b o hb e) f0 f1 f3 f4 f5⟩
  self := fun _ _ _ _ _ st h => wpAny_pyIter_listiter st h
theorem turn_tuple {P : Program} {w : World} {K : PySem.W.Frag} {tg : Expr} (a it : Addr) : Turn P w K tg (Itt K a) [it] it (fun i h => h.IsTupleIter it a i) where
  mem := by simp
  obj := fun i h st b hb => by
    have e : b = it := by simpa using hb
    subst e
    obtain ⟨o, e, c, d⟩ := st
    exact ⟨o, e, fun v z => by rw [d] at z; cases z⟩
  keep := fun i h h' st k => st.at fun o e => k it (by simp) o e
  item := by
    intro X hP hw hK hc i pins s σ H E I hf st hg
    subst hP hw hK
    obtain ⟨xs, x, hq, hx⟩ := hg
    obtain ⟨its, rv, p, hz⟩ := I.tuple hq
    obtain ⟨u, hu, ru⟩ := rv.get hx
    obtain ⟨f0, f1, f2, f3, f4, f5⟩ := hf it (by simp)
    refine wpAny_pyNext_tuple_item st (show s.heap.IsTuple a its.toArray from p) (x := u) (by simpa using hu) fun h' st' sb => ?_
    have I1 : Inv X pins σ H { s with heap := h' } := I.turned (t' := s.toks) (fun b o hb e => (sb.2 b hb).trans e) f0 f1 f3 f4 f5
    obtain ⟨o, e, c, d⟩ := id st'
    exact ⟨u, rfl, go_of (s := { s with heap := h' }) e c d (by decide) ⟨x, H, I1, ru, ⟨rfl, fun ys hy => by rw [I.tuple_inj hy hq]; exact hx⟩, st', fun b hb => (hf b hb).1⟩⟩
  done := by
    intro X hP hw hK hc i pins s σ H E I hf st hg
    subst hP hw hK
    obtain ⟨xs, hq, hx⟩ := hg
    obtain ⟨its, rv, p, hz⟩ := I.tuple hq
    obtain ⟨f0, f1, f2, f3, f4, f5⟩ := hf it (by simp)
    have hl := rv.length
    exact wpAny_pyNext_tuple_end (I.ok.hd hc) st (show s.heap.IsTuple a its.toArray from p) (by simp; omega) fun h' eb => ⟨rfl, I.turned (t' := s.toks) (fun b o hb e => eb b o hb e) f0 f1 f3 f4 f5⟩
  self := fun _ _ _ _ _ st h => wpAny_pyIter_tupleiter st h
theorem turn_range {P : Program} {w : World} {K : PySem.W.Frag} {tg : Expr} (it : Addr) (lo : Int) (n : Nat) : Turn P w K tg (Itr lo n) [it] it (fun i h => IsRangeIter h it (lo + (i : Nat) * 1) ((n : Int) - (i : Nat)) 1) where
  mem := by simp
  obj := fun i h st b hb => by
    have e : b = it := by simpa using hb
    subst e
    exact ⟨_, st, fun v z => by
      have z' : Data.fields _ = Data.cell v := z
      cases z'⟩
  keep := fun i h h' st k => k it (by simp) _ st
  item := by
    intro X hP hw hK hc i pins s σ H E I hf st hg
    subst hP hw hK
    obtain ⟨f0, f1, f2, f3, f4, f5⟩ := hf it (by simp)
    have W := Walks.range (prog := X.prog) (w := X.w) (I.ok.hd hc) it lo 1 n
    refine W.item i s _ _ hg st fun v h' tk hv st' kk => ?_
    obtain ⟨t, rfl⟩ := hv
    have I1 : Inv X pins σ H { s with heap := h', toks := tk } := I.turned (fun b o hb e => kk b o (by simpa using hb) e) f0 f1 f3 f4 f5
    refine ⟨_, rfl, go_of (s := { s with heap := h', toks := tk }) (n := "range_iterator") st' rfl rfl (by decide) ⟨.int (lo + i), H, I1, ⟨t, ?_⟩, ⟨rfl, rfl⟩, st', fun b hb => (hf b hb).1⟩⟩
    rw [Int.mul_one]
  done := by
    intro X hP hw hK hc i pins s σ H E I hf st hg
    subst hP hw hK
    obtain ⟨f0, f1, f2, f3, f4, f5⟩ := hf it (by simp)
    exact wpAny_pyNext_range_end (I.ok.hd hc) st (by have : n ≤ i := hg; omega) fun h' eb => ⟨rfl, I.turned (t' := s.toks) (fun b o hb e => eb b o hb e) f0 f1 f3 f4 f5⟩
  self := fun _ _ _ _ _ st h => wpAny_pyIter_rangeiter st h
end L2

namespace L2
open PySem PySem.Spec PyProof.Rows
section
variable {X : Cx} {tg : Expr}
def iList (K : PySem.W.Frag) (tl : TE) : TI := fun σ H R => tl σ H fun x H1 => ∃ a, x = .ref a ∧ (∃ xs, SqL K H1 a xs) ∧ R (Itl K a) H1
def iTup (K : PySem.W.Frag) (tl : TE) : TI := fun σ H R => tl σ H fun x H1 => ∃ a, x = .ref a ∧ (∃ xs, SqT K H1 a xs) ∧ R (Itt K a) H1
theorem pi_list {l : Expr} {tl : TE} (hl : PE X l tl) : PI X tg l (iList X.K tl) := by
  intro pins s σ H R I h
  refine thn (hl pins s σ H _ I h) fun v s1 ⟨x, H1, I1, r1, q1⟩ => ?_
  obtain ⟨a, e, ⟨xs, hq⟩, q⟩ := q1
  subst e
  cases r1
  obtain ⟨its, rv, p, hz⟩ := I1.list hq
  refine wpAny_pyIter_list p.isList ?_
  refine ⟨s1.heap.objs.size, [s1.heap.objs.size], _, _, H1, rfl, I1.kept (t' := s1.toks) fun b o e => Heap.get?_push_of_some _ e, turn_list a _, ⟨_, Heap.get?_push_size _ rfl, rfl, rfl⟩, fun b hb => ?_, q⟩
  have e : b = s1.heap.objs.size := by simpa using hb
  subst e
  exact I1.fpOk (Nat.le_refl _) (I1.hok.fresh (Nat.le_refl _))
theorem pi_tup {l : Expr} {tl : TE} (hl : PE X l tl) : PI X tg l (iTup X.K tl) := by
  intro pins s σ H R I h
  refine thn (hl pins s σ H _ I h) fun v s1 ⟨x, H1, I1, r1, q1⟩ => ?_
  obtain ⟨a, e, ⟨xs, hq⟩, q⟩ := q1
  subst e
  cases r1
  obtain ⟨its, rv, p, hz⟩ := I1.tuple hq
  refine wpAny_pyIter_tuple (show s1.heap.IsTuple a its.toArray from p) ?_
  refine ⟨s1.heap.objs.size, [s1.heap.objs.size], _, _, H1, rfl, I1.kept (t' := s1.toks) fun b o e => Heap.get?_push_of_some _ e, turn_tuple a _, ⟨_, Heap.get?_push_size _ rfl, rfl, rfl⟩, fun b hb => ?_, q⟩
  have e : b = s1.heap.objs.size := by simpa using hb
  subst e
  exact I1.fpOk (Nat.le_refl _) (I1.hok.fresh (Nat.le_refl _))
/-- a range object just made, walked -/
theorem range_it {pins : List (Addr × Obj)} {σ : St} {H : Hp} {s : Shared} {R : It → Hp → Prop} {E : Value → Shared → Prop} {lo hi : Int} {t u v : Tok} {tk : Nat} (I : Inv X pins σ H s) (h1 : -(2 ^ 62) ≤ lo) (h2 : lo < 2 ^ 62) (h3 : -(2 ^ 62) ≤ hi) (h4 : hi < 2 ^ 62)
    (q : R (Itr lo (hi - lo).toNat) H) : wpAny (model X.prog X.w) X.A (pyIter (.ref s.heap.objs.size)) (PIE X pins σ tg R) E { s with heap := s.heap.push { cls := .type "range", data := .fields #[.int lo t, .int hi u, .int 1 v] }, toks := tk } := by
  refine wpAny_pyIter_range (IsRange.new ..) (small_one h1 h2 h3 h4) ?_
  have I1 : Inv X pins σ H { s with heap := s.heap.push { cls := .type "range", data := .fields #[.int lo t, .int hi u, .int 1 v] }, toks := tk } := I.kept fun b o e => Heap.get?_push_of_some _ e
  refine ⟨(s.heap.push { cls := .type "range", data := .fields #[.int lo t, .int hi u, .int 1 v] }).objs.size, [(s.heap.push { cls := .type "range", data := .fields #[.int lo t, .int hi u, .int 1 v] }).objs.size], _, _, H, rfl,
    I1.kept (t' := tk) fun b o e => Heap.get?_push_of_some _ e, turn_range _ lo (hi - lo).toNat, ?_, fun b hb => ?_, q⟩
  · have e1 : lo + ((0 : Nat) : Int) * 1 = lo := by simp
    have e2 : (((hi - lo).toNat : Nat) : Int) - ((0 : Nat) : Int) = Builtin.Range.rangeSize lo hi 1 := by rw [rangeSize_one]; split <;> omega
    show IsRangeIter _ _ (lo + ((0 : Nat) : Int) * 1) ((((hi - lo).toNat : Nat) : Int) - ((0 : Nat) : Int)) 1
    rw [e1, e2]
    exact Heap.get?_push_size _ rfl
  · have e : b = (s.heap.push { cls := .type "range", data := .fields #[.int lo t, .int hi u, .int 1 v] }).objs.size := by simpa using hb
    subst e
    exact I1.fpOk (Nat.le_refl _) (I1.hok.fresh (Nat.le_refl _))
def iRng1 (ta : TA) : TI := fun σ H R => ta σ H fun vs H1 => ∃ j : Int, vs = [.int j] ∧ -(2 ^ 62) ≤ j ∧ j < 2 ^ 62 ∧ R (Itr 0 j.toNat) H1
def iRng2 (ta : TA) : TI := fun σ H R => ta σ H fun vs H1 => ∃ i j : Int, vs = [.int i, .int j] ∧ (-(2 ^ 62) ≤ i ∧ i < 2 ^ 62 ∧ -(2 ^ 62) ≤ j ∧ j < 2 ^ 62) ∧ R (Itr i (j - i).toNat) H1
theorem pi_range1 {a : Expr} {ta : TA} {p pos : Pos} (hg : Gl X "range") (hm : X.mg "range" = none) (ha : PA X [a] ta) (hs : starEach [a] X.env = [(false, eval a X.env)] := by rfl) : PI X tg (.Call (.Name "range" p) [a] [] pos) (iRng1 ta) := by
  intro pins s σ H R I h
  refine Call_ (ld_blt I hg hm boot_range (PyProof.Rows.callWith_type1 (thn (ha pos pins s σ H _ I h) fun us s1 ⟨vs, H1, I1, r1, q1⟩ => ?_) hs rfl))
  obtain ⟨j, e, q1, q2, q⟩ := q1
  subst e
  cases r1 with
  | cons r rr =>
    cases rr
    obtain ⟨t, rfl⟩ := r
    exact call_range_1 (range_it I1 (by omega) (by omega) q1 q2 (by simpa using q))
theorem pi_range2 {a b : Expr} {ta : TA} {p pos : Pos} (hg : Gl X "range") (hm : X.mg "range" = none) (ha : PA X [a, b] ta) (hs : starEach [a, b] X.env = [(false, eval a X.env), (false, eval b X.env)] := by rfl) (hs2 : starEach [b] X.env = [(false, eval b X.env)] := by rfl) :
    PI X tg (.Call (.Name "range" p) [a, b] [] pos) (iRng2 ta) := by
  intro pins s σ H R I h
  refine Call_ (ld_blt I hg hm boot_range (PyProof.Rows.callWith_type1 (thn (ha pos pins s σ H _ I h) fun us s1 ⟨vs, H1, I1, r1, q1⟩ => ?_) (by rw [hs, hs2]) (by rw [hs2]; rfl)))
  obtain ⟨i, j, e, ⟨q1, q2, q3, q4⟩, q⟩ := q1
  subst e
  cases r1 with
  | cons r rr =>
    cases rr with
    | cons r' rr =>
      cases rr
      obtain ⟨t, rfl⟩ := r
      obtain ⟨t', rfl⟩ := r'
      exact call_range_2 (range_it I1 q1 q2 q3 q4 q)

/-! ### for -/
/-- W: the invariant by the turn and a measure; N: what the body is to reach -/
def tFor (wi : TI) (g : TG) (tb : TS) : TS := fun D σ H => wi σ H fun J H1 => ∃ W : Nat → Nat → St → Hp → Prop, (∃ m, W 0 m σ H1) ∧ ∀ i m σ H, W i m σ H →
  (J.stop i H ∧ D.nx σ H) ∨ (J.go i H ∧ ∃ N : St → Hp → Prop, (∀ σ' H', N σ' H' → ∃ m', m' < m ∧ W (i + 1) m' σ' H') ∧ ∀ x H', J.yld i H x H' → g x σ H' fun σ2 H2 => tb { D with nx := N, ct := N, bk := D.nx } σ2 H2)
/-- the records at fp as they stand -/
def pinsAt (fp : List Addr) (h : Heap) : List (Addr × Obj) := fp.filterMap fun b => (h.get? b).map fun o => (b, o)
theorem mem_pinsAt {fp : List Addr} {h : Heap} {b : Addr} {o : Obj} (hb : b ∈ fp) (e : h.get? b = some o) : (b, o) ∈ pinsAt fp h := List.mem_filterMap.mpr ⟨b, hb, by rw [e]; rfl⟩
theorem of_pinsAt {fp : List Addr} {h : Heap} {p : Addr × Obj} (hp : p ∈ pinsAt fp h) : p.1 ∈ fp ∧ h.get? p.1 = some p.2 := by
  obtain ⟨b, hb, e⟩ := List.mem_filterMap.mp hp
  cases q : h.get? b with
  | none => rw [q] at e; cases e
  | some o =>
    rw [q] at e
    have e' : (b, o) = p := Option.some.inj e
    subst e'
    exact ⟨hb, q⟩
theorem Inv.pinned {pins : List (Addr × Obj)} {σ : St} {H : Hp} {s : Shared} {fp : List Addr} (I : Inv X pins σ H s) (hf : ∀ b ∈ fp, FpOk X pins H b) (ho : ∀ b ∈ fp, ∃ o, s.heap.get? b = some o ∧ ∀ v, o.data ≠ .cell v) : Inv X (pins ++ pinsAt fp s.heap) σ H s :=
  I.pins_of fun p hp => (List.mem_append.mp hp).elim (fun z => I.pin p (List.mem_append_right _ z)) fun z => by
    obtain ⟨hb, e⟩ := of_pinsAt z
    obtain ⟨f0, f1, f2, _⟩ := hf p.1 hb
    obtain ⟨o, e', d⟩ := ho p.1 hb
    rw [e] at e'; cases e'
    exact ⟨e, f0, f1, f2, d⟩
theorem Inv.unpinned {pins pl : List (Addr × Obj)} {σ : St} {H : Hp} {s : Shared} (I : Inv X (pins ++ pl) σ H s) : Inv X pins σ H s := I.pins_of fun p hp => I.pin p (List.mem_append_right _ (List.mem_append_left _ hp))
theorem ps_for {iter : Expr} {body : List Stmt} {wi : TI} {g : TG} {tb : TS} {pos : Pos} (hp : PassesOwn (model X.prog X.w) X.A X.env X.xe) (hc : X.calm = true) (hi : PI X tg iter wi) (hg : PG X tg g) (hb : PSs X body tb)
    (hs : ∀ x, foldedSetIterable iter X.env x = pure x := by intro _; rfl) : PS X (.For tg iter body [] pos) (tFor wi g tb) := by
  intro pins s σ H D I h
  refine wpAny_For (thn (hi pins s σ H _ I h) fun v s1 h1 => thn h1 fun itv s2 h2 => ?_) hs
  obtain ⟨it, fp, tn, J, H2, e, I2, T, st2, f2, W, ⟨m0, w0⟩, turn⟩ := h2
  subst e
  -- what stays true of the iterator's objects through the loop
  have stat : ∀ {H' : Hp}, (∀ b ∈ fp, H' b = none) → ∀ b ∈ fp, FpOk X pins H' b := fun hn b hb => ⟨hn b hb, (f2 b hb).2⟩
  refine codeAny_forLoop_any (fun n s' => ∃ i σ' H', Inv X pins σ' H' s' ∧ tn i s'.heap ∧ (∀ b ∈ fp, H' b = none) ∧ W i n σ' H') ?_ m0 ⟨0, σ, H2, I2, st2, fun b hb => (f2 b hb).1, w0⟩
  rintro n s3 ⟨i, σ3, H3, I3, st3, fr3, w3⟩
  rcases turn i n σ3 H3 w3 with ⟨stop, qn⟩ | ⟨go, N, hN, step⟩
  · refine wpAny_passesOwn hp (thn (T.done X rfl rfl rfl hc i pins s3 σ3 H3 X.xe I3 (stat fr3) st3 stop) fun r s4 ⟨hr, I4⟩ => ?_)
    subst hr
    exact wpAny_execs_nil ⟨σ3, H3, I4, qn⟩
  · refine wpAny_passesOwn hp (thn (T.item X rfl rfl rfl hc i pins s3 σ3 H3 X.xe I3 (stat fr3) st3 go) fun r s4 ⟨u, hr, h4⟩ => ?_)
    subst hr
    refine wpAny_passesOwn hp (thn h4 fun _ s5 ⟨x, H5, I5, r5, y5, st5, fr5⟩ => ?_)
    have I5' := I5.pinned (stat fr5) (T.obj _ _ st5)
    refine wpAny_passesOwn hp (thn (hg _ s5 σ3 H5 x u _ I5' r5 (step x H5 y5)) fun _ s6 ⟨σ6, H6, I6, q6⟩ => ?_)
    refine wpAny_passesOwn hp (thn (hb _ s6 σ6 H6 _ I6 q6) fun f s7 q7 => ?_)
    have again : ∀ {σ7 : St} {H7 : Hp}, Inv X (pins ++ pinsAt fp s5.heap) σ7 H7 s7 → N σ7 H7 → ∃ m, m < n ∧ ∃ i σ' H', Inv X pins σ' H' s7 ∧ tn i s7.heap ∧ (∀ b ∈ fp, H' b = none) ∧ W i m σ' H' := fun {σ7 H7} I7 n7 => by
      obtain ⟨m', hm, w7⟩ := hN σ7 H7 n7
      refine ⟨m', hm, i + 1, σ7, H7, I7.unpinned, T.keep _ _ _ st5 fun b hb o e => (I7.pin (b, o) (List.mem_append_right _ (List.mem_append_right _ (mem_pinsAt hb e)))).1, fun b hb => ?_, w7⟩
      obtain ⟨o, e, d⟩ := T.obj _ _ st5 b hb
      exact (I7.pin (b, o) (List.mem_append_right _ (List.mem_append_right _ (mem_pinsAt hb e)))).2.1
    cases f with
    | next => obtain ⟨σ7, H7, I7, n7⟩ := q7; exact again I7 n7
    | cont => obtain ⟨σ7, H7, I7, n7⟩ := q7; exact again I7 n7
    | brk => obtain ⟨σ7, H7, I7, q7⟩ := q7; exact ⟨σ7, H7, I7.unpinned, q7⟩
    | ret v => obtain ⟨x7, σ7, H7, I7, r7, q7⟩ := q7; exact ⟨x7, σ7, H7, I7.unpinned, r7, q7⟩
end

/-! ### the forms one uses -/
/-- over a list that the body leaves as it is -/
theorem for_list {K : PySem.W.Frag} {a : Addr} {xs : List V} {g : TG} {tb : TS} {D : Ends} {σ : St} {H : Hp} (Pv : Nat → St → Hp → Prop) (h0 : Pv 0 σ H) (hl : ∀ i σ H, i ≤ xs.length → Pv i σ H → SqL K H a xs)
    (hs : ∀ i x σ H, xs[i]? = some x → Pv i σ H → g x σ H fun σ2 H2 => tb { D with nx := Pv (i + 1), ct := Pv (i + 1), bk := D.nx } σ2 H2) (hd : ∀ σ H, Pv xs.length σ H → D.nx σ H) :
    ∃ W : Nat → Nat → St → Hp → Prop, (∃ m, W 0 m σ H) ∧ ∀ i m σ H, W i m σ H →
      ((Itl K a).stop i H ∧ D.nx σ H) ∨ ((Itl K a).go i H ∧ ∃ N : St → Hp → Prop, (∀ σ' H', N σ' H' → ∃ m', m' < m ∧ W (i + 1) m' σ' H') ∧ ∀ x H', (Itl K a).yld i H x H' → g x σ H' fun σ2 H2 => tb { D with nx := N, ct := N, bk := D.nx } σ2 H2) := by
  refine ⟨fun i m σ H => m = xs.length - i ∧ i ≤ xs.length ∧ Pv i σ H, ⟨xs.length, by simp, Nat.zero_le _, h0⟩, ?_⟩
  rintro i m σ H ⟨rfl, hi, p⟩
  have q := hl i σ H hi p
  by_cases hlt : i < xs.length
  · refine .inr ⟨⟨xs, xs[i], q, by simp [hlt]⟩, Pv (i + 1), fun σ' H' p' => ⟨xs.length - (i + 1), by omega, rfl, hlt, p'⟩, fun x H' y => ?_⟩
    obtain ⟨e, y⟩ := y
    subst e
    exact hs i x σ _ (y xs q) p
  · have e : i = xs.length := by omega
    subst e
    exact .inl ⟨⟨xs, q, Nat.le_refl _⟩, hd σ H p⟩
theorem for_tup {K : PySem.W.Frag} {a : Addr} {xs : List V} {g : TG} {tb : TS} {D : Ends} {σ : St} {H : Hp} (Pv : Nat → St → Hp → Prop) (h0 : Pv 0 σ H) (hl : ∀ i σ H, i ≤ xs.length → Pv i σ H → SqT K H a xs)
    (hs : ∀ i x σ H, xs[i]? = some x → Pv i σ H → g x σ H fun σ2 H2 => tb { D with nx := Pv (i + 1), ct := Pv (i + 1), bk := D.nx } σ2 H2) (hd : ∀ σ H, Pv xs.length σ H → D.nx σ H) :
    ∃ W : Nat → Nat → St → Hp → Prop, (∃ m, W 0 m σ H) ∧ ∀ i m σ H, W i m σ H →
      ((Itt K a).stop i H ∧ D.nx σ H) ∨ ((Itt K a).go i H ∧ ∃ N : St → Hp → Prop, (∀ σ' H', N σ' H' → ∃ m', m' < m ∧ W (i + 1) m' σ' H') ∧ ∀ x H', (Itt K a).yld i H x H' → g x σ H' fun σ2 H2 => tb { D with nx := N, ct := N, bk := D.nx } σ2 H2) := by
  refine ⟨fun i m σ H => m = xs.length - i ∧ i ≤ xs.length ∧ Pv i σ H, ⟨xs.length, by simp, Nat.zero_le _, h0⟩, ?_⟩
  rintro i m σ H ⟨rfl, hi, p⟩
  have q := hl i σ H hi p
  by_cases hlt : i < xs.length
  · refine .inr ⟨⟨xs, xs[i], q, by simp [hlt]⟩, Pv (i + 1), fun σ' H' p' => ⟨xs.length - (i + 1), by omega, rfl, hlt, p'⟩, fun x H' y => ?_⟩
    obtain ⟨e, y⟩ := y
    subst e
    exact hs i x σ _ (y xs q) p
  · have e : i = xs.length := by omega
    subst e
    exact .inl ⟨⟨xs, q, Nat.le_refl _⟩, hd σ H p⟩
theorem for_range {lo : Int} {n : Nat} {g : TG} {tb : TS} {D : Ends} {σ : St} {H : Hp} (Pv : Nat → St → Hp → Prop) (h0 : Pv 0 σ H)
    (hs : ∀ i σ H, i < n → Pv i σ H → g (.int (lo + i)) σ H fun σ2 H2 => tb { D with nx := Pv (i + 1), ct := Pv (i + 1), bk := D.nx } σ2 H2) (hd : ∀ σ H, Pv n σ H → D.nx σ H) :
    ∃ W : Nat → Nat → St → Hp → Prop, (∃ m, W 0 m σ H) ∧ ∀ i m σ H, W i m σ H →
      ((Itr lo n).stop i H ∧ D.nx σ H) ∨ ((Itr lo n).go i H ∧ ∃ N : St → Hp → Prop, (∀ σ' H', N σ' H' → ∃ m', m' < m ∧ W (i + 1) m' σ' H') ∧ ∀ x H', (Itr lo n).yld i H x H' → g x σ H' fun σ2 H2 => tb { D with nx := N, ct := N, bk := D.nx } σ2 H2) := by
  refine ⟨fun i m σ H => m = n - i ∧ i ≤ n ∧ Pv i σ H, ⟨n, by simp, Nat.zero_le _, h0⟩, ?_⟩
  rintro i m σ H ⟨rfl, hi, p⟩
  by_cases hlt : i < n
  · refine .inr ⟨hlt, Pv (i + 1), fun σ' H' p' => ⟨n - (i + 1), by omega, rfl, hlt, p'⟩, fun x H' y => ?_⟩
    obtain ⟨e, y⟩ := y
    subst e y
    exact hs i σ _ hlt p
  · have e : i = n := by omega
    subst e
    exact .inl ⟨Nat.le_refl _, hd σ H p⟩
/-- while, by a word and a measure of the state -/
theorem while_by {c : TT} {tb : TS} {D : Ends} {σ : St} {H : Hp} (Pv : St → Hp → Prop) (μ : St → Hp → Nat) (h0 : Pv σ H)
    (hs : ∀ σ H, Pv σ H → c σ H fun b H1 => if b = true then tb { D with nx := fun σ' H' => Pv σ' H' ∧ μ σ' H' < μ σ H, ct := fun σ' H' => Pv σ' H' ∧ μ σ' H' < μ σ H, bk := D.nx } σ H1 else D.nx σ H1)
    (mono : ∀ σ H Q Q', (∀ b H1, Q b H1 → Q' b H1) → c σ H Q → c σ H Q') : tWhile c tb D σ H := by
  refine ⟨fun m σ H => m = μ σ H ∧ Pv σ H, ⟨_, rfl, h0⟩, ?_⟩
  rintro m σ H ⟨rfl, p⟩
  refine mono σ H _ _ (fun b H1 q => ?_) (hs σ H p)
  cases b with
  | true => exact ⟨_, fun σ' H' ⟨p', l⟩ => ⟨_, l, rfl, p'⟩, q⟩
  | false => exact q
end L2

namespace L2
open PySem PySem.Spec PyProof.Rows

abbrev R2 := V → V → Hp → VK → Prop
/-- a two-place operation on values: f is binaryOp op, inplaceOp op or compareOp op -/
def OpR (X : Cx) (f : Value → Value → Sem Value) (r : R2) : Prop :=
  ∀ (pins : List (Addr × Obj)) (s : Shared) (σ : St) (H : Hp) (x y : V) (v u : Value) (Q : VK), Inv X pins σ H s → RelV x v → RelV y u → r x y H Q →
    wpAny (model X.prog X.w) X.A (f v u) (EP X pins σ Q) X.xe s
/-- a one-place operation -/
def UnR (X : Cx) (f : Value → Sem Value) (r : V → Hp → VK → Prop) : Prop :=
  ∀ (pins : List (Addr × Obj)) (s : Shared) (σ : St) (H : Hp) (x : V) (v : Value) (Q : VK), Inv X pins σ H s → RelV x v → r x H Q →
    wpAny (model X.prog X.w) X.A (f v) (EP X pins σ Q) X.xe s
/-- a call of a value that is known (a builtin, a type) with values -/
def CallR (X : Cx) (f : Value) (r : List V → Hp → VK → Prop) : Prop :=
  ∀ (pins : List (Addr × Obj)) (s : Shared) (σ : St) (H : Hp) (xs : List V) (us : List Value) (Q : VK), Inv X pins σ H s → Vals xs us → r xs H Q →
    wpAny (model X.prog X.w) X.A (call f us) (EP X pins σ Q) X.xe s
/-- a value's truth -/
def TruR (X : Cx) (r : V → Hp → (Bool → Hp → Prop) → Prop) : Prop :=
  ∀ (pins : List (Addr × Obj)) (s : Shared) (σ : St) (H : Hp) (x : V) (v : Value) (Q : Bool → Hp → Prop), Inv X pins σ H s → RelV x v → r x H Q →
    wpAny (model X.prog X.w) X.A (truthy v) (TP X pins σ Q) X.xe s

def tOp (r : R2) (ta tb : TE) : TE := fun σ H Q => ta σ H fun x H1 => tb σ H1 fun y H2 => r x y H2 Q
def tUn (r : V → Hp → VK → Prop) (ta : TE) : TE := fun σ H Q => ta σ H fun x H1 => r x H1 Q
/-- ints in, under C, and a value out -/
def rI (C : Int → Int → Prop) (g : Int → Int → V) : R2 := fun x y H Q => ∃ i j, x = .int i ∧ y = .int j ∧ C i j ∧ Q (g i j) H
def rI0 (g : Int → Int → V) : R2 := fun x y H Q => ∃ i j, x = .int i ∧ y = .int j ∧ Q (g i j) H
def rU (g : Int → V) : V → Hp → VK → Prop := fun x H Q => ∃ i, x = .int i ∧ Q (g i) H

section
variable {X : Cx} {a b c : Expr} {ta tb tc : TE} {pos : Pos}

theorem binT (ha : PE X a ta) (hb : PE X b tb) {pins : List (Addr × Obj)} {s : Shared} {σ : St} {H : Hp} {R : V → V → Hp → Prop} (I : Inv X pins σ H s)
    (h : ta σ H fun x H1 => tb σ H1 fun y H2 => R x y H2) {Q : Value → Shared → Prop} {f : Value → Value → Sem Value}
    (hf : ∀ v u s2 x y H2, Inv X pins σ H2 s2 → RelV x v → RelV y u → R x y H2 → wpAny (model X.prog X.w) X.A (f v u) Q X.xe s2) :
    wpAny (model X.prog X.w) X.A (eval a X.env) (fun v s₁ => wpAny (model X.prog X.w) X.A (eval b X.env) (fun u s₂ => wpAny (model X.prog X.w) X.A (f v u) Q X.xe s₂) X.xe s₁) X.xe s := by
  refine thn (ha pins s σ H _ I h) fun v s1 ⟨x, H1, I1, r1, q1⟩ => ?_
  refine thn (hb pins s1 σ H1 _ I1 q1) fun u s2 ⟨y, H2, I2, r2, q2⟩ => ?_
  exact hf v u s2 x y H2 I2 r1 r2 q2

theorem pe_op {op : Operator} {r : R2} (ho : OpR X (binaryOp op) r) (ha : PE X a ta) (hb : PE X b tb) : PE X (.BinOp a op b pos) (tOp r ta tb) := by
  intro pins s σ H Q I h
  exact wpAny_BinOp (binT ha hb I h fun v u s2 x y H2 I2 rx ry q => ho pins s2 σ H2 x y v u Q I2 rx ry q)
theorem pe_un {op : UnaryOp} {r : V → Hp → VK → Prop} (ho : UnR X (unaryOp op) r) (ha : PE X a ta) : PE X (.UnaryOp op a pos) (tUn r ta) := by
  intro pins s σ H Q I h
  exact UnaryOp_ (thn (ha pins s σ H _ I h) fun v s1 ⟨x, H1, I1, r1, q1⟩ => ho pins s1 σ H1 x v Q I1 r1 q1)
/-- a op= e at a name: the name's slot i -/
theorem augR {op : Operator} {r : R2} (ho : OpR X (inplaceOp op) r) {pins : List (Addr × Obj)} {s : Shared} {σ : St} {H : Hp} {x y : V} {v u : Value} {Q : VK} (I : Inv X pins σ H s)
    (rx : RelV x v) (ry : RelV y u) (q : r x y H Q) : wpAny (model X.prog X.w) X.A (inplaceOp op v u) (EP X pins σ Q) X.xe s := ho pins s σ H x y v u Q I rx ry q

/-! ### ints -/
theorem opI {f : Value → Value → Sem Value} {C : Int → Int → Prop} {g : Int → Int → Int}
    (rule : ∀ (i j : Int) (t u : Tok) (s : Shared) (Q : Value → Shared → Prop) (E : Value → Shared → Prop), C i j → Q (.int (g i j) s.toks) { s with toks := s.toks + 1 } → wpAny (model X.prog X.w) X.A (f (.int i t) (.int j u)) Q E s) :
    OpR X f (rI C fun i j => .int (g i j)) := by
  intro pins s σ H x y v u Q I rx ry h
  obtain ⟨i, j, rfl, rfl, hc, q⟩ := h
  obtain ⟨t, rfl⟩ := rx
  obtain ⟨t', rfl⟩ := ry
  exact rule i j t t' s _ _ hc ⟨.int (g i j), H, I.tok _, ⟨_, rfl⟩, q⟩
theorem opI0 {f : Value → Value → Sem Value} {g : Int → Int → Int}
    (rule : ∀ (i j : Int) (t u : Tok) (s : Shared) (Q : Value → Shared → Prop) (E : Value → Shared → Prop), Q (.int (g i j) s.toks) { s with toks := s.toks + 1 } → wpAny (model X.prog X.w) X.A (f (.int i t) (.int j u)) Q E s) :
    OpR X f (rI0 fun i j => .int (g i j)) := by
  intro pins s σ H x y v u Q I rx ry h
  obtain ⟨i, j, rfl, rfl, q⟩ := h
  obtain ⟨t, rfl⟩ := rx
  obtain ⟨t', rfl⟩ := ry
  exact rule i j t t' s _ _ ⟨.int (g i j), H, I.tok _, ⟨_, rfl⟩, q⟩
theorem opB0 {f : Value → Value → Sem Value} {g : Int → Int → Bool}
    (rule : ∀ (i j : Int) (t u : Tok) (s : Shared) (Q : Value → Shared → Prop) (E : Value → Shared → Prop), Q (.bool (g i j)) s → wpAny (model X.prog X.w) X.A (f (.int i t) (.int j u)) Q E s) :
    OpR X f (rI0 fun i j => .bl (g i j)) := by
  intro pins s σ H x y v u Q I rx ry h
  obtain ⟨i, j, rfl, rfl, q⟩ := h
  obtain ⟨t, rfl⟩ := rx
  obtain ⟨t', rfl⟩ := ry
  exact rule i j t t' s _ _ ⟨.bl (g i j), H, I, rfl, q⟩

def CDiv (i j : Int) : Prop := 0 < j ∧ j < 1073741824
def CDivN (i j : Int) : Prop := j ≠ 0 ∧ j.natAbs < 1073741824
def CPow (i j : Int) : Prop := 0 ≤ j ∧ j ≤ 1000000 ∧ i.natAbs < 2 ^ 64
def CMul (i j : Int) : Prop := (-(2 ^ 64) < i ∧ i < 2 ^ 64) ∨ (-(2 ^ 64) < j ∧ j < 2 ^ 64)
theorem CMul.ok {i j : Int} (h : CMul i j) : IntMulOk i j := by
  rcases h with ⟨h1, h2⟩ | ⟨h1, h2⟩
  · exact .of_left (intBits_le_64 h1 h2)
  · exact .of_right (intBits_le_64 h1 h2)
theorem two_pow_nn (k : Nat) : (0 : Int) ≤ 2 ^ k := by
  rw [two_pow_cast]
  exact Int.natCast_nonneg _

theorem op_add : OpR X (binaryOp .Add) (rI0 fun i j => .int (i + j)) := opI0 fun _ _ _ _ _ _ _ q => add_int q
theorem op_sub : OpR X (binaryOp .Sub) (rI0 fun i j => .int (i - j)) := opI0 fun _ _ _ _ _ _ _ q => sub_int q
theorem op_mul : OpR X (binaryOp .Mult) (rI CMul fun i j => .int (i * j)) := opI fun _ _ _ _ _ _ _ hc q => mul_int q hc.ok
/-- // by a positive divisor -/
theorem op_fdiv : OpR X (binaryOp .FloorDiv) (rI CDiv fun i j => .int (i / j)) := opI fun i j _ _ _ _ _ hc q => by
  have h1 : (0 : Int) < j := hc.1
  have h2 : j < 1073741824 := hc.2
  exact floordiv_int (by omega) (by rw [Int.fdiv_eq_ediv_of_nonneg i (by omega)]; exact q) (.inl (PyProof.noPylong_small (by omega)))
theorem op_fdivN : OpR X (binaryOp .FloorDiv) (rI CDivN fun i j => .int (i.fdiv j)) := opI fun _ _ _ _ _ _ _ hc q => floordiv_int hc.1 q (.inl (PyProof.noPylong_small hc.2))
/-- % by a positive divisor of any size -/
theorem op_mod : OpR X (binaryOp .Mod) (rI (fun _ j => 0 < j) fun i j => .int (i % j)) := opI fun i j _ _ _ _ _ hc q => by
  have h1 : (0 : Int) < j := hc
  exact mod_int' (by omega) (by rw [Int.fmod_eq_emod_of_nonneg i (by omega)]; exact q)
theorem op_modN : OpR X (binaryOp .Mod) (rI (fun _ j => j ≠ 0) fun i j => .int (i.fmod j)) := opI fun _ _ _ _ _ _ _ hc q => mod_int' hc q
theorem op_pow : OpR X (binaryOp .Pow) (rI CPow fun i j => .int (i ^ j.toNat)) := opI fun _ _ _ _ _ _ _ hc q => pow_int_small hc.1 hc.2.1 hc.2.2 q
theorem op_shl : OpR X (binaryOp .LShift) (rI CPow fun i j => .int (i * 2 ^ j.toNat)) := opI fun _ _ _ _ _ _ _ hc q => lshift_int_small hc.1 hc.2.1 hc.2.2 q
theorem op_shr : OpR X (binaryOp .RShift) (rI (fun _ j => 0 ≤ j) fun i j => .int (i / 2 ^ j.toNat)) := opI fun i j _ _ _ _ _ hc q =>
  rshift_int hc (by rw [Int.fdiv_eq_ediv_of_nonneg i (two_pow_nn _)]; exact q)
theorem op_and : OpR X (binaryOp .BitAnd) (rI0 fun i j => .int (Builtin.bitAnd i j)) := opI0 fun _ _ _ _ _ _ _ q => and_int q
theorem op_or : OpR X (binaryOp .BitOr) (rI0 fun i j => .int (Builtin.bitOr i j)) := opI0 fun _ _ _ _ _ _ _ q => or_int q
theorem op_xor : OpR X (binaryOp .BitXor) (rI0 fun i j => .int (Builtin.bitXor i j)) := opI0 fun _ _ _ _ _ _ _ q => xor_int q

theorem iop_add : OpR X (inplaceOp .Add) (rI0 fun i j => .int (i + j)) := opI0 fun _ _ _ _ _ _ _ q => iadd_int q
theorem iop_sub : OpR X (inplaceOp .Sub) (rI0 fun i j => .int (i - j)) := opI0 fun _ _ _ _ _ _ _ q => isub_int q
theorem iop_mul : OpR X (inplaceOp .Mult) (rI CMul fun i j => .int (i * j)) := opI fun _ _ _ _ _ _ _ hc q => imul_int q hc.ok
theorem iop_fdiv : OpR X (inplaceOp .FloorDiv) (rI CDiv fun i j => .int (i / j)) := opI fun i j _ _ _ _ _ hc q => by
  have h1 : (0 : Int) < j := hc.1
  have h2 : j < 1073741824 := hc.2
  exact ifloordiv_int (by omega) (by rw [Int.fdiv_eq_ediv_of_nonneg i (by omega)]; exact q) (.inl (PyProof.noPylong_small (by omega)))
theorem iop_mod : OpR X (inplaceOp .Mod) (rI (fun _ j => 0 < j) fun i j => .int (i % j)) := opI fun i j _ _ _ _ _ hc q => by
  have h1 : (0 : Int) < j := hc
  exact imod_int (by omega) (by rw [Int.fmod_eq_emod_of_nonneg i (by omega)]; exact q)
theorem iop_shl : OpR X (inplaceOp .LShift) (rI CPow fun i j => .int (i * 2 ^ j.toNat)) := opI fun _ _ _ _ _ _ _ hc q => ilshift_int_small hc.1 hc.2.1 hc.2.2 q
theorem iop_shr : OpR X (inplaceOp .RShift) (rI (fun _ j => 0 ≤ j) fun i j => .int (i / 2 ^ j.toNat)) := opI fun i j _ _ _ _ _ hc q =>
  irshift_int hc (by rw [Int.fdiv_eq_ediv_of_nonneg i (two_pow_nn _)]; exact q)
theorem iop_and : OpR X (inplaceOp .BitAnd) (rI0 fun i j => .int (Builtin.bitAnd i j)) := opI0 fun _ _ _ _ _ _ _ q => iand_int q
theorem iop_or : OpR X (inplaceOp .BitOr) (rI0 fun i j => .int (Builtin.bitOr i j)) := opI0 fun _ _ _ _ _ _ _ q => ior_int q
theorem iop_xor : OpR X (inplaceOp .BitXor) (rI0 fun i j => .int (Builtin.bitXor i j)) := opI0 fun _ _ _ _ _ _ _ q => ixor_int q

theorem unI {f : Value → Sem Value} {g : Int → Int}
    (rule : ∀ (i : Int) (t : Tok) (s : Shared) (Q : Value → Shared → Prop) (E : Value → Shared → Prop), Q (.int (g i) s.toks) { s with toks := s.toks + 1 } → wpAny (model X.prog X.w) X.A (f (.int i t)) Q E s) :
    UnR X f (rU fun i => .int (g i)) := by
  intro pins s σ H x v Q I rx h
  obtain ⟨i, rfl, q⟩ := h
  obtain ⟨t, rfl⟩ := rx
  exact rule i t s _ _ ⟨.int (g i), H, I.tok _, ⟨_, rfl⟩, q⟩
theorem un_neg : UnR X (unaryOp .USub) (rU fun i => .int (-i)) := unI fun _ _ _ _ _ q => neg_int q
theorem un_inv : UnR X (unaryOp .Invert) (rU fun i => .int (Builtin.bitNot i)) := unI fun _ _ _ _ _ q => invert_int q

/-! ### bools among ints: n += (a < b) -/
theorem op_add_ib : OpR X (binaryOp .Add) (fun x y H Q => ∃ i k, x = .int i ∧ y = .bl k ∧ Q (.int (i + b2i k)) H) := by
  intro pins s σ H x y v u Q I rx ry h
  obtain ⟨i, k, rfl, rfl, q⟩ := h
  obtain ⟨t, rfl⟩ := rx
  cases ry
  exact add_int_bool ⟨.int (i + b2i k), H, I.tok _, ⟨_, rfl⟩, q⟩
end

/-! ### comparisons -/
/-- the scalars that == tells apart as data does -/
def scal : V → V → Bool
  | .non, .non => true | .non, .int _ => true | .int _, .non => true | .non, .bl _ => true | .bl _, .non => true | .non, .str _ => true | .str _, .non => true
  | .int _, .int _ => true | .bl _, .bl _ => true | .str _, .str _ => true | .byt _, .byt _ => true
  | .int _, .str _ => true | .str _, .int _ => true | .bl _, .str _ => true | .str _, .bl _ => true
  | _, _ => false
def rEq : R2 := fun x y H Q => scal x y = true ∧ Q (.bl (decide (x = y))) H
def rNe : R2 := fun x y H Q => scal x y = true ∧ Q (.bl (!decide (x = y))) H

theorem dec_int {i j : Int} : decide (V.int i = V.int j) = (i == j) := by
  rw [Bool.eq_iff_iff]
  simp
theorem dec_bl {i j : Bool} : decide (V.bl i = V.bl j) = (i == j) := by
  rw [Bool.eq_iff_iff]
  simp
theorem dec_str {i j : Str} : decide (V.str i = V.str j) = (i == j) := by
  rw [Bool.eq_iff_iff]
  simp
theorem dec_byt {i j : Array UInt8} : decide (V.byt i = V.byt j) = (i.toList == j.toList) := by
  rw [Bool.eq_iff_iff]
  cases i
  cases j
  simp

section
variable {X : Cx} {a b c : Expr} {ta tb tc : TE} {pos : Pos}
theorem fin_bl {pins : List (Addr × Obj)} {σ : St} {H : Hp} {s : Shared} {Q : VK} {k k' : Bool} (I : Inv X pins σ H s) (q : Q (.bl k) H) (e : k = k') : EP X pins σ Q (.bool k') s := by
  subst e
  exact ⟨.bl k, H, I, rfl, q⟩
theorem op_eq : OpR X (compareOp .Eq) rEq := by
  intro pins s σ H x y v u Q I rx ry h
  obtain ⟨hs, q⟩ := h
  cases x with
  | non =>
    cases rx
    cases y with
    | non => cases ry; exact PySem.EqNone.eq_none_none (fin_bl I q (by simp))
    | bl j => cases ry; exact PySem.EqNone.eq_none_bool (fin_bl I q (by simp))
    | int j => obtain ⟨t', rfl⟩ := ry; exact PySem.EqNone.eq_none_int (fin_bl I q (by simp))
    | str j => obtain ⟨t', rfl⟩ := ry; exact PySem.EqNone.eq_none_str (fin_bl I q (by simp))
    | _ => exact absurd (show false = true from hs) Bool.false_ne_true
  | bl i =>
    cases rx
    cases y with
    | non => cases ry; exact PySem.EqNone.eq_bool_none (fin_bl I q (by simp))
    | bl j => cases ry; exact eq_bool (fin_bl I q dec_bl)
    | str j => obtain ⟨t', rfl⟩ := ry; exact PySem.EqMixed.eq_bool_str (fin_bl I q (by simp))
    | _ => exact absurd (show false = true from hs) Bool.false_ne_true
  | int i =>
    obtain ⟨t, rfl⟩ := rx
    cases y with
    | non => cases ry; exact PySem.EqNone.eq_int_none (fin_bl I q (by simp))
    | int j => obtain ⟨t', rfl⟩ := ry; exact eq_int (fin_bl I q dec_int)
    | str j => obtain ⟨t', rfl⟩ := ry; exact PySem.EqMixed.eq_int_str (fin_bl I q (by simp))
    | _ => exact absurd (show false = true from hs) Bool.false_ne_true
  | str i =>
    obtain ⟨t, rfl⟩ := rx
    cases y with
    | non => cases ry; exact PySem.EqNone.eq_str_none (fin_bl I q (by simp))
    | bl j => cases ry; exact PySem.EqMixed.eq_str_bool (fin_bl I q (by simp))
    | int j => obtain ⟨t', rfl⟩ := ry; exact PySem.EqMixed.eq_str_int (fin_bl I q (by simp))
    | str j => obtain ⟨t', rfl⟩ := ry; exact eq_str (fin_bl I q dec_str)
    | _ => exact absurd (show false = true from hs) Bool.false_ne_true
  | byt i =>
    obtain ⟨t, rfl⟩ := rx
    cases y with
    | byt j => obtain ⟨t', rfl⟩ := ry; exact PySem.W.eq_bytes (fin_bl I q dec_byt)
    | _ => exact absurd (show false = true from hs) Bool.false_ne_true
  | _ => cases y <;> exact absurd (show false = true from hs) Bool.false_ne_true
theorem op_ne : OpR X (compareOp .NotEq) rNe := by
  intro pins s σ H x y v u Q I rx ry h
  obtain ⟨hs, q⟩ := h
  cases x with
  | non =>
    cases rx
    cases y with
    | non => cases ry; exact PySem.EqNone.ne_none_none (fin_bl I q (by simp))
    | bl j => cases ry; exact PySem.EqNone.ne_none_bool (fin_bl I q (by simp))
    | int j => obtain ⟨t', rfl⟩ := ry; exact PySem.EqNone.ne_none_int (fin_bl I q (by simp))
    | str j => obtain ⟨t', rfl⟩ := ry; exact PySem.EqNone.ne_none_str (fin_bl I q (by simp))
    | _ => exact absurd (show false = true from hs) Bool.false_ne_true
  | bl i =>
    cases rx
    cases y with
    | non => cases ry; exact PySem.EqNone.ne_bool_none (fin_bl I q (by simp))
    | bl j => cases ry; exact ne_bool (fin_bl I q (congrArg not dec_bl))
    | str j => obtain ⟨t', rfl⟩ := ry; exact PySem.EqMixed.ne_bool_str (fin_bl I q (by simp))
    | _ => exact absurd (show false = true from hs) Bool.false_ne_true
  | int i =>
    obtain ⟨t, rfl⟩ := rx
    cases y with
    | non => cases ry; exact PySem.EqNone.ne_int_none (fin_bl I q (by simp))
    | int j => obtain ⟨t', rfl⟩ := ry; exact ne_int (fin_bl I q (congrArg not dec_int))
    | str j => obtain ⟨t', rfl⟩ := ry; exact PySem.EqMixed.ne_int_str (fin_bl I q (by simp))
    | _ => exact absurd (show false = true from hs) Bool.false_ne_true
  | str i =>
    obtain ⟨t, rfl⟩ := rx
    cases y with
    | non => cases ry; exact PySem.EqNone.ne_str_none (fin_bl I q (by simp))
    | bl j => cases ry; exact PySem.EqMixed.ne_str_bool (fin_bl I q (by simp))
    | int j => obtain ⟨t', rfl⟩ := ry; exact PySem.EqMixed.ne_str_int (fin_bl I q (by simp))
    | str j => obtain ⟨t', rfl⟩ := ry; exact ne_str (fin_bl I q (congrArg not dec_str))
    | _ => exact absurd (show false = true from hs) Bool.false_ne_true
  | byt i =>
    obtain ⟨t, rfl⟩ := rx
    cases y with
    | byt j => obtain ⟨t', rfl⟩ := ry; exact PySem.W.ne_bytes (fin_bl I q (congrArg not dec_byt))
    | _ => exact absurd (show false = true from hs) Bool.false_ne_true
  | _ => cases y <;> exact absurd (show false = true from hs) Bool.false_ne_true

theorem op_lt : OpR X (compareOp .Lt) (rI0 fun i j => .bl (decide (i < j))) := opB0 fun _ _ _ _ _ _ _ q => lt_int q
theorem op_le : OpR X (compareOp .LtE) (rI0 fun i j => .bl (decide (i ≤ j))) := opB0 fun _ _ _ _ _ _ _ q => le_int q
theorem op_gt : OpR X (compareOp .Gt) (rI0 fun i j => .bl (decide (j < i))) := opB0 fun _ _ _ _ _ _ _ q => gt_int q
theorem op_ge : OpR X (compareOp .GtE) (rI0 fun i j => .bl (decide (j ≤ i))) := opB0 fun _ _ _ _ _ _ _ q => ge_int q
theorem op_lt_str : OpR X (compareOp .Lt) (fun x y H Q => ∃ i j, x = .str i ∧ y = .str j ∧ Q (.bl (decide (i.cps.toList < j.cps.toList))) H) := by
  intro pins s σ H x y v u Q I rx ry h
  obtain ⟨i, j, rfl, rfl, q⟩ := h
  obtain ⟨t, rfl⟩ := rx
  obtain ⟨t', rfl⟩ := ry
  exact lt_str (fin_bl I q rfl)
/-- the one string within the other -/
theorem op_in_str : OpR X (compareOp .In) (fun x y H Q => ∃ i j, x = .str i ∧ y = .str j ∧ Q (.bl (!(Builtin.Str.occurrences j i 0 j.length 1).isEmpty)) H) := by
  intro pins s σ H x y v u Q I rx ry h
  obtain ⟨i, j, rfl, rfl, q⟩ := h
  obtain ⟨t, rfl⟩ := rx
  obtain ⟨t', rfl⟩ := ry
  exact in_str (fin_bl I q rfl)

/-- is None, is not None: the right side a value none -/
theorem op_isN : OpR X (compareOp .Is) (fun x y H Q => y = .non ∧ Q (.bl (decide (x = .non))) H) := by
  intro pins s σ H x y v u Q I rx ry h
  obtain ⟨rfl, q⟩ := h
  cases ry
  refine is_none_gen (fin_bl I q ?_)
  cases x <;> first
    | (cases rx; rfl)
    | (obtain ⟨t, rfl⟩ := rx; rfl)
theorem op_notN : OpR X (compareOp .IsNot) (fun x y H Q => y = .non ∧ Q (.bl (!decide (x = .non))) H) := by
  intro pins s σ H x y v u Q I rx ry h
  obtain ⟨rfl, q⟩ := h
  cases ry
  refine isnot_none_gen (fin_bl I q ?_)
  cases x <;> first
    | (cases rx; rfl)
    | (obtain ⟨t, rfl⟩ := rx; rfl)

theorem op_notin_str : OpR X (compareOp .NotIn) (fun x y H Q => ∃ i j, x = .str i ∧ y = .str j ∧ Q (.bl (!(!(Builtin.Str.occurrences j i 0 j.length 1).isEmpty))) H) := by
  intro pins s σ H x y v u Q I rx ry h
  obtain ⟨i, j, rfl, rfl, q⟩ := h
  obtain ⟨t, rfl⟩ := rx
  obtain ⟨t', rfl⟩ := ry
  exact notIn_str (fin_bl I q rfl)
/-- is, is not of two objects that are tracked lists or instances -/
def isObj : HO → Bool
  | .lst _ => true
  | .ins _ _ _ => true
  | _ => false
theorem obj_there {pins : List (Addr × Obj)} {s : Shared} {σ : St} {H : Hp} {a : Addr} {o : HO} (I : Inv X pins σ H s) (h : H a = some o) (p : isObj o = true) : ∃ ob, s.heap.get? a = some ob ∧ ob.cls ≠ .type "tuple" := by
  cases o with
  | lst xs =>
    obtain ⟨_, its, n, _, e⟩ : xs.length ≤ sizeLine ∧ ∃ (its : List Value) (n : Nat), Vals xs its ∧ s.heap.get? a = some { cls := .type "list", data := .seq its.toArray n } := I.hok a _ h
    exact ⟨_, e, (by show Value.type "list" ≠ .type "tuple"; decide +kernel)⟩
  | ins C dx fs =>
    have x := I.hok a _ h
    obtain ⟨_, _, _, e, _⟩ := x
    exact ⟨_, e, (by show Value.ref C ≠ .type "tuple"; exact fun z => by cases z)⟩
  | _ => exact absurd (show false = true from p) Bool.false_ne_true
theorem op_is_ref : OpR X (compareOp .Is) (fun x y H Q => ∃ a b oa ob, x = .ref a ∧ y = .ref b ∧ H a = some oa ∧ isObj oa = true ∧ H b = some ob ∧ isObj ob = true ∧ Q (.bl (decide (a = b))) H) := by
  intro pins s σ H x y v u Q I rx ry h
  obtain ⟨a, b, oa, ob, rfl, rfl, ha, pa, hb, pb, q⟩ := h
  cases rx
  cases ry
  obtain ⟨o1, e1, n1⟩ := obj_there I ha pa
  obtain ⟨o2, e2, _⟩ := obj_there I hb pb
  by_cases z : a = b
  · subst z
    exact wpAny_is_ref_self (fin_bl I q (by simp))
  · exact wpAny_is_ref_other z e1 e2 n1 (fin_bl I q (by simp [z]))
theorem op_isnot_ref : OpR X (compareOp .IsNot) (fun x y H Q => ∃ a b oa ob, x = .ref a ∧ y = .ref b ∧ H a = some oa ∧ isObj oa = true ∧ H b = some ob ∧ isObj ob = true ∧ Q (.bl (!decide (a = b))) H) := by
  intro pins s σ H x y v u Q I rx ry h
  obtain ⟨a, b, oa, ob, rfl, rfl, ha, pa, hb, pb, q⟩ := h
  cases rx
  cases ry
  obtain ⟨o1, e1, n1⟩ := obj_there I ha pa
  obtain ⟨o2, e2, _⟩ := obj_there I hb pb
  by_cases z : a = b
  · subst z
    exact wpAny_isNot_ref_self (fin_bl I q (by simp))
  · exact wpAny_isNot_ref_other z e1 e2 n1 (fin_bl I q (by simp [z]))

/-- two rules for one operation: by cases -/
theorem OpR.or {f : Value → Value → Sem Value} {r r' : R2} (h : OpR X f r) (h' : OpR X f r') : OpR X f (fun x y H Q => r x y H Q ∨ r' x y H Q) := by
  intro pins s σ H x y v u Q I rx ry q
  rcases q with q | q
  · exact h pins s σ H x y v u Q I rx ry q
  · exact h' pins s σ H x y v u Q I rx ry q

theorem nomark (b : Expr) {op : CmpOp} (h : op ≠ .In := by decide) (h2 : op ≠ .NotIn := by decide) : behindInMarks op b = false := by
  have e1 : (op == CmpOp.In) = false := by cases op <;> first | rfl | exact absurd rfl h
  have e2 : (op == CmpOp.NotIn) = false := by cases op <;> first | rfl | exact absurd rfl h2
  cases b <;> simp [behindInMarks, e1, e2]
/-- a comparison as a value; hm: nomark b, or (for in, not in) by with_unfolding_all rfl -/
theorem pe_cmpR {op : CmpOp} {r : R2} (ho : OpR X (compareOp op) r) (ha : PE X a ta) (hb : PE X b tb) (hm : behindInMarks op b = false) : PE X (.Compare a [op] [b] pos) (tOp r ta tb) := by
  intro pins s σ H Q I h
  exact wpAny_Compare1 (binT ha hb I h fun v u s2 x y H2 I2 rx ry q => ho pins s2 σ H2 x y v u Q I2 rx ry q) hm
/-- a reading of a value as a test -/
def tTest (t : TE) : TT := fun σ H Q => t σ H fun x H' => ∃ k, x = .bl k ∧ Q k H'
theorem pt_cmpR {op : CmpOp} {r : R2} (ho : OpR X (compareOp op) r) (ha : PE X a ta) (hb : PE X b tb) (hm : behindInMarks op b = false) : PT X (.Compare a [op] [b] pos) (tTest (tOp r ta tb)) := by
  intro pins s σ H Q I h
  refine wpAny_isTrue_Compare1 (thn (ha pins s σ H _ I h) fun v s1 ⟨x, H1, I1, r1, q1⟩ => thn (hb pins s1 σ H1 _ I1 q1) fun u s2 ⟨y, H2, I2, r2, q2⟩ =>
    thn (ho pins s2 σ H2 x y v u _ I2 r1 r2 q2) fun c s3 ⟨z, H3, I3, r3, k, e, q3⟩ => ?_) hm
  subst e
  cases r3
  exact wpAny_truthy_bool ⟨H3, I3, q3⟩
/-- a op1 b op2 c -/
def tChain (r r' : R2) (ta tb tc : TE) : TE := fun σ H Q => ta σ H fun x H1 => tb σ H1 fun y H2 => r x y H2 fun z H3 => ∃ k, z = .bl k ∧
  (if k = true then tc σ H3 fun w' H4 => r' y w' H4 Q else Q (.bl false) H3)
theorem pe_chain {op op' : CmpOp} {r r' : R2} (ho : OpR X (compareOp op) r) (ho' : OpR X (compareOp op') r') (ha : PE X a ta) (hb : PE X b tb) (hc : PE X c tc)
    (hm : lastMarks [op, op'] [b, c] = false := by with_unfolding_all rfl) : PE X (.Compare a [op, op'] [b, c] pos) (tChain r r' ta tb tc) := by
  intro pins s σ H Q I h
  refine Compare_chain (thn (ha pins s σ H _ I h) fun v s1 ⟨x, H1, I1, r1, q1⟩ => chain_link (thn (hb pins s1 σ H1 _ I1 q1) fun u s2 ⟨y, H2, I2, r2, q2⟩ =>
    thn (ho pins s2 σ H2 x y v u _ I2 r1 r2 q2) fun d s3 ⟨z, H3, I3, r3, k, e, q3⟩ => ?_)) hm
  subst e
  cases r3
  refine wpAny_truthy_bool ?_
  cases k with
  | false => exact ite_ff ⟨.bl false, H3, I3, rfl, q3⟩
  | true => exact ite_tt (chain_last (thn (hc pins s3 σ H3 _ I3 q3) fun w' s4 ⟨z', H4, I4, r4, q4⟩ => ho' pins s4 σ H4 y z' u w' Q I4 r2 r4 q4))
theorem pt_chain {op op' : CmpOp} {r r' : R2} (ho : OpR X (compareOp op) r) (ho' : OpR X (compareOp op') r') (ha : PE X a ta) (hb : PE X b tb) (hc : PE X c tc)
    (hm : lastMarks [op, op'] [b, c] = false := by with_unfolding_all rfl) : PT X (.Compare a [op, op'] [b, c] pos) (tTest (tChain r r' ta tb tc)) := by
  intro pins s σ H Q I h
  refine isTrue_chain (thn (ha pins s σ H _ I h) fun v s1 ⟨x, H1, I1, r1, q1⟩ => test_link (thn (hb pins s1 σ H1 _ I1 q1) fun u s2 ⟨y, H2, I2, r2, q2⟩ =>
    thn (ho pins s2 σ H2 x y v u _ I2 r1 r2 q2) fun d s3 ⟨z, H3, I3, r3, k, e, q3⟩ => ?_)) hm
  subst e
  cases r3
  refine wpAny_truthy_bool ?_
  cases k with
  | false =>
    obtain ⟨k', e', q'⟩ := q3
    cases e'
    exact ite_ff ⟨H3, I3, q'⟩
  | true =>
    refine ite_tt (test_last (thn (hc pins s3 σ H3 _ I3 q3) fun w' s4 ⟨z', H4, I4, r4, q4⟩ => thn (ho' pins s4 σ H4 y z' u w' _ I4 r2 r4 q4) fun d' s5 ⟨z2, H5, I5, r5, k2, e2, q5⟩ => ?_))
    subst e2
    cases r5
    exact wpAny_truthy_bool ⟨H5, I5, q5⟩

/-! ### truth -/
/-- a value's truth by the abstract heap -/
def TruV (K : PySem.W.Frag) (x : V) (H : Hp) (k : Bool) : Prop :=
  match x with
  | .non => k = false
  | .bl b => k = b
  | .int i => k = (i != 0)
  | .str y => y.length ≤ sizeLine ∧ k = ((y.length : Int) != 0)
  | .byt y => y.size ≤ sizeLine ∧ k = ((y.size : Int) != 0)
  | .ref p => (∃ xs, SqL K H p xs ∧ k = !xs.isEmpty) ∨ (∃ xs, SqT K H p xs ∧ k = !xs.isEmpty) ∨ ∃ kvs, H p = some (.dK kvs) ∧ k = !kvs.isEmpty
  | _ => False
theorem isEmpty_kv {κ : Type} {kvs : List (κ × V)} {vs : List (κ × Value)} (r : KV kvs vs) : (!vs.isEmpty) = !kvs.isEmpty := by
  cases r <;> rfl
theorem isEmpty_of {xs : List V} {its : List Value} (r : Vals xs its) : (!its.toArray.isEmpty) = !xs.isEmpty := by
  cases r <;> simp
theorem line63 : (sizeLine : Nat) < 2 ^ 63 := by rw [sizeLine_eq]; decide
theorem tru_ok : TruR X (fun x H Q => ∃ k, TruV X.K x H k ∧ Q k H) := by
  intro pins s σ H x v Q I rx h
  obtain ⟨k, e, q⟩ := h
  have hl := line63
  have hs : sizeLine = 16777216 := sizeLine_eq
  cases x with
  | non =>
    cases rx
    have e' : k = false := e
    subst e'
    exact truthy_none ⟨H, I, q⟩
  | bl b =>
    cases rx
    have e' : k = b := e
    subst e'
    exact wpAny_truthy_bool ⟨H, I, q⟩
  | int i =>
    obtain ⟨t, rfl⟩ := rx
    have e' : k = (i != 0) := e
    subst e'
    exact PySem.P.truthy_int ⟨H, I, q⟩
  | str y =>
    obtain ⟨t, rfl⟩ := rx
    obtain ⟨hy, e'⟩ : y.length ≤ sizeLine ∧ k = ((y.length : Int) != 0) := e
    subst e'
    exact PySem.P.truthy_str (by omega) ⟨H, I.tok _, q⟩
  | byt y =>
    obtain ⟨t, rfl⟩ := rx
    obtain ⟨hy, e'⟩ : y.size ≤ sizeLine ∧ k = ((y.size : Int) != 0) := e
    subst e'
    exact PySem.W.truthy_bytes (by omega) ⟨H, I.tok _, q⟩
  | ref p =>
    cases rx
    have e' : (∃ xs, SqL X.K H p xs ∧ k = !xs.isEmpty) ∨ (∃ xs, SqT X.K H p xs ∧ k = !xs.isEmpty) ∨ ∃ kvs, H p = some (.dK kvs) ∧ k = !kvs.isEmpty := e
    rcases e' with ⟨xs, hx, e'⟩ | ⟨xs, hx, e'⟩ | ⟨kvs, hx, e'⟩
    · subst e'
      obtain ⟨its, r, pl, hz⟩ := I.list hx
      have hlen := r.length
      exact wpAny_truthy_list pl.isList (by simp only [List.size_toArray]; omega) ⟨H, I.tok _, by rw [isEmpty_of r]; exact q⟩
    · subst e'
      obtain ⟨its, r, pl, hz⟩ := I.tuple hx
      have hlen := r.length
      exact truthy_tuple pl (by simp only [List.size_toArray]; omega) ⟨H, I.tok _, by rw [isEmpty_of r]; exact q⟩
    · subst e'
      obtain ⟨hz, hS, vs, r, m⟩ : kvs.length ≤ sizeLine ∧ (p == sysModules) = false ∧ ∃ vs, KV kvs vs ∧ s.heap.DictOf (mixKind X.prog X.w) p vs := I.hok p _ hx
      have hlen : kvs.length = vs.length := Paired.length r
      exact wpAny_truthy_dict hS m (by omega) ⟨H, I.tok _, by rw [isEmpty_kv r]; exact q⟩
  | _ => exact (show False from e).elim
/-- any expression whose test is its value's truth (a name, a call, a subscript, a field ..: he by fun _ => rfl) -/
theorem pt_truth (ha : PE X a ta) (he : ∀ whole, isTrue a X.env whole = (do let v ← whole; standAt a.pos; holding [v] (truthy v))) :
    PT X a (fun σ H Q => ta σ H fun x H' => ∃ k, TruV X.K x H' k ∧ Q k H') := by
  intro pins s σ H Q I h
  exact isTrue_plain (thn (ha pins s σ H _ I h) fun v s1 ⟨x, H1, I1, r1, q1⟩ => tru_ok pins s1 σ H1 x v Q I1 r1 q1) (he _)

/-! ### strs and bytes -/
theorem pe_byt {x : List UInt8} {k : Nat} : PE X (.Constant (.bytes x) k pos) (fun _ H Q => Q (.byt x.toArray) H) := fun _ _ _ H _ I h => PySem.W.Constant_bytes ⟨.byt x.toArray, H, I.tok _, ⟨_, rfl⟩, h⟩
theorem op_add_str : OpR X (binaryOp .Add) (fun x y H Q => ∃ i j, x = .str i ∧ y = .str j ∧ i.length + j.length ≤ sizeLine ∧ Q (.str (i ++ j)) H) := by
  intro pins s σ H x y v u Q I rx ry h
  obtain ⟨i, j, rfl, rfl, hz, q⟩ := h
  obtain ⟨t, rfl⟩ := rx
  obtain ⟨t', rfl⟩ := ry
  exact add_str (fun t' tk => ⟨.str (i ++ j), H, I.tok _, ⟨_, rfl⟩, q⟩) hz
theorem iop_add_str : OpR X (inplaceOp .Add) (fun x y H Q => ∃ i j, x = .str i ∧ y = .str j ∧ i.length + j.length ≤ sizeLine ∧ Q (.str (i ++ j)) H) := by
  intro pins s σ H x y v u Q I rx ry h
  obtain ⟨i, j, rfl, rfl, hz, q⟩ := h
  obtain ⟨t, rfl⟩ := rx
  obtain ⟨t', rfl⟩ := ry
  exact iadd_str (fun t' tk => ⟨.str (i ++ j), H, I.tok _, ⟨_, rfl⟩, q⟩) hz
theorem op_add_byt : OpR X (binaryOp .Add) (fun x y H Q => ∃ i j, x = .byt i ∧ y = .byt j ∧ i.size + j.size ≤ 16777216 ∧ Q (.byt (i ++ j)) H) := by
  intro pins s σ H x y v u Q I rx ry h
  obtain ⟨i, j, rfl, rfl, hz, q⟩ := h
  obtain ⟨t, rfl⟩ := rx
  obtain ⟨t', rfl⟩ := ry
  exact PySem.W.KBy.add_bytes hz (fun t' tk => ⟨.byt (i ++ j), H, I.tok _, ⟨_, rfl⟩, q⟩)

def PlainIxT (b : Expr) : Prop := ∀ o i, subscripted b false o i = operate [o, i] (getItem o i)
/-- s[i], 0 ≤ i < len -/
theorem pe_item_str (ha : PE X a ta) (hb : PE X b tb) (hs : PlainIxT b) :
    PE X (.Subscript a b pos) (tOp (fun x y H Q => ∃ z i c, x = .str z ∧ y = .int i ∧ 0 ≤ i ∧ i < 2 ^ 63 ∧ i < z.length ∧ z.cps[i.toNat]? = some c ∧ Q (.str ⟨#[c]⟩) H) ta tb) := by
  intro pins s σ H Q I h
  refine Subscript_ (binT ha hb I h fun v u s2 x y H2 I2 rx ry q => ?_)
  obtain ⟨z, i, c, rfl, rfl, h0, h63, h1, hc, q⟩ := q
  obtain ⟨t, rfl⟩ := rx
  obtain ⟨t', rfl⟩ := ry
  have e : seqIndex? i z.length = some i.toNat := PySem.StrLaws.seqIndex_nonneg h0 h1
  exact tail_any (typeIs_str s2 z t) slot_str_getitem.lookup (getItem_str (c := c) (by
    have e1 : decide (i < -(2 ^ 63 : Int)) = false := decide_eq_false (by omega)
    have e2 : decide (i ≥ 2 ^ 63) = false := decide_eq_false (by omega)
    rw [e1, e2] <;> rfl) (by rw [e]; exact hc) ⟨.str ⟨#[c]⟩, H2, I2.tok _, ⟨_, rfl⟩, q⟩) (hs _ _)
/-- b[i], 0 ≤ i < len -/
theorem pe_item_byt (ha : PE X a ta) (hb : PE X b tb) (hs : PlainIxT b) :
    PE X (.Subscript a b pos) (tOp (fun x y H Q => ∃ (z : List UInt8) (i : Int), x = .byt z.toArray ∧ y = .int i ∧ z.length ≤ sizeLine ∧ 0 ≤ i ∧ i < z.length ∧ Q (.int ((z.getD i.toNat 0).toNat : Nat)) H) ta tb) := by
  intro pins s σ H Q I h
  refine Subscript_ (binT ha hb I h fun v u s2 x y H2 I2 rx ry q => ?_)
  obtain ⟨z, i, rfl, rfl, hz, h0, h1, q⟩ := q
  obtain ⟨t, rfl⟩ := rx
  obtain ⟨t', rfl⟩ := ry
  have hl : sizeLine = 16777216 := sizeLine_eq
  exact tail_any (PySem.W.typeIs_bytes s2 z.toArray t) PySem.W.FB.slot_bytes_getitem.lookup (PySem.W.getItem_bytes (by omega) h0 h1 ⟨.int ((z.getD i.toNat 0).toNat : Nat), H2, I2.tok _, ⟨_, rfl⟩, q⟩) (hs _ _)

/-! ### scalar builtins, by CallR -/
theorem vals1 {x : V} {us : List Value} (r : Vals [x] us) : ∃ u, us = [u] ∧ RelV x u := by
  cases r with
  | cons r1 r2 => cases r2; exact ⟨_, rfl, r1⟩
theorem vals2 {x y : V} {us : List Value} (r : Vals [x, y] us) : ∃ u w', us = [u, w'] ∧ RelV x u ∧ RelV y w' := by
  cases r with
  | cons r1 r2 =>
    cases r2 with
    | cons r3 r4 => cases r4; exact ⟨_, _, rfl, r1, r3⟩
theorem call_abs : CallR X (.builtin "abs") (fun xs H Q => ∃ i, xs = [.int i] ∧ Q (.int (if i < 0 then -i else i)) H) := by
  intro pins s σ H xs us Q I r h
  obtain ⟨i, rfl, q⟩ := h
  obtain ⟨u, rfl, t, rfl⟩ := vals1 r
  exact call_abs_int fun u tk => ⟨.int (if i < 0 then -i else i), H, I.tok _, ⟨_, rfl⟩, q⟩
theorem call_max2 (hc : X.calm = true) : CallR X (.builtin "max") (fun xs H Q => ∃ i j, xs = [.int i, .int j] ∧ Q (.int (if j > i then j else i)) H) := by
  intro pins s σ H xs us Q I r h
  obtain ⟨i, j, rfl, q⟩ := h
  obtain ⟨u, w', rfl, ⟨t, rfl⟩, ⟨t', rfl⟩⟩ := vals2 r
  refine max_two_ints (I.ok.hd hc) fun h' tk k => ⟨_, H, I.kept k, ?_, q⟩
  by_cases hj : j > i
  · rw [if_pos hj, if_pos hj]; exact ⟨_, rfl⟩
  · rw [if_neg hj, if_neg hj]; exact ⟨_, rfl⟩
theorem call_min2 (hc : X.calm = true) : CallR X (.builtin "min") (fun xs H Q => ∃ i j, xs = [.int i, .int j] ∧ Q (.int (if j < i then j else i)) H) := by
  intro pins s σ H xs us Q I r h
  obtain ⟨i, j, rfl, q⟩ := h
  obtain ⟨u, w', rfl, ⟨t, rfl⟩, ⟨t', rfl⟩⟩ := vals2 r
  refine min_two_ints (I.ok.hd hc) fun h' tk k => ⟨_, H, I.kept k, ?_, q⟩
  by_cases hj : j < i
  · rw [if_pos hj, if_pos hj]; exact ⟨_, rfl⟩
  · rw [if_neg hj, if_neg hj]; exact ⟨_, rfl⟩
theorem call_int1 : CallR X (.type "int") (fun xs H Q => (∃ i, xs = [.int i] ∧ Q (.int i) H) ∨ ∃ k, xs = [.bl k] ∧ Q (.int (if k then 1 else 0)) H) := by
  intro pins s σ H xs us Q I r h
  rcases h with ⟨i, rfl, q⟩ | ⟨k, rfl, q⟩
  · obtain ⟨u, rfl, t, rfl⟩ := vals1 r
    exact call_int_int ⟨.int i, H, I, ⟨_, rfl⟩, q⟩
  · obtain ⟨u, rfl, r1⟩ := vals1 r
    cases r1
    exact call_int_bool ⟨.int (if k then 1 else 0), H, I.tok _, ⟨_, rfl⟩, q⟩
theorem call_bool1 : CallR X (.type "bool") (fun xs H Q => (∃ i, xs = [.int i] ∧ Q (.bl (i != 0)) H) ∨ ∃ k, xs = [.bl k] ∧ Q (.bl k) H) := by
  intro pins s σ H xs us Q I r h
  rcases h with ⟨i, rfl, q⟩ | ⟨k, rfl, q⟩
  · obtain ⟨u, rfl, t, rfl⟩ := vals1 r
    exact call_bool_int ⟨.bl (i != 0), H, I, rfl, q⟩
  · obtain ⟨u, rfl, r1⟩ := vals1 r
    cases r1
    exact call_bool_bool ⟨.bl k, H, I, rfl, q⟩
theorem call_str_int : CallR X (.type "str") (fun xs H Q => ∃ i, xs = [.int i] ∧ i.natAbs.log2 < 1920 ∧ Q (.str (toString i)) H) := by
  intro pins s σ H xs us Q I r h
  obtain ⟨i, rfl, hz, q⟩ := h
  obtain ⟨u, rfl, t, rfl⟩ := vals1 r
  exact PySem.P.str_of_int hz ⟨.str _, H, I.tok _, ⟨_, rfl⟩, q⟩
theorem call_ord : CallR X (.builtin "ord") (fun xs H Q => ∃ x, xs = [.str x] ∧ x.length = 1 ∧ Q (.int (x.cps.getD 0 0 : Nat)) H) := by
  intro pins s σ H xs us Q I r h
  obtain ⟨x, rfl, hz, q⟩ := h
  obtain ⟨u, rfl, t, rfl⟩ := vals1 r
  exact ord_of_one hz ⟨.int _, H, I.tok _, ⟨_, rfl⟩, q⟩
theorem call_chr : CallR X (.builtin "chr") (fun xs H Q => ∃ i, xs = [.int i] ∧ 0 ≤ i ∧ i ≤ 1114111 ∧ Q (.str ⟨#[i.toNat]⟩) H) := by
  intro pins s σ H xs us Q I r h
  obtain ⟨i, rfl, h0, h1, q⟩ := h
  obtain ⟨u, rfl, t, rfl⟩ := vals1 r
  exact chr_of_range h0 h1 ⟨.str _, H, I.tok _, ⟨_, rfl⟩, q⟩
/-- len of a str, a bytes, a list, a tuple -/
def LenV (K : PySem.W.Frag) (x : V) (H : Hp) (n : Nat) : Prop :=
  match x with
  | .str y => y.length ≤ sizeLine ∧ n = y.length
  | .byt y => y.size ≤ sizeLine ∧ n = y.size
  | .ref p => (∃ xs, SqL K H p xs ∧ n = xs.length) ∨ ∃ xs, SqT K H p xs ∧ n = xs.length
  | _ => False
theorem call_len : CallR X (.builtin "len") (fun xs H Q => ∃ x n, xs = [x] ∧ LenV X.K x H n ∧ Q (.int n) H) := by
  intro pins s σ H xs us Q I r h
  obtain ⟨x, n, rfl, e, q⟩ := h
  obtain ⟨u, rfl, rx⟩ := vals1 r
  have hl := line63
  have hs : sizeLine = 16777216 := sizeLine_eq
  cases x with
  | str y =>
    obtain ⟨t, rfl⟩ := rx
    obtain ⟨hy, e'⟩ : y.length ≤ sizeLine ∧ n = y.length := e
    subst e'
    exact len_str (by omega) ⟨.int _, H, I.tok _, ⟨_, rfl⟩, q⟩
  | byt y =>
    obtain ⟨t, rfl⟩ := rx
    obtain ⟨hy, e'⟩ : y.size ≤ sizeLine ∧ n = y.size := e
    subst e'
    exact PySem.W.len_bytes (by omega) ⟨.int _, H, I.tok _, ⟨_, rfl⟩, q⟩
  | ref p =>
    cases rx
    have e' : (∃ xs, SqL X.K H p xs ∧ n = xs.length) ∨ ∃ xs, SqT X.K H p xs ∧ n = xs.length := e
    rcases e' with ⟨xs, hx, e'⟩ | ⟨xs, hx, e'⟩
    · subst e'
      obtain ⟨its, r', pl, hz⟩ := I.list hx
      have hlen := r'.length
      exact Calls.call_len_list pl.isList (by simp only [List.size_toArray]; omega) ⟨.int xs.length, H, I.tok _, ⟨_, by simp only [List.size_toArray]; rw [hlen]⟩, q⟩
    · subst e'
      obtain ⟨its, r', pl, hz⟩ := I.tuple hx
      have hlen := r'.length
      exact len_tuple pl (by simp only [List.size_toArray]; omega) ⟨.int xs.length, H, I.tok _, ⟨_, by simp only [List.size_toArray]; rw [hlen]⟩, q⟩
  | _ => exact (show False from e).elim
/-- divmod: a new tuple -/
theorem call_divmod : CallR X (.builtin "divmod") (fun xs H Q => ∃ i j, xs = [.int i, .int j] ∧ CDiv i j ∧ ∀ p, H p = none → Q (.ref p) (upd H p (.tup [.int (i / j), .int (i % j)]))) := by
  intro pins s σ H xs us Q I r h
  obtain ⟨i, j, rfl, ⟨h1, h2⟩, q⟩ := h
  obtain ⟨u, w', rfl, ⟨t, rfl⟩, ⟨t', rfl⟩⟩ := vals2 r
  refine divmod_int (by omega) ?_ (.inl (PyProof.noPylong_small (by omega)))
  rw [Int.fdiv_eq_ediv_of_nonneg i (by omega), Int.fmod_eq_emod_of_nonneg i (by omega)]
  have hn : H s.heap.objs.size = none := I.hok.fresh (Nat.le_refl _)
  refine ⟨.ref s.heap.objs.size, _, ?_, rfl, q _ hn⟩
  refine I.laid (fun b o e => Heap.get?_push_of_some _ e) (Nat.le_refl _) ⟨by simp only [List.length_cons, List.length_nil]; rw [sizeLine_eq]; decide, [.int (i / j) s.toks, .int (i % j) (s.toks + 1)], .cons ⟨_, rfl⟩ (.cons ⟨_, rfl⟩ .nil), ?_⟩
  exact ⟨_, Heap.get?_push_size s.heap rfl, rfl, 0, rfl⟩
end
end L2

namespace L2
open PySem PySem.Spec PyProof.Rows

/-! ### an instance, its attributes a map -/
structure ObjM (h : Heap) (x dx C : Addr) (mA : Str → Option Value) : Prop where
  obj : h.get? x = some (PySem.W.instObj C dx)
  ns : h.Ns1 dx mA
  ne : dx ≠ x

theorem lookIn_ns {h : Heap} {dx : Addr} {mA : Str → Option Value} (n : h.Ns1 dx mA) : ∃ od, h.get? dx = some od ∧ ∀ name, PySem.W.lookIn name od = some (mA name) := by
  obtain ⟨o, es, ep, ho, hd, hk, _, hm⟩ := n
  refine ⟨o, ho, fun name => ?_⟩
  have e := hm name
  unfold nsFind findBy at e
  rw [← Array.find?_toList] at e
  unfold PySem.W.lookIn
  rw [hd]
  dsimp only
  split
  · rename_i y q
    rw [q] at e
    exact congrArg some e
  · rename_i q
    rw [q] at e
    have a : es.toList.any (·.refKey) = false := by
      rw [List.any_eq_false]
      intro y hy
      obtain ⟨z, t, hkey⟩ := hk y (Array.mem_toList_iff.mp hy)
      simp [DictEntry.refKey, hkey]
    have a' : ¬ es.toList.any (·.refKey) = true := by rw [a]; exact Bool.false_ne_true
    rw [if_neg a']
    exact congrArg some e

theorem ObjM.look {h : Heap} {x dx C : Addr} {mA : Str → Option Value} (I : ObjM h x dx C mA) : ∃ od, PySem.W.InstAt h x (PySem.W.instObj C dx) C (some od) ∧ ∀ name, PySem.W.lookIn name od = some (mA name) :=
  let ⟨od, ho, hl⟩ := lookIn_ns I.ns
  ⟨od, ⟨I.obj, rfl, rfl, ho⟩, hl⟩

section
variable {prog : Program} {w : World} {A : Around} {E : Value → Shared → Prop} {s : Shared} {K : PySem.W.Frag} {x dx C f : Addr} {mA : Str → Option Value} {name : Str} {v : Value}

theorem get_map {expr : Bool} {Q : Value → Shared → Prop} (X : K.In s.heap) (I : ObjM s.heap x dx C mA) (hg : PySem.W.plainGet K C name = true) (hh : PySem.W.hasDictIn K C = true)
    (ha : PySem.W.findIn K (.ref C) name = some none) (hv : mA name = some v) (hv' : PySem.W.handedIn v = true) (h : Q v { s with toks := s.toks + 1 }) :
    wpAny (model prog w) A (getAttr (.ref x) name expr) Q E s := by
  obtain ⟨od, J, hl⟩ := I.look
  exact PySem.W.get_value X J (PySem.W.plainGet_of hg).1 (PySem.W.findObj_own hh ha rfl (by rw [hl, hv])) hv' h

theorem get_const {expr : Bool} {a : Value} {Q : Value → Shared → Prop} (X : K.In s.heap) (I : ObjM s.heap x dx C mA) (hg : PySem.W.plainGet K C name = true) (hh : PySem.W.hasDictIn K C = true)
    (ha : PySem.W.findIn K (.ref C) name = some (some a)) (hn : PySem.W.specialIn K a "__get__" = some none) (hc : PySem.W.copiedNames.contains name = false) (hv : mA name = none) (hv' : PySem.W.handedIn a = true)
    (h : Q a { s with toks := s.toks + 1 }) : wpAny (model prog w) A (getAttr (.ref x) name expr) Q E s := by
  obtain ⟨od, J, hl⟩ := I.look
  exact PySem.W.get_value X J (PySem.W.plainGet_of hg).1 (PySem.W.findObj_cls hh ha hn hv' hc (by rw [hl, hv])) hv' h

theorem get_meth {pl : Sem Bool} {Q : Value × List Value → Shared → Prop} (X : K.In s.heap) (I : ObjM s.heap x dx C mA) (hg : PySem.W.plainGet K C name = true)
    (hf : PySem.W.findIn K (.ref C) name = some (some (.ref f))) (ht : PySem.W.isFn K (.ref f) = true) (hv : mA name = none) (h : Q (.ref f, [.ref x]) s) :
    wpAny (model prog w) A (getMethod (.ref x) name pl) Q E s := by
  obtain ⟨od, J, hl⟩ := I.look
  exact PySem.W.method_fn X J (PySem.W.plainGet_of hg).1 (PySem.W.plainGet_of hg).2 hf (beq_iff_eq.mp ht) (by show (PySem.W.lookIn name od).map (·.isSome) = some false; rw [hl, hv]; rfl) h

theorem set_map {ns : List Str} {Q : Unit → Shared → Prop} (X : K.In s.heap) (I : ObjM s.heap x dx C mA)
    (hs : PySem.W.findIn K (.ref C) "__setattr__" = some (some (.builtin "object.__setattr__"))) (hp : PySem.W.plainOver K C = true) (ht : PySem.W.takerIn K C name = some none) (hh : PySem.W.hasDictIn K C = true)
    (hw : PySem.Within mA ns) (hsz : ns.length ≤ sizeLine)
    (h : ∀ h', ObjM h' x dx C (fun y => if y = name then some v else mA y) → Heap.SameBut dx s.heap h' → Q () { s with heap := h', toks := s.toks + 2 }) :
    wpAny (model prog w) A (setAttr (.ref x) name v) Q E s := by
  obtain ⟨od, J, hl⟩ := I.look
  refine PySem.W.set_plain X J hs (PySem.W.osa_open (s := { s with toks := s.toks + 1 }) (r := none) X J hp ht fun b => ?_)
  obtain ⟨cd, hc, hd'⟩ := PySem.W.any_some hh
  have hx : s.heap.get? x = some ⟨.ref C, some dx, .plain, #[]⟩ := I.obj
  refine wpAny_bind (wpAny_pure (wpAny_bind (wpAny_bind (wpAny_loadPart hx (wpAny_bind (PySem.W.Looks.here (s := { s with toks := s.toks + 1 }) (PySem.W.looks_clsIn X hc) ?_))))))
  rw [hd']
  refine wpAny_pure (a := some dx) (wpAny_bind (wpAny_pure (wpAny_bind ?_)))
  refine wpAny_nsSet1 (s := { s with toks := s.toks + 1 }) I.ns fun h' hn2 hs2 => ?_
  obtain ⟨oD, esD, epD, hoD, hdD, hcD⟩ := hn2.count (PySem.Within.cons name v hw)
  refine wpAny_bind (wpAny_lookBehind hoD (by rw [hdD]; exact pastItsLine_dict (Nat.le_trans hcD (by rw [List.length_cons]; omega))) ?_)
  exact wpAny_pure (h _ ⟨(hs2.2 _ (Ne.symm I.ne)).trans I.obj, hn2, I.ne⟩ hs2)

/-- C(..): the dict at the heap's end, the instance behind it; then its __init__ -/
theorem make_map {R : Result → Shared → Prop} {vs : List Value} {kw : List (Str × Value)} (X : K.In s.heap) (hm : PySem.W.makesIn K C = true)
    (hi : PySem.W.findIn K (.ref C) "__init__" = some (some (.ref f))) (hf : PySem.W.typeIn K (.ref f) = some (.type "function"))
    (h : codeAny (model prog w) (A.under (.builtin "type.__call__" ⟨.ref C :: vs, kw⟩)) (.call (.ref f) ⟨.ref (s.heap.objs.size + 1) :: vs, kw⟩) (PySem.W.InitBack (s.heap.objs.size + 1) R)
      { s with heap := (s.heap.push PySem.W.emptyDict).push (PySem.W.instObj C s.heap.objs.size) }) :
    codeAny (model prog w) A (.call (.ref C) ⟨vs, kw⟩) R s := by
  obtain ⟨hh, g, d, t, os⟩ := s
  exact PySem.W.make_core (PySem.W.makes_of X hm) (PySem.W.looks_findIn X hi) (fun self => PySem.W.bind_fn X self hf) (.inl rfl) h
/-- C() where there is no __init__ but object's -/
theorem make_map0 {R : Result → Shared → Prop} (X : K.In s.heap) (hm : PySem.W.makesIn K C = true)
    (hi : PySem.W.findIn K (.ref C) "__init__" = some (some (.builtin "object.__init__")))
    (hb : ∀ self, PySem.W.Looks (model prog w) s.heap (bindSpecial (.builtin "object.__init__") self) (.builtin "object.__init__", [self]))
    (h : codeAny (model prog w) (A.under (.builtin "type.__call__" ⟨[.ref C], []⟩)) (.call (.builtin "object.__init__") ⟨[.ref (s.heap.objs.size + 1)], []⟩) (PySem.W.InitBack (s.heap.objs.size + 1) R)
      { s with heap := (s.heap.push PySem.W.emptyDict).push (PySem.W.instObj C s.heap.objs.size) }) :
    codeAny (model prog w) A (.call (.ref C) ⟨[], []⟩) R s := by
  obtain ⟨hh, g, d, t, os⟩ := s
  exact PySem.W.make_core (PySem.W.makes_of X hm) (PySem.W.looks_findIn X hi) hb (.inr ⟨rfl, rfl⟩) h
end

/-! ### the attributes as a list of pairs -/
def putF (f : Str) (v : V) : List (Str × V) → List (Str × V)
  | [] => [(f, v)]
  | (g, x) :: r => if g = f then (g, v) :: r else (g, x) :: putF f v r
theorem lookup_putF (f g : Str) (v : V) : ∀ fs : List (Str × V), (putF f v fs).lookup g = if g = f then some v else fs.lookup g
  | [] => by
    show List.lookup g [(f, v)] = _
    by_cases h : g = f
    · have hb : (g == f) = true := beq_iff_eq.mpr h
      simp only [List.lookup, hb, if_pos h]
    · have hb : (g == f) = false := beq_eq_false_iff_ne.mpr h
      simp only [List.lookup, hb, if_neg h]
  | (k, x) :: r => by
    have ih := lookup_putF f g v r
    rw [show putF f v ((k, x) :: r) = (if k = f then (k, v) :: r else (k, x) :: putF f v r) from rfl]
    by_cases hk : k = f
    · rw [if_pos hk]
      by_cases h : g = k
      · have hb : (g == k) = true := beq_iff_eq.mpr h
        simp only [List.lookup, hb, if_pos (h.trans hk)]
      · have hb : (g == k) = false := beq_eq_false_iff_ne.mpr h
        simp only [List.lookup, hb, if_neg (fun e : g = f => h (e.trans hk.symm))]
    · rw [if_neg hk]
      by_cases h : g = k
      · have hb : (g == k) = true := beq_iff_eq.mpr h
        simp only [List.lookup, hb, if_neg (fun e : g = f => hk (h.symm.trans e))]
      · have hb : (g == k) = false := beq_eq_false_iff_ne.mpr h
        simp only [List.lookup, hb]
        exact ih
theorem keys_putF (f : Str) (v : V) : ∀ fs : List (Str × V), f ∈ (putF f v fs).map (·.1) ∧ ∀ g, g ∈ fs.map (·.1) → g ∈ (putF f v fs).map (·.1)
  | [] => ⟨by simp [putF], fun g h => by simp at h⟩
  | (k, x) :: r => by
    obtain ⟨i1, i2⟩ := keys_putF f v r
    rw [show putF f v ((k, x) :: r) = (if k = f then (k, v) :: r else (k, x) :: putF f v r) from rfl]
    by_cases hk : k = f
    · rw [if_pos hk]
      subst hk
      exact ⟨by simp, fun g h => by simpa using h⟩
    · rw [if_neg hk]
      refine ⟨?_, fun g h => ?_⟩
      · rw [List.map_cons]
        exact List.mem_cons_of_mem _ i1
      · rw [List.map_cons] at h ⊢
        rcases List.mem_cons.mp h with e | e
        · exact List.mem_cons.mpr (.inl e)
        · exact List.mem_cons_of_mem _ (i2 g e)
theorem length_putF (f : Str) (v : V) : ∀ fs : List (Str × V), (putF f v fs).length ≤ fs.length + 1
  | [] => by simp [putF]
  | (k, x) :: r => by
    have ih := length_putF f v r
    rw [show putF f v ((k, x) :: r) = (if k = f then (k, v) :: r else (k, x) :: putF f v r) from rfl]
    by_cases hk : k = f
    · rw [if_pos hk, List.length_cons, List.length_cons]; omega
    · rw [if_neg hk, List.length_cons, List.length_cons]; omega

theorem RelO.some_of {v : V} {o : Option Value} (r : RelO (some v) o) : ∃ u, o = some u ∧ RelV v u := by
  cases o with
  | none => exact (show False from r).elim
  | some u => exact ⟨u, rfl, r⟩
theorem RelO.none_of {o : Option Value} (r : RelO none o) : o = none := by
  cases o with
  | none => rfl
  | some u => exact (show False from r).elim
theorem handed_of {v : V} {u : Value} (r : RelV v u) : PySem.W.handedIn u = true := by
  cases v with
  | non => cases (show u = Value.none from r); rfl
  | bl b => cases (show u = Value.bool b from r); rfl
  | int i => obtain ⟨t, e⟩ := (show ∃ t, u = Value.int i t from r); cases e; rfl
  | str x => obtain ⟨t, e⟩ := (show ∃ t, u = Value.str x t from r); cases e; rfl
  | byt b => obtain ⟨t, e⟩ := (show ∃ t, u = Value.bytes b t from r); cases e; rfl
  | flt b => obtain ⟨t, e⟩ := (show ∃ t, u = Value.float b t from r); cases e; rfl
  | ref a => cases (show u = Value.ref a from r); rfl
  | ty n => cases (show u = Value.type n from r); rfl

section
variable {P : Program} {w : World} {H H' : Hp} {h h' : Heap} {a C dx : Addr} {fs fs' : List (Str × V)}
theorem ins_get (hok : HOk P w H h) (e : H a = some (.ins C dx fs)) : ∃ mA, ObjM h a dx C mA ∧ (∀ f, RelO (fs.lookup f) (mA f)) ∧ PySem.Within mA (fs.map (·.1)) ∧ fs.length ≤ 1000 ∧ H dx = some (.own a) := by
  obtain ⟨d, z, ne, ob, mA, n, r, q⟩ := (show ObjOk P w H h a (.ins C dx fs) from hok a _ e)
  exact ⟨mA, ⟨ob, n, ne⟩, r, q, z, d⟩
end

/-! ### what of the text a class must have -/
structure Cls (K : PySem.W.Frag) (C : Addr) : Prop where
  pg : PySem.W.plainGet K C Str.empty = true
  hd : PySem.W.hasDictIn K C = true
  po : PySem.W.plainOver K C = true
  sa : PySem.W.findIn K (.ref C) "__setattr__" = some (some (.builtin "object.__setattr__"))
theorem Cls.get {K : PySem.W.Frag} {C : Addr} (c : Cls K C) (f : Str) : PySem.W.plainGet K C f = true := c.pg
/-- no class of it has the name -/
def NoAttr (K : PySem.W.Frag) (C : Addr) (f : Str) : Prop := PySem.W.findIn K (.ref C) f = some none
theorem NoAttr.taker {K : PySem.W.Frag} {C : Addr} {f : Str} (n : NoAttr K C f) : PySem.W.takerIn K C f = some none := by
  unfold PySem.W.takerIn
  rw [show PySem.W.findIn K (.ref C) f = some none from n]
  rfl
/-- a constant of the class -/
structure Con (K : PySem.W.Frag) (C : Addr) (f : Str) (v : V) (u : Value) : Prop where
  at_ : PySem.W.findIn K (.ref C) f = some (some u)
  rel : RelV v u
  get : PySem.W.specialIn K u "__get__" = some none
  cp : PySem.W.copiedNames.contains f = false
/-- a method: a plain def of the class or of one above it -/
structure Meth (K : PySem.W.Frag) (C : Addr) (m : Str) (f : Addr) : Prop where
  at_ : PySem.W.findIn K (.ref C) m = some (some (.ref f))
  fn : PySem.W.isFn K (.ref f) = true
  kp : PySem.W.keepIn K (.ref f) = true

section
variable {X : Cx} {pins : List (Addr × Obj)} {σ : St} {H : Hp} {s : Shared} {a C dx : Addr} {fs : List (Str × V)} {f : Str} {v : V} {A : Around} {E : Value → Shared → Prop}

theorem getattr_ok {b : Bool} {Q : Value → Shared → Prop} (I : Inv X pins σ H s) (e : H a = some (.ins C dx fs)) (c : Cls X.K C) (n : NoAttr X.K C f) (l : fs.lookup f = some v)
    (h : ∀ u s', Inv X pins σ H s' → RelV v u → Q u s') : wpAny (model X.prog X.w) A (getAttr (.ref a) f b) Q E s := by
  obtain ⟨mA, O, r, _, _, _⟩ := ins_get I.hok e
  obtain ⟨u, hu, ru⟩ := RelO.some_of (v := v) (o := mA f) (by rw [← l]; exact r f)
  exact get_map I.kIn O (c.get f) c.hd n hu (handed_of ru) (h u _ (I.tok _) ru)

theorem getcon_ok {b : Bool} {u : Value} {Q : Value → Shared → Prop} (I : Inv X pins σ H s) (e : H a = some (.ins C dx fs)) (c : Cls X.K C) (k : Con X.K C f v u) (l : fs.lookup f = none)
    (h : ∀ s', Inv X pins σ H s' → Q u s') : wpAny (model X.prog X.w) A (getAttr (.ref a) f b) Q E s := by
  obtain ⟨mA, O, r, _, _, _⟩ := ins_get I.hok e
  have hn : mA f = none := RelO.none_of (by rw [← l]; exact r f)
  exact get_const I.kIn O (c.get f) c.hd k.at_ k.get k.cp hn (handed_of k.rel) (h _ (I.tok _))

theorem getmeth_ok {m : Str} {g : Addr} {pl : Sem Bool} {Q : Value × List Value → Shared → Prop} (I : Inv X pins σ H s) (e : H a = some (.ins C dx fs)) (c : Cls X.K C) (k : Meth X.K C m g) (l : fs.lookup m = none)
    (h : Q (.ref g, [.ref a]) s) : wpAny (model X.prog X.w) A (getMethod (.ref a) m pl) Q E s := by
  obtain ⟨mA, O, r, _, _, _⟩ := ins_get I.hok e
  have hn : mA m = none := RelO.none_of (by rw [← l]; exact r m)
  exact get_meth I.kIn O (c.get m) k.at_ k.fn hn h

theorem setattr_ok {y : V} {u : Value} {Q : Unit → Shared → Prop} (I : Inv X pins σ H s) (e : H a = some (.ins C dx fs)) (c : Cls X.K C) (n : NoAttr X.K C f) (hl : fs.length < 1000) (ry : RelV y u)
    (h : ∀ s', Inv X pins σ (upd H a (.ins C dx (putF f y fs))) s' → Q () s') : wpAny (model X.prog X.w) A (setAttr (.ref a) f u) Q E s := by
  obtain ⟨mA, O, r, wi, _, ho⟩ := ins_get I.hok e
  have hz : (fs.map (·.1)).length ≤ sizeLine := by rw [List.length_map, sizeLine_eq]; omega
  refine set_map I.kIn O c.sa c.po n.taker c.hd wi hz fun h' O' sb => h _ ?_
  have hd : ∃ o, h'.get? dx = some o := let ⟨o, _, _, e', _⟩ := O'.ns; ⟨o, e'⟩
  refine I.write (x := a) (e := dx) (by rw [e]; exact True.intro) (.inr ho) (fun b q hb z => (sb.2 b hb).trans z) hd ?_
  refine ⟨by rw [upd_ne O.ne]; exact ho, ?_, O.ne, O'.obj, _, O'.ns, fun g => ?_, fun g hg => ?_⟩
  · have := length_putF f y fs; omega
  · show RelO ((putF f y fs).lookup g) (if g = f then some u else mA g)
    rw [lookup_putF]
    by_cases q : g = f
    · rw [if_pos q, if_pos q]; exact ry
    · rw [if_neg q, if_neg q]; exact r g
  · by_cases q : g = f
    · rw [q]; exact (keys_putF f y fs).1
    · refine (keys_putF f y fs).2 g (wi g fun z => hg ?_)
      show (if g = f then some u else mA g) = none
      rw [if_neg q]; exact z

/-- a new instance, tracked, without attributes -/
theorem Inv.made (I : Inv X pins σ H s) : Inv X pins σ (upd (upd H s.heap.objs.size (.own (s.heap.objs.size + 1))) (s.heap.objs.size + 1) (.ins C s.heap.objs.size []))
    { s with heap := (s.heap.push PySem.W.emptyDict).push (PySem.W.instObj C s.heap.objs.size) } := by
  have e1 : (s.heap.push PySem.W.emptyDict).get? s.heap.objs.size = some PySem.W.emptyDict := Heap.get?_push_size s.heap rfl
  have e2 : ((s.heap.push PySem.W.emptyDict).push (PySem.W.instObj C s.heap.objs.size)).get? (s.heap.objs.size + 1) = some (PySem.W.instObj C s.heap.objs.size) := by
    have := Heap.get?_push_size (s.heap.push PySem.W.emptyDict) (o := PySem.W.instObj C s.heap.objs.size) rfl
    rwa [Heap.size_push] at this
  have e3 : (s.heap.push PySem.W.emptyDict).Ns s.heap.objs.size (fun _ => none) := ⟨PySem.W.emptyDict, #[], _, e1, rfl, (fun e he => absurd he (by simp)), fun _ => rfl⟩
  have I1 := I.laid (a := s.heap.objs.size) (o := .own (s.heap.objs.size + 1)) (h' := s.heap.push PySem.W.emptyDict) (t' := s.toks) (fun b u q => Heap.get?_push_of_some _ q) (Nat.le_refl _) ⟨_, e1⟩
  refine I1.laid (a := s.heap.objs.size + 1) (o := .ins C s.heap.objs.size []) (t' := s.toks) (fun b u q => Heap.get?_push_of_some _ q) (Nat.le_of_eq (Heap.size_push _ _)) ?_
  have ne : s.heap.objs.size ≠ s.heap.objs.size + 1 := Nat.ne_of_lt (Nat.lt_succ_self _)
  refine ⟨by rw [upd_ne ne, upd_same], Nat.zero_le _, ne, e2, fun _ => none, (Heap.Ns1.of_empty e3).at fun o q => Heap.get?_push_of_some _ q, fun _ => True.intro, fun y hy => absurd rfl hy⟩

/-- e.f where nothing but the object is asked: through attributeBase (super) and the last hold -/
theorem attr_of {prog : Program} {w : World} {env : Env} {e : Expr} {f : Str} {pos : Pos} {s : Shared} {Q : Value → Shared → Prop} (hb : attributeBase e f env (eval e env) = eval e env)
    (h : wpAny (model prog w) A (eval e env) (fun o s₁ => wpAny (model prog w) A (getAttr o f true) Q E s₁) E s) : wpAny (model prog w) A (eval (.Attribute e f pos) env) Q E s :=
  Attribute_any_ h (by rw [arm_eval_Attribute, hb])
end

/-! ### readings and rules -/
/-- e.f, an attribute of the instance -/
def tFld (K : PySem.W.Frag) (ta : TE) (f : Str) : TE := fun σ H Q => ta σ H fun x H1 => ∃ a C dx fs v, x = .ref a ∧ H1 a = some (.ins C dx fs) ∧ Cls K C ∧ NoAttr K C f ∧ fs.lookup f = some v ∧ Q v H1
/-- e.f, a constant of the class -/
def tCon (K : PySem.W.Frag) (ta : TE) (f : Str) : TE := fun σ H Q => ta σ H fun x H1 => ∃ a C dx fs v u, x = .ref a ∧ H1 a = some (.ins C dx fs) ∧ Cls K C ∧ Con K C f v u ∧ fs.lookup f = none ∧ Q v H1
/-- e.f = value -/
def sFld (K : PySem.W.Frag) (ta tv : TE) (f : Str) : TS := fun D σ H => tv σ H fun y H1 => ta σ H1 fun x H2 => ∃ a C dx fs, x = .ref a ∧ H2 a = some (.ins C dx fs) ∧ Cls K C ∧ NoAttr K C f ∧ fs.length < 1000 ∧
  D.nx σ (upd H2 a (.ins C dx (putF f y fs)))
/-- an augmented operator on two values -/
def InOp (X : Cx) (op : Operator) (rd : V → V → Hp → VK → Prop) : Prop :=
  ∀ (pins : List (Addr × Obj)) (s : Shared) (σ : St) (H : Hp) (x y : V) (u v : Value) (Q : VK), Inv X pins σ H s → RelV x u → RelV y v → rd x y H Q → wpAny (model X.prog X.w) X.A (inplaceOp op u v) (EP X pins σ Q) X.xe s
/-- e.f op= value -/
def sFldAug (K : PySem.W.Frag) (ta tv : TE) (rd : V → V → Hp → VK → Prop) (f : Str) : TS := fun D σ H => ta σ H fun x H1 => ∃ a C dx fs v, x = .ref a ∧ H1 a = some (.ins C dx fs) ∧ Cls K C ∧ NoAttr K C f ∧ fs.lookup f = some v ∧
  tv σ H1 fun y H2 => rd v y H2 fun z H3 => ∃ dx' fs', H3 a = some (.ins C dx' fs') ∧ fs'.length < 1000 ∧ D.nx σ (upd H3 a (.ins C dx' (putF f z fs')))

section
variable {X : Cx} {o e value : Expr} {f : Str} {pos pos' tpos : Pos} {ta tv : TE}
theorem pe_fld (he : PE X e ta) (hb : attributeBase e f X.env (eval e X.env) = eval e X.env) : PE X (.Attribute e f pos) (tFld X.K ta f) := by
  intro pins s σ H Q I h
  refine attr_of hb (thn (he pins s σ H _ I h) fun u s1 ⟨x, H1, I1, rx, a, C, dx, fs, v, ex, ea, c, n, l, q⟩ => ?_)
  subst ex
  obtain rfl : u = Value.ref a := rx
  exact getattr_ok I1 ea c n l fun u' s2 I2 ru => ⟨v, H1, I2, ru, q⟩
theorem pe_con (he : PE X e ta) (hb : attributeBase e f X.env (eval e X.env) = eval e X.env) : PE X (.Attribute e f pos) (tCon X.K ta f) := by
  intro pins s σ H Q I h
  refine attr_of hb (thn (he pins s σ H _ I h) fun u s1 ⟨x, H1, I1, rx, a, C, dx, fs, v, u0, ex, ea, c, k, l, q⟩ => ?_)
  subst ex
  obtain rfl : u = Value.ref a := rx
  exact getcon_ok I1 ea c k l fun s2 I2 => ⟨v, H1, I2, k.rel, q⟩
theorem ps_fld (ha : PE X o ta) (hv : PE X value tv) (hs : swapsWith value (some (.Attribute o f pos')) pos.line X.env = pure false) : PS X (.Assign [.Attribute o f pos'] value pos) (sFld X.K ta tv f) := by
  intro pins s σ H D I h
  refine plainObj_wpAny_Assign_Attribute (thn (hv pins s σ H _ I h) fun u s1 ⟨y, H1, I1, ry, q⟩ => thn (ha pins s1 σ H1 _ I1 q) fun ov s2 ⟨x, H2, I2, rx, a, C, dx, fs, ex, ea, c, n, l, q2⟩ => ?_) hs
  subst ex
  obtain rfl : ov = Value.ref a := rx
  exact setattr_ok I2 ea c n l ry fun s3 I3 => ⟨σ, _, I3, q2⟩
theorem ps_fldaug {op : Operator} {rd : V → V → Hp → VK → Prop} (ha : PE X o ta) (hv : PE X value tv) (hop : InOp X op rd) : PS X (.AugAssign (.Attribute o f tpos) op value pos) (sFldAug X.K ta tv rd f) := by
  intro pins s σ H D I h
  refine wpAny_AugAssign_AttributeAny (thn (ha pins s σ H _ I h) fun ov s1 ⟨x, H1, I1, rx, a, C, dx, fs, v, ex, ea, c, n, l, q⟩ => ?_)
  subst ex
  obtain rfl : ov = Value.ref a := rx
  refine getattr_ok I1 ea c n l fun u s2 I2 ru => thn (hv pins s2 σ H1 _ I2 q) fun w3 s3 ⟨y, H2, I3, ry, q3⟩ => thn (hop pins s3 σ H2 v y u w3 _ I3 ru ry q3) fun w4 s4 ⟨z, H3, I4, rz, dx', fs', ea', l', q4⟩ => ?_
  exact setattr_ok I4 ea' c n l' rz fun s5 I5 => ⟨σ, _, I5, q4⟩
def rAdd : V → V → Hp → VK → Prop := fun x y H Q => ∃ i j, x = .int i ∧ y = .int j ∧ Q (.int (i + j)) H
def rSub : V → V → Hp → VK → Prop := fun x y H Q => ∃ i j, x = .int i ∧ y = .int j ∧ Q (.int (i - j)) H
theorem in_add : InOp X .Add rAdd := by
  rintro pins s σ H x y u v Q I rx ry ⟨i, j, rfl, rfl, q⟩
  obtain ⟨t, rfl⟩ := (show ∃ t, u = Value.int i t from rx)
  obtain ⟨t', rfl⟩ := (show ∃ t', v = Value.int j t' from ry)
  exact PyProof.Rows.iadd_int ⟨.int (i + j), H, I.tok _, ⟨_, rfl⟩, q⟩
theorem in_sub : InOp X .Sub rSub := by
  rintro pins s σ H x y u v Q I rx ry ⟨i, j, rfl, rfl, q⟩
  obtain ⟨t, rfl⟩ := (show ∃ t, u = Value.int i t from rx)
  obtain ⟨t', rfl⟩ := (show ∃ t', v = Value.int j t' from ry)
  exact PyProof.Rows.isub_int ⟨.int (i - j), H, I.tok _, ⟨_, rfl⟩, q⟩

/-- what is between an instance and its method: the tree of a method call -/
theorem methcall_of {pl : Sem Bool} {m : Str} {apos : Pos} {args : List Expr} {pins : List (Addr × Obj)} {s : Shared} {σ : St} {H : Hp} {Q : Value → Shared → Prop} {te : TE} (he : PE X e te) (I : Inv X pins σ H s)
    (h : te σ H fun x H1 => ∃ a C dx fs g, x = .ref a ∧ H1 a = some (.ins C dx fs) ∧ Cls X.K C ∧ Meth X.K C m g ∧ fs.lookup m = none ∧
      ∀ s1, Inv X pins σ H1 s1 → wpAny (model X.prog X.w) X.A (callWith pos (.ref g) [.ref a] (backTo pos (starEach args X.env)) (backToKw pos (keywordEach [] X.env))) Q X.xe s1)
    (ht : eval (.Call (.Attribute e m apos) args [] pos) X.env = (do
      let ov ← eval e X.env
      standAt apos.atName
      let (f, first) ← holding [ov] (getMethod ov m pl)
      callWith pos f first (backTo pos (starEach args X.env)) (backToKw pos (keywordEach [] X.env)))) :
    wpAny (model X.prog X.w) X.A (eval (.Call (.Attribute e m apos) args [] pos) X.env) Q X.xe s := by
  refine PySem.W.methodCall_KW (pl := pl) (thn (he pins s σ H _ I h) fun u s1 ⟨x, H1, I1, rx, a, C, dx, fs, g, ex, ea, c, k, l, q⟩ => ?_) ht
  subst ex
  obtain rfl : u = Value.ref a := rx
  exact getmeth_ok I1 ea c k l (q s1 I1)
end

/-! ### isinstance -/
section
variable {X : Cx} {pins : List (Addr × Obj)} {σ : St} {H : Hp} {s : Shared} {A : Around} {E : Value → Shared → Prop} {Q : Value → Shared → Prop} {c : Value} {b : Bool}
/-- the type of a value, as the fragment's deciders take it; for an instance its class -/
inductive TyOf (K : PySem.W.Frag) (H : Hp) : V → Value → Prop where
  | non : TyOf K H .non (.type "NoneType")
  | bl (x : Bool) : TyOf K H (.bl x) (.type "bool")
  | int (i : Int) : TyOf K H (.int i) (.type "int")
  | str (x : Str) : TyOf K H (.str x) (.type "str")
  | flt (x : UInt64) : TyOf K H (.flt x) (.type "float")
  | lst {a : Addr} {xs : List V} (e : H a = some (.lst xs)) : TyOf K H (.ref a) (.type "list")
  | frz {a : Addr} {o : Obj} {xs : List V} (e : H a = some (.frz o (.lst xs))) : TyOf K H (.ref a) (.type "list")
  | tup {a : Addr} {xs : List V} (e : H a = some (.tup xs)) : TyOf K H (.ref a) (.type "tuple")
  | dK {a : Addr} {kvs : List (Key × V)} (e : H a = some (.dK kvs)) : TyOf K H (.ref a) (.type "dict")
  | dT {a : Addr} {kvs : List (List Key × V)} (e : H a = some (.dT kvs)) : TyOf K H (.ref a) (.type "dict")
  | ins {a C dx : Addr} {fs : List (Str × V)} (e : H a = some (.ins C dx fs)) (cl : Cls K C) (ha : PySem.W.findIn K (.ref C) "__class__" = some (some (.builtin "object.__class__")))
      (hn : PySem.W.specialIn K (.builtin "object.__class__") "__get__" = some (some (.builtin "getset_descriptor.__get__"))) (htk : PySem.W.takesIn K (.builtin "object.__class__") = some true)
      (hm : PySem.W.mroIn K C (.type "object") = some true) : TyOf K H (.ref a) (.ref C)
/-- isinstance(x, c) for one class c, a built-in or an own one: kitOne's answer -/
theorem isinst_ok {x : V} {u t : Value} (I : Inv X pins σ H s) (rx : RelV x u) (ty : TyOf X.K H x t) (e : PySem.W.kitOne X.K t c = some b) (h : ∀ tk, Q (.bool b) { s with toks := tk }) :
    wpAny (model X.prog X.w) A (call (.builtin "isinstance") [u, c]) Q E s := by
  cases ty with
  | non => cases (show u = Value.none from rx); exact PySem.W.kia_one PySem.W.kitx_none I.kIn True.intro e (fun z => nomatch z) h
  | bl y => cases (show u = Value.bool y from rx); exact PySem.W.kia_one PySem.W.kitx_bool I.kIn True.intro e (fun z => nomatch z) h
  | int i => obtain ⟨t, q⟩ := (show ∃ t, u = Value.int i t from rx); cases q; exact PySem.W.kia_one PySem.W.kitx_int I.kIn True.intro e (fun z => nomatch z) h
  | str y => obtain ⟨t, q⟩ := (show ∃ t, u = Value.str y t from rx); cases q; exact PySem.W.kia_one PySem.W.kitx_str I.kIn True.intro e (fun z => nomatch z) h
  | flt y => obtain ⟨t, q⟩ := (show ∃ t, u = Value.float y t from rx); cases q; exact PySem.W.kia_one PySem.W.kitx_float I.kIn True.intro e (fun z => nomatch z) h
  | @lst a xs ea =>
    cases (show u = Value.ref a from rx)
    obtain ⟨_, _, n, _, h1⟩ := (show ObjOk X.prog X.w H s.heap a (.lst xs) from I.hok a _ ea)
    exact PySem.W.kia_one PySem.W.kitx_list I.kIn ⟨_, h1, rfl⟩ e (fun z => nomatch z) h
  | @frz a ob xs ea =>
    cases (show u = Value.ref a from rx)
    obtain ⟨_, _, _, n, _, h1⟩ := (show ObjOk X.prog X.w H s.heap a (.frz ob (.lst xs)) from I.hok a _ ea)
    exact PySem.W.kia_one PySem.W.kitx_list I.kIn ⟨_, h1, rfl⟩ e (fun z => nomatch z) h
  | @tup a xs ea =>
    cases (show u = Value.ref a from rx)
    obtain ⟨_, _, _, p⟩ := (show ObjOk X.prog X.w H s.heap a (.tup xs) from I.hok a _ ea)
    obtain ⟨o, h1, h2, _⟩ := p
    exact PySem.W.kia_one PySem.W.kitx_tuple I.kIn ⟨o, h1, h2⟩ e (fun z => nomatch z) h
  | @dK a kvs ea =>
    cases (show u = Value.ref a from rx)
    obtain ⟨_, _, vs, _, p⟩ := (show ObjOk X.prog X.w H s.heap a (.dK kvs) from I.hok a _ ea)
    obtain ⟨o, es, ep, h1, h2, _⟩ := p
    exact PySem.W.kia_one PySem.W.kitx_dict I.kIn ⟨o, h1, h2.1⟩ e (fun z => nomatch z) h
  | @dT a kvs ea =>
    cases (show u = Value.ref a from rx)
    obtain ⟨_, _, xs, _, o, es, ep, h1, h2, _⟩ := (show ObjOk X.prog X.w H s.heap a (.dT kvs) from I.hok a _ ea)
    exact PySem.W.kia_one PySem.W.kitx_dict I.kIn ⟨o, h1, h2.1⟩ e (fun z => nomatch z) h
  | @ins a C dx fs ea cl ha hn htk hm =>
    cases (show u = Value.ref a from rx)
    obtain ⟨mA, O, _⟩ := ins_get I.hok ea
    obtain ⟨od, J, _⟩ := O.look
    exact PySem.W.kia_one (PySem.W.kitx_own (cl.get _) cl.hd ha hn htk hm) I.kIn J e (fun z => nomatch z) h
end
end L2

namespace L2
open PySem PySem.Spec PyProof.Rows

/-! ### room -/
structure Room (k : Nat) (A : Around) : Prop where
  hd : A.handled = none
  dp : A.depth + 3 * k + 5 < recursionLimit
  un : A.units + 16 * k + 200 < cLine
theorem Room.mono {j k : Nat} {A : Around} (r : Room k A) (h : j ≤ k) : Room j A := ⟨r.hd, by have := r.dp; omega, by have := r.un; omega⟩
theorem Room.deeper {k : Nat} {A : Around} (r : Room (k + 1) A) (env : Env) : Room k (A.deeper env) :=
  ⟨r.hd, by have := r.dp; show A.depth + 1 + 3 * k + 5 < _; omega, by have := r.un; show A.units + 3 + 16 * k + 200 < _; omega⟩
theorem Room.in1 {k : Nat} {A : Around} (r : Room (k + 1) A) : Room k A.in1 :=
  ⟨r.hd, by have := r.dp; show A.depth + 3 * k + 5 < _; omega, by have := r.un; show A.units + 1 + 16 * k + 200 < _; omega⟩
theorem make_depth {A : Around} {C : Addr} {us : List Value} {kw : List (Str × Value)} : (A.under (.builtin "type.__call__" ⟨.ref C :: us, kw⟩)).depth = A.depth + 1 := by
  first | rfl | simp [Around.under, Code.weight, Code.isCreation, Code.isGuard, Code.isCaller, Code.frames, Code.isFrame, guardIds]
theorem make_units {A : Around} {C : Addr} {us : List Value} {kw : List (Str × Value)} : (A.under (.builtin "type.__call__" ⟨.ref C :: us, kw⟩)).units = A.units + 1 := by
  first | rfl | simp [Around.under, Code.cUnits, Code.frames, Code.isFrame]
theorem Room.make {k : Nat} {A : Around} (r : Room (k + 1) A) (C : Addr) (us : List Value) (kw : List (Str × Value)) : Room k (A.under (.builtin "type.__call__" ⟨.ref C :: us, kw⟩)) :=
  ⟨r.hd, by have := r.dp; rw [make_depth]; omega, by have := r.un; rw [make_units]; omega⟩
theorem Room.depth {k : Nat} {A : Around} (r : Room k A) : A.depth < recursionLimit := by have := r.dp; omega
theorem Room.units {k : Nat} {A : Around} (r : Room k A) : A.units + 64 < cLine := by have := r.un; omega
theorem Room.units0 {k : Nat} {A : Around} (r : Room k A) : A.units < cLine := by have := r.un; omega

/-! ### argument lists and displays -/
def tNil : TA := fun _ H Q => Q [] H
def tCons (ta : TE) (tr : TA) : TA := fun σ H Q => ta σ H fun x H1 => tr σ H1 fun xs H2 => Q (x :: xs) H2
section
variable {X : Cx} {e : Expr} {es : List Expr} {te : TE} {t : TA} {pos : Pos}
theorem pa_nil : PA X [] tNil := fun _ _ _ _ H Q I h => Calls.spliced_nil ⟨[], H, I, .nil, h⟩
theorem pa_cons (ha : PE X e te) (hr : PA X es t) (hs : starEach (e :: es) X.env = (false, eval e X.env) :: starEach es X.env := by rfl) : PA X (e :: es) (tCons te t) := by
  intro pos pins s σ H Q I h
  rw [hs]
  show wpAny _ _ (spliced ((false, eval e X.env) :: backTo pos (starEach es X.env))) _ _ s
  refine Calls.spliced_cons (thn (ha pins s σ H _ I h) fun u s1 ⟨x, H1, I1, r1, q1⟩ => ?_)
  exact thn (hr pos pins s1 σ H1 _ I1 q1) fun us s2 ⟨xs, H2, I2, r2, q2⟩ => ⟨x :: xs, H2, I2, .cons r1 r2, q2⟩

/-- a tuple, a list of written items -/
def tTup (t : TA) : TE := fun σ H Q => t σ H fun xs H1 => xs.length ≤ sizeLine ∧ ∀ p, H1 p = none → Q (.ref p) (upd H1 p (.tup xs))
def tLst (t : TA) : TE := fun σ H Q => t σ H fun xs H1 => xs.length ≤ sizeLine ∧ ∀ p, H1 p = none → Q (.ref p) (upd H1 p (.lst xs))
theorem pe_tup {x1} (h : PA X es t) : PE X (.Tuple es x1 pos) (tTup t) := by
  intro pins s σ H Q I hq
  refine wpAny_Tuple_spliced (thn (h pos pins s σ H _ I hq) fun us s1 ⟨xs, H1, I1, r, z, q⟩ => ⟨by rw [← r.length]; exact z, ?_⟩)
  have hf : H1 s1.heap.objs.size = none := I1.hok.fresh (Nat.le_refl _)
  refine ⟨.ref s1.heap.objs.size, upd H1 s1.heap.objs.size (.tup xs), I1.laid (t' := s1.toks) (fun b u e => Heap.get?_push_of_some _ e) (Nat.le_refl _) ?_, rfl, q _ hf⟩
  exact ⟨z, us, r, ⟨_, Heap.get?_push_size _ rfl, rfl, _, rfl⟩⟩
theorem pe_lst (h : PA X es t) : PE X (.List es pos) (tLst t) := by
  intro pins s σ H Q I hq
  refine wpAny_List_spliced (thn (h pos pins s σ H _ I hq) fun us s1 ⟨xs, H1, I1, r, z, q⟩ => ⟨by rw [← r.length]; exact z, ?_⟩)
  have hf : H1 s1.heap.objs.size = none := I1.hok.fresh (Nat.le_refl _)
  refine ⟨.ref s1.heap.objs.size, upd H1 s1.heap.objs.size (.lst xs), I1.laid (t' := s1.toks) (fun b u e => Heap.get?_push_of_some _ e) (Nat.le_refl _) ?_, rfl, q _ hf⟩
  exact ⟨z, us, 0, r, Heap.get?_push_size _ rfl⟩
end

/-! ### what a def promises -/
/-- a def's promise: the bound arguments in the parameters' order, the heap, the wanted end, the wanted exception -/
abbrev Sp := List V → Hp → VK → XK → Prop
/-- how an exception lies behind a call (file 08 gives it): the callers' frames, abstract heap and state ahead of the call, the wish, the exception, the state -/
abbrev CXT := List Env → Hp → Shared → XK → Value → Shared → Prop

/-- the state at a call -/
structure Env0 (P : Program) (w : World) (K : PySem.W.Frag) (mg : Str → Option Value) (base : Heap) (A : Around) (outer : List Env) (s : Shared) (H : Hp) : Prop where
  frames : A.frames = some outer
  mod : Mod K mg base
  bs : ∀ b o, base.get? b = some o → s.heap.get? b = some o ∧ H b = none
  bsz : base.objs.size ≤ s.heap.objs.size
  funs : s.heap.FunFrames base outer
  frf : ∀ b ∈ frs outer, H b = none
  hok : HOk P w H s.heap
  bare : AllBare s.gens
/-- a call's end -/
def CE (outer : List Env) (P : Program) (w : World) (H : Hp) (s : Shared) (Q : VK) (u : Value) (s' : Shared) : Prop :=
  ∃ v H', s'.os = s.os ∧ AllBare s'.gens ∧ Un (frs outer) [] H H' s.heap s'.heap ∧ HOk P w H' s'.heap ∧ RelV v u ∧ Q v H'
def CR (CX : CXT) (outer : List Env) (P : Program) (w : World) (H : Hp) (s : Shared) (Q : VK) (E : XK) (r : Result) (s' : Shared) : Prop :=
  match r with
  | .ok (.ret u) => CE outer P w H s Q u s'
  | .ok _ => False
  | .error e => CX outer H s E e s'
structure FnOk (P : Program) (w : World) (K : PySem.W.Frag) (mg : Str → Option Value) (base : Heap) (CX : CXT) (k : Nat) (f : Addr) (fd : FuncData) (ps : List Str) (sp : Sp) : Prop where
  len : ∀ vs H Q E, sp vs H Q E → vs.length = ps.length
  run : ∀ (A : Around) (outer : List Env) (s : Shared) (H : Hp) (args : Args) (us : List Value) (vs : List V) (Q : VK) (E : XK), Room k A → Env0 P w K mg base A outer s H → BindsTo s fd args (ps.zip us) → Vals vs us → sp vs H Q E →
    codeAny (model P w) A (.call (.ref f) args) (CR CX outer P w H s Q E) s
theorem FnOk.mono {P : Program} {w : World} {K : PySem.W.Frag} {mg : Str → Option Value} {base : Heap} {CX : CXT} {j k : Nat} {f : Addr} {fd : FuncData} {ps : List Str} {sp : Sp} (F : FnOk P w K mg base CX j f fd ps sp) (h : j ≤ k) :
    FnOk P w K mg base CX k f fd ps sp := ⟨F.len, fun A outer s H args us vs Q E hr => F.run A outer s H args us vs Q E (hr.mono h)⟩
/-- a weaker promise -/
theorem FnOk.imp {P : Program} {w : World} {K : PySem.W.Frag} {mg : Str → Option Value} {base : Heap} {CX : CXT} {k : Nat} {f : Addr} {fd : FuncData} {ps : List Str} {sp sp' : Sp} (F : FnOk P w K mg base CX k f fd ps sp)
    (h : ∀ vs H Q E, sp' vs H Q E → sp vs H Q E) : FnOk P w K mg base CX k f fd ps sp' :=
  ⟨fun vs H Q E q => F.len vs H Q E (h _ _ _ _ q), fun A outer s H args us vs Q E hr he hb hv hs => F.run A outer s H args us vs Q E hr he hb hv (h _ _ _ _ hs)⟩

theorem Env0.make {P : Program} {w : World} {K : PySem.W.Frag} {mg : Str → Option Value} {base : Heap} {A : Around} {outer : List Env} {s : Shared} {H : Hp} (e : Env0 P w K mg base A outer s H) (C : Addr) (us : List Value) (kw : List (Str × Value)) :
    Env0 P w K mg base (A.under (.builtin "type.__call__" ⟨.ref C :: us, kw⟩)) outer s H := ⟨by first | exact e.frames | (simpa [Around.under, Code.envs, Code.isFrame, pushEnvs] using e.frames), e.mod, e.bs, e.bsz, e.funs, e.frf, e.hok, e.bare⟩
theorem Env0.in1 {P : Program} {w : World} {K : PySem.W.Frag} {mg : Str → Option Value} {base : Heap} {A : Around} {outer : List Env} {s : Shared} {H : Hp} (e : Env0 P w K mg base A outer s H) :
    Env0 P w K mg base A.in1 outer s H := ⟨e.frames, e.mod, e.bs, e.bsz, e.funs, e.frf, e.hok, e.bare⟩

section
variable {X : Cx} {pins : List (Addr × Obj)} {σ : St} {H : Hp} {s s' : Shared}
/-- from a body: what a callee wants -/
theorem Inv.env0 (I : Inv X pins σ H s) : Env0 X.prog X.w X.K X.mg X.base X.A X.stack s H :=
  ⟨I.ok.frames, I.ok.mod, I.bs, Nat.le_trans I.ok.bsz I.sz, I.stack, I.stkFree, I.hok, I.bare⟩
/-- behind a call -/
theorem Inv.after {Q : VK} {u : Value} (I : Inv X pins σ H s) (h : CE X.stack X.prog X.w H s Q u s') : EP X pins σ Q u s' := by
  obtain ⟨v, H', os, bare, un, hok, r, q⟩ := h
  obtain ⟨hh, g, d, t, os'⟩ := s'
  obtain rfl : os' = s.os := os
  exact ⟨v, H', I.call (h' := hh) (g' := g) (d' := d) (t' := t) (ch := []) un hok bare (fun b z => absurd z (by simp)), r, q⟩
end

/-! ### calls -/
/-- f(..): the written arguments, then the defaults dvs; E: what is wanted of an exception -/
def tCall (sp : Sp) (dvs : List V) (E : XK) (t : TA) : TE := fun σ H Q => t σ H fun vs H1 => sp (vs ++ dvs) H1 Q E
/-- o.m(..) of an instance of the class at C -/
def tMeth (C : Addr) (m : Str) (sp : Sp) (dvs : List V) (E : XK) (ta : TE) (t : TA) : TE := fun σ H Q => ta σ H fun x H1 => ∃ a dx fs, x = .ref a ∧ H1 a = some (.ins C dx fs) ∧ fs.lookup m = none ∧
  t σ H1 fun vs H2 => sp (x :: (vs ++ dvs)) H2 Q E
/-- C(..): a new instance and its dict, then __init__ -/
def tMake (C : Addr) (sp : Sp) (dvs : List V) (E : XK) (t : TA) : TE := fun σ H Q => t σ H fun vs H1 => ∀ x dx, H1 x = none → H1 dx = none → dx ≠ x →
  sp (.ref x :: (vs ++ dvs)) (upd (upd H1 dx (.own x)) x (.ins C dx [])) (fun v H2 => v = .non ∧ Q (.ref x) H2) E

/-- how the parameters are bound: us the positional arguments, kw the keywords' values by name, ds the defaults that fill up -/
def Binds (K : PySem.W.Frag) (fd : FuncData) (ps : List Str) (ds : List Value) : Prop :=
  ∀ (s : Shared) (us : List Value), K.In s.heap → (us ++ ds).length = ps.length → BindsTo s fd ⟨us, []⟩ (ps.zip (us ++ ds))
/-- every parameter is given -/
theorem Binds.all {K : PySem.W.Frag} {fd : FuncData} {ps : List Str} (h : ∀ us : List Value, us.length = ps.length → bindArgs fd ⟨us, []⟩ = pure (ps.zip us)) : Binds K fd ps [] := fun s us _ hl => by
  rw [List.append_nil] at hl ⊢
  exact .of_eq (h us hl)

/-- an exception of a callee reaches what this body wants of exceptions -/
def Passes (CX : CXT) (X : Cx) (E : XK) : Prop := ∀ (pins : List (Addr × Obj)) (σ : St) (H : Hp) (s : Shared) (e : Value) (s' : Shared), Inv X pins σ H s → CX X.stack H s E e s' → X.xe e s'

section
variable {X : Cx} {CX : CXT} {k : Nat} {f C : Addr} {fd : FuncData} {ps : List Str} {sp : Sp} {dvs : List V} {ds : List Value} {E : XK} {x m : Str} {p pos apos : Pos} {e o : Expr} {es : List Expr} {ta : TE} {t : TA}

/-- the callee runs -/
theorem run_fn {pins : List (Addr × Obj)} {σ : St} {H : Hp} {s : Shared} {Q : VK} {us : List Value} {vs : List V} (F : FnOk X.prog X.w X.K X.mg X.base CX k f fd ps sp) (hr : Room k X.A) (hb : Binds X.K fd ps ds) (hd : Vals dvs ds) (hx : Passes CX X E)
    (I : Inv X pins σ H s) (r : Vals vs us) (h : sp (vs ++ dvs) H Q E) : wpAny (model X.prog X.w) X.A (call (.ref f) us) (EP X pins σ Q) X.xe s := by
  have r2 : Vals (vs ++ dvs) (us ++ ds) := r.append hd
  have hl : (us ++ ds).length = ps.length := by rw [← r2.length]; exact F.len _ _ _ _ h
  refine wpAny_call (codeAny_mono (F.run X.A X.stack s H ⟨us, []⟩ (us ++ ds) (vs ++ dvs) Q E hr I.env0 (hb s us I.kIn hl) r2 h) fun r s' hq => ?_)
  cases r with
  | error e => exact hx pins σ H s e s' I hq
  | ok fl =>
    cases fl with
    | ret u => exact I.after hq
    | next => exact False.elim hq
    | brk => exact False.elim hq
    | cont => exact False.elim hq

theorem pe_call (F : FnOk X.prog X.w X.K X.mg X.base CX k f fd ps sp) (hr : Room k X.A) (hg : Gl X x) (hm : X.mg x = some (.ref f)) (hk : PySem.W.keepIn X.K (.ref f) = true) (hb : Binds X.K fd ps ds) (hd : Vals dvs ds) (hx : Passes CX X E)
    (ha : PA X (e :: es) t) (hdb : (x == ("__debug__" : Str)) = false := by decide) (he : starEach (e :: es) X.env = (false, eval e X.env) :: starEach es X.env := by rfl) (hpl : (backTo pos (starEach es X.env)).any (·.1) = false := by rfl) :
    PE X (.Call (.Name x p) (e :: es) [] pos) (tCall sp dvs E t) := by
  intro pins s σ H Q I h
  refine wpAny_Call_Name_kw (ld_glob I hg hm ?_ hdb)
  refine PySem.W.callWith_K (h₀ := X.base) I.ok.mod.kin hk (thn (ha pos pins s σ H _ I h) fun us s1 ⟨vs, H1, I1, r, q⟩ => ⟨I1.kIn, ?_⟩) he hpl
  exact run_fn F hr hb hd hx I1 r q
theorem pe_call0 (F : FnOk X.prog X.w X.K X.mg X.base CX k f fd ps sp) (hr : Room k X.A) (hg : Gl X x) (hm : X.mg x = some (.ref f)) (hk : PySem.W.keepIn X.K (.ref f) = true) (hb : Binds X.K fd ps ds) (hd : Vals dvs ds) (hx : Passes CX X E)
    (hdb : (x == ("__debug__" : Str)) = false := by decide) : PE X (.Call (.Name x p) [] [] pos) (tCall sp dvs E tNil) := by
  intro pins s σ H Q I h
  refine wpAny_Call_Name_kw (ld_glob I hg hm ?_ hdb)
  exact PySem.W.callWith_K0 I.kIn hk (run_fn (us := []) F hr hb hd hx I .nil h)

/-- o.m(e, ..) -/
theorem pe_meth {pl : Sem Bool} (he : PE X o ta) (c : Cls X.K C) (hm : Meth X.K C m f) (F : FnOk X.prog X.w X.K X.mg X.base CX k f fd ps sp) (hr : Room k X.A) (hb : Binds X.K fd ps ds) (hd : Vals dvs ds) (hx : Passes CX X E) (ha : PA X (e :: es) t)
    (hst : starEach (e :: es) X.env = (false, eval e X.env) :: starEach es X.env := by rfl) (hpl : (backTo pos (starEach es X.env)).any (·.1) = false := by rfl)
    (ht : eval (.Call (.Attribute o m apos) (e :: es) [] pos) X.env = (do
      let ov ← eval o X.env
      standAt apos.atName
      let (f, first) ← holding [ov] (getMethod ov m pl)
      callWith pos f first (backTo pos (starEach (e :: es) X.env)) (backToKw pos (keywordEach [] X.env))) := by rfl) :
    PE X (.Call (.Attribute o m apos) (e :: es) [] pos) (tMeth C m sp dvs E ta t) := by
  intro pins s σ H Q I h
  refine PySem.W.methodCall_KW (pl := pl) (thn (he pins s σ H _ I h) fun u s1 ⟨x, H1, I1, rx, a, dx, fs, ex, ea, l, q⟩ => ?_) ht
  subst ex
  obtain rfl : u = Value.ref a := rx
  refine getmeth_ok I1 ea c hm l ?_
  refine PySem.W.callWith_K (first := [.ref a]) (h₀ := X.base) I.ok.mod.kin hm.kp (thn (ha pos pins s1 σ H1 _ I1 q) fun us s2 ⟨vs, H2, I2, r, q2⟩ => ⟨I2.kIn, ?_⟩) hst hpl
  exact run_fn (us := .ref a :: us) (vs := .ref a :: vs) F hr hb hd hx I2 (.cons rfl r) q2
/-- o.m() -/
theorem pe_meth0 {pl : Sem Bool} (he : PE X o ta) (c : Cls X.K C) (hm : Meth X.K C m f) (F : FnOk X.prog X.w X.K X.mg X.base CX k f fd ps sp) (hr : Room k X.A) (hb : Binds X.K fd ps ds) (hd : Vals dvs ds) (hx : Passes CX X E)
    (ht : eval (.Call (.Attribute o m apos) [] [] pos) X.env = (do
      let ov ← eval o X.env
      standAt apos.atName
      let (f, first) ← holding [ov] (getMethod ov m pl)
      callWith pos f first (backTo pos (starEach [] X.env)) (backToKw pos (keywordEach [] X.env))) := by rfl) :
    PE X (.Call (.Attribute o m apos) [] [] pos) (tMeth C m sp dvs E ta tNil) := by
  intro pins s σ H Q I h
  refine PySem.W.methodCall_KW (pl := pl) (thn (he pins s σ H _ I h) fun u s1 ⟨x, H1, I1, rx, a, dx, fs, ex, ea, l, q⟩ => ?_) ht
  subst ex
  obtain rfl : u = Value.ref a := rx
  refine getmeth_ok I1 ea c hm l ?_
  exact PySem.W.callWith_K0 (first := [.ref a]) I1.kIn hm.kp (run_fn (us := [.ref a]) (vs := [.ref a]) F hr hb hd hx I1 (.cons rfl .nil) q)

/-- what a class must have to be made -/
structure Mk (K : PySem.W.Frag) (C f : Addr) : Prop where
  makes : PySem.W.makesIn K C = true
  init : PySem.W.findIn K (.ref C) "__init__" = some (some (.ref f))
  fn : PySem.W.isFn K (.ref f) = true
  kp : PySem.W.keepIn K (.ref C) = true

theorem run_make {pins : List (Addr × Obj)} {σ : St} {H : Hp} {s : Shared} {Q : VK} {us : List Value} {vs : List V} (M : Mk X.K C f) (F : FnOk X.prog X.w X.K X.mg X.base CX k f fd ps sp) (hr : Room (k + 1) X.A) (hb : Binds X.K fd ps ds) (hd : Vals dvs ds)
    (hx : Passes CX X E) (I : Inv X pins σ H s) (r : Vals vs us)
    (h : ∀ x dx, H x = none → H dx = none → dx ≠ x → sp (.ref x :: (vs ++ dvs)) (upd (upd H dx (.own x)) x (.ins C dx [])) (fun v H2 => v = .non ∧ Q (.ref x) H2) E) :
    wpAny (model X.prog X.w) X.A (call (.ref C) us) (EP X pins σ Q) X.xe s := by
  have hq := h (s.heap.objs.size + 1) s.heap.objs.size (I.hok.fresh (Nat.le_succ _)) (I.hok.fresh (Nat.le_refl _)) (Nat.ne_of_lt (Nat.lt_succ_self _))
  have I2 := Inv.made (C := C) I
  have r2 : Vals (V.ref (s.heap.objs.size + 1) :: (vs ++ dvs)) (Value.ref (s.heap.objs.size + 1) :: (us ++ ds)) := .cons rfl (r.append hd)
  have hl : (Value.ref (s.heap.objs.size + 1) :: us ++ ds).length = ps.length := by
    have e := r2.length
    rw [F.len _ _ _ _ hq] at e
    exact e.symm
  refine wpAny_call (make_map (f := f) I.kIn M.makes M.init (beq_iff_eq.mp M.fn) (codeAny_mono (F.run _ X.stack _ _ ⟨Value.ref (s.heap.objs.size + 1) :: us, []⟩ (Value.ref (s.heap.objs.size + 1) :: (us ++ ds)) _ _ E (hr.make C us [])
    (I2.env0.make C us []) (hb _ (Value.ref (s.heap.objs.size + 1) :: us) I2.kIn hl) r2 hq) fun r s' hq' => ?_))
  cases r with
  | error e => exact hx pins σ _ _ e s' I2 hq'
  | ok fl =>
    cases fl with
    | ret u =>
      obtain ⟨v, H', I3, rv, ev, q3⟩ := I2.after hq'
      subst ev
      exact ⟨rv, ⟨V.ref (s.heap.objs.size + 1), H', I3, rfl, q3⟩⟩
    | next => exact False.elim hq'
    | brk => exact False.elim hq'
    | cont => exact False.elim hq'
theorem pe_make (M : Mk X.K C f) (F : FnOk X.prog X.w X.K X.mg X.base CX k f fd ps sp) (hr : Room (k + 1) X.A) (hg : Gl X x) (hm : X.mg x = some (.ref C)) (hb : Binds X.K fd ps ds) (hd : Vals dvs ds) (hx : Passes CX X E)
    (ha : PA X (e :: es) t) (hdb : (x == ("__debug__" : Str)) = false := by decide) (he : starEach (e :: es) X.env = (false, eval e X.env) :: starEach es X.env := by rfl) (hpl : (backTo pos (starEach es X.env)).any (·.1) = false := by rfl) :
    PE X (.Call (.Name x p) (e :: es) [] pos) (tMake C sp dvs E t) := by
  intro pins s σ H Q I h
  refine wpAny_Call_Name_kw (ld_glob I hg hm ?_ hdb)
  refine PySem.W.callWith_K (h₀ := X.base) I.ok.mod.kin M.kp (thn (ha pos pins s σ H _ I h) fun us s1 ⟨vs, H1, I1, r, q⟩ => ⟨I1.kIn, ?_⟩) he hpl
  exact run_make M F hr hb hd hx I1 r q
theorem pe_make0 (M : Mk X.K C f) (F : FnOk X.prog X.w X.K X.mg X.base CX k f fd ps sp) (hr : Room (k + 1) X.A) (hg : Gl X x) (hm : X.mg x = some (.ref C)) (hb : Binds X.K fd ps ds) (hd : Vals dvs ds) (hx : Passes CX X E)
    (hdb : (x == ("__debug__" : Str)) = false := by decide) : PE X (.Call (.Name x p) [] [] pos) (tMake C sp dvs E tNil) := by
  intro pins s σ H Q I h
  refine wpAny_Call_Name_kw (ld_glob I hg hm ?_ hdb)
  exact PySem.W.callWith_K0 I.kIn M.kp (run_make (us := []) M F hr hb hd hx I .nil h)
end

/-! ### keywords -/
/-- the values of the keywords, from the left -/
def PK (X : Cx) (kws : List Keyword) (t : TA) : Prop :=
  ∀ (pos : Pos) (pins : List (Addr × Obj)) (s : Shared) (σ : St) (H : Hp) (Q : List V → Hp → Prop), Inv X pins σ H s → t σ H Q → wpAny (model X.prog X.w) X.A (evalAll ((backToKw pos (keywordEach kws X.env)).map (·.2))) (AP X pins σ Q) X.xe s
section
variable {X : Cx} {CX : CXT} {k : Nat} {f C : Addr} {fd : FuncData} {ps ks : List Str} {sp : Sp} {E : XK} {x m : Str} {p pos apos kpos : Pos} {e o : Expr} {es : List Expr} {kws : List Keyword} {te ta : TE} {t tk : TA} {nm : Option Str}
theorem pk_nil : PK X [] tNil := fun _ _ _ _ H Q I h => wpAny_evalAll_nil ⟨[], H, I, .nil, h⟩
theorem pk_cons (ha : PE X e te) (hr : PK X kws t) : PK X (⟨nm, e, kpos⟩ :: kws) (tCons te t) := by
  intro pos pins s σ H Q I h
  show wpAny _ _ (evalAll ((do let v ← eval e X.env; standAt pos; pure v) :: (backToKw pos (keywordEach kws X.env)).map (·.2))) _ _ s
  refine wpAny_evalAll_cons (wpAny_bind (thn (ha pins s σ H _ I h) fun u s1 ⟨x, H1, I1, r1, q1⟩ => wpAny_bind (wpAny_standAt (wpAny_pure ?_))))
  exact thn (hr pos pins s1 σ H1 _ I1 q1) fun us s2 ⟨xs, H2, I2, r2, q2⟩ => ⟨x :: xs, H2, I2, .cons r1 r2, q2⟩

/-- how a call with keywords binds: g puts the positional values us and the keywords' values ws (names ks) in the parameters' order, defaults among them -/
structure KBinds (K : PySem.W.Frag) (fd : FuncData) (ps ks : List Str) (g : List Value → List Value → List Value) (gV : List V → List V → List V) : Prop where
  to : ∀ (s : Shared) (us ws : List Value), K.In s.heap → (g us ws).length = ps.length → BindsTo s fd ⟨us, ks.zip ws⟩ (ps.zip (g us ws))
  rel : ∀ {vs : List V} {us : List Value} {zs : List V} {ws : List Value}, Vals vs us → Vals zs ws → Vals (gV vs zs) (g us ws)
def tCallK (sp : Sp) (gV : List V → List V → List V) (E : XK) (t tk : TA) : TE := fun σ H Q => t σ H fun vs H1 => tk σ H1 fun zs H2 => sp (gV vs zs) H2 Q E
variable {g : List Value → List Value → List Value} {gV : List V → List V → List V}
theorem run_fnk {pins : List (Addr × Obj)} {σ : St} {H : Hp} {s : Shared} {Q : VK} {us ws : List Value} {vs zs : List V} (F : FnOk X.prog X.w X.K X.mg X.base CX k f fd ps sp) (hr : Room k X.A) (hb : KBinds X.K fd ps ks g gV) (hx : Passes CX X E)
    (I : Inv X pins σ H s) (r : Vals vs us) (rz : Vals zs ws) (h : sp (gV vs zs) H Q E) : wpAny (model X.prog X.w) X.A (call (.ref f) us (ks.zip ws)) (EP X pins σ Q) X.xe s := by
  have r2 := hb.rel r rz
  have hl : (g us ws).length = ps.length := by rw [← r2.length]; exact F.len _ _ _ _ h
  refine wpAny_call (codeAny_mono (F.run X.A X.stack s H ⟨us, ks.zip ws⟩ (g us ws) (gV vs zs) Q E hr I.env0 (hb.to s us ws I.kIn hl) r2 h) fun r s' hq => ?_)
  cases r with
  | error e => exact hx pins σ H s e s' I hq
  | ok fl =>
    cases fl with
    | ret u => exact I.after hq
    | next => exact False.elim hq
    | brk => exact False.elim hq
    | cont => exact False.elim hq
/-- f(e, .., k = v, ..) -/
theorem pe_callK (F : FnOk X.prog X.w X.K X.mg X.base CX k f fd ps sp) (hr : Room k X.A) (hg : Gl X x) (hm : X.mg x = some (.ref f)) (hk : PySem.W.keepIn X.K (.ref f) = true) (hb : KBinds X.K fd ps ks g gV) (hx : Passes CX X E)
    (ha : PA X (e :: es) t) (hkw : PK X kws tk) (hall : (backToKw pos (keywordEach kws X.env)).all (·.1.isSome) = true := by rfl) (hks : (backToKw pos (keywordEach kws X.env)).filterMap (·.1) = ks := by rfl)
    (hdb : (x == ("__debug__" : Str)) = false := by decide) (he : starEach (e :: es) X.env = (false, eval e X.env) :: starEach es X.env := by rfl)
    (hpl : ((backTo pos (starEach (e :: es) X.env)).any (·.1) || (backToKw pos (keywordEach kws X.env)).any (·.1.isNone)) = false := by rfl) :
    PE X (.Call (.Name x p) (e :: es) kws pos) (tCallK sp gV E t tk) := by
  intro pins s σ H Q I h
  refine wpAny_Call_Name_kw (ld_glob I hg hm ?_ hdb)
  refine PySem.W.callWith_KW (h₀ := X.base) I.ok.mod.kin hk hall (thn (ha pos pins s σ H _ I h) fun us s1 ⟨vs, H1, I1, r, q⟩ => ?_) hpl he
  refine thn (hkw pos pins s1 σ H1 _ I1 q) fun ws s2 ⟨zs, H2, I2, rz, q2⟩ => ⟨I2.kIn, ?_⟩
  rw [hks]
  exact run_fnk F hr hb hx I2 r rz q2
end

/-! ### a def's body keeps its promise -/
/-- names: the parameters first -/
structure FnScope (N P : List Str) (sc : Scope) : Prop where
  kind : sc.kind = .function
  co : sc.isCoroutine = false
  gen : sc.isGenerator = false
  nd : N.Nodup
  pre : N.take P.length = P
  par : ∀ x ∈ P, sc.names.lookup x = some .local ∨ sc.names.lookup x = some .cell
  nofree : ∀ y ∈ sc.names, y.2 ≠ .free

theorem bindL_out {kindOf : Str → Option NameKind} {x : Str} : ∀ {binds : List (Str × Value)} {m : Str → Option Value}, (∀ v, (x, v) ∉ binds) → bindL kindOf binds m x = m x
  | [], _, _ => rfl
  | (n, v) :: r, m, h => by
    unfold bindL
    rw [bindL_out fun w hw => h w (List.mem_cons_of_mem _ hw)]
    split
    · have : x ≠ n := by rintro rfl; exact h v List.mem_cons_self
      simp [this]
    · rfl
theorem bindC_out {kindOf : Str → Option NameKind} {x : Str} : ∀ {binds : List (Str × Value)} {m : Str → Option Value}, (∀ v, (x, v) ∉ binds) → bindC kindOf binds m x = m x
  | [], _, _ => rfl
  | (n, v) :: r, m, h => by
    unfold bindC
    rw [bindC_out fun w hw => h w (List.mem_cons_of_mem _ hw)]
    split
    · rfl
    · have : x ≠ n := by rintro rfl; exact h v List.mem_cons_self
      simp [this]
theorem bindL_get {kindOf : Str → Option NameKind} {x : Str} {v : Value} : ∀ {P : List Str} {vs : List Value} {i : Nat} {m : Str → Option Value}, P.Nodup → P[i]? = some x → vs[i]? = some v → kindOf x = some .local →
    bindL kindOf (P.zip vs) m x = some v
  | [], _, _, _, _, h, _, _ => by simp at h
  | _ :: _, [], _, _, _, _, h, _ => by simp at h
  | p :: P, w :: vs, 0, m, nd, h1, h2, hk => by
    simp at h1 h2; subst h1; subst h2
    show bindL kindOf ((p, w) :: P.zip vs) m p = _
    unfold bindL
    rw [bindL_out fun v hv => (List.nodup_cons.mp nd).1 (List.of_mem_zip hv).1, if_pos hk]
    simp
  | p :: P, w :: vs, i + 1, m, nd, h1, h2, hk => by
    show bindL kindOf ((p, w) :: P.zip vs) m x = _
    unfold bindL
    exact bindL_get (i := i) (List.nodup_cons.mp nd).2 (by simpa using h1) (by simpa using h2) hk
theorem bindC_get {kindOf : Str → Option NameKind} {x : Str} {v : Value} : ∀ {P : List Str} {vs : List Value} {i : Nat} {m : Str → Option Value}, P.Nodup → P[i]? = some x → vs[i]? = some v → kindOf x ≠ some .local →
    bindC kindOf (P.zip vs) m x = some v
  | [], _, _, _, _, h, _, _ => by simp at h
  | _ :: _, [], _, _, _, _, h, _ => by simp at h
  | p :: P, w :: vs, 0, m, nd, h1, h2, hk => by
    simp at h1 h2; subst h1; subst h2
    show bindC kindOf ((p, w) :: P.zip vs) m p = _
    unfold bindC
    rw [bindC_out fun v hv => (List.nodup_cons.mp nd).1 (List.of_mem_zip hv).1, if_neg hk]
    simp
  | p :: P, w :: vs, i + 1, m, nd, h1, h2, hk => by
    show bindC kindOf ((p, w) :: P.zip vs) m x = _
    unfold bindC
    exact bindC_get (i := i) (List.nodup_cons.mp nd).2 (by simpa using h1) (by simpa using h2) hk

/-- the names' values at the entry -/
def start (N : List Str) (vs : List V) : St := vs.map some ++ List.replicate (N.length - vs.length) none

/-- the context of a def's body, at its entry; an exception leaves the frame, then lies as CX says -/
def cxOf (CX : CXT) (P : Program) (w : World) (K : PySem.W.Frag) (mg : Str → Option Value) (base : Heap) (N : List Str) (qual : Str) (scope : Scope) (f : Addr) (cd : Value) (A : Around) (outer : List Env) (s : Shared) (H : Hp) (E : XK) : Cx where
  prog := P
  w := w
  K := K
  mg := mg
  base := base
  A := A.deeper (envOfC qual scope s.heap.objs.size f cd)
  N := N
  s₀ := s
  H₀ := H
  env := envOfC qual scope s.heap.objs.size f cd
  outer := outer
  stack := envOfC qual scope s.heap.objs.size f cd :: outer
  ex := []
  calm := true
  fn := fun _ => true
  pn := []
  xe := fun e s' => wpAny (model P w) (A.deeper (envOfC qual scope s.heap.objs.size f cd)) (leaving (envOfC qual scope s.heap.objs.size f cd) e) (fun _ s'' => CX outer H s E e s'') (fun e' s'' => CX outer H s E e' s'') s'

theorem cell_has {sc : Scope} {n : Nat} {x : Str} (h : sc.names.lookup x = some .cell) : ∃ c, (cellsFrom n sc.names []).lookup x = some c := by
  have q := PySem.W.cellsFrom_some sc.names n [] (.inl h)
  exact Option.isSome_iff_exists.mp q

theorem inv_start {CX : CXT} {P : Program} {w : World} {K : PySem.W.Frag} {mg : Str → Option Value} {base : Heap} {N ps : List Str} {qual : Str} {scope : Scope} {f : Addr} {cd : Value} {A : Around} {outer : List Env} {s s1 : Shared} {H : Hp} {E : XK} {us : List Value} {vs : List V}
    (S : FnScope N ps scope) (hd : A.handled = none) (e0 : Env0 P w K mg base A outer s H) (hl : vs.length = ps.length) (r : Vals vs us)
    (x : InCallC s s.heap.objs.size (bindL (envOfC qual scope s.heap.objs.size f cd).kindOf (ps.zip us) fun _ => none) (cellsFrom (s.heap.objs.size + 1) scope.names []) (bindC (envOfC qual scope s.heap.objs.size f cd).kindOf (ps.zip us) fun _ => none) s1) :
    Inv (cxOf CX P w K mg base N qual scope f cd A outer s H E) [] (start N vs) H s1 := by
  have hpl : ps.length ≤ N.length := by have := congrArg List.length S.pre; rw [List.length_take] at this; omega
  obtain ⟨h1, tk, rfl, hk⟩ := x.done
  have noA : ∀ b : Addr, b ∉ (cxOf CX P w K mg base N qual scope f cd A outer s H E).ex := fun b z => absurd (show b ∈ ([] : List Addr) from z) (by simp)
  refine ⟨⟨e0.mod, S.kind, rfl, rfl, Nat.le_refl _, fun y z c h1 h2 => ?_, fun y hy => ?_, fun y c _ h => ?_, fun _ => hd, Around.frames_deeper e0.frames, .inr ⟨rfl, rfl⟩, fun b z => absurd z (noA b), e0.bs, e0.bsz, fun b _ _ => noA b, fun b z => absurd z (noA b), e0.funs, e0.frf⟩,
    rfl, e0.bare, Un.kept hk, ⟨_, x.toInCall.ns, fun i y v h1 h2 h3 => ?_⟩, fun y c h => ⟨_, x.cell y c h⟩, e0.hok.fresh (Nat.le_refl _), fun y c h => ?_, fun p hp => absurd (show p ∈ ([] : List (Addr × Obj)) from hp) (by simp), e0.hok.kept hk, ?_⟩
  · exact name_of_addr x.apart (PySem.mem_of_lookup h1) (PySem.mem_of_lookup h2)
  · have hy : scope.names.lookup y = some .cell ∨ scope.names.lookup y = some .free := hy
    rcases hy with hy | hy
    · exact cell_has hy
    · exact absurd rfl (S.nofree _ (PySem.mem_of_lookup hy))
  · exact Nat.le_of_lt (x.above y c (PySem.mem_of_lookup h))
  · have hi : i < vs.length := by
      unfold start at h2
      by_cases hi : i < vs.length
      · exact hi
      · rw [List.getElem?_append_right (by simpa using hi)] at h2
        rw [List.getElem?_replicate] at h2
        split at h2 <;> cases h2
    have ha : vs[i]? = some v := by
      unfold start at h2
      rw [List.getElem?_append_left (by simpa using hi), List.getElem?_map] at h2
      cases e : vs[i]? with
      | none => rw [e] at h2; cases h2
      | some a => rw [e] at h2; cases h2; rfl
    obtain ⟨u, hu, rv⟩ := r.get ha
    have hp : ps[i]? = some y := by
      rw [← S.pre, List.getElem?_take_of_lt (by omega)]; exact h1
    have ndP : ps.Nodup := by rw [← S.pre]; exact S.nd.sublist (List.take_sublist _ _)
    refine ⟨u, rv, ?_⟩
    rcases S.par y (List.mem_of_getElem? hp) with k | k
    · exact .inl ⟨k, bindL_get ndP hp hu k⟩
    · obtain ⟨c, e⟩ := cell_has (n := s.heap.objs.size + 1) k
      refine .inr ⟨.inl k, c, e, ?_⟩
      have q := x.cell y c e
      rw [bindC_get ndP hp hu (by show scope.names.lookup y ≠ _; rw [k]; decide)] at q
      exact q
  · exact e0.hok.fresh (Nat.le_of_lt (x.above y c (PySem.mem_of_lookup h)))
  · unfold start
    show _ = N.length
    rw [List.length_append, List.length_map, List.length_replicate]
    omega

/-- THE RULE: a def (or a method) of the text, by its body. The body's reading t is chosen for each entry; it is run at the parameters' values -/
theorem fn_of {CX : CXT} {P : Program} {w : World} {K : PySem.W.Frag} {mg : Str → Option Value} {base : Heap} {k : Nat} {f : Addr} {name qual : Str} {params : Arguments} {body : List Stmt} {scope : Scope} {dV kV doc pm cdv ct oc : Value} {an od : Option Addr}
    {osl : Array (Option Value)} {N ps : List Str} {sp : Sp} (lk : K.lookup f = some ⟨oc, od, .func (PySem.W.fnOf name qual params body scope dV kV doc pm an cdv ct), osl⟩) (hcd : PySem.W.codeIn K cdv qual = true) (S : FnScope N ps scope)
    (len : ∀ vs H Q E, sp vs H Q E → vs.length = ps.length)
    (hbody : ∀ (A : Around) (outer : List Env) (s : Shared) (H : Hp) (vs : List V) (Q : VK) (E : XK), Room k (A.deeper (envOfC qual scope s.heap.objs.size f cdv)) → sp vs H Q E →
      ∃ t, PSs (cxOf CX P w K mg base N qual scope f cdv A outer s H E) body t ∧ t { nx := fun _ H' => Q .non H', rt := Q } (start N vs) H) :
    FnOk P w K mg base CX (k + 1) f (PySem.W.fnOf name qual params body scope dV kV doc pm an cdv ct) ps sp := by
  refine ⟨len, fun A outer s H args us vs Q E hr e0 hb r hsp => ?_⟩
  have hl := len _ _ _ _ hsp
  have KX : K.In s.heap := e0.mod.kin.keeps fun b o e => (e0.bs b o e).1
  have lim : s.heap.NoLimit := e0.mod.nolimit.keeps fun b o e => (e0.bs b o e).1
  have hkind : ∀ y ∈ ps.zip us, scope.names.lookup y.1 = some .local ∨ (scope.names.lookup y.1 = some .cell ∧ ((cellsFrom (s.heap.objs.size + 1) scope.names []).lookup y.1).isSome = true) := fun ⟨n, v⟩ hy => by
    rcases S.par n (List.of_mem_zip hy).1 with q | q
    · exact .inl q
    · exact .inr ⟨q, PySem.W.cellsFrom_some _ _ _ (.inl q)⟩
  refine codeAny_call_function hr.depth (KX _ _ lk) rfl S.co S.gen rfl (PySem.W.codeRec_of KX hcd) (hb _ _ _ _ ?_)
  refine wpAny_newFunctionEnv_cells S.kind hkind fun env he s1 x => ?_
  subst he
  refine ⟨lim.keeps x.toInCall.keep, codeAny_func ?_⟩
  obtain ⟨t, ht, hq⟩ := hbody A outer s H vs Q E (hr.deeper _) hsp
  have I : Inv (cxOf CX P w K mg base N qual scope f cdv A outer s H E) [] (start N vs) H s1 := inv_start S hr.hd e0 hl r x
  refine wpAny_mono (ht [] s1 (start N vs) H _ I hq) (fun fl s' hs => ?_) fun e s' hs => hs
  have fin : ∀ {σ' : St} {H' : Hp} {v : V} {u : Value}, Inv (cxOf CX P w K mg base N qual scope f cdv A outer s H E) [] σ' H' s' → RelV v u → Q v H' → CE outer P w H s Q u s' :=
    fun {σ' H' v u} J rv q => ⟨v, H', J.os, J.bare, J.base, J.hok, rv, q⟩
  cases fl with
  | ret u =>
    obtain ⟨v, σ', H', J, rv, q⟩ := hs
    exact fin J rv q
  | next =>
    obtain ⟨σ', H', J, q⟩ := hs
    exact fin (v := V.non) (u := Value.none) J rfl q
  | brk =>
    obtain ⟨_, _, _, q⟩ := hs
    exact False.elim q
  | cont =>
    obtain ⟨_, _, _, q⟩ := hs
    exact False.elim q
end L2

namespace L2
open PySem PySem.Spec PyProof.Rows
section
variable {X : Cx} {x : Str} {p pos : Pos} {e : Expr} {es : List Expr} {t : TA} {id T : String} {r : List V → Hp → VK → Prop}

def tCB (r : List V → Hp → VK → Prop) (t : TA) : TE := fun σ H Q => t σ H fun vs H1 => r vs H1 Q
/-- f(e, ..), f a built-in function -/
theorem pe_callB (hc : CallR X (.builtin id) r) (hg : Gl X x) (hm : X.mg x = none) (hv : bootBuiltins x = some (.builtin id)) (ha : PA X (e :: es) t) (hn : x ≠ "__name__" := by decide) (hdb : (x == ("__debug__" : Str)) = false := by decide)
    (he : starEach (e :: es) X.env = (false, eval e X.env) :: starEach es X.env := by rfl) (hpl : (backTo pos (starEach es X.env)).any (·.1) = false := by rfl) : PE X (.Call (.Name x p) (e :: es) [] pos) (tCB r t) := by
  intro pins s σ H Q I h
  refine wpAny_Call_Name_kw (ld_blt I hg hm hv ?_ hn hdb)
  exact PyProof.Rows.callWith_builtin1 (thn (ha pos pins s σ H _ I h) fun us s1 ⟨vs, H1, I1, r1, q1⟩ => hc pins s1 σ H1 vs us Q I1 r1 q1) he hpl
/-- T(e, ..), T a built-in type -/
theorem pe_callTy (hc : CallR X (.type T) r) (hg : Gl X x) (hm : X.mg x = none) (hv : bootBuiltins x = some (.type T)) (ha : PA X (e :: es) t) (hn : x ≠ "__name__" := by decide) (hdb : (x == ("__debug__" : Str)) = false := by decide)
    (he : starEach (e :: es) X.env = (false, eval e X.env) :: starEach es X.env := by rfl) (hpl : (backTo pos (starEach es X.env)).any (·.1) = false := by rfl) : PE X (.Call (.Name x p) (e :: es) [] pos) (tCB r t) := by
  intro pins s σ H Q I h
  refine wpAny_Call_Name_kw (ld_blt I hg hm hv ?_ hn hdb)
  exact PyProof.Rows.callWith_type1 (thn (ha pos pins s σ H _ I h) fun us s1 ⟨vs, H1, I1, r1, q1⟩ => hc pins s1 σ H1 vs us Q I1 r1 q1) he hpl
/-- T() -/
theorem pe_callTy0 (hc : CallR X (.type T) r) (hg : Gl X x) (hm : X.mg x = none) (hv : bootBuiltins x = some (.type T)) (hn : x ≠ "__name__" := by decide) (hdb : (x == ("__debug__" : Str)) = false := by decide) :
    PE X (.Call (.Name x p) [] [] pos) (tCB r tNil) := by
  intro pins s σ H Q I h
  refine wpAny_Call_Name_kw (ld_blt I hg hm hv ?_ hn hdb)
  exact PyProof.Rows.callWith_type0 (hc pins s σ H [] [] Q I .nil h)
end
end L2

namespace L2
open PySem PySem.Spec PyProof.Rows

/-! ### lists of pairs as tables -/
section
variable {κ : Type} [DecidableEq κ]
def valV (kvs : List (κ × V)) (k : κ) : Option V := (kvs.find? fun kv => decide (kv.1 = k)).map (·.2)
/-- in its place, or at the end -/
def putK (kvs : List (κ × V)) (k : κ) (v : V) : List (κ × V) :=
  if (kvs.any fun kv => decide (kv.1 = k)) = true then kvs.map (fun kv => if kv.1 = k then (kv.1, v) else kv) else kvs ++ [(k, v)]
def dropK (kvs : List (κ × V)) (k : κ) : List (κ × V) := kvs.filter fun kv => decide (kv.1 ≠ k)

theorem valV_nil {k : κ} : valV ([] : List (κ × V)) k = none := rfl
theorem valV_pos {p : κ × V} {r : List (κ × V)} {k : κ} (e : p.1 = k) : valV (p :: r) k = some p.2 := by simp [valV, List.find?_cons, e]
theorem valV_neg {p : κ × V} {r : List (κ × V)} {k : κ} (e : ¬ p.1 = k) : valV (p :: r) k = valV r k := by simp [valV, List.find?_cons, e]
theorem valV_any (k : κ) : ∀ kvs : List (κ × V), (kvs.any fun kv => decide (kv.1 = k)) = (valV kvs k).isSome
  | [] => rfl
  | p :: r => by
    rw [List.any_cons]
    by_cases e : p.1 = k
    · simp only [valV_pos e, decide_eq_true e, Bool.true_or, Option.isSome_some]
    · rw [valV_neg e, decide_eq_false e, Bool.false_or]; exact valV_any k r
theorem valV_map (k j : κ) (y : V) : ∀ kvs : List (κ × V), valV (kvs.map fun kv => if kv.1 = k then (kv.1, y) else kv) j = (valV kvs j).map fun x => if j = k then y else x
  | [] => rfl
  | p :: r => by
    have ih := valV_map k j y r
    rw [List.map_cons]
    by_cases h : p.1 = k
    · rw [if_pos h]
      by_cases e : p.1 = j
      · rw [valV_pos (p := (p.1, y)) e, valV_pos e, Option.map_some, if_pos (e.symm.trans h)]
      · rw [valV_neg (p := (p.1, y)) e, valV_neg e, ih]
    · rw [if_neg h]
      by_cases e : p.1 = j
      · rw [valV_pos (p := p) e, valV_pos e, Option.map_some, if_neg (fun z => h (e.trans z))]
      · rw [valV_neg (p := p) e, valV_neg e, ih]
theorem valV_snoc (k j : κ) (y : V) : ∀ kvs : List (κ × V), valV kvs k = none → valV (kvs ++ [(k, y)]) j = if j = k then some y else valV kvs j
  | [], _ => by
    by_cases e : k = j
    · rw [if_pos e.symm]; exact valV_pos (p := (k, y)) e
    · rw [if_neg (fun z => e z.symm)]; exact valV_neg (p := (k, y)) e
  | p :: r, hn => by
    rw [List.cons_append]
    have hk : ¬ p.1 = k := fun z => by rw [valV_pos z] at hn; cases hn
    rw [valV_neg hk] at hn
    have ih := valV_snoc k j y r hn
    by_cases e : p.1 = j
    · rw [valV_pos e, valV_pos e, if_neg (fun z => hk (e.trans z))]
    · rw [valV_neg e, valV_neg e, ih]
theorem valV_put (kvs : List (κ × V)) (k j : κ) (y : V) : valV (putK kvs k y) j = if j = k then some y else valV kvs j := by
  unfold putK
  by_cases a : (kvs.any fun kv => decide (kv.1 = k)) = true
  · rw [if_pos a, valV_map]
    rw [valV_any] at a
    by_cases e : j = k
    · obtain ⟨x, hx⟩ := Option.isSome_iff_exists.mp a
      rw [if_pos e, e, hx, Option.map_some, if_pos rfl]
    · rw [if_neg e]
      cases valV kvs j with
      | none => rfl
      | some x => rw [Option.map_some, if_neg e]
  · rw [if_neg a]
    refine valV_snoc k j y kvs ?_
    rw [valV_any] at a
    cases q : valV kvs k with
    | none => rfl
    | some x => rw [q] at a; exact (a rfl).elim
theorem length_putK (kvs : List (κ × V)) (k : κ) (v : V) : (putK kvs k v).length ≤ kvs.length + 1 := by
  unfold putK
  split
  · rw [List.length_map]; omega
  · rw [List.length_append, List.length_cons, List.length_nil]; omega
theorem putK_new {kvs : List (κ × V)} {k : κ} (v : V) (h : valV kvs k = none) : putK kvs k v = kvs ++ [(k, v)] := by
  unfold putK
  rw [valV_any, h]
  exact if_neg (by decide)

theorem RelO.isSome_eq {o : Option V} {u : Option Value} (r : RelO o u) : o.isSome = u.isSome := by
  cases o with
  | none => cases u with
    | none => rfl
    | some _ => exact (show False from r).elim
  | some _ => cases u with
    | none => exact (show False from r).elim
    | some _ => rfl
theorem RelO.getD {o : Option V} {u : Option Value} {d : V} {d' : Value} (r : RelO o u) (rd : RelV d d') : RelV (o.getD d) (u.getD d') := by
  cases o with
  | none => cases u with
    | none => exact rd
    | some _ => exact (show False from r).elim
  | some _ => cases u with
    | none => exact (show False from r).elim
    | some _ => exact r

/-- raw tables of the same keys -/
theorem KV.val {kvs : List (κ × V)} {vs : List (κ × Value)} (r : KV kvs vs) (k : κ) : RelO (valV kvs k) (valueAt vs k) := by
  unfold KV at r
  induction r with
  | nil => exact True.intro
  | @cons p q ps qs h t ih =>
    obtain ⟨h1, h2⟩ := h
    by_cases e : p.1 = k
    · have e' : q.1 = k := h1.symm.trans e
      have b : valueAt (q :: qs) k = some q.2 := by simp [valueAt, List.find?_cons, e']
      rw [valV_pos e, b]; exact h2
    · have e' : ¬ q.1 = k := fun z => e (h1.trans z)
      have b : valueAt (q :: qs) k = valueAt qs k := by simp [valueAt, List.find?_cons, e']
      rw [valV_neg e, b]; exact ih
theorem KV.any {kvs : List (κ × V)} {vs : List (κ × Value)} (r : KV kvs vs) (k : κ) : (kvs.any fun kv => decide (kv.1 = k)) = vs.any fun kv => decide (kv.1 = k) := by
  unfold KV at r
  induction r with
  | nil => rfl
  | cons h t ih => rw [List.any_cons, List.any_cons, ih, h.1]
theorem KV.repl {kvs : List (κ × V)} {vs : List (κ × Value)} (r : KV kvs vs) (k : κ) {y : V} {u : Value} (ry : RelV y u) :
    KV (kvs.map fun kv => if kv.1 = k then (kv.1, y) else kv) (vs.map fun kv => if kv.1 = k then (kv.1, u) else kv) := by
  unfold KV at r ⊢
  induction r with
  | nil => exact .nil
  | @cons p q ps qs h t ih =>
    rw [List.map_cons, List.map_cons]
    refine .cons ?_ ih
    obtain ⟨h1, h2⟩ := h
    by_cases e : p.1 = k
    · rw [if_pos e, if_pos (h1.symm.trans e)]; exact ⟨h1, ry⟩
    · rw [if_neg e, if_neg (fun z => e (h1.trans z))]; exact ⟨h1, h2⟩
theorem KV.put {kvs : List (κ × V)} {vs : List (κ × Value)} (r : KV kvs vs) (k : κ) {y : V} {u : Value} (ry : RelV y u) : KV (putK kvs k y) (stored vs k u) := by
  unfold putK stored
  rw [r.any k]
  by_cases e : (vs.any fun kv => decide (kv.1 = k)) = true
  · rw [if_pos e, if_pos e]; exact r.repl k ry
  · rw [if_neg e, if_neg e]; exact Paired.snoc r ⟨rfl, ry⟩
theorem KV.drop {kvs : List (κ × V)} {vs : List (κ × Value)} (r : KV kvs vs) (k : κ) : KV (dropK kvs k) (without vs k) := by
  unfold KV at r ⊢
  unfold dropK without
  induction r with
  | nil => exact .nil
  | @cons p q ps qs h t ih =>
    obtain ⟨h1, h2⟩ := h
    rw [List.filter_cons, List.filter_cons]
    by_cases e : p.1 = k
    · have a : ¬ decide (p.1 ≠ k) = true := by simp [e]
      have b : ¬ decide (q.1 ≠ k) = true := by simp [h1.symm.trans e]
      rw [if_neg a, if_neg b]; exact ih
    · have e' : ¬ q.1 = k := fun z => e (h1.trans z)
      have a : decide (p.1 ≠ k) = true := by simp [e]
      have b : decide (q.1 ≠ k) = true := by simp [e']
      rw [if_pos a, if_pos b]; exact .cons ⟨h1, h2⟩ ih
theorem KV.keys {kvs : List (κ × V)} {vs : List (κ × Value)} (r : KV kvs vs) : kvs.map (·.1) = vs.map (·.1) := by
  unfold KV at r
  induction r with
  | nil => rfl
  | cons h t ih => rw [List.map_cons, List.map_cons, ih, h.1]
theorem KV.length {kvs : List (κ × V)} {vs : List (κ × Value)} (r : KV kvs vs) : kvs.length = vs.length := Paired.length r
theorem dropK_le (kvs : List (κ × V)) (k : κ) : (dropK kvs k).length ≤ kvs.length := List.length_filter_le _ _
end


/-! ### a tracked dict, its keys ints and texts or tuples of these -/
theorem kV_is {P : Program} {w : World} {k : Key} {u : Value} (r : RelV (kV k) u) : (mixKind P w).is k u = true := by
  cases k with
  | inl i => obtain ⟨t, e⟩ := (show ∃ t, u = Value.int i t from r); subst e; exact mixKind_int P w i t
  | inr x => obtain ⟨t, e⟩ := (show ∃ t, u = Value.str x t from r); subst e; exact mixKind_str P w x t
theorem kV_inj {a b : Key} (e : kV a = kV b) : a = b := by
  cases a with
  | inl i => cases b with
    | inl j => have e' : V.int i = V.int j := e; injection e' with e'; rw [e']
    | inr y => exact nomatch (show V.int i = V.str y from e)
  | inr x => cases b with
    | inl j => exact nomatch (show V.str x = V.int j from e)
    | inr y => have e' : V.str x = V.str y := e; injection e' with e'; rw [e']
theorem kVs_inj : ∀ {a b : List Key}, a.map kV = b.map kV → a = b
  | [], [], _ => rfl
  | [], _ :: _, e => by simp at e
  | _ :: _, [], e => by simp at e
  | x :: xs, y :: ys, e => by
    rw [List.map_cons, List.map_cons] at e
    injection e with e1 e2
    rw [kV_inj e1, kVs_inj e2]
theorem items_are {P : Program} {w : World} : ∀ {ks : List Key} {us : List Value}, Vals (ks.map kV) us → ItemsAre (mixKind P w) ks us
  | [], _, r => by rw [List.map_nil] at r; cases r; exact .nil
  | k :: ks, _, r => by
    rw [List.map_cons] at r
    cases r with
    | cons h t => exact .cons (kV_is h) (items_are t)

/-- raw entries of a dict with tuple keys -/
abbrev KT (H : Hp) : List (List Key × V) → List (List Key × Addr × Value) → Prop := Paired fun p q => p.1 = q.1 ∧ H q.2.1 = some (.tup (p.1.map kV)) ∧ RelV p.2 q.2.2
theorem KT.val {H : Hp} {kvs : List (List Key × V)} {xs : List (List Key × Addr × Value)} (r : KT H kvs xs) (k : List Key) : RelO (valV kvs k) ((atKey xs k).map (·.2)) := by
  induction r with
  | nil => exact True.intro
  | @cons p q ps qs h t ih =>
    obtain ⟨h1, _, h2⟩ := h
    by_cases e : p.1 = k
    · have e' : q.1 = k := h1.symm.trans e
      have b : atKey (q :: qs) k = some q.2 := by simp [atKey, List.find?_cons, e']
      rw [valV_pos e, b]; exact h2
    · have e' : ¬ q.1 = k := fun z => e (h1.trans z)
      have b : atKey (q :: qs) k = atKey qs k := by simp [atKey, List.find?_cons, e']
      rw [valV_neg e, b]; exact ih
theorem KT.repl {H : Hp} {kvs : List (List Key × V)} {xs : List (List Key × Addr × Value)} (r : KT H kvs xs) (k : List Key) {y : V} {u : Value} (ry : RelV y u) :
    KT H (kvs.map fun kv => if kv.1 = k then (kv.1, y) else kv) (xs.map (putAt k u)) := by
  induction r with
  | nil => exact .nil
  | @cons p q ps qs h t ih =>
    rw [List.map_cons, List.map_cons]
    refine .cons ?_ ih
    obtain ⟨h1, h2, h3⟩ := h
    unfold putAt
    by_cases e : p.1 = k
    · rw [if_pos e, if_pos (h1.symm.trans e)]; exact ⟨h1, h2, ry⟩
    · rw [if_neg e, if_neg (fun z => e (h1.trans z))]; exact ⟨h1, h2, h3⟩
theorem KT.put {H : Hp} {kvs : List (List Key × V)} {xs : List (List Key × Addr × Value)} (r : KT H kvs xs) (k : List Key) {b : Addr} {y : V} {u : Value} (hb : H b = some (.tup (k.map kV))) (ry : RelV y u) :
    KT H (putK kvs k y) (storedH xs k b u) := by
  have e : (kvs.any fun kv => decide (kv.1 = k)) = (atKey xs k).isSome := by
    rw [valV_any, (r.val k).isSome_eq, Option.isSome_map]
  unfold putK storedH
  rw [e]
  by_cases q : (atKey xs k).isSome = true
  · rw [if_pos q, if_pos q]; exact r.repl k ry
  · rw [if_neg q, if_neg q]; exact Paired.snoc r ⟨rfl, hb, ry⟩
theorem KT.keeps {H H' : Hp} {kvs : List (List Key × V)} {xs : List (List Key × Addr × Value)} (r : KT H kvs xs) (ht : ∀ b ys, H b = some (.tup ys) → H' b = some (.tup ys)) : KT H' kvs xs :=
  Paired.mapP r fun _ _ z => ⟨z.1, ht _ _ z.2.1, z.2.2⟩

section
variable {P : Program} {w : World} {H : Hp} {h : Heap} {a : Addr}
theorem rd_of {u : HO} (ok : HOk P w H h) (e : Rd H a u) : ObjOk P w H h a u := e.ok ok
theorem dk_rd {kvs : List (Key × V)} (ok : HOk P w H h) (e : Rd H a (.dK kvs)) : kvs.length ≤ sizeLine ∧ (a == sysModules) = false ∧ ∃ vs, KV kvs vs ∧ h.DictOf (mixKind P w) a vs :=
  show ObjOk P w H h a (.dK kvs) from rd_of ok e
theorem dk_of {kvs : List (Key × V)} (ok : HOk P w H h) (e : H a = some (.dK kvs)) : kvs.length ≤ sizeLine ∧ (a == sysModules) = false ∧ ∃ vs, KV kvs vs ∧ h.DictOf (mixKind P w) a vs := dk_rd ok (.inl e)
/-- a tracked tuple of ints and texts is a key -/
theorem key_of {ks : List Key} (ok : HOk P w H h) (e : H a = some (.tup (ks.map kV))) : (tupleKind (mixKind P w)).is h ks a := by
  obtain ⟨_, its, r, o, h1, h2, n, h3⟩ := (show ObjOk P w H h a (.tup (ks.map kV)) from ok a _ e)
  exact ⟨o, its.toArray, n, h1, h2, h3, by simpa using items_are r⟩
theorem dt_rd {kvs : List (List Key × V)} (ok : HOk P w H h) (e : Rd H a (.dT kvs)) : kvs.length ≤ sizeLine ∧ (a == sysModules) = false ∧
    ∃ xs, KT H kvs xs ∧ h.DictOfH (tupleKind (mixKind P w)) a xs := by
  obtain ⟨z, y, xs, r, o, es, ep, h1, h2, h3, h4, h5⟩ := (show ObjOk P w H h a (.dT kvs) from rd_of ok e)
  refine ⟨z, y, xs, r, o, es, ep, h1, h2, h3, h4, fun x hx => ?_, h5⟩
  have all : ∀ {l : List (List Key × V)} {m : List (List Key × Addr × Value)}, KT H l m → ∀ x ∈ m, (tupleKind (mixKind P w)).is h x.1 x.2.1 := by
    intro l m q
    induction q with
    | nil => intro x hx; exact nomatch hx
    | @cons p q ps qs hq t ih =>
      intro x hx
      rcases List.mem_cons.mp hx with e | hx
      · subst e
        exact key_of ok (by rw [← hq.1]; exact hq.2.1)
      · exact ih x hx
  exact all r x hx
theorem dt_of {kvs : List (List Key × V)} (ok : HOk P w H h) (e : H a = some (.dT kvs)) : kvs.length ≤ sizeLine ∧ (a == sysModules) = false ∧
    ∃ xs, KT H kvs xs ∧ h.DictOfH (tupleKind (mixKind P w)) a xs := dt_rd ok (.inl e)
end

/-- what the dict at a holds at the key y -/
def DGet (H : Hp) (a : Addr) (y : V) (r : Option V) : Prop :=
  (∃ kvs k, Rd H a (.dK kvs) ∧ y = kV k ∧ r = valV kvs k) ∨ ∃ kvs k b, Rd H a (.dT kvs) ∧ y = .ref b ∧ H b = some (.tup (k.map kV)) ∧ r = valV kvs k
/-- the heap behind a[y] = v -/
def DPut (H : Hp) (a : Addr) (y v : V) (H' : Hp) : Prop :=
  (∃ kvs k, H a = some (.dK kvs) ∧ y = kV k ∧ kvs.length < sizeLine ∧ H' = upd H a (.dK (putK kvs k v))) ∨
  ∃ kvs k b, H a = some (.dT kvs) ∧ y = .ref b ∧ H b = some (.tup (k.map kV)) ∧ kvs.length < sizeLine ∧ H' = upd H a (.dT (putK kvs k v))
theorem DGet.k {H : Hp} {a : Addr} {kvs : List (Key × V)} {k : Key} (e : H a = some (.dK kvs)) : DGet H a (kV k) (valV kvs k) := .inl ⟨kvs, k, .inl e, rfl, rfl⟩
theorem DGet.t {H : Hp} {a b : Addr} {kvs : List (List Key × V)} {k : List Key} (e : H a = some (.dT kvs)) (eb : H b = some (.tup (k.map kV))) : DGet H a (.ref b) (valV kvs k) := .inr ⟨kvs, k, b, .inl e, rfl, eb, rfl⟩
theorem DPut.k {H : Hp} {a : Addr} {kvs : List (Key × V)} {k : Key} {v : V} (e : H a = some (.dK kvs)) (hl : kvs.length < sizeLine) : DPut H a (kV k) v (upd H a (.dK (putK kvs k v))) := .inl ⟨kvs, k, e, rfl, hl, rfl⟩
theorem DPut.t {H : Hp} {a b : Addr} {kvs : List (List Key × V)} {k : List Key} {v : V} (e : H a = some (.dT kvs)) (eb : H b = some (.tup (k.map kV))) (hl : kvs.length < sizeLine) :
    DPut H a (.ref b) v (upd H a (.dT (putK kvs k v))) := .inr ⟨kvs, k, b, e, rfl, eb, hl, rfl⟩


section
variable {X : Cx} {pins : List (Addr × Obj)} {σ : St} {H : Hp} {s : Shared} {a : Addr} {y v : V} {u r : Value} {o : Option V} {A : Around} {E : Value → Shared → Prop}

theorem Inv.big (I : Inv X pins σ H s) : sysModules < s.heap.objs.size := by
  have h : mainGlobals < s.heap.objs.size := (I.mod.glob.keeps I.bk).lt
  exact Nat.lt_trans (by decide) h

/-- d[y], there -/
theorem d_getItem {Q : Value → Shared → Prop} (hu : A.units + 1 < cLine) (I : Inv X pins σ H s) (g : DGet H a y (some v)) (ry : RelV y u) (h : ∀ w' s', Inv X pins σ H s' → RelV v w' → Q w' s') :
    wpAny (model X.prog X.w) A (getItem (.ref a) u) Q E s := by
  rcases g with ⟨kvs, k, e, ey, l⟩ | ⟨kvs, k, b, e, ey, eb, l⟩
  · subst ey
    obtain ⟨z, hd, vs, rel, dd⟩ := dk_rd I.hok e
    obtain ⟨w', hw, rw'⟩ := RelO.some_of (v := v) (o := valueAt vs k) (by rw [l]; exact rel.val k)
    exact wpAny_getItem_of (kV_is ry) dd.mapOf hw (h w' _ (I.tok _) rw')
  · subst ey
    cases (show u = Value.ref b from ry)
    obtain ⟨z, hd, xs, rel, dd⟩ := dt_rd I.hok e
    obtain ⟨w', hw, rw'⟩ := RelO.some_of (v := v) (o := (atKey xs k).map (·.2)) (by rw [l]; exact rel.val k)
    obtain ⟨p, hp, hp2⟩ := Option.map_eq_some_iff.mp hw
    refine wpAny_getItem_heap (tupleKind_room_in1 hu) (key_of I.hok eb) dd hp ?_
    rw [hp2]
    exact h w' _ (I.tok _) rw'
/-- y in d -/
theorem d_in {Q : Value → Shared → Prop} (hu : A.units + 1 < cLine) (I : Inv X pins σ H s) (g : DGet H a y o) (ry : RelV y u) (h : ∀ s', Inv X pins σ H s' → Q (.bool o.isSome) s') :
    wpAny (model X.prog X.w) A (compareOp .In u (.ref a)) Q E s := by
  rcases g with ⟨kvs, k, e, ey, l⟩ | ⟨kvs, k, b, e, ey, eb, l⟩
  · subst ey
    obtain ⟨z, hd, vs, rel, dd⟩ := dk_rd I.hok e
    refine wpAny_in_of (kV_is ry) hd dd.mapOf ?_
    rw [← (rel.val k).isSome_eq, ← l]
    exact h _ (I.tok _)
  · subst ey
    cases (show u = Value.ref b from ry)
    obtain ⟨z, hd, xs, rel, dd⟩ := dt_rd I.hok e
    refine wpAny_in_heap (tupleKind_room_in1 hu) (key_of I.hok eb) hd dd ?_
    have q := (rel.val k).isSome_eq
    rw [Option.isSome_map] at q
    rw [← q, ← l]
    exact h _ (I.tok _)
theorem d_notIn {Q : Value → Shared → Prop} (hu : A.units + 1 < cLine) (I : Inv X pins σ H s) (g : DGet H a y o) (ry : RelV y u) (h : ∀ s', Inv X pins σ H s' → Q (.bool (!o.isSome)) s') :
    wpAny (model X.prog X.w) A (compareOp .NotIn u (.ref a)) Q E s := by
  rcases g with ⟨kvs, k, e, ey, l⟩ | ⟨kvs, k, b, e, ey, eb, l⟩
  · subst ey
    obtain ⟨z, hd, vs, rel, dd⟩ := dk_rd I.hok e
    refine wpAny_notIn_of (kV_is ry) hd dd.mapOf ?_
    rw [← (rel.val k).isSome_eq, ← l]
    exact h _ (I.tok _)
  · subst ey
    cases (show u = Value.ref b from ry)
    obtain ⟨z, hd, xs, rel, dd⟩ := dt_rd I.hok e
    refine wpAny_notIn_heap (tupleKind_room_in1 hu) (key_of I.hok eb) hd dd ?_
    have q := (rel.val k).isSome_eq
    rw [Option.isSome_map] at q
    rw [← q, ← l]
    exact h _ (I.tok _)
/-- a dict's object is replaced -/
theorem d_write {h' : Heap} {t' : Nat} {ob : HO} (I : Inv X pins σ H s) (mu : Mut (H a)) (hs : Heap.SameBut a s.heap h') (he : ∃ q, h'.get? a = some q) (new : ObjOk X.prog X.w (upd H a ob) h' a ob) :
    Inv X pins σ (upd H a ob) { s with heap := h', toks := t' } :=
  I.write (x := a) (e := a) mu (.inl rfl) (fun b q hb z => (hs.2 b hb).trans z) he new
theorem dk_new {P : Program} {w : World} {H' : Hp} {h' : Heap} {kvs : List (Key × V)} {vs : List (Key × Value)} (z : kvs.length ≤ sizeLine) (hd : (a == sysModules) = false) (rel : KV kvs vs) (dd : h'.DictOf (mixKind P w) a vs) :
    ObjOk P w H' h' a (.dK kvs) := ⟨z, hd, vs, rel, dd⟩
/-- d[y] = v -/
theorem d_setItem {H' : Hp} {Q : Unit → Shared → Prop} (hu : A.units + 1 < cLine) (I : Inv X pins σ H s) (g : DPut H a y v H') (ry : RelV y u) (rv : RelV v r) (h : ∀ s', Inv X pins σ H' s' → Q () s') :
    wpAny (model X.prog X.w) A (setItem (.ref a) u r) Q E s := by
  rcases g with ⟨kvs, k, e, ey, l, eH⟩ | ⟨kvs, k, b, e, ey, eb, l, eH⟩
  · subst ey eH
    obtain ⟨z, hd, vs, rel, dd⟩ := dk_of I.hok e
    have hz : vs.length ≤ sizeLine := by rw [← rel.length]; exact z
    have hl : (putK kvs k v).length ≤ sizeLine := by have := length_putK kvs k v; omega
    refine wpAny_setItem_pairs (hsz := hz) (kV_is ry) dd fun h' dd' hs => h _ ?_
    have he : ∃ q, h'.get? a = some q := let ⟨q, _, _, hq, _⟩ := dd'; ⟨q, hq⟩
    exact d_write I (by rw [e]; exact True.intro) hs he (dk_new hl hd (rel.put k rv) dd')
  · subst ey eH
    cases (show u = Value.ref b from ry)
    obtain ⟨z, hd, xs, rel, dd⟩ := dt_of I.hok e
    have hz : xs.length ≤ sizeLine := by rw [← Paired.length rel]; exact z
    have hl : (putK kvs k v).length ≤ sizeLine := by have := length_putK kvs k v; omega
    refine wpAny_setItem_heap (hsz := hz) (tupleKind_room_in1 hu) (key_of I.hok eb) dd fun h' dd' hs => h _ ?_
    obtain ⟨q, es, ep, hq, h2, h3, h4, _, h5⟩ := dd'
    refine d_write I (by rw [e]; exact True.intro) hs ⟨q, hq⟩ ⟨hl, hd, _, (rel.put k eb rv).keeps fun c ys ec => ?_, q, es, ep, hq, h2, h3, h4, h5⟩
    rw [upd_ne (ne_of ec e (fun z => nomatch z))]
    exact ec
end

section
variable {X : Cx} {pins : List (Addr × Obj)} {σ : St} {H : Hp} {s : Shared} {a : Addr} {kvs : List (Key × V)} {k : Key} {u : Value} {A : Around} {E : Value → Shared → Prop}
/-- del d[k] -/
theorem d_delItem {Q : Unit → Shared → Prop} (I : Inv X pins σ H s) (e : H a = some (.dK kvs)) (ry : RelV (kV k) u) (l : (valV kvs k).isSome = true) (h : ∀ s', Inv X pins σ (upd H a (.dK (dropK kvs k))) s' → Q () s') :
    wpAny (model X.prog X.w) A (delItem (.ref a) u) Q E s := by
  obtain ⟨z, hd, vs, rel, dd⟩ := dk_of I.hok e
  refine wpAny_delItem_slot dd.typeIs (by decide) PySem.F.slot_dict_delitem
    (call_meetsIn PySem.F.slot_dict_delitem dd.typeIs PySem.F.entry_dict_delitem (PySem.F.args_dict_delitem_2 _ _) (meets_dict_delitem_pairs (mixKind X.prog X.w) a (kV_is ry)) ⟨vs, dd, by rw [← rel.length]; exact z, by rw [← (rel.val k).isSome_eq]; exact l, fun h' dd' hs => h _ ?_⟩)
  have he : ∃ q, h'.get? a = some q := let ⟨q, _, _, hq, _⟩ := dd'; ⟨q, hq⟩
  exact d_write I (by rw [e]; exact True.intro) hs he (dk_new (Nat.le_trans (dropK_le kvs k) z) hd (rel.drop k) dd')
/-- d.pop(k[, x]), there -/
theorem d_pop {v : V} {more : List Value} {Q : Value → Shared → Prop} (I : Inv X pins σ H s) (e : H a = some (.dK kvs)) (ry : RelV (kV k) u) (l : valV kvs k = some v) (hm : more = [] ∨ ∃ x, more = [x])
    (h : ∀ w' s', Inv X pins σ (upd H a (.dK (dropK kvs k))) s' → RelV v w' → Q w' s') : wpAny (model X.prog X.w) A (call (.builtin "dict.pop") (.ref a :: u :: more)) Q E s := by
  obtain ⟨z, hd, vs, rel, dd⟩ := dk_of I.hok e
  obtain ⟨w', hw, rw'⟩ := RelO.some_of (v := v) (o := valueAt vs k) (by rw [← l]; exact rel.val k)
  have hp : (keyPart u).isSome = true := by
    cases k with
    | inl i => obtain ⟨t, q⟩ := (show ∃ t, u = Value.int i t from ry); subst q; rfl
    | inr x => obtain ⟨t, q⟩ := (show ∃ t, u = Value.str x t from ry); subst q; rfl
  have ha : argsOk "dict.pop" ⟨.ref a :: u :: more, []⟩ := by
    rcases hm with q | ⟨x, q⟩
    · subst q; exact PySem.F.args_dict_pop_2 _ _
    · subst q; exact PySem.F.args_dict_pop_3 _ _ _
  refine call_meetsIn PySem.F.slot_dict_pop dd.typeIs PySem.F.entry_dict_pop ha (meets_dict_pop_there (mixKind X.prog X.w) a (kV_is ry) more hm hp)
    ⟨vs, w', dd, by rw [← rel.length]; exact z, hw, fun h' dd' hs => h w' _ ?_ rw'⟩
  have he : ∃ q, h'.get? a = some q := let ⟨q, _, _, hq, _⟩ := dd'; ⟨q, hq⟩
  exact d_write I (by rw [e]; exact True.intro) hs he (dk_new (Nat.le_trans (dropK_le kvs k) z) hd (rel.drop k) dd')
/-- d.pop(k, x), not there -/
theorem d_popD {r : Value} {Q : Value → Shared → Prop} (I : Inv X pins σ H s) (e : H a = some (.dK kvs)) (ry : RelV (kV k) u) (l : valV kvs k = none) (h : ∀ s', Inv X pins σ H s' → Q r s') :
    wpAny (model X.prog X.w) A (call (.builtin "dict.pop") [.ref a, u, r]) Q E s := by
  obtain ⟨z, hd, vs, rel, dd⟩ := dk_of I.hok e
  have hn : valueAt vs k = none := RelO.none_of (by rw [← l]; exact rel.val k)
  have hp : (keyPart u).isSome = true := by
    cases k with
    | inl i => obtain ⟨t, q⟩ := (show ∃ t, u = Value.int i t from ry); subst q; rfl
    | inr x => obtain ⟨t, q⟩ := (show ∃ t, u = Value.str x t from ry); subst q; rfl
  exact call_meetsIn PySem.F.slot_dict_pop dd.typeIs PySem.F.entry_dict_pop (PySem.F.args_dict_pop_3 _ _ _) (meets_dict_pop_default (mixKind X.prog X.w) a (kV_is ry) hd hp r) ⟨vs, dd, hn, h _ (I.tok _)⟩
/-- d.clear() -/
theorem d_clear {Q : Value → Shared → Prop} (I : Inv X pins σ H s) (e : H a = some (.dK kvs)) (h : ∀ s', Inv X pins σ (upd H a (.dK [])) s' → Q .none s') : wpAny (model X.prog X.w) A (call (.builtin "dict.clear") [.ref a]) Q E s := by
  obtain ⟨z, hd, vs, rel, dd⟩ := dk_of I.hok e
  refine call_meetsIn PySem.F.slot_dict_clear dd.typeIs PySem.F.entry_dict_clear (PySem.F.args_dict_clear_1 _) (meets_dict_clear (mixKind X.prog X.w) a) ⟨vs, dd, by rw [← rel.length]; exact z, fun h' dd' hs => h _ ?_⟩
  have he : ∃ q, h'.get? a = some q := let ⟨q, _, _, hq, _⟩ := dd'; ⟨q, hq⟩
  exact d_write (t' := s.toks) I (by rw [e]; exact True.intro) hs he (dk_new (Nat.zero_le _) hd .nil dd')
/-- len(d) -/
theorem d_len {Q : Value → Shared → Prop} (I : Inv X pins σ H s) (e : Rd H a (.dK kvs)) (h : ∀ t s', Inv X pins σ H s' → Q (.int kvs.length t) s') : wpAny (model X.prog X.w) A (call (.builtin "len") [.ref a]) Q E s := by
  obtain ⟨z, hd, vs, rel, dd⟩ := dk_rd I.hok e
  refine call_len_dict hd dd (by rw [← rel.length]; rw [sizeLine_eq] at z; omega) ?_
  rw [← rel.length]
  exact h _ _ (I.tok _)
/-- if d -/
theorem d_truth {Q : Bool → Shared → Prop} (I : Inv X pins σ H s) (e : Rd H a (.dK kvs)) (h : ∀ s', Inv X pins σ H s' → Q (!kvs.isEmpty) s') : wpAny (model X.prog X.w) A (truthy (.ref a)) Q E s := by
  obtain ⟨z, hd, vs, rel, dd⟩ := dk_rd I.hok e
  refine wpAny_truthy_dict hd dd (by rw [← rel.length]; rw [sizeLine_eq] at z; omega) ?_
  have q : kvs.isEmpty = vs.isEmpty := by cases rel <;> rfl
  rw [← q]
  exact h _ (I.tok _)
end


/-! ### readings and rules -/
/-- the element of a subscription, not a slice -/
def NoSl (i : Expr) : Prop := ∀ ov iv, subscripted i false ov iv = operate [ov, iv] (getItem ov iv)
theorem subD_of {prog : Program} {w : World} {A : Around} {E : Value → Shared → Prop} {s : Shared} {env : Env} {value slice : Expr} {pos : Pos} {T id : String} {Q : Value → Shared → Prop}
    (hl : typeLookup (.type T) "__getitem__" = pure (some (.builtin id))) (hs : NoSl slice)
    (h : wpAny (model prog w) A (eval value env) (fun o s₁ => wpAny (model prog w) A (eval slice env) (fun i s₂ => s₂.TypeIs o T ∧ wpAny (model prog w) A (getItem o i) Q E s₂) E s₁) E s) :
    wpAny (model prog w) A (eval (.Subscript value slice pos) env) Q E s := by
  refine Subscript_ (wpAny_mono h (fun o s₁ h₁ => wpAny_mono h₁ (fun i s₂ h₂ => ?_) fun _ _ x => x) fun _ _ x => x)
  obtain ⟨hT, h₂⟩ := h₂
  unfold subscriptTail
  refine wpAny_bind ?_
  rw [getitemInPython_of_ne hT.not_modules]
  refine wpAny_bind (wpAny_specialOf hT hl ?_)
  have fin : wpAny (model prog w) A (subscripted slice false o i) (fun r s₃ => wpAny (model prog w) A (letTemporaryGo value o r >>= fun _ => pure r) Q E s₃) E s₂ := by
    rw [hs o i]
    exact wpAny_operating (wpAny_mono h₂ (fun r s₃ h₃ => wpAny_bind (wpAny_letTemporaryGo (wpAny_pure h₃))) fun _ _ x => x)
  first
    | exact wpAny_pure (wpAny_bind fin)
    | exact wpAny_bind (wpAny_pure (wpAny_bind fin))
    | exact wpAny_bind fin

theorem dict_typeIs {X : Cx} {pins : List (Addr × Obj)} {σ : St} {H : Hp} {s : Shared} {a : Addr} {y : V} {o : Option V} (I : Inv X pins σ H s) (g : DGet H a y o) : s.TypeIs (.ref a) "dict" := by
  rcases g with ⟨kvs, k, e, _, _⟩ | ⟨kvs, k, b, e, _, _, _⟩
  · obtain ⟨_, _, vs, _, dd⟩ := dk_rd I.hok e
    exact dd.typeIs
  · obtain ⟨_, _, xs, _, dd⟩ := dt_rd I.hok e
    exact dd.typeIs
theorem dict_noDict {X : Cx} {pins : List (Addr × Obj)} {σ : St} {H : Hp} {s : Shared} {a : Addr} {y : V} {o : Option V} (I : Inv X pins σ H s) (g : DGet H a y o) :
    ∀ b, Value.ref a = .ref b → ∃ ob, s.heap.get? b = some ob ∧ ob.dict = none := fun b q => by
  cases q
  rcases g with ⟨kvs, k, e, _, _⟩ | ⟨kvs, k, b, e, _, _, _⟩
  · obtain ⟨_, _, vs, _, ob, _, _, h1, h2, _⟩ := dk_rd I.hok e
    exact ⟨ob, h1, h2.2.1⟩
  · obtain ⟨_, _, xs, _, ob, _, _, h1, h2, _⟩ := dt_rd I.hok e
    exact ⟨ob, h1, h2.2.1⟩

/-- d[y] -/
def tDGet (td ty : TE) : TE := fun σ H Q => td σ H fun x H1 => ty σ H1 fun y H2 => ∃ a v, x = .ref a ∧ DGet H2 a y (some v) ∧ Q v H2
/-- y in d, y not in d -/
def tDIn (ty td : TE) : TE := fun σ H Q => ty σ H fun y H1 => td σ H1 fun x H2 => ∃ a o, x = .ref a ∧ DGet H2 a y o ∧ Q (.bl o.isSome) H2
def tDNotIn (ty td : TE) : TE := fun σ H Q => ty σ H fun y H1 => td σ H1 fun x H2 => ∃ a o, x = .ref a ∧ DGet H2 a y o ∧ Q (.bl (!o.isSome)) H2
/-- d[y] = v -/
def sDPut (td ty tv : TE) : TS := fun D σ H => tv σ H fun v H1 => td σ H1 fun x H2 => ty σ H2 fun y H3 => ∃ a H4, x = .ref a ∧ DPut H3 a y v H4 ∧ D.nx σ H4
/-- d[y] op= v -/
def sDAug (td ty tv : TE) (rd : V → V → Hp → VK → Prop) : TS := fun D σ H => td σ H fun x H1 => ty σ H1 fun y H2 => ∃ a v, x = .ref a ∧ DGet H2 a y (some v) ∧
  tv σ H2 fun y2 H3 => rd v y2 H3 fun z H4 => ∃ H5, DPut H4 a y z H5 ∧ D.nx σ H5
/-- del d[y] -/
def sDDel (td ty : TE) : TS := fun D σ H => td σ H fun x H1 => ty σ H1 fun y H2 => ∃ a kvs k, x = .ref a ∧ H2 a = some (.dK kvs) ∧ y = kV k ∧ (valV kvs k).isSome = true ∧ D.nx σ (upd H2 a (.dK (dropK kvs k)))

section
variable {X : Cx} {o i e value : Expr} {pos pos' tpos : Pos} {td ty tv : TE}
theorem pe_dget (hu : X.A.units + 1 < cLine) (ho : PE X o td) (hi : PE X i ty) (hs : NoSl i) : PE X (.Subscript o i pos) (tDGet td ty) := by
  intro pins s σ H Q I h
  refine subD_of PySem.F.slot_dict_getitem.lookup hs (thn (ho pins s σ H _ I h) fun u s1 ⟨x, H1, I1, rx, q1⟩ => thn (hi pins s1 σ H1 _ I1 q1) fun iv s2 ⟨y, H2, I2, ry, a, v, ex, g, q2⟩ => ?_)
  subst ex
  obtain rfl : u = Value.ref a := rx
  exact ⟨dict_typeIs I2 g, d_getItem hu I2 g ry fun w' s3 I3 rw' => ⟨v, H2, I3, rw', q2⟩⟩
theorem pc_din (hu : X.A.units + 1 < cLine) (hi : PE X i ty) (ho : PE X o td) : PC X .In i o (tDIn ty td) := by
  intro pins s σ H Q I h
  refine thn (hi pins s σ H _ I h) fun iv s1 ⟨y, H1, I1, ry, q1⟩ => thn (ho pins s1 σ H1 _ I1 q1) fun u s2 ⟨x, H2, I2, rx, a, ov, ex, g, q2⟩ => ?_
  subst ex
  obtain rfl : u = Value.ref a := rx
  exact d_in hu I2 g ry fun s3 I3 => ⟨.bl ov.isSome, H2, I3, rfl, q2⟩
theorem pc_dnotin (hu : X.A.units + 1 < cLine) (hi : PE X i ty) (ho : PE X o td) : PC X .NotIn i o (tDNotIn ty td) := by
  intro pins s σ H Q I h
  refine thn (hi pins s σ H _ I h) fun iv s1 ⟨y, H1, I1, ry, q1⟩ => thn (ho pins s1 σ H1 _ I1 q1) fun u s2 ⟨x, H2, I2, rx, a, ov, ex, g, q2⟩ => ?_
  subst ex
  obtain rfl : u = Value.ref a := rx
  exact d_notIn hu I2 g ry fun s3 I3 => ⟨.bl (!ov.isSome), H2, I3, rfl, q2⟩
theorem ps_dput (hu : X.A.units + 1 < cLine) (ho : PE X o td) (hi : PE X i ty) (hv : PE X value tv) (hs : swapsWith value (some (.Subscript o i pos')) pos.line X.env = pure false) :
    PS X (.Assign [.Subscript o i pos'] value pos) (sDPut td ty tv) := by
  intro pins s σ H D I h
  refine wpAny_Assign_Subscript (thn (hv pins s σ H _ I h) fun r s1 ⟨v, H1, I1, rv, q1⟩ => thn (ho pins s1 σ H1 _ I1 q1) fun u s2 ⟨x, H2, I2, rx, q2⟩ => thn (hi pins s2 σ H2 _ I2 q2) fun iv s3 ⟨y, H3, I3, ry, a, H4, ex, g, q3⟩ => ?_) hs
  subst ex
  obtain rfl : u = Value.ref a := rx
  exact d_setItem hu I3 g ry rv fun s4 I4 => ⟨σ, H4, I4, q3⟩
theorem ps_daug {op : Operator} {rd : V → V → Hp → VK → Prop} (hu : X.A.units + 1 < cLine) (ho : PE X o td) (hi : PE X i ty) (hv : PE X value tv) (hop : InOp X op rd)
    (ha : ∀ ov iv new, augStore i ov iv new = (do holding [new, ov, iv] (setItem ov iv new); release [new, ov, iv] []; pure .next)) : PS X (.AugAssign (.Subscript o i tpos) op value pos) (sDAug td ty tv rd) := by
  intro pins s σ H D I h
  refine wpAny_AugAssign_SubscriptAny (thn (ho pins s σ H _ I h) fun u s1 ⟨x, H1, I1, rx, q1⟩ => thn (hi pins s1 σ H1 _ I1 q1) fun iv s2 ⟨y, H2, I2, ry, a, v, ex, g, q2⟩ => ?_) ha
  subst ex
  obtain rfl : u = Value.ref a := rx
  refine d_getItem hu I2 g ry fun w' s3 I3 rw' => thn (hv pins s3 σ H2 _ I3 q2) fun w2 s4 ⟨y2, H3, I4, ry2, q3⟩ => thn (hop pins s4 σ H3 v y2 w' w2 _ I4 rw' ry2 q3) fun w3 s5 ⟨z, H4, I5, rz, H5, g5, q4⟩ => ?_
  exact d_setItem hu I5 g5 ry rz fun s6 I6 => ⟨σ, H5, I6, q4⟩
theorem ps_ddel (ho : PE X o td) (hi : PE X i ty) : PS X (.Delete [.Subscript o i tpos] pos) (sDDel td ty) := by
  intro pins s σ H D I h
  refine wpAny_Delete (wpAny_deleteEach_cons (wpAny_delete_Subscript (thn (ho pins s σ H _ I h) fun u s1 ⟨x, H1, I1, rx, q1⟩ => thn (hi pins s1 σ H1 _ I1 q1) fun iv s2 ⟨y, H2, I2, ry, a, kvs, k, ex, e, ey, l, q2⟩ => ?_)))
  subst ex ey
  obtain rfl : u = Value.ref a := rx
  exact d_delItem I2 e ry l fun s3 I3 => wpAny_deleteEach_nil ⟨σ, _, I3, q2⟩
end


/-! ### displays -/
theorem dk_empty {P : Program} {w : World} {H : Hp} (h : Heap) (hb : sysModules < h.objs.size) : ObjOk P w H (h.push { cls := .type "dict", data := .dict #[] }) h.objs.size (.dK []) :=
  ⟨Nat.zero_le _, beq_eq_false_iff_ne.mpr (Ne.symm (Nat.ne_of_lt hb)), [], .nil, Heap.DictOf.new h⟩
theorem dt_empty {P : Program} {w : World} {H : Hp} (h : Heap) (hb : sysModules < h.objs.size) : ObjOk P w H (h.push { cls := .type "dict", data := .dict #[] }) h.objs.size (.dT []) :=
  ⟨Nat.zero_le _, beq_eq_false_iff_ne.mpr (Ne.symm (Nat.ne_of_lt hb)), [], .nil, _, #[], 0, Heap.get?_push_size _ rfl, ⟨rfl, rfl, rfl⟩, rfl, rfl, List.nodup_nil⟩
/-- {}, to be a dict of the kind that is wanted -/
def tDNewK : TE := fun _ H Q => ∀ p, H p = none → Q (.ref p) (upd H p (.dK []))
def tDNewT : TE := fun _ H Q => ∀ p, H p = none → Q (.ref p) (upd H p (.dT []))
section
variable {X : Cx} {pos : Pos}
theorem pe_dnewK : PE X (.Dict [] [] pos) tDNewK := fun pins s σ H Q I h =>
  wpAny_Dict_empty ⟨.ref s.heap.objs.size, _, I.laid (a := s.heap.objs.size) (o := .dK []) (t' := s.toks) (fun _ _ q => Heap.get?_push_of_some _ q) (Nat.le_refl _) (dk_empty s.heap I.big), rfl, h _ (I.hok.fresh (Nat.le_refl _))⟩
theorem pe_dnewT : PE X (.Dict [] [] pos) tDNewT := fun pins s σ H Q I h =>
  wpAny_Dict_empty ⟨.ref s.heap.objs.size, _, I.laid (a := s.heap.objs.size) (o := .dT []) (t' := s.toks) (fun _ _ q => Heap.get?_push_of_some _ q) (Nat.le_refl _) (dt_empty s.heap I.big), rfl, h _ (I.hok.fresh (Nat.le_refl _))⟩
end

/-- the pairs of a display, from the left -/
def tPairs : List (TE × TE) → St → Hp → (List (V × V) → Hp → Prop) → Prop
  | [], _, H, Q => Q [] H
  | (tk, tv) :: r, σ, H, Q => tk σ H fun x H1 => tv σ H1 fun y H2 => tPairs r σ H2 fun ps H3 => Q ((x, y) :: ps) H3
abbrev VV : List (V × V) → List (Value × Value) → Prop := Paired fun p q => RelV p.1 q.1 ∧ RelV p.2 q.2
def PPs (X : Cx) (pos : Pos) (keys : List (Option Expr)) (values : List Expr) (trs : List (TE × TE)) : Prop :=
  ∀ (pins : List (Addr × Obj)) (s : Shared) (σ : St) (H : Hp) (Q : List (V × V) → Hp → Prop), Inv X pins σ H s → tPairs trs σ H Q →
    wpAny (model X.prog X.w) X.A (evalPairs (pairTrees keys values X.env pos)) (fun vs s' => ∃ ps H', Inv X pins σ H' s' ∧ VV ps vs ∧ Q ps H') X.xe s
theorem pps_nil {X : Cx} {pos : Pos} : PPs X pos [] [] [] := fun pins s σ H Q I h => pairTrees_nil_walk ⟨[], H, I, .nil, h⟩
theorem pps_cons {X : Cx} {pos : Pos} {k v : Expr} {ks : List (Option Expr)} {vs : List Expr} {tk tv : TE} {trs : List (TE × TE)} (hk : PE X k tk) (hv : PE X v tv) (hr : PPs X pos ks vs trs) :
    PPs X pos (some k :: ks) (v :: vs) ((tk, tv) :: trs) := fun pins s σ H Q I h =>
  pairTrees_cons_walk (thn (hk pins s σ H _ I h) fun u s1 ⟨x, H1, I1, rx, q1⟩ => thn (hv pins s1 σ H1 _ I1 q1) fun w2 s2 ⟨y, H2, I2, ry, q2⟩ =>
    thn (hr pins s2 σ H2 _ I2 q2) fun ws s3 ⟨ps, H3, I3, rel, q3⟩ => ⟨(x, y) :: ps, H3, I3, .cons ⟨rx, ry⟩ rel, q3⟩)

def mergeK (kvs more : List (Key × V)) : List (Key × V) := more.foldl (fun acc kv => putK acc kv.1 kv.2) kvs
theorem KV.merge : ∀ {more : List (Key × V)} {rs : List (Key × Value)} {kvs : List (Key × V)} {vs : List (Key × Value)}, KV more rs → KV kvs vs → KV (mergeK kvs more) (merged vs rs) := by
  intro more rs kvs vs r
  unfold KV at r
  induction r generalizing kvs vs with
  | nil => intro q; exact q
  | @cons p q ps qs h t ih =>
    intro r0
    have e : KV (putK kvs p.1 p.2) (stored vs q.1 q.2) := by
      have := r0.put p.1 h.2
      rw [← h.1]; exact this
    exact ih e
theorem length_mergeK : ∀ (more kvs : List (Key × V)), (mergeK kvs more).length ≤ kvs.length + more.length
  | [], kvs => by show kvs.length ≤ kvs.length + 0; omega
  | p :: r, kvs => by
    have h1 := length_mergeK r (putK kvs p.1 p.2)
    have h2 := length_putK kvs p.1 p.2
    show (mergeK (putK kvs p.1 p.2) r).length ≤ _
    rw [List.length_cons]; omega
theorem carries_of {P : Program} {w : World} : ∀ {kvs : List (Key × V)} {ws : List (Value × Value)}, VV (kvs.map fun kv => (kV kv.1, kv.2)) ws → ∃ rs, Carries (mixKind P w) ws rs ∧ KV kvs rs
  | [], _, r => by rw [List.map_nil] at r; cases r; exact ⟨[], True.intro, .nil⟩
  | p :: kvs, _, r => by
    rw [List.map_cons] at r
    cases r with
    | @cons a b as bs h t =>
      obtain ⟨rs, c, q⟩ := carries_of (P := P) (w := w) t
      obtain ⟨b1, b2⟩ := b
      exact ⟨(p.1, b2) :: rs, ⟨kV_is h.1, rfl, c⟩, .cons ⟨rfl, h.2⟩ q⟩
/-- {k: v, ..} with keys ints and texts; the new dict stands empty while the pairs are made -/
def tDisp (trs : List (TE × TE)) : TE := fun σ H Q => ∀ p, H p = none → tPairs trs σ (upd H p (.dK [])) fun ps H2 => H2 p = some (.dK []) ∧ ∃ kvs : List (Key × V), ps = kvs.map (fun kv => (kV kv.1, kv.2)) ∧ kvs.length ≤ 15 ∧ Q (.ref p) (upd H2 p (.dK (mergeK [] kvs)))
theorem pe_disp {X : Cx} {pos : Pos} {keys : List (Option Expr)} {values : List Expr} {trs : List (TE × TE)} (h : PPs X pos keys values trs) (hall : keys.all (·.isSome) = true) (hl : keys.length = values.length) (h0 : keys ≠ [])
    (h15 : keys.length ≤ 15) : PE X (.Dict keys values pos) (tDisp trs) := by
  intro pins s σ H Q I q
  have hn := I.hok.fresh (Nat.le_refl s.heap.objs.size)
  have I1 := I.laid (a := s.heap.objs.size) (o := .dK []) (h' := s.heap.push { cls := .type "dict", data := .dict #[] }) (t' := s.toks) (fun _ _ q => Heap.get?_push_of_some _ q) (Nat.le_refl _) (dk_empty s.heap I.big)
  refine wpAny_Dict_walk (knd := mixKind X.prog X.w) hall hl h0 h15 (thn (h pins _ σ _ _ I1 (q _ hn)) fun ws s2 ⟨ps, H2, I2, rel, e, kvs, ep, lk, q2⟩ => ?_)
  subst ep
  obtain ⟨rs, c, rk⟩ := carries_of (P := X.prog) (w := X.w) rel
  obtain ⟨z, hd, vs0, r0, dd⟩ := dk_of I2.hok e
  cases r0
  refine ⟨rs, c, dd, fun h' dd' hs => ⟨.ref s.heap.objs.size, _, ?_, rfl, q2⟩⟩
  have hz : (mergeK [] kvs).length ≤ sizeLine := by
    have h1 := length_mergeK kvs []
    rw [List.length_nil] at h1
    rw [sizeLine_eq]; omega
  have he : ∃ q, h'.get? s.heap.objs.size = some q := let ⟨q, _, _, hq, _⟩ := dd'; ⟨q, hq⟩
  exact d_write I2 (by rw [e]; exact True.intro) hs he (dk_new hz hd (rk.merge .nil) dd')


/-! ### methods -/
/-- a method call o.m(e) of a built-in, with one argument: what must be seen of the text -/
structure M1 (X : Cx) (o : Expr) (m : Str) (apos : Pos) (e : Expr) (cpos : Pos) : Prop where
  base : attributeBase o m X.env (eval o X.env) = eval o X.env
  few : ((backTo cpos (starEach [e] X.env)).all (fun x => !x.1) && (backToKw cpos (keywordEach [] X.env)).all (fun x => x.1.isSome)
    && decide (([e] : List Expr).length + ([] : List Keyword).length + (if ([] : List Keyword).isEmpty then 0 else 1) < 30)) = true
  line : (apos.endLine == cpos.line) = true
  trees : backTo cpos (starEach [e] X.env) = [(false, eval e X.env)]
structure M2 (X : Cx) (o : Expr) (m : Str) (apos : Pos) (e f : Expr) (cpos : Pos) : Prop where
  base : attributeBase o m X.env (eval o X.env) = eval o X.env
  few : ((backTo cpos (starEach [e, f] X.env)).all (fun x => !x.1) && (backToKw cpos (keywordEach [] X.env)).all (fun x => x.1.isSome)
    && decide (([e, f] : List Expr).length + ([] : List Keyword).length + (if ([] : List Keyword).isEmpty then 0 else 1) < 30)) = true
  line : (apos.endLine == cpos.line) = true
  trees : backTo cpos (starEach [e, f] X.env) = [(false, eval e X.env), (false, eval f X.env)]

/-- a is a dict, whatever its keys -/
def IsD (H : Hp) (a : Addr) : Prop := (∃ kvs, Rd H a (.dK kvs)) ∨ ∃ kvs, Rd H a (.dT kvs)
theorem isD_at {X : Cx} {pins : List (Addr × Obj)} {σ : St} {H : Hp} {s : Shared} {a : Addr} (I : Inv X pins σ H s) (d : IsD H a) :
    s.TypeIs (.ref a) "dict" ∧ (∀ b, Value.ref a = .ref b → ∃ ob, s.heap.get? b = some ob ∧ ob.dict = none) ∧ (a == sysModules) = false := by
  rcases d with ⟨kvs, e⟩ | ⟨kvs, e⟩
  · obtain ⟨_, hd, vs, _, dd⟩ := dk_rd I.hok e
    refine ⟨dd.typeIs, fun b q => ?_, hd⟩
    cases q
    obtain ⟨ob, _, _, h1, h2, _⟩ := dd
    exact ⟨ob, h1, h2.2.1⟩
  · obtain ⟨_, hd, xs, _, dd⟩ := dt_rd I.hok e
    refine ⟨dd.typeIs, fun b q => ?_, hd⟩
    cases q
    obtain ⟨ob, _, _, h1, h2, _⟩ := dd
    exact ⟨ob, h1, h2.2.1⟩

section
variable {X : Cx} {pins : List (Addr × Obj)} {σ : St} {H : Hp} {s : Shared} {a : Addr} {y d : V} {u r : Value} {o : Option V} {A : Around} {E : Value → Shared → Prop}
/-- d.get(y) -/
theorem d_get1 {Q : Value → Shared → Prop} (hu : A.units + 1 < cLine) (I : Inv X pins σ H s) (g : DGet H a y o) (ry : RelV y u) (h : ∀ w' s', Inv X pins σ H s' → RelV (o.getD .non) w' → Q w' s') :
    wpAny (model X.prog X.w) A (call (.builtin "dict.get") [.ref a, u]) Q E s := by
  rcases g with ⟨kvs, k, e, ey, l⟩ | ⟨kvs, k, b, e, ey, eb, l⟩
  · subst ey
    obtain ⟨z, hd, vs, rel, dd⟩ := dk_rd I.hok e
    refine call_meetsIn PySem.F.slot_dict_get dd.typeIs PySem.F.entry_dict_get (PySem.F.args_dict_get_2 _ _) (meets_dict_get (mixKind X.prog X.w) a (kV_is ry) hd) ⟨_, dd.mapOf, h _ _ (I.tok _) ?_⟩
    rw [l]
    exact (rel.val k).getD rfl
  · subst ey
    cases (show u = Value.ref b from ry)
    obtain ⟨z, hd, xs, rel, dd⟩ := dt_rd I.hok e
    refine call_meetsIn PySem.F.slot_dict_get dd.typeIs PySem.F.entry_dict_get (PySem.F.args_dict_get_2 _ _) (meetsH_dict_get (tupleKind (mixKind X.prog X.w)) a b hd) ⟨tupleKind_room_in1 hu, k, xs, key_of I.hok eb, dd, h _ _ (I.tok _) ?_⟩
    rw [l]
    exact (rel.val k).getD rfl
/-- d.get(y, x) -/
theorem d_get2 {Q : Value → Shared → Prop} (hu : A.units + 1 < cLine) (I : Inv X pins σ H s) (g : DGet H a y o) (ry : RelV y u) (rd : RelV d r) (h : ∀ w' s', Inv X pins σ H s' → RelV (o.getD d) w' → Q w' s') :
    wpAny (model X.prog X.w) A (call (.builtin "dict.get") [.ref a, u, r]) Q E s := by
  rcases g with ⟨kvs, k, e, ey, l⟩ | ⟨kvs, k, b, e, ey, eb, l⟩
  · subst ey
    obtain ⟨z, hd, vs, rel, dd⟩ := dk_rd I.hok e
    refine call_meetsIn PySem.F.slot_dict_get dd.typeIs PySem.F.entry_dict_get (PySem.F.args_dict_get_3 _ _ _) (meets_dict_get_default (mixKind X.prog X.w) a (kV_is ry) hd r) ⟨_, dd.mapOf, h _ _ (I.tok _) ?_⟩
    rw [l]
    exact (rel.val k).getD rd
  · subst ey
    cases (show u = Value.ref b from ry)
    obtain ⟨z, hd, xs, rel, dd⟩ := dt_rd I.hok e
    refine call_meetsIn PySem.F.slot_dict_get dd.typeIs PySem.F.entry_dict_get (PySem.F.args_dict_get_3 _ _ _) (meetsH_dict_get_default (tupleKind (mixKind X.prog X.w)) a b hd r) ⟨tupleKind_room_in1 hu, k, xs, key_of I.hok eb, dd, h _ _ (I.tok _) ?_⟩
    rw [l]
    exact (rel.val k).getD rd
end

def tDGet1 (td ty : TE) : TE := fun σ H Q => td σ H fun x H1 => ∃ a, x = .ref a ∧ IsD H1 a ∧ ty σ H1 fun y H2 => ∃ o, DGet H2 a y o ∧ Q (o.getD .non) H2
def tDGet2 (td ty tx : TE) : TE := fun σ H Q => td σ H fun x H1 => ∃ a, x = .ref a ∧ IsD H1 a ∧ ty σ H1 fun y H2 => tx σ H2 fun z H3 => ∃ o, DGet H3 a y o ∧ Q (o.getD z) H3
/-- d.pop(k): there; d.pop(k, x): there or not -/
def tDPop1 (td ty : TE) : TE := fun σ H Q => td σ H fun x H1 => ∃ a, x = .ref a ∧ IsD H1 a ∧ ty σ H1 fun y H2 => ∃ kvs k v, H2 a = some (.dK kvs) ∧ y = kV k ∧ valV kvs k = some v ∧ Q v (upd H2 a (.dK (dropK kvs k)))
def tDPop2 (td ty tx : TE) : TE := fun σ H Q => td σ H fun x H1 => ∃ a, x = .ref a ∧ IsD H1 a ∧ ty σ H1 fun y H2 => tx σ H2 fun z H3 => ∃ kvs k, H3 a = some (.dK kvs) ∧ y = kV k ∧
  (∀ v, valV kvs k = some v → Q v (upd H3 a (.dK (dropK kvs k)))) ∧ (valV kvs k = none → Q z H3)
section
variable {X : Cx} {o e f : Expr} {apos cpos : Pos} {td ty tx : TE}
theorem pe_dget1 (hu : X.A.units + 1 < cLine) (ho : PE X o td) (he : PE X e ty) (m : M1 X o "get" apos e cpos) : PE X (.Call (.Attribute o "get" apos) [e] [] cpos) (tDGet1 td ty) := by
  intro pins s σ H Q I h
  refine wpAny_Call_method m.base m.few m.line PySem.F.plainAttrs_dict PySem.F.slot_dict_get PySem.F.type_dict_get (thn (ho pins s σ H _ I h) fun u s1 ⟨x, H1, I1, rx, a, ex, d, q1⟩ => ?_)
  subst ex
  obtain rfl : u = Value.ref a := rx
  obtain ⟨t1, t2, _⟩ := isD_at I1 d
  refine ⟨t1, t2, ?_⟩
  rw [m.trees]
  refine Calls.callWith_builtin rfl (Calls.evalArgs_plain (Calls.spliced_cons (thn (he pins s1 σ H1 _ I1 q1) fun iv s2 ⟨y, H2, I2, ry, ov, g, q2⟩ => Calls.spliced_nil ?_)))
  exact d_get1 hu I2 g ry fun w' s3 I3 rw' => ⟨_, H2, I3, rw', q2⟩
theorem pe_dget2 (hu : X.A.units + 1 < cLine) (ho : PE X o td) (he : PE X e ty) (hf : PE X f tx) (m : M2 X o "get" apos e f cpos) : PE X (.Call (.Attribute o "get" apos) [e, f] [] cpos) (tDGet2 td ty tx) := by
  intro pins s σ H Q I h
  refine wpAny_Call_method m.base m.few m.line PySem.F.plainAttrs_dict PySem.F.slot_dict_get PySem.F.type_dict_get (thn (ho pins s σ H _ I h) fun u s1 ⟨x, H1, I1, rx, a, ex, d, q1⟩ => ?_)
  subst ex
  obtain rfl : u = Value.ref a := rx
  obtain ⟨t1, t2, _⟩ := isD_at I1 d
  refine ⟨t1, t2, ?_⟩
  rw [m.trees]
  refine Calls.callWith_builtin rfl (Calls.evalArgs_plain (Calls.spliced_cons (thn (he pins s1 σ H1 _ I1 q1) fun iv s2 ⟨y, H2, I2, ry, q2⟩ =>
    Calls.spliced_cons (thn (hf pins s2 σ H2 _ I2 q2) fun fv s3 ⟨z, H3, I3, rz, ov, g, q3⟩ => Calls.spliced_nil ?_))))
  exact d_get2 hu I3 g ry rz fun w' s4 I4 rw' => ⟨_, H3, I4, rw', q3⟩
theorem pe_dpop1 (ho : PE X o td) (he : PE X e ty) (m : M1 X o "pop" apos e cpos) : PE X (.Call (.Attribute o "pop" apos) [e] [] cpos) (tDPop1 td ty) := by
  intro pins s σ H Q I h
  refine wpAny_Call_method m.base m.few m.line PySem.F.plainAttrs_dict PySem.F.slot_dict_pop PySem.F.type_dict_pop (thn (ho pins s σ H _ I h) fun u s1 ⟨x, H1, I1, rx, a, ex, d, q1⟩ => ?_)
  subst ex
  obtain rfl : u = Value.ref a := rx
  obtain ⟨t1, t2, _⟩ := isD_at I1 d
  refine ⟨t1, t2, ?_⟩
  rw [m.trees]
  refine Calls.callWith_builtin rfl (Calls.evalArgs_plain (Calls.spliced_cons (thn (he pins s1 σ H1 _ I1 q1) fun iv s2 ⟨y, H2, I2, ry, kvs, k, v, ea, ey, l, q2⟩ => Calls.spliced_nil ?_)))
  subst ey
  exact d_pop I2 ea ry l (.inl rfl) fun w' s3 I3 rw' => ⟨v, _, I3, rw', q2⟩
theorem pe_dpop2 (ho : PE X o td) (he : PE X e ty) (hf : PE X f tx) (m : M2 X o "pop" apos e f cpos) : PE X (.Call (.Attribute o "pop" apos) [e, f] [] cpos) (tDPop2 td ty tx) := by
  intro pins s σ H Q I h
  refine wpAny_Call_method m.base m.few m.line PySem.F.plainAttrs_dict PySem.F.slot_dict_pop PySem.F.type_dict_pop (thn (ho pins s σ H _ I h) fun u s1 ⟨x, H1, I1, rx, a, ex, d, q1⟩ => ?_)
  subst ex
  obtain rfl : u = Value.ref a := rx
  obtain ⟨t1, t2, _⟩ := isD_at I1 d
  refine ⟨t1, t2, ?_⟩
  rw [m.trees]
  refine Calls.callWith_builtin rfl (Calls.evalArgs_plain (Calls.spliced_cons (thn (he pins s1 σ H1 _ I1 q1) fun iv s2 ⟨y, H2, I2, ry, q2⟩ =>
    Calls.spliced_cons (thn (hf pins s2 σ H2 _ I2 q2) fun fv s3 ⟨z, H3, I3, rz, kvs, k, ea, ey, q3, q4⟩ => Calls.spliced_nil ?_))))
  subst ey
  cases l : valV kvs k with
  | some v => exact d_pop I3 ea ry l (.inr ⟨fv, rfl⟩) fun w' s4 I4 rw' => ⟨v, _, I4, rw', q3 v l⟩
  | none => exact d_popD I3 ea ry l fun s4 I4 => ⟨z, H3, I4, rz, q4 l⟩
end

/-! ### dict(d): a copy -/
section
variable {X : Cx} {pins : List (Addr × Obj)} {σ : St} {H : Hp} {s : Shared} {a : Addr} {kvs : List (Key × V)} {A : Around} {E : Value → Shared → Prop}
theorem d_copyOf {Q : Value → Shared → Prop} (I : Inv X pins σ H s) (e : Rd H a (.dK kvs)) (h : ∀ p s', H p = none → Inv X pins σ (upd H p (.dK kvs)) s' → Q (.ref p) s') : wpAny (model X.prog X.w) A (call (.type "dict") [.ref a]) Q E s := by
  obtain ⟨z, hd, vs, rel, dd⟩ := dk_rd I.hok e
  refine kt_call_dict hd dd (by rw [← rel.length]; exact z) fun h' dd' hs => ?_
  refine h _ _ (I.hok.fresh (Nat.le_refl _)) (I.laid (a := s.heap.objs.size) (o := .dK kvs) (t' := s.toks) (fun b q hq => ?_) (Nat.le_refl _) (dk_new z (beq_eq_false_iff_ne.mpr (Ne.symm (Nat.ne_of_lt I.big))) rel dd'))
  exact (hs.2 b (Nat.ne_of_lt (Heap.lt_size hq))).trans (Heap.get?_push_of_some _ hq)
end


section
variable {X : Cx} {pins : List (Addr × Obj)} {σ : St} {H : Hp} {s : Shared} {a : Addr} {y : V} {u : Value} {A : Around} {E : Value → Shared → Prop}
/-- d[y], not there: a KeyError -/
theorem d_missing {Q : Value → Shared → Prop} (hu : A.units + 1 < cLine) (hh : A.handled = none) (I : Inv X pins σ H s) (g : DGet H a y none) (ry : RelV y u)
    (h : ∀ h' e t', Heap.NewExc s.heap h' e "KeyError" → E (.ref e) { s with heap := h', toks := t' }) : wpAny (model X.prog X.w) A (getItem (.ref a) u) Q E s := by
  rcases g with ⟨kvs, k, e, ey, l⟩ | ⟨kvs, k, b, e, ey, eb, l⟩
  · subst ey
    obtain ⟨z, hd, vs, rel, dd⟩ := dk_rd I.hok e
    have hn : valueAt vs k = none := RelO.none_of (by rw [l]; exact rel.val k)
    exact wpAny_getItem_missing_of (kV_is ry) hd hh dd.mapOf hn fun h' ex ne => h h' ex _ ne
  · subst ey
    cases (show u = Value.ref b from ry)
    obtain ⟨z, hd, xs, rel, dd⟩ := dt_rd I.hok e
    have hn : (atKey xs k).map (·.2) = none := RelO.none_of (by rw [l]; exact rel.val k)
    exact wpAny_getItem_missing_heap (tupleKind_room_in1 hu) (key_of I.hok eb) hd hh dd (Option.map_eq_none_iff.mp hn) fun h' ex ne => h h' ex _ ne
end
end L2

namespace HT
open PySem PyProof.Rows

/-- t < u of tuples of ints -/
def lexLt : List Int → List Int → Bool
  | [], [] => false
  | [], _ :: _ => true
  | _ :: _, [] => false
  | x :: xs, y :: ys => if x = y then lexLt xs ys else decide (x < y)
theorem lexLt_cons (x y : Int) (xs ys : List Int) : lexLt (x :: xs) (y :: ys) = if x = y then lexLt xs ys else decide (x < y) := rfl
theorem lexLt_nil_nil : lexLt [] [] = false := rfl
theorem lexLt_nil_cons (y : Int) (ys : List Int) : lexLt [] (y :: ys) = true := rfl
theorem lexLt_cons_nil (x : Int) (xs : List Int) : lexLt (x :: xs) [] = false := rfl

theorem eqAt_int (A : Around) (s : Shared) (a : Int) (t : Tok) (c : Int) (u : Tok) : ∃ e, SeqAt.EqAt A s (.int a t) (.int c u) e ∧ (e = true ↔ a = c) :=
  ⟨(a == c), SeqAt.EqAt.int_int a t c u, by simp⟩
theorem rcLt_int (A : Around) (s : Shared) (a : Int) (t : Tok) (c : Int) (u : Tok) (prog : Program) (w : World) (E : Value → Shared → Prop) (Q : Value → Shared → Prop) (h : Q (.bool (decide (a < c))) s) :
    wpAny (model prog w) A (richCompare .Lt (.int a t) (.int c u)) Q E s :=
  (PyProof.Rows.lt_int h : wpAny (model prog w) A (compareOp .Lt (.int a t) (.int c u)) Q E s)

section
open PySem.SeqAt
open PySem.AutoSeq1 (wpAny_loadPart')
open PySem.MeetsSeq PySem.MeetsSeq2 PySem.MeetsSeq3

theorem tuple_lt_ints (l b : Addr) (items items2 : Array Value) (n n2 : Nat) (dd dd2 : Option Addr) (sl sl2 : Array (Option Value)) (ns ms : List Int) (hi : IntsAre items.toList ns) (hj : IntsAre items2.toList ms) :
    Meets (Builtin.«tuple.__lt__» ⟨[.ref l, .ref b], []⟩)
      (fun _ R s => s.heap.get? l = some { cls := .type "tuple", dict := dd, data := .seq items n, slots := sl } ∧ s.heap.get? b = some { cls := .type "tuple", dict := dd2, data := .seq items2 n2, slots := sl2 } ∧
        R (.ok (.ret (.bool (lexLt ns ms)))) s) :=
  .of_wp fun prog w A R s h => by
    obtain ⟨hp, g, d, tk, os⟩ := s; obtain ⟨hl, hb, h⟩ := h
    have f2 := AutoSeq1.sub_tuple_tuple
    have z1 : items.size = ns.length := by rw [← hi.length]; simp
    have z2 : items2.size = ms.length := by rw [← hj.length]; simp
    wp_walk using wpAny_loadPart' hl, wpAny_loadPart' hb, wpAny_forIn_list _ (fun rest b s' => b.1 = none ∧ s' = ⟨hp, g, d, tk, os⟩ ∧ ∃ (vs ws : List Value) (ns' ms' : List Int), rest = vs.zip ws ∧
      IntsAre vs ns' ∧ IntsAre ws ms' ∧ ns'.length + items2.size = ms'.length + items.size ∧ R (.ok (.ret (.bool (lexLt ns' ms')))) ⟨hp, g, d, tk, os⟩) _
    case turn =>
      rintro ⟨y, x⟩ rest b s' ⟨hb', rfl, vs, ws, ns', ms', hz, hvi, hwi, hlen, hR⟩
      cases hvi with
      | nil => rw [List.zip_nil_left] at hz; cases hz
      | cons a t hvi' =>
        cases hwi with
        | nil => rw [List.zip_nil_right] at hz; cases hz
        | cons c u hwi' =>
          rw [List.zip_cons_cons] at hz
          injection hz with hyx hrest
          injection hyx with hy hx
          subst hy hx
          rw [lexLt_cons] at hR
          simp only [List.length_cons] at hlen
          obtain ⟨e, he, hiff⟩ := eqAt_int A.in1 ⟨hp, g, d, tk, os⟩ a t c u
          refine wpAny_bind (he prog w _ _ ?_)
          cases e with
          | true =>
            rw [if_pos (hiff.mp rfl)] at hR
            wp_walk
            exact ⟨rfl, rfl, _, _, _, _, hrest, hvi', hwi', by omega, hR⟩
          | false =>
            rw [if_neg (fun q => absurd (hiff.mpr q) Bool.false_ne_true)] at hR
            have hri := rcLt_int A.in1 ⟨hp, g, d, tk, os⟩ a t c u prog w
            wp_walk using hri
            exact ⟨_, rfl, by simpa using hR⟩
    case fin =>
      rintro ⟨b1, b2⟩ s' ⟨hb', rfl, vs, ws, ns', ms', hz, hvi, hwi, hlen, hR⟩
      simp only at hb'
      subst hb'
      have hv : lexLt ns' ms' = decide (items.size < items2.size) := by
        cases hvi with
        | nil =>
          cases hwi with
          | nil =>
            simp only [List.length_nil] at hlen
            rw [lexLt_nil_nil]
            exact (decide_eq_false (by omega)).symm
          | cons c u hw =>
            simp only [List.length_nil, List.length_cons] at hlen
            rw [lexLt_nil_cons]
            exact (decide_eq_true (by omega)).symm
        | cons a t hv =>
          cases hwi with
          | nil =>
            simp only [List.length_nil, List.length_cons] at hlen
            rw [lexLt_cons_nil]
            exact (decide_eq_false (by omega)).symm
          | cons c u hw =>
            rw [List.zip_cons_cons] at hz
            cases hz
      rw [hv] at hR
      wp_walk
      exact ⟨_, rfl, by simpa [Builtin.Tuple.tupleCompareSizes] using hR⟩
    case h =>
      exact ⟨rfl, rfl, items.toList, items2.toList, ns, ms, rfl, hi, hj, by omega, h⟩
end

section
variable {prog : Program} {w : World} {A : Around} {E : Value → Shared → Prop} {s : Shared}

theorem lt_tupInts {l b : Addr} {items items2 : Array Value} {ns ms : List Int} {Q : Value → Shared → Prop} (hl : IsTup s.heap l items) (hb : IsTup s.heap b items2) (hi : IntsAre items.toList ns) (hj : IntsAre items2.toList ms)
    (hu : A.units < cLine) (h : Q (.bool (lexLt ns ms)) s) : wpAny (model prog w) A (compareOp .Lt (.ref l) (.ref b)) Q E s := by
  obtain ⟨⟨cls, dd, data, sl⟩, ho, hc, n, hd⟩ := id hl
  obtain ⟨⟨cls2, dd2, data2, sl2⟩, ho2, hc2, n2, hd2⟩ := id hb
  simp only at hc hd hc2 hd2
  subst hc hd hc2 hd2
  exact richCompare_meets_room (op := .Lt) ⟨_, ho, rfl⟩ ⟨_, ho2, rfl⟩ PySem.F.slot_tuple_lt PySem.F.entry_tuple_lt (PySem.F.args_tuple_lt_2 _ _) (tuple_lt_ints l b items items2 n n2 dd dd2 sl sl2 ns ms hi hj)
    ⟨ho, ho2, show Value.bool (lexLt ns ms) ≠ Value.notImplemented ∧ Q (.bool (lexLt ns ms)) s from ⟨(fun x => nomatch x), h⟩⟩ hu

/-- t + u, t not empty -/
theorem cat_tup {t b : Addr} {vs ws : List Value} {Q : Value → Shared → Prop} (ht : IsTup s.heap t vs.toArray) (hb : IsTup s.heap b ws.toArray) (hv : vs ≠ [])
    (h1 : ws = [] → Q (.ref t) s) (h2 : ws ≠ [] → Q (.ref s.heap.objs.size) { s with heap := s.heap.push { cls := .type "tuple", data := .seq (vs ++ ws).toArray } })
    (hsz : vs.length + ws.length ≤ sizeLine) : wpAny (model prog w) A (binaryOp .Add (.ref t) (.ref b)) Q E s := by
  obtain ⟨⟨cls, dd, data, sl⟩, ho, hc, n, hd⟩ := id ht
  obtain ⟨⟨cls2, dd2, data2, sl2⟩, ho2, hc2, n2, hd2⟩ := id hb
  simp only at hc hd hc2 hd2
  subst hc hd hc2 hd2
  have e : vs.toArray ++ ws.toArray = (vs ++ ws).toArray := by simp
  by_cases hw : ws = []
  · exact concat_meets ⟨_, ho, rfl⟩ ⟨_, ho2, rfl⟩ noFill_tuple_add seq_tuple_add PySem.F.slot_tuple_add PySem.F.entry_tuple_add (PySem.F.args_tuple_add_2 _ _)
      (tuple_addW1 t b vs.toArray ws.toArray n n2 dd dd2 sl sl2 (by simpa using hv) (by simp [hw])) ⟨ho, ho2, h1 hw⟩
  · refine concat_meets ⟨_, ho, rfl⟩ ⟨_, ho2, rfl⟩ noFill_tuple_add seq_tuple_add PySem.F.slot_tuple_add PySem.F.entry_tuple_add (PySem.F.args_tuple_add_2 _ _)
      (tuple_addW2 t b vs.toArray ws.toArray n n2 dd dd2 sl sl2 (by simpa using hv) (by simpa using hw) (by rw [List.size_toArray, List.size_toArray]; exact hsz)) ⟨ho, ho2, ?_⟩
    rw [e]
    exact h2 hw

/-! ### t[a:b], not the whole -/
/-- a slice's bound as a place among n (d where it is left out) -/
def sIx (n d : Nat) : Option Int → Nat
  | none => d
  | some v => if v < 0 then (v + (n : Int)).toNat else min v.toNat n
theorem sIx_none (n d : Nat) : sIx n d none = d := rfl
theorem sIx_nat (n d k : Nat) : sIx n d (some (k : Int)) = min k n := by
  show (if (k : Int) < 0 then ((k : Int) + (n : Int)).toNat else min (k : Int).toNat n) = min k n
  rw [if_neg (by omega), Int.toNat_natCast]
theorem sIx_le (n d : Nat) (hd : d ≤ n) (o : Option Int) : sIx n d o ≤ n := by
  cases o with
  | none => exact hd
  | some v =>
    show (if v < 0 then (v + (n : Int)).toNat else min v.toNat n) ≤ n
    by_cases hv : v < 0
    · rw [if_pos hv]; omega
    · rw [if_neg hv]; exact Nat.min_le_right _ _
theorem clip_eq (v : Int) (n d : Nat) : (if v < 0 then max (v + (n : Int)) 0 else min v (n : Int)) = ((sIx n d (some v) : Nat) : Int) := by
  show (if v < 0 then max (v + (n : Int)) 0 else min v (n : Int)) = (((if v < 0 then (v + (n : Int)).toNat else min v.toNat n) : Nat) : Int)
  by_cases hv : v < 0
  · simp only [if_pos hv]; omega
  · simp only [if_neg hv]; omega
theorem adjust_gen (lo hi : Option Int) (n : Nat) : Builtin.Slice.sliceAdjust lo hi 1 (n : Int) = (((sIx n 0 lo : Nat) : Int), ((sIx n n hi : Nat) : Int)) := by
  have h1 : ¬ ((1 : Int) < 0) := by omega
  unfold Builtin.Slice.sliceAdjust
  simp only [h1, if_false]
  refine Prod.ext ?_ ?_
  · cases lo with
    | none => rfl
    | some v => exact clip_eq v n 0
  · cases hi with
    | none => rfl
    | some v => exact clip_eq v n n
theorem places_gen (i j : Nat) : Builtin.Slice.slicePlaces (i : Int) (j : Int) 1 = j - i := by
  unfold Builtin.Slice.slicePlaces
  have h1 : (1 : Int) > 0 := by omega
  simp only [h1, if_true, Int.ediv_one]
  split <;> omega
theorem slicePart_ {v : Value} {o : Option Int} {Q : Option Int → Shared → Prop} (p : IsPart v o) (h : Q o s) : wpAny (model prog w) A (Builtin.Slice.slicePartIndex v) Q E s := by
  cases p with
  | none => exact slicePart_none h
  | int i t => exact slicePart_int h
theorem sliceApplied_gen {sl : Addr} {vl vu : Value} {lo hi : Option Int} {n : Nat} {Q : Int × Int × Nat → Shared → Prop} (hs : s.heap.IsSliceOf sl vl vu .none) (pl : IsPart vl lo) (pu : IsPart vu hi)
    (h : Q (((sIx n 0 lo : Nat) : Int), 1, sIx n n hi - sIx n 0 lo) s) : wpAny (model prog w) A (Builtin.Slice.sliceApplied (.ref sl) (pure (n : Int))) Q E s := by
  obtain ⟨os, hos, hcs, hds⟩ := id hs
  unfold Builtin.Slice.sliceApplied Builtin.Slice.sliceFields
  refine wpAny_bind (wpAny_bind (wpAny_field hos hds (x := vl) rfl (wpAny_bind (wpAny_field hos hds (x := vu) rfl (wpAny_bind (wpAny_field hos hds (x := .none) rfl (wpAny_pure ?_)))))))
  refine wpAny_bind (slicePart_none ?_)
  show wpAny _ _ (if ((1 : Int) == 0) = true then _ else _) _ _ s
  rw [if_neg (by decide)]
  refine wpAny_bind (slicePart_ pl (wpAny_bind (slicePart_ pu (wpAny_bind (wpAny_pure ?_)))))
  show wpAny _ _ (match Builtin.Slice.sliceAdjust lo hi 1 (n : Int) with | (lo, hi) => pure (lo, (1 : Int), Builtin.Slice.slicePlaces lo hi 1)) _ _ s
  rw [adjust_gen lo hi n]
  show wpAny _ _ (pure (((sIx n 0 lo : Nat) : Int), (1 : Int), Builtin.Slice.slicePlaces ((sIx n 0 lo : Nat) : Int) ((sIx n n hi : Nat) : Int) 1)) _ _ s
  rw [places_gen]
  exact wpAny_pure h
theorem pick_gen (xs : Array Value) (i k : Nat) : ((List.range k).filterMap fun (m : Nat) => xs[((i : Int) + (m : Int) * 1).toNat]?).toArray = ((xs.toList.drop i).take k).toArray := by
  have e : (fun (m : Nat) => xs[((i : Int) + (m : Int) * 1).toNat]?) = fun m => xs[i + m]? := by
    funext m
    have : ((i : Int) + (m : Int) * 1).toNat = i + m := by omega
    rw [this]
  rw [e]
  have := pick_run xs i k
  rw [List.filterMap_map] at this
  have e2 : ((fun x => xs[x]?) ∘ fun x => i + x) = fun m => xs[i + m]? := rfl
  rw [e2] at this
  rw [this]

theorem getItem_tuple_cut {t sl : Addr} {items : Array Value} {vl vu : Value} {lo hi : Option Int} {Q : Value → Shared → Prop} (ht : IsTup s.heap t items) (hs : s.heap.IsSliceOf sl vl vu .none) (pl : IsPart vl lo) (pu : IsPart vu hi)
    (hw : ¬ (sIx items.size 0 lo = 0 ∧ sIx items.size items.size hi = items.size))
    (h : Q (.ref s.heap.objs.size) { s with heap := s.heap.push { cls := .type "tuple", data := .seq ((items.toList.drop (sIx items.size 0 lo)).take (sIx items.size items.size hi - sIx items.size 0 lo)).toArray } })
    (hsz : items.size ≤ sizeLine) : wpAny (model prog w) A (getItem (.ref t) (.ref sl)) Q E s := by
  have htake : sizeOk (.seq ((items.toList.drop (sIx items.size 0 lo)).take (sIx items.size items.size hi - sIx items.size 0 lo)).toArray) := by
    show ((items.toList.drop (sIx items.size 0 lo)).take (sIx items.size items.size hi - sIx items.size 0 lo)).toArray.size ≤ sizeLine
    rw [List.size_toArray, List.length_take, List.length_drop, Array.length_toList]
    omega
  have hj : sIx items.size items.size hi ≤ items.size := sIx_le _ _ (Nat.le_refl _) hi
  obtain ⟨os, hos, hcs, hds⟩ := id hs
  have hTs : s.TypeIs (.ref sl) "slice" := ⟨os, hos, hcs⟩
  unfold getItem
  try with_reducible refine wpAny_holding ?_
  first | refine wpAny_bind (wpAny_pure ?_) | skip
  refine wpAny_bind (wpAny_sequenceKey ht.typeIs (by decide) ?_)
  refine wpAny_bind (wpAny_callSpecial?_slot (name := Str.ofString "__getitem__") ht.typeIs PyProof.Rows.slot_tuple_getitem
    (wpAny_call_entry PyProof.Rows.slot_tuple_getitem ht.typeIs entry_tuple_getitem ?_ (args_tuple_getitem _ _)))
  show wpAny _ _ (Builtin.Tuple.tupleItemsOf (.ref t) >>= _) _ _ s
  refine wpAny_bind (tupleItemsOf_ ht ?_)
  refine wpAny_bind (wpAny_typeOf hTs ?_)
  rw [if_pos (by decide)]
  refine wpAny_bind (sliceApplied_gen hs pl pu ?_)
  have hno : ¬ ((((sIx items.size 0 lo : Nat) : Int) == 0 && (1 : Int) == 1 && (sIx items.size items.size hi - sIx items.size 0 lo) == items.size) = true) := by
    intro q
    rw [Bool.and_eq_true, Bool.and_eq_true] at q
    have q1 : ((sIx items.size 0 lo : Nat) : Int) = 0 := eq_of_beq q.1.1
    have q2 : sIx items.size items.size hi - sIx items.size 0 lo = items.size := eq_of_beq q.2
    exact hw ⟨by omega, by omega⟩
  show wpAny _ _ (if (((sIx items.size 0 lo : Nat) : Int) == 0 && (1 : Int) == 1 && (sIx items.size items.size hi - sIx items.size 0 lo) == items.size) = true then _ else _) _ _ s
  rw [if_neg hno, pick_gen]
  first
    | exact wpAny_bind (m := Builtin.Tuple.tupleExact _) (wpAny_newObj_type (wpAny_pure ⟨_, rfl, wpAny_pure h⟩) htake)
    | exact wpAny_bind (m := Builtin.Tuple.tupleExact _) (wpAny_newObj_type (wpAny_bind (wpAny_pure (wpAny_pure ⟨_, rfl, wpAny_pure h⟩))) htake)
    | exact wpAny_bind (wpAny_bind (m := Builtin.Tuple.tupleExact _) (wpAny_newObj_type (wpAny_pure (wpAny_pure ⟨_, rfl, wpAny_pure h⟩)) htake))
    | exact wpAny_bind (wpAny_bind (m := Builtin.Tuple.tupleExact _) (wpAny_newObj_type (wpAny_pure ⟨_, rfl, wpAny_pure h⟩) htake))
end
end HT

namespace L2
open PySem PySem.Spec PyProof.Rows

/-! ### the parts of a slice -/
abbrev TO := St → Hp → (Option Int → Hp → Prop) → Prop
/-- a slice's part (left out, or an int) -/
def PO (X : Cx) (e : Option Expr) (t : TO) : Prop :=
  ∀ (pins : List (Addr × Obj)) (s : Shared) (σ : St) (H : Hp) (Q : Option Int → Hp → Prop), Inv X pins σ H s → t σ H Q →
    wpAny (model X.prog X.w) X.A (evalPart e X.env) (fun u s' => ∃ o H', Inv X pins σ H' s' ∧ IsPart u o ∧ Q o H') X.xe s
def tNoPart : TO := fun _ H Q => Q none H
def tPart (t : TE) : TO := fun σ H Q => t σ H fun x H1 => ∃ i, x = .int i ∧ Q (some i) H1

theorem intsAre_of {ns : List Int} : ∀ {us : List Value}, Vals (ns.map V.int) us → IntsAre us ns := by
  induction ns with
  | nil => intro us r; rw [List.map_nil] at r; cases r; exact .nil
  | cons n ns ih =>
    intro us r
    rw [List.map_cons] at r
    cases r with
    | cons r1 r2 =>
      obtain ⟨t, e⟩ := r1
      subst e
      exact .cons n t (ih r2)

section
variable {X : Cx} {e : Expr} {te : TE} {lo hi : Option Expr} {tl th : TO} {pos p2 : Pos}

theorem po_none : PO X none tNoPart := by
  intro pins s σ H Q I h
  rw [evalPart_none]
  exact wpAny_pure ⟨none, H, I, .none, h⟩
theorem po_some (h : PE X e te) : PO X (some e) (tPart te) := by
  intro pins s σ H Q I hw
  rw [evalPart_some]
  refine thn (h pins s σ H _ I hw) fun u s1 ⟨x, H1, I1, r1, q1⟩ => ?_
  obtain ⟨i, rfl, q⟩ := q1
  obtain ⟨t, rfl⟩ := r1
  exact ⟨some i, H1, I1, .int i t, q⟩

/-- what a slice of a value is, by values: the slice object stands at sl -/
def SlR (X : Cx) (r : V → Option Int → Option Int → Hp → VK → Prop) : Prop :=
  ∀ (pins : List (Addr × Obj)) (s : Shared) (σ : St) (H : Hp) (x : V) (v vl vu : Value) (lo hi : Option Int) (sl : Addr) (Q : VK), Inv X pins σ H s → RelV x v → s.heap.IsSliceOf sl vl vu .none → IsPart vl lo → IsPart vu hi → r x lo hi H Q →
    ∃ T id, typeLookup (.type T) "__getitem__" = pure (some (.builtin id)) ∧ s.TypeIs v T ∧ wpAny (model X.prog X.w) X.A (getItem v (.ref sl)) (EP X pins σ Q) X.xe s
theorem SlR.or {r r' : V → Option Int → Option Int → Hp → VK → Prop} (h : SlR X r) (h' : SlR X r') : SlR X (fun x lo hi H Q => r x lo hi H Q ∨ r' x lo hi H Q) := by
  intro pins s σ H x v vl vu lo hi sl Q I rx hs pl pu q
  rcases q with q | q
  · exact h pins s σ H x v vl vu lo hi sl Q I rx hs pl pu q
  · exact h' pins s σ H x v vl vu lo hi sl Q I rx hs pl pu q
def tSl (r : V → Option Int → Option Int → Hp → VK → Prop) (te : TE) (tl th : TO) : TE := fun σ H Q => te σ H fun x H1 => tl σ H1 fun l H2 => th σ H2 fun u H3 => r x l u H3 Q
/-- a[lo:hi], any a -/
theorem pe_slice {r : V → Option Int → Option Int → Hp → VK → Prop} (hr : SlR X r) (he : PE X e te) (hl : PO X lo tl) (hu : PO X hi th) : PE X (.Subscript e (.Slice lo hi none p2) pos) (tSl r te tl th) := by
  intro pins s σ H Q I h
  refine Subscript_ (thn (he pins s σ H _ I h) fun v s1 ⟨x, H1, I1, r1, q1⟩ => ?_)
  refine wpAny_Slice (thn (hl pins s1 σ H1 _ I1 q1) fun vl s2 ⟨l, H2, I2, pl, q2⟩ => thn (hu pins s2 σ H2 _ I2 q2) fun vu s3 ⟨u, H3, I3, pu, q3⟩ => ?_)
  rw [evalPart_none]
  refine wpAny_pure ?_
  have I4 : Inv X pins σ H3 { s3 with heap := s3.heap.push { cls := .type "slice", data := .fields #[vl, vu, .none] } } := I3.kept (t' := s3.toks) fun b ob q => Heap.get?_push_of_some _ q
  obtain ⟨T, id, hT, ht, hg⟩ := hr pins { s3 with heap := s3.heap.push { cls := .type "slice", data := .fields #[vl, vu, .none] } } σ H3 x v vl vu l u s3.heap.objs.size Q I4 r1 (Heap.IsSliceOf.new ..) pl pu q3
  show wpAny (model X.prog X.w) X.A (subscriptTail e (.Slice lo hi none p2) v (.ref s3.heap.objs.size)) (EP X pins σ Q) X.xe { s3 with heap := s3.heap.push { cls := .type "slice", data := .fields #[vl, vu, .none] } }
  exact tail_any (ops := [.ref s3.heap.objs.size, v]) ht hT hg (by with_unfolding_all rfl)

/-- the items of xs[lo:hi] -/
def cutV (xs : List V) (lo hi : Option Int) : List V := (xs.drop (HT.sIx xs.length 0 lo)).take (HT.sIx xs.length xs.length hi - HT.sIx xs.length 0 lo)
theorem cutV_length (xs : List V) (lo hi : Option Int) : (cutV xs lo hi).length ≤ xs.length := by
  unfold cutV
  rw [List.length_take, List.length_drop]
  omega
/-- t[lo:hi], not the whole of it (the whole would be t itself) -/
def rSlT (K : PySem.W.Frag) : V → Option Int → Option Int → Hp → VK → Prop := fun x lo hi H Q => ∃ a xs, x = .ref a ∧ SqT K H a xs ∧
  ¬ (HT.sIx xs.length 0 lo = 0 ∧ HT.sIx xs.length xs.length hi = xs.length) ∧ ∀ p, H p = none → Q (.ref p) (upd H p (.tup (cutV xs lo hi)))
theorem sl_tup : SlR X (rSlT X.K) := by
  intro pins s σ H x v vl vu lo hi sl Q I rx hs pl pu h
  obtain ⟨a, xs, rfl, hx, hw, q⟩ := h
  cases rx
  obtain ⟨its, r, ht, hz⟩ := I.tuple hx
  have hlen : its.toArray.size = xs.length := by rw [List.size_toArray]; exact r.length.symm
  refine ⟨"tuple", _, PyProof.Rows.slot_tuple_getitem.lookup, ht.typeIs, ?_⟩
  refine HT.getItem_tuple_cut ht hs pl pu (by rw [hlen]; exact hw) ?_ (by rw [hlen]; exact hz)
  rw [hlen]
  refine ⟨.ref s.heap.objs.size, _, I.laid (t' := s.toks) (o := .tup (cutV xs lo hi)) (fun b ob q => Heap.get?_push_of_some _ q) (Nat.le_refl _) ?_, rfl, q _ (I.hok.fresh (Nat.le_refl _))⟩
  exact ⟨Nat.le_trans (cutV_length xs lo hi) hz, _, (r.drop (HT.sIx xs.length 0 lo)).take (HT.sIx xs.length xs.length hi - HT.sIx xs.length 0 lo), IsTup.new _ _⟩

/-! ### t < u, t + u -/
def rLtT (K : PySem.W.Frag) : R2 := fun x y H Q => ∃ a b ns ms, x = .ref a ∧ y = .ref b ∧ SqT K H a (ns.map V.int) ∧ SqT K H b (ms.map V.int) ∧ Q (.bl (HT.lexLt ns ms)) H
theorem op_ltT (hu : X.A.units < cLine) : OpR X (compareOp .Lt) (rLtT X.K) := by
  intro pins s σ H x y v u Q I rx ry h
  obtain ⟨a, b, ns, ms, rfl, rfl, ha, hb, q⟩ := h
  cases rx
  cases ry
  obtain ⟨its, r1, p1, _⟩ := I.tuple ha
  obtain ⟨its2, r2, p2, _⟩ := I.tuple hb
  have i1 : IntsAre its.toArray.toList ns := intsAre_of r1
  have i2 : IntsAre its2.toArray.toList ms := intsAre_of r2
  exact HT.lt_tupInts p1 p2 i1 i2 hu ⟨.bl (HT.lexLt ns ms), H, I, rfl, q⟩
/-- t + u, t not empty: u empty gives t itself -/
def rCatT (K : PySem.W.Frag) : R2 := fun x y H Q => ∃ a b xs ys, x = .ref a ∧ y = .ref b ∧ SqT K H a xs ∧ SqT K H b ys ∧ xs ≠ [] ∧ xs.length + ys.length ≤ sizeLine ∧
  (ys = [] → Q (.ref a) H) ∧ (ys ≠ [] → ∀ p, H p = none → Q (.ref p) (upd H p (.tup (xs ++ ys))))
theorem Vals.nil_iff {xs : List V} {us : List Value} (r : Vals xs us) : us = [] ↔ xs = [] := by
  cases r with
  | nil => simp
  | cons _ _ => simp
theorem op_catT : OpR X (binaryOp .Add) (rCatT X.K) := by
  intro pins s σ H x y v u Q I rx ry h
  obtain ⟨a, b, xs, ys, rfl, rfl, ha, hb, hx, hz, q1, q2⟩ := h
  cases rx
  cases ry
  obtain ⟨its, r1, p1, _⟩ := I.tuple ha
  obtain ⟨its2, r2, p2, _⟩ := I.tuple hb
  refine HT.cat_tup p1 p2 (fun z => hx (r1.nil_iff.mp z)) (fun z => ⟨.ref a, H, I, rfl, q1 (r2.nil_iff.mp z)⟩) (fun z => ?_) (by rw [← r1.length, ← r2.length]; exact hz)
  refine ⟨.ref s.heap.objs.size, _, I.laid (t' := s.toks) (o := .tup (xs ++ ys)) (fun b ob q => Heap.get?_push_of_some _ q) (Nat.le_refl _) ?_, rfl, q2 (fun w => z (r2.nil_iff.mpr w)) _ (I.hok.fresh (Nat.le_refl _))⟩
  exact ⟨by rw [List.length_append]; exact hz, _, r1.append r2, IsTup.new _ _⟩
/-- tuple(t) -/
theorem call_tupleT : CallR X (.type "tuple") (fun xs H Q => ∃ a ys, xs = [.ref a] ∧ SqT X.K H a ys ∧ Q (.ref a) H) := by
  intro pins s σ H xs us Q I r h
  obtain ⟨a, ys, rfl, ha, q⟩ := h
  obtain ⟨u, rfl, ru⟩ := vals1 r
  cases ru
  obtain ⟨its, _, p1, _⟩ := I.tuple ha
  exact call_tuple_same (items := its.toArray) p1 ⟨.ref a, H, I, rfl, q⟩
end
end L2

namespace L2
open PySem PySem.Spec PyProof.Rows

/-! ### places -/
/-- the place that an index of any sign means -/
def ixN (n : Nat) (i : Int) : Option Nat := if 0 ≤ i then (if i < n then some i.toNat else none) else if -(n : Int) ≤ i then some (i + n).toNat else none
def atI {α : Type} (xs : List α) (i : Int) : Option α := (ixN xs.length i).bind fun j => xs[j]?
theorem ixN_seq {n : Nat} {i : Int} {j : Nat} (h : ixN n i = some j) : seqIndex? i n = some j ∧ j < n ∧ -(n : Int) ≤ i ∧ i < n := by
  unfold ixN at h
  by_cases h0 : 0 ≤ i
  · rw [if_pos h0] at h
    by_cases h1 : i < n
    · rw [if_pos h1] at h
      have e : i.toNat = j := Option.some.inj h
      exact ⟨by rw [seqIndex_of h0 h1, e], by omega, by omega, h1⟩
    · rw [if_neg h1] at h; cases h
  · rw [if_neg h0] at h
    by_cases h1 : -(n : Int) ≤ i
    · rw [if_pos h1] at h
      have e : (i + n).toNat = j := Option.some.inj h
      exact ⟨by rw [seqIndex_neg (by omega) h1, e], by omega, h1, by omega⟩
    · rw [if_neg h1] at h; cases h
theorem atI_get {α : Type} {xs : List α} {i : Int} {v : α} (h : atI xs i = some v) : ∃ j, seqIndex? i xs.length = some j ∧ xs[j]? = some v ∧ j < xs.length ∧ -(xs.length : Int) ≤ i ∧ i < xs.length := by
  unfold atI at h
  cases e : ixN xs.length i with
  | none => rw [e] at h; cases h
  | some j =>
    rw [e] at h
    obtain ⟨h1, h2, h3, h4⟩ := ixN_seq e
    exact ⟨j, h1, h, h2, h3, h4⟩
theorem atI_nat {α : Type} {xs : List α} {j : Nat} {v : α} (h : xs[j]? = some v) : atI xs (j : Int) = some v := by
  have hj : j < xs.length := (List.getElem?_eq_some_iff.mp h).1
  have e : ixN xs.length (j : Int) = some j := by
    unfold ixN
    rw [if_pos (by omega), if_pos (by omega)]; simp
  unfold atI; rw [e]; exact h
theorem atI_last {α : Type} (xs : List α) (v : α) : atI (xs ++ [v]) (-1) = some v := by
  have hl : (xs ++ [v]).length = xs.length + 1 := by simp
  have e : ixN (xs ++ [v]).length (-1) = some xs.length := by
    unfold ixN
    rw [hl, if_neg (by decide), if_pos (by omega)]
    congr 1
    omega
  unfold atI
  rw [e]
  show (xs ++ [v])[xs.length]? = some v
  simp

/-! ### what may be subscripted -/
/-- what stands as an index of a plain subscript -/
def PlainIx (b : Expr) : Prop := ∀ o i, subscripted b false o i = operate [o, i] (getItem o i)
/-- a subscript by values -/
def IxR (X : Cx) (r : R2) : Prop :=
  ∀ (value slice : Expr) (pins : List (Addr × Obj)) (s : Shared) (σ : St) (H : Hp) (x y : V) (v u : Value) (Q : VK), Inv X pins σ H s → RelV x v → RelV y u → r x y H Q →
    subscripted slice false v u = operate [v, u] (getItem v u) → wpAny (model X.prog X.w) X.A (subscriptTail value slice v u) (EP X pins σ Q) X.xe s
/-- a call of a builtin's method by values: the receiver, the arguments -/
def MtR (X : Cx) (id : String) (r : V → List V → Hp → VK → Prop) : Prop :=
  ∀ (pins : List (Addr × Obj)) (s : Shared) (σ : St) (H : Hp) (x : V) (xs : List V) (v : Value) (us : List Value) (Q : VK), Inv X pins σ H s → RelV x v → Vals xs us → r x xs H Q →
    wpAny (model X.prog X.w) X.A (call (.builtin id) (v :: us)) (EP X pins σ Q) X.xe s
section
variable {X : Cx} {a b : Expr} {ta tb : TE} {pos : Pos}
theorem IxR.or {r r' : R2} (h : IxR X r) (h' : IxR X r') : IxR X (fun x y H Q => r x y H Q ∨ r' x y H Q) := by
  intro value slice pins s σ H x y v u Q I rx ry q hs
  rcases q with q | q
  · exact h value slice pins s σ H x y v u Q I rx ry q hs
  · exact h' value slice pins s σ H x y v u Q I rx ry q hs
theorem MtR.or {id : String} {r r' : V → List V → Hp → VK → Prop} (h : MtR X id r) (h' : MtR X id r') : MtR X id (fun x xs H Q => r x xs H Q ∨ r' x xs H Q) := by
  intro pins s σ H x xs v us Q I rx rs q
  rcases q with q | q
  · exact h pins s σ H x xs v us Q I rx rs q
  · exact h' pins s σ H x xs v us Q I rx rs q
/-- a[b] -/
theorem pe_ix {r : R2} (hr : IxR X r) (ha : PE X a ta) (hb : PE X b tb) (hs : PlainIx b) : PE X (.Subscript a b pos) (tOp r ta tb) := by
  intro pins s σ H Q I h
  exact Subscript_ (binT ha hb I h fun v u s2 x y H2 I2 rx ry q => hr a b pins s2 σ H2 x y v u Q I2 rx ry q (hs _ _))

def rIxL (K : PySem.W.Frag) : R2 := fun x y H Q => ∃ p xs i v, x = .ref p ∧ y = .int i ∧ SqL K H p xs ∧ atI xs i = some v ∧ Q v H
def rIxT (K : PySem.W.Frag) : R2 := fun x y H Q => ∃ p xs i v, x = .ref p ∧ y = .int i ∧ SqT K H p xs ∧ atI xs i = some v ∧ Q v H
def rIxS : R2 := fun x y H Q => ∃ z i c, x = .str z ∧ y = .int i ∧ z.length ≤ sizeLine ∧ atI z.cps.toList i = some c ∧ Q (.str ⟨#[c]⟩) H
theorem ix_list : IxR X (rIxL X.K) := by
  intro value slice pins s σ H x y v u Q I rx ry h hs
  obtain ⟨p, xs, i, z, rfl, rfl, hq, he, q⟩ := h
  cases rx
  obtain ⟨t, rfl⟩ := ry
  obtain ⟨its, r, pl, hz⟩ := I.list hq
  obtain ⟨j, h1, h2, h3, h4, h5⟩ := atI_get he
  obtain ⟨w, ew, rw'⟩ := r.get h2
  have hl := r.length
  have hn := line63
  have fin : EP X pins σ Q w s := ⟨z, H, I, rw', q⟩
  by_cases h0 : 0 ≤ i
  · have hj : i.toNat = j := by
      rw [seqIndex_of h0 h5] at h1
      exact Option.some.inj h1
    exact item_listR pl.isList h0 (by omega) (by rw [hj]; simpa using ew) fin hs
  · have hj : (i + (its.toArray.size : Int)).toNat = j := by
      rw [seqIndex_neg (by omega) h4] at h1
      rw [List.size_toArray, ← hl]
      exact Option.some.inj h1
    exact subscriptTail_builtinR (x := w) pl.isList.typeIs slot_list_getitem.lookup
      (wpAny_getItem_list_neg (Q := fun r s' => r = w ∧ EP X pins σ Q r s') pl.isList (by omega) (by rw [List.size_toArray] <;> omega) (by omega) (by rw [hj]; simpa using ew) ⟨rfl, fin⟩) hs
theorem ix_tup : IxR X (rIxT X.K) := by
  intro value slice pins s σ H x y v u Q I rx ry h hs
  obtain ⟨p, xs, i, z, rfl, rfl, hq, he, q⟩ := h
  cases rx
  obtain ⟨t, rfl⟩ := ry
  obtain ⟨its, r, pl, hz⟩ := I.tuple hq
  obtain ⟨j, h1, h2, h3, h4, h5⟩ := atI_get he
  obtain ⟨w, ew, rw'⟩ := r.get h2
  have hl := r.length
  have hn := line63
  have fin : EP X pins σ Q w s := ⟨z, H, I, rw', q⟩
  exact subscriptTail_builtinR (x := w) pl.typeIs slot_tuple_getitem.lookup
    (getItem_tuple (j := j) (Q := fun r s' => r = w ∧ EP X pins σ Q r s') pl (by omega) (by omega) (by rw [List.size_toArray, ← hl]; exact h1) (by simpa using ew) ⟨rfl, fin⟩) hs
theorem ix_str : IxR X rIxS := by
  intro value slice pins s σ H x y v u Q I rx ry h hs
  obtain ⟨z, i, c, rfl, rfl, hz, he, q⟩ := h
  obtain ⟨t, rfl⟩ := rx
  obtain ⟨t', rfl⟩ := ry
  obtain ⟨j, h1, h2, h3, h4, h5⟩ := atI_get he
  have hl : z.cps.toList.length = z.length := by simp [Str.length]
  rw [hl] at h1 h4 h5
  have hn := line63
  exact tail_any (typeIs_str s z t) slot_str_getitem.lookup (getItem_str (c := c) (by
    have e1 : decide (i < -(2 ^ 63 : Int)) = false := decide_eq_false (by omega)
    have e2 : decide (i ≥ 2 ^ 63) = false := decide_eq_false (by omega)
    rw [e1, e2, Bool.or_false]) (by rw [h1]; simpa using h2) ⟨.str ⟨#[c]⟩, H, I.tok _, ⟨_, rfl⟩, q⟩) hs
/-- list, tuple or str -/
def rIx (K : PySem.W.Frag) : R2 := fun x y H Q => rIxL K x y H Q ∨ rIxT K x y H Q ∨ rIxS x y H Q
theorem ix_seq : IxR X (rIx X.K) := ix_list.or (ix_tup.or ix_str)

/-! ### xs[i] = v, any sign -/
/-- the list's object behind a store -/
theorem mapSeq_set (its : List Value) (n j : Nat) (u : Value) : Obj.mapSeq (·.setIfInBounds j u) { cls := .type "list", data := .seq its.toArray n } = { cls := .type "list", data := .seq (its.set j u).toArray n } := by
  simp [Obj.mapSeq]
theorem Inv.lst {pins : List (Addr × Obj)} {σ : St} {H : Hp} {s : Shared} {p : Addr} {xs : List V} (I : Inv X pins σ H s) (h : H p = some (.lst xs)) :
    ∃ (its : List Value) (n : Nat), Vals xs its ∧ s.heap.get? p = some { cls := .type "list", data := .seq its.toArray n } ∧ xs.length ≤ sizeLine := by
  obtain ⟨z, its, n, r, e⟩ := I.hok p _ h
  exact ⟨its, n, r, e, z⟩
/-- the list at p is written by an update of its object -/
theorem Inv.lstUpd {pins : List (Addr × Obj)} {σ : St} {H : Hp} {s : Shared} {p : Addr} {xs ys : List V} {its its' : List Value} {n n' : Nat} {f : Obj → Obj} (I : Inv X pins σ H s) (h : H p = some (.lst xs))
    (ho : s.heap.get? p = some { cls := .type "list", data := .seq its.toArray n }) (hf : f { cls := .type "list", data := .seq its.toArray n } = { cls := .type "list", data := .seq its'.toArray n' }) (r : Vals ys its') (hz : ys.length ≤ sizeLine) (t : Nat) :
    Inv X pins σ (upd H p (.lst ys)) { s with heap := s.heap.update p f, toks := t } := by
  have e : (s.heap.update p f).get? p = some { cls := .type "list", data := .seq its'.toArray n' } := by
    rw [Heap.get?_update_self f ho (by rw [hf] <;> rfl), hf]
  refine I.write (x := p) (e := p) (by rw [h]; trivial) (.inl rfl) (fun b u hb q => (Heap.get?_update_other _ _ (Ne.symm hb)).trans q) ⟨_, e⟩ ?_
  exact ⟨hz, its', n', r, e⟩
def rSetL : V → V → V → Hp → (Hp → Prop) → Prop := fun o i v H Q => ∃ p xs k j, o = .ref p ∧ i = .int k ∧ H p = some (.lst xs) ∧ ixN xs.length k = some j ∧ Q (upd H p (.lst (xs.set j v)))
theorem set_list : PSet X rSetL := by
  intro pins s σ H o i v ov iv u Q I ro ri rv h
  obtain ⟨p, xs, k, j, rfl, rfl, hp, hj, q⟩ := h
  cases ro
  obtain ⟨t, rfl⟩ := ri
  obtain ⟨its, n, r, ho, hz⟩ := I.lst hp
  obtain ⟨h1, h2, h3, h4⟩ := ixN_seq hj
  have hl := r.length
  have hn := line63
  have I' : Inv X pins σ (upd H p (.lst (xs.set j v))) { s with heap := s.heap.update p (Obj.mapSeq (·.setIfInBounds j u)) } :=
    I.lstUpd hp ho (mapSeq_set its n j u) (r.set rv j) (by rw [List.length_set]; exact hz) s.toks
  by_cases h0 : 0 ≤ k
  · have hk : k.toNat = j := by
      rw [seqIndex_of h0 h4] at h1
      exact Option.some.inj h1
    exact PySem.W.ki_setAt ho h0 (by omega) (by rw [List.size_toArray, ← hl]; exact h4) (by rw [hk]; exact ⟨_, I', q⟩)
  · have hk : (k + (its.toArray.size : Int)).toNat = j := by
      rw [seqIndex_neg (by omega) h3] at h1
      rw [List.size_toArray, ← hl]
      exact Option.some.inj h1
    exact PySem.W.ki_setBack ho (by omega) (by rw [List.size_toArray, ← hl]; exact h3) (by omega) (by rw [hk]; exact ⟨_, I', q⟩)

/-! ### slices -/
theorem slice_bounds (lo hi : Option Int) (n : Nat) : (sliceBounds lo hi none n).1 = ((HT.sIx n 0 lo : Nat) : Int) ∧ (sliceBounds lo hi none n).2.1 = ((HT.sIx n n hi : Nat) : Int) ∧ (sliceBounds lo hi none n).2.2 = 1 := by
  refine ⟨?_, ?_, rfl⟩
  · cases lo with
    | none => simp [sliceBounds, HT.sIx]
    | some i =>
      simp only [sliceBounds, HT.sIx, Option.getD_none, show (1 : Int) > 0 by decide, if_true]
      by_cases h : i < 0
      · simp only [h, if_true] <;> omega
      · simp only [h, if_false] <;> omega
  · cases hi with
    | none => simp [sliceBounds, HT.sIx]
    | some i =>
      simp only [sliceBounds, HT.sIx, Option.getD_none, show (1 : Int) > 0 by decide, if_true]
      by_cases h : i < 0
      · simp only [h, if_true] <;> omega
      · simp only [h, if_false] <;> omega
theorem slicePick_cut (its : List Value) (lo hi : Option Int) : slicePick its.toArray lo hi none = ((its.drop (HT.sIx its.length 0 lo)).take (HT.sIx its.length its.length hi - HT.sIx its.length 0 lo)).toArray := by
  obtain ⟨h1, h2, h3⟩ := slice_bounds lo hi its.toArray.size
  unfold slicePick
  rw [h1, h2, h3]
  simp only [sliceRange_one, pick_run, List.size_toArray] <;> rfl
/-- xs[lo:hi] of a list: a new list -/
def rSlL (K : PySem.W.Frag) : V → Option Int → Option Int → Hp → VK → Prop := fun x lo hi H Q => ∃ a xs, x = .ref a ∧ SqL K H a xs ∧ ∀ p, H p = none → Q (.ref p) (upd H p (.lst (cutV xs lo hi)))
theorem sl_list : SlR X (rSlL X.K) := by
  intro pins s σ H x v vl vu lo hi sl Q I rx hs pl pu h
  obtain ⟨a, xs, rfl, hx, q⟩ := h
  cases rx
  obtain ⟨its, r, ht, hz⟩ := I.list hx
  have hlen := r.length
  refine ⟨"list", _, slot_list_getitem.lookup, ht.isList.typeIs, ?_⟩
  refine wpAny_getItem_list_slice ht.isList hs pl pu .none (by simp) ?_ (by rw [List.size_toArray] <;> omega)
  rw [slicePick_cut, ← hlen]
  refine ⟨.ref s.heap.objs.size, _, I.laid (t' := s.toks) (o := .lst (cutV xs lo hi)) (fun b ob q => Heap.get?_push_of_some _ q) (Nat.le_refl _) ?_, rfl, q _ (I.hok.fresh (Nat.le_refl _))⟩
  exact ⟨Nat.le_trans (cutV_length xs lo hi) hz, _, 0, (r.drop (HT.sIx xs.length 0 lo)).take (HT.sIx xs.length xs.length hi - HT.sIx xs.length 0 lo), Heap.get?_push_size _ rfl⟩

/-! ### in, not in: flat items -/
def flatV : V → Bool
  | .non => true
  | .bl _ => true
  | .int _ => true
  | .str _ => true
  | _ => false
/-- == of flat values -/
def eqV : V → V → Bool
  | .non, .non => true
  | .bl a, .bl b => a == b
  | .bl a, .int b => (if a then 1 else 0) == b
  | .int a, .bl b => a == (if b then 1 else 0)
  | .int a, .int b => a == b
  | .str a, .str b => a == b
  | _, _ => false
theorem eqAt_V {A : Around} {s : Shared} {y x : V} {u v : Value} (ry : RelV y u) (rx : RelV x v) (fy : flatV y = true) (fx : flatV x = true) : SeqAt.EqAt A s u v (eqV y x) := by
  cases y with
  | non =>
    cases ry
    cases x with
    | non => cases rx; exact SeqAt.EqAt.same _
    | bl b => cases rx; exact SeqAt.EqAt.none_bool b
    | int b => obtain ⟨t, rfl⟩ := rx; exact SeqAt.EqAt.none_int b t
    | str b => obtain ⟨t, rfl⟩ := rx; exact SeqAt.EqAt.none_str b t
    | _ => exact absurd (show false = true from fx) Bool.false_ne_true
  | bl a =>
    cases ry
    cases x with
    | non => cases rx; exact SeqAt.EqAt.bool_none a
    | bl b => cases rx; exact SeqAt.EqAt.bool_bool a b
    | int b => obtain ⟨t, rfl⟩ := rx; exact SeqAt.EqAt.bool_int a b t
    | str b => obtain ⟨t, rfl⟩ := rx; exact SeqAt.EqAt.bool_str a b t
    | _ => exact absurd (show false = true from fx) Bool.false_ne_true
  | int a =>
    obtain ⟨t', rfl⟩ := ry
    cases x with
    | non => cases rx; exact SeqAt.EqAt.int_none a t'
    | bl b => cases rx; exact SeqAt.EqAt.int_bool a t' b
    | int b => obtain ⟨t, rfl⟩ := rx; exact SeqAt.EqAt.int_int a t' b t
    | str b => obtain ⟨t, rfl⟩ := rx; exact SeqAt.EqAt.int_str a t' b t
    | _ => exact absurd (show false = true from fx) Bool.false_ne_true
  | str a =>
    obtain ⟨t', rfl⟩ := ry
    cases x with
    | non => cases rx; exact SeqAt.EqAt.str_none a t'
    | bl b => cases rx; exact SeqAt.EqAt.str_bool a t' b
    | int b => obtain ⟨t, rfl⟩ := rx; exact SeqAt.EqAt.str_int a t' b t
    | str b => obtain ⟨t, rfl⟩ := rx; exact SeqAt.EqAt.str_str a t' b t
    | _ => exact absurd (show false = true from fx) Bool.false_ne_true
  | _ => exact absurd (show false = true from fy) Bool.false_ne_true
/-- the items' answers, read off the values (a value's own answer does not lean on its token) -/
def eqU (x : V) (u : Value) : Bool := match u with
  | .none => eqV .non x
  | .bool b => eqV (.bl b) x
  | .int i _ => eqV (.int i) x
  | .str z _ => eqV (.str z) x
  | _ => false
theorem eqU_of {x y : V} {u : Value} (r : RelV y u) (f : flatV y = true) : eqU x u = eqV y x := by
  cases y with
  | non => cases r; rfl
  | bl b => cases r; rfl
  | int i => obtain ⟨t, rfl⟩ := r; rfl
  | str z => obtain ⟨t, rfl⟩ := r; rfl
  | _ => exact absurd (show false = true from f) Bool.false_ne_true
theorem any_eqU {x : V} : ∀ {xs : List V} {us : List Value}, Vals xs us → xs.all flatV = true → us.any (eqU x) = xs.any fun y => eqV y x
  | _, _, .nil, _ => rfl
  | y :: xs, u :: us, .cons r t, f => by
    rw [List.all_cons, Bool.and_eq_true] at f
    rw [List.any_cons, List.any_cons, eqU_of r f.1, any_eqU t f.2]
theorem mem_eqAt {A : Around} {s : Shared} {x : V} {v : Value} (rx : RelV x v) (fx : flatV x = true) : ∀ {xs : List V} {us : List Value}, Vals xs us → xs.all flatV = true → ∀ u ∈ us, SeqAt.EqAt A s u v (eqU x u)
  | _, _, .nil, _ => fun u hu => by cases hu
  | y :: xs, u :: us, .cons r t, f => fun u' hu => by
    rw [List.all_cons, Bool.and_eq_true] at f
    rcases List.mem_cons.mp hu with rfl | hu
    · rw [eqU_of r f.1]; exact eqAt_V r rx f.1 fx
    · exact mem_eqAt rx fx t f.2 u' hu
def inV (x : V) (xs : List V) : Bool := xs.any fun y => eqV y x
/-- x in a list or tuple of flat items -/
def rIn (K : PySem.W.Frag) (neg : Bool) : R2 := fun x y H Q => ∃ p xs, y = .ref p ∧ (SqL K H p xs ∨ SqT K H p xs) ∧ flatV x = true ∧ xs.all flatV = true ∧ Q (.bl (if neg then !inV x xs else inV x xs)) H
theorem op_in_seq : OpR X (compareOp .In) (rIn X.K false) := by
  intro pins s σ H x y v u Q I rx ry h
  obtain ⟨p, xs, rfl, hq, fx, fs, q⟩ := h
  cases ry
  rcases hq with hq | hq
  · obtain ⟨its, r, pl, hz⟩ := I.list hq
    refine SeqAt.in_listAt (eqU x) pl.isList (fun w hw => mem_eqAt rx fx r fs w (by simpa using hw)) ⟨.bl _, H, I, rfl, ?_⟩
    rw [show its.toArray.any (eqU x) = its.any (eqU x) by simp, any_eqU r fs]
    exact q
  · obtain ⟨its, r, pl, hz⟩ := I.tuple hq
    refine SeqAt.in_tupleAt (eqU x) pl (fun w hw => mem_eqAt rx fx r fs w (by simpa using hw)) ⟨.bl _, H, I, rfl, ?_⟩
    rw [show its.toArray.any (eqU x) = its.any (eqU x) by simp, any_eqU r fs]
    exact q
theorem op_notIn_seq : OpR X (compareOp .NotIn) (rIn X.K true) := by
  intro pins s σ H x y v u Q I rx ry h
  obtain ⟨p, xs, rfl, hq, fx, fs, q⟩ := h
  cases ry
  rcases hq with hq | hq
  · obtain ⟨its, r, pl, hz⟩ := I.list hq
    refine SeqAt.notIn_listAt (eqU x) pl.isList (fun w hw => mem_eqAt rx fx r fs w (by simpa using hw)) ⟨.bl _, H, I, rfl, ?_⟩
    rw [show its.toArray.any (eqU x) = its.any (eqU x) by simp, any_eqU r fs]
    exact q
  · obtain ⟨its, r, pl, hz⟩ := I.tuple hq
    refine SeqAt.notIn_tupleAt (eqU x) pl (fun w hw => mem_eqAt rx fx r fs w (by simpa using hw)) ⟨.bl _, H, I, rfl, ?_⟩
    rw [show its.toArray.any (eqU x) = its.any (eqU x) by simp, any_eqU r fs]
    exact q
theorem op_notIn_str : OpR X (compareOp .NotIn) (fun x y H Q => ∃ i j, x = .str i ∧ y = .str j ∧ Q (.bl (!(!(Builtin.Str.occurrences j i 0 j.length 1).isEmpty))) H) := by
  intro pins s σ H x y v u Q I rx ry h
  obtain ⟨i, j, rfl, rfl, q⟩ := h
  obtain ⟨t, rfl⟩ := rx
  obtain ⟨t', rfl⟩ := ry
  exact notIn_str ⟨.bl _, H, I, rfl, q⟩

/-! ### len, list(x), tuple(x) of any list or tuple that is read -/
theorem call_len_seq : CallR X (.builtin "len") (fun xs H Q => ∃ p ys, xs = [.ref p] ∧ (SqL X.K H p ys ∨ SqT X.K H p ys) ∧ Q (.int ys.length) H) := by
  intro pins s σ H xs us Q I r h
  obtain ⟨p, ys, rfl, hq, q⟩ := h
  obtain ⟨u, rfl, rx⟩ := vals1 r
  cases rx
  have hn := line63
  rcases hq with hq | hq
  · obtain ⟨its, r', pl, hz⟩ := I.list hq
    have hlen := r'.length
    exact Calls.call_len_list pl.isList (by simp only [List.size_toArray] <;> omega) ⟨.int ys.length, H, I.tok _, ⟨s.toks + 1, by rw [List.size_toArray, hlen]⟩, q⟩
  · obtain ⟨its, r', pl, hz⟩ := I.tuple hq
    have hlen := r'.length
    exact len_tuple pl (by simp only [List.size_toArray] <;> omega) ⟨.int ys.length, H, I.tok _, ⟨s.toks + 1, by rw [List.size_toArray, hlen]⟩, q⟩
theorem call_len_str : CallR X (.builtin "len") (fun xs H Q => ∃ z, xs = [.str z] ∧ z.length ≤ sizeLine ∧ Q (.int z.length) H) := by
  intro pins s σ H xs us Q I r h
  obtain ⟨z, rfl, hz, q⟩ := h
  obtain ⟨u, rfl, t, rfl⟩ := vals1 r
  have hn := line63
  exact len_str (by omega) ⟨.int z.length, H, I.tok _, ⟨_, rfl⟩, q⟩
theorem CallR.or {f : Value} {r r' : List V → Hp → VK → Prop} (h : CallR X f r) (h' : CallR X f r') : CallR X f (fun xs H Q => r xs H Q ∨ r' xs H Q) := by
  intro pins s σ H xs us Q I rs q
  rcases q with q | q
  · exact h pins s σ H xs us Q I rs q
  · exact h' pins s σ H xs us Q I rs q
theorem call_list_of : CallR X (.type "list") (fun xs H Q => ∃ p ys, xs = [.ref p] ∧ (SqL X.K H p ys ∨ SqT X.K H p ys) ∧ ∀ l, H l = none → Q (.ref l) (upd H l (.lst ys))) := by
  intro pins s σ H xs us Q I r h
  obtain ⟨p, ys, rfl, hq, q⟩ := h
  obtain ⟨u, rfl, rx⟩ := vals1 r
  cases rx
  have fin : ∀ (its : List Value), Vals ys its → ys.length ≤ sizeLine → ∀ (h' : Heap) (c' : Nat), (∀ b o', s.heap.get? b = some o' → h'.get? b = some o') →
      h'.get? s.heap.objs.size = some { cls := .type "list", dict := none, data := .seq its.toArray c', slots := #[] } → EP X pins σ Q (.ref s.heap.objs.size) { s with heap := h' } := fun its r' hz h' c' kp e =>
    ⟨.ref s.heap.objs.size, _, I.laid (t' := s.toks) kp (Nat.le_refl _) (show ObjOk X.prog X.w _ h' _ (.lst ys) from ⟨hz, its, c', r', e⟩), rfl, q _ (I.hok.fresh (Nat.le_refl _))⟩
  rcases hq with hq | hq
  · obtain ⟨its, r', pl, hz⟩ := I.list hq
    have hlen := r'.length
    obtain ⟨o, ho, hc, n, hd⟩ := pl.isList
    exact call_list_seq p (.inl rfl) ho hc hd (fun h' c' kp e => fin its r' hz h' c' kp e) (by simp only [List.size_toArray] <;> omega)
  · obtain ⟨its, r', pl, hz⟩ := I.tuple hq
    have hlen := r'.length
    obtain ⟨o, ho, hc, n, hd⟩ := pl
    exact call_list_seq p (.inr rfl) ho hc hd (fun h' c' kp e => fin its r' hz h' c' kp e) (by simp only [List.size_toArray] <;> omega)
theorem call_tuple_of : CallR X (.type "tuple") (fun xs H Q => ∃ p ys, xs = [.ref p] ∧ ((SqL X.K H p ys ∧ ∀ l, H l = none → Q (.ref l) (upd H l (.tup ys))) ∨ (SqT X.K H p ys ∧ Q (.ref p) H))) := by
  intro pins s σ H xs us Q I r h
  obtain ⟨p, ys, rfl, h⟩ := h
  obtain ⟨u, rfl, rx⟩ := vals1 r
  cases rx
  rcases h with ⟨hq, q⟩ | ⟨hq, q⟩
  · obtain ⟨its, r', pl, hz⟩ := I.list hq
    have hlen := r'.length
    refine call_tuple_list pl.isList (fun h' kp => ?_) (by simp only [List.size_toArray] <;> omega)
    have I1 : Inv X pins σ H { s with heap := h' } := I.kept (t' := s.toks) kp
    have I2 : Inv X pins σ (upd H h'.objs.size (.tup ys)) { s with heap := h'.push { cls := .type "tuple", data := .seq its.toArray } } :=
      I1.laid (t' := s.toks) (fun b o e => Heap.get?_push_of_some _ e) (Nat.le_refl _) (show ObjOk X.prog X.w _ _ _ (.tup ys) from ⟨hz, its, r', IsTup.new _ _⟩)
    exact ⟨.ref h'.objs.size, _, I2, rfl, q _ (I1.hok.fresh (Nat.le_refl _))⟩
  · obtain ⟨its, r', pl, hz⟩ := I.tuple hq
    exact call_tuple_same pl ⟨.ref p, H, I, rfl, q⟩

/-! ### the call of a builtin's method: o.m(..) -/
/-- the value is of that builtin type -/
def tyV (K : PySem.W.Frag) (T : String) (x : V) (H : Hp) : Prop := match x with
  | .str _ => T = "str"
  | .int _ => T = "int"
  | .ref p => (T = "list" ∧ ∃ xs, SqL K H p xs) ∨ (T = "tuple" ∧ ∃ o, K.lookup p = some o ∧ o.cls = .type "tuple" ∧ o.dict = none) ∨
      (T = "dict" ∧ ((∃ kvs, H p = some (.dK kvs)) ∨ ∃ kvs, H p = some (.dT kvs))) ∨ (T = "set" ∧ ∃ S n, H p = some (.set S n))
  | _ => False
theorem tyV_is {pins : List (Addr × Obj)} {σ : St} {H : Hp} {s : Shared} {T : String} {x : V} {v : Value} (I : Inv X pins σ H s) (r : RelV x v) (ty : tyV X.K T x H) :
    s.TypeIs v T ∧ ∀ a, v = .ref a → ∃ ob, s.heap.get? a = some ob ∧ ob.dict = none := by
  cases x with
  | str z =>
    obtain ⟨t, rfl⟩ := r
    cases (show T = "str" from ty)
    exact ⟨typeIs_str s z t, fun _ e => nomatch e⟩
  | int i =>
    obtain ⟨t, rfl⟩ := r
    cases (show T = "int" from ty)
    exact ⟨typeIs_int s i t, fun _ e => nomatch e⟩
  | ref p =>
    cases r
    rcases ty with ⟨rfl, xs, hq⟩ | ⟨rfl, o, hk, hc, hd⟩ | ⟨rfl, hk⟩ | ⟨rfl, S, n, hk⟩
    · obtain ⟨its, _, pl, _⟩ := I.list hq
      refine ⟨pl.isList.typeIs, fun a e => ?_⟩
      cases e
      obtain ⟨o, n, e, c, hd, _⟩ := pl
      exact ⟨o, e, hd⟩
    · refine ⟨⟨o, I.kIn p o hk, hc⟩, fun a e => ?_⟩
      cases e
      exact ⟨o, I.kIn _ o hk, hd⟩
    · have z : ∃ o, s.heap.get? p = some o ∧ o.ExactDict := by
        rcases hk with ⟨kvs, hk⟩ | ⟨kvs, hk⟩
        · obtain ⟨_, _, _, _, o, _, _, e, ex, _⟩ := I.hok p _ hk
          exact ⟨o, e, ex⟩
        · obtain ⟨_, _, _, _, o, _, _, e, ex, _⟩ := I.hok p _ hk
          exact ⟨o, e, ex⟩
      obtain ⟨o, e, ex⟩ := z
      refine ⟨⟨o, e, ex.1⟩, fun a e2 => ?_⟩
      cases e2
      exact ⟨o, e, ex.2.1⟩
    · obtain ⟨o, _, _, _, e, ex, _⟩ := I.hok p _ hk
      refine ⟨⟨o, e, ex.1⟩, fun a e2 => ?_⟩
      cases e2
      exact ⟨o, e, ex.2.1⟩
  | _ => exact False.elim ty
def tBM0 (K : PySem.W.Frag) (T : String) (r : V → List V → Hp → VK → Prop) (to : TE) : TE := fun σ H Q => to σ H fun x H1 => tyV K T x H1 ∧ r x [] H1 Q
def tBM (K : PySem.W.Frag) (T : String) (r : V → List V → Hp → VK → Prop) (to : TE) (t : TA) : TE := fun σ H Q => to σ H fun x H1 => tyV K T x H1 ∧ t σ H1 fun xs H2 => r x xs H2 Q
variable {o e : Expr} {es : List Expr} {to : TE} {t : TA} {name : Str} {apos cpos : Pos} {T id : String} {r : V → List V → Hp → VK → Prop}
theorem pe_bm0 (pa : PlainAttrs T) (slot : Slot T name id) (hty : typeOf (.builtin id) = pure (.type "method_descriptor")) (hm : MtR X id r) (ho : PE X o to)
    (hbase : attributeBase o name X.env (eval o X.env) = eval o X.env := by rfl) (hline : (apos.endLine == cpos.line) = true := by rfl) : PE X (.Call (.Attribute o name apos) [] [] cpos) (tBM0 X.K T r to) := by
  intro pins s σ H Q I h
  refine wpAny_Call_method0_late hbase hline (thn (ho pins s σ H _ I h) fun v s1 ⟨x, H1, I1, r1, ty, q1⟩ => ?_)
  obtain ⟨h1, h2⟩ := tyV_is I1 r1 ty
  exact ⟨T, id, pa, slot, hty, h1, h2, Calls.callWith_builtin rfl (PySem.evalArgs_none (hm pins s1 σ H1 x [] v [] Q I1 r1 .nil q1))⟩
theorem pe_bm (pa : PlainAttrs T) (slot : Slot T name id) (hty : typeOf (.builtin id) = pure (.type "method_descriptor")) (hm : MtR X id r) (ho : PE X o to) (ha : PA X (e :: es) t)
    (hbase : attributeBase o name X.env (eval o X.env) = eval o X.env := by rfl)
    (hfew : ((backTo cpos (starEach (e :: es) X.env)).all (fun x => !x.1) && (backToKw cpos (keywordEach [] X.env)).all (fun x => x.1.isSome)
      && decide ((e :: es).length + ([] : List Keyword).length + (if ([] : List Keyword).isEmpty then 0 else 1) < 30)) = true := by rfl)
    (hline : (apos.endLine == cpos.line) = true := by rfl) (hs : starEach (e :: es) X.env = (false, eval e X.env) :: starEach es X.env := by rfl) (hplain : (backTo cpos (starEach es X.env)).any (·.1) = false := by rfl) :
    PE X (.Call (.Attribute o name apos) (e :: es) [] cpos) (tBM X.K T r to t) := by
  intro pins s σ H Q I h
  refine wpAny_Call_method_late hbase hfew hline rfl (thn (ho pins s σ H _ I h) fun v s1 ⟨x, H1, I1, r1, ty, q1⟩ => ?_)
  obtain ⟨h1, h2⟩ := tyV_is I1 r1 ty
  refine ⟨T, id, pa, slot, hty, h1, h2, ?_⟩
  have hA := ha cpos pins s1 σ H1 _ I1 q1
  rw [hs] at hA ⊢
  refine Calls.callWith_builtin (by show (false || (backTo cpos (starEach es X.env)).any (·.1)) = false; rw [hplain] <;> rfl) (Calls.evalArgs_plain ?_)
  exact thn hA fun us s2 ⟨vs, H2, I2, r2, q2⟩ => hm pins s2 σ H2 x vs v us Q I2 r1 r2 q2
/- xs.append(e), list.index on a module's tuple .. are MtR facts of 06m -/
end
end L2

namespace L2
open PySem PySem.Spec PyProof.Rows

def MtM (X : Cx) (id : String) (r : V → List V → Hp → VK → Prop) : Prop :=
  ∀ (pins : List (Addr × Obj)) (s : Shared) (σ : St) (H : Hp) (x : V) (xs : List V) (v : Value) (us : List Value) (Q : VK), Inv X pins σ H s → RelV x v → Vals xs us → r x xs H Q →
    wpAny (model X.prog X.w) X.A (call (.builtin id) (v :: us)) (EP X pins σ Q) X.xe s

/-! ### lists of values -/
theorem Vals.one : ∀ {x : V} {us : List Value}, Vals [x] us → ∃ u, us = [u] ∧ RelV x u
  | _, _, .cons r .nil => ⟨_, rfl, r⟩
theorem Vals.two : ∀ {x y : V} {us : List Value}, Vals [x, y] us → ∃ u v, us = [u, v] ∧ RelV x u ∧ RelV y v
  | _, _, _, .cons r (.cons q .nil) => ⟨_, _, rfl, r, q⟩
theorem Vals.zero : ∀ {us : List Value}, Vals [] us → us = []
  | _, .nil => rfl
theorem Vals.dropLast {xs : List V} {us : List Value} (h : Vals xs us) : Vals xs.dropLast us.dropLast := by
  induction h with
  | nil => exact .nil
  | cons r t ih =>
    cases t with
    | nil => exact .nil
    | cons q t' => exact .cons r ih
theorem Vals.eraseIdx : ∀ {xs : List V} {us : List Value} (i : Nat), Vals xs us → Vals (xs.eraseIdx i) (us.eraseIdx i)
  | _, _, _, .nil => .nil
  | _, _, 0, .cons _ t => t
  | _, _, i + 1, .cons r t => .cons r (Vals.eraseIdx i t)
theorem Vals.reverse {xs : List V} {us : List Value} (h : Vals xs us) : Vals xs.reverse us.reverse := by
  induction h with
  | nil => exact .nil
  | cons r t ih => rw [List.reverse_cons, List.reverse_cons]; exact Vals.append ih (.cons r .nil)
theorem Vals.rep {xs : List V} {us : List Value} (h : Vals xs us) : ∀ k : Nat, Vals (List.replicate k xs).flatten (List.replicate k us).flatten
  | 0 => .nil
  | k + 1 => by
    rw [List.replicate_succ, List.replicate_succ, List.flatten_cons, List.flatten_cons]
    exact Vals.append h (Vals.rep h k)
theorem erase_last {α : Type} (l : List α) : l.eraseIdx (l.length - 1) = l.dropLast := by
  induction l with
  | nil => rfl
  | cons a r ih =>
    cases r with
    | nil => rfl
    | cons b r =>
      have e : (a :: b :: r).length - 1 = ((b :: r).length - 1) + 1 := by
        have h1 : (a :: b :: r).length = r.length + 2 := rfl
        have h2 : (b :: r).length = r.length + 1 := rfl
        omega
      rw [e, List.eraseIdx_cons_succ, ih]
      all_goals rfl
theorem len_erase {α : Type} : ∀ (l : List α) (i : Nat), (l.eraseIdx i).length ≤ l.length
  | [], _ => Nat.le_refl _
  | _ :: _, 0 => Nat.le_succ _
  | _ :: r, i + 1 => Nat.succ_le_succ (len_erase r i)
theorem foldl_rep (its : List Value) : ∀ (k : Nat) (acc : List Value),
    List.foldl (fun x1 x2 => x1 ++ x2) acc.toArray (List.replicate k its.toArray) = (acc ++ (List.replicate k its).flatten).toArray
  | 0, acc => by simp
  | k + 1, acc => by
    have e : acc.toArray ++ its.toArray = (acc ++ its).toArray := by simp
    have e2 : (acc ++ its) ++ (List.replicate k its).flatten = acc ++ (List.replicate (k + 1) its).flatten := by
      rw [List.replicate_succ, List.flatten_cons, List.append_assoc]
    rw [← e2, ← foldl_rep its k (acc ++ its), ← e, List.replicate_succ, List.foldl_cons]

section
variable {X : Cx} {pins : List (Addr × Obj)} {σ : St} {H : Hp} {s : Shared} {l b : Addr} {xs ys zs : List V}

/-! ### the two steps: a tracked list is rewritten, a new list is laid -/
theorem Inv.lset {its its' : List Value} {n : Nat} {f : Array Value → Array Value} {t' : Nat} (I : Inv X pins σ H s) (hH : H l = some (.lst xs))
    (e : s.heap.get? l = some { cls := .type "list", data := .seq its.toArray n }) (hf : f its.toArray = its'.toArray) (hv : Vals ys its') (hz : ys.length ≤ sizeLine) :
    Inv X pins σ (upd H l (.lst ys)) { s with heap := s.heap.update l (Obj.mapSeq f), toks := t' } := by
  have q := PySem.IsL.update e f
  rw [hf] at q
  refine I.write (x := l) (e := l) (by rw [hH]; exact trivial) (.inl rfl) (fun b' u hb hu => (Heap.get?_update_other s.heap (Obj.mapSeq f) (Ne.symm hb)).trans hu) ⟨_, q⟩ ?_
  exact ⟨hz, its', _, hv, q⟩
theorem Inv.lnew {its : List Value} {t' : Nat} (I : Inv X pins σ H s) (hv : Vals ys its) (hz : ys.length ≤ sizeLine) :
    Inv X pins σ (upd H s.heap.objs.size (.lst ys)) { s with heap := s.heap.push { cls := .type "list", data := .seq its.toArray }, toks := t' } :=
  I.laid (fun _ _ q => Heap.get?_push_of_some _ q) (Nat.le_refl _) ⟨hz, its, 0, hv, Heap.get?_push_size _ rfl⟩
theorem Inv.fresh (I : Inv X pins σ H s) : H s.heap.objs.size = none := I.hok.fresh (Nat.le_refl _)
theorem Inv.lstM (I : Inv X pins σ H s) (hH : H l = some (.lst xs)) : xs.length ≤ sizeLine ∧ ∃ (its : List Value) (n : Nat), Vals xs its ∧ xs.length = its.length ∧ s.heap.get? l = some { cls := .type "list", data := .seq its.toArray n } := by
  obtain ⟨z, its, n, r, e⟩ := I.hok l _ hH
  exact ⟨z, its, n, r, r.length, e⟩

theorem notLongL {n : Nat} (h : n ≤ sizeLine) : Builtin.List.listTooLong n = false := by
  unfold Builtin.List.listTooLong
  exact decide_eq_false (by omega)
end

section
variable {X : Cx}

/-! ### methods -/
def rAppend : V → List V → Hp → VK → Prop := fun x vs H Q => ∃ l xs y, x = .ref l ∧ vs = [y] ∧ H l = some (.lst xs) ∧ xs.length < sizeLine ∧ Q .non (upd H l (.lst (xs ++ [y])))
theorem mt_append : MtM X "list.append" rAppend := by
  intro pins s σ H x vs v us Q I rx rv h
  obtain ⟨l, xs, y, rfl, rfl, hH, hz, q⟩ := h
  cases rx
  obtain ⟨u, rfl, ru⟩ := rv.one
  obtain ⟨z, its, n, r, hl, e⟩ := I.lstM hH
  refine call_meets F.slot_list_append ⟨_, e, rfl⟩ F.entry_list_append (F.args_list_append_2 _ _) (PySem.list_append l its.toArray n u (by rw [List.size_toArray]; omega)) ⟨e, ?_⟩
  refine ⟨.non, _, I.lset (its' := its ++ [u]) hH e (by simp) (r.append (.cons ru .nil)) ?_, rfl, q⟩
  rw [List.length_append, List.length_singleton]
  omega

def rExtend : V → List V → Hp → VK → Prop := fun x vs H Q => ∃ l b xs zs, x = .ref l ∧ vs = [.ref b] ∧ H l = some (.lst xs) ∧ H b = some (.lst zs) ∧ xs.length + zs.length ≤ sizeLine ∧ Q .non (upd H l (.lst (xs ++ zs)))
theorem mt_extend : MtM X "list.extend" rExtend := by
  intro pins s σ H x vs v us Q I rx rv h
  obtain ⟨l, b, xs, zs, rfl, rfl, hH, hB, hz, q⟩ := h
  cases rx
  obtain ⟨u, rfl, ru⟩ := rv.one
  cases ru
  obtain ⟨z, its, n, r, hl, e⟩ := I.lstM hH
  obtain ⟨z2, its2, n2, r2, hl2, e2⟩ := I.lstM hB
  have hsz : its.toArray.size + its2.toArray.size ≤ sizeLine := by rw [List.size_toArray, List.size_toArray]; omega
  have hlong : ¬ (!its.toArray.isEmpty && Builtin.List.listTooLong (its.toArray.size + its2.toArray.size)) = true := by
    rw [notLongL hsz, Bool.and_false]
    exact Bool.false_ne_true
  refine call_meets F.slot_list_extend ⟨_, e, rfl⟩ F.entry_list_extend (F.args_list_extend_2 _ _)
    (AutoSeq1.list_extend_list_list_0 l its.toArray n b its2.toArray n2 hlong (by rw [List.size_toArray]; omega) (by omega)) ⟨e, e2, ?_⟩
  refine ⟨.non, _, I.lset (its' := its ++ its2) hH e (by simp) (r.append r2) ?_, rfl, q⟩
  rw [List.length_append]
  omega

def rPop : V → List V → Hp → VK → Prop := fun x vs H Q => ∃ l xs y, x = .ref l ∧ vs = [] ∧ H l = some (.lst xs) ∧ xs[xs.length - 1]? = some y ∧ Q y (upd H l (.lst xs.dropLast))
theorem mt_pop : MtM X "list.pop" rPop := by
  intro pins s σ H x vs v us Q I rx rv h
  obtain ⟨l, xs, y, rfl, rfl, hH, hy, q⟩ := h
  cases rx
  have hus := rv.zero
  subst hus
  obtain ⟨z, its, n, r, hl, e⟩ := I.lstM hH
  obtain ⟨u, hu, ru⟩ := r.get hy
  have hy' : its.toArray[its.toArray.size - 1]? = some u := by
    show its.toArray[its.length - 1]? = some u
    rw [← Array.getElem?_toList, ← hl]
    exact hu
  refine call_meets F.slot_list_pop ⟨_, e, rfl⟩ F.entry_list_pop (F.args_list_pop_1 _) (MeetsSeq.list_pop_last l its.toArray n u hy' (by rw [List.size_toArray]; omega)) ⟨e, ?_⟩
  refine ⟨y, _, I.lset (its' := its.dropLast) hH e ?_ r.dropLast ?_, ru, q⟩
  · show its.toArray.eraseIdxIfInBounds (its.toArray.size - 1) = its.dropLast.toArray
    rw [List.size_toArray, List.eraseIdxIfInBounds_toArray, erase_last]
  · rw [List.length_dropLast]
    omega

def rPopAt : V → List V → Hp → VK → Prop := fun x vs H Q => ∃ l xs i k y, x = .ref l ∧ vs = [.int i] ∧ H l = some (.lst xs) ∧ -(2 ^ 63) ≤ i ∧ i < 2 ^ 63 ∧ seqIndex? i xs.length = some k ∧ xs[k]? = some y ∧ Q y (upd H l (.lst (xs.eraseIdx k)))
theorem mt_popAt : MtM X "list.pop" rPopAt := by
  intro pins s σ H x vs v us Q I rx rv h
  obtain ⟨l, xs, i, k, y, rfl, rfl, hH, h1, h2, hk, hy, q⟩ := h
  cases rx
  obtain ⟨u, rfl, ru⟩ := rv.one
  obtain ⟨t, rfl⟩ := ru
  obtain ⟨z, its, n, r, hl, e⟩ := I.lstM hH
  obtain ⟨w, hw, rw'⟩ := r.get hy
  refine call_meets F.slot_list_pop ⟨_, e, rfl⟩ F.entry_list_pop (F.args_list_pop_2 _ _)
    (MeetsSeq.list_pop_at l its.toArray n i t k w (fitsIndex_both h1 h2) (by rw [List.size_toArray, ← hl]; exact hk) (by rw [← Array.getElem?_toList]; exact hw) (by rw [List.size_toArray]; omega)) ⟨e, ?_⟩
  refine ⟨y, _, I.lset (its' := its.eraseIdx k) hH e ?_ (r.eraseIdx k) ?_, rw', q⟩
  · show its.toArray.eraseIdxIfInBounds k = (its.eraseIdx k).toArray
    rw [List.eraseIdxIfInBounds_toArray]
  · have := len_erase xs k
    omega

def rReverse : V → List V → Hp → VK → Prop := fun x vs H Q => ∃ l xs, x = .ref l ∧ vs = [] ∧ H l = some (.lst xs) ∧ Q .non (upd H l (.lst xs.reverse))
theorem mt_reverse : MtM X "list.reverse" rReverse := by
  intro pins s σ H x vs v us Q I rx rv h
  obtain ⟨l, xs, rfl, rfl, hH, q⟩ := h
  cases rx
  have hus := rv.zero
  subst hus
  obtain ⟨z, its, n, r, hl, e⟩ := I.lstM hH
  refine call_meets F.slot_list_reverse ⟨_, e, rfl⟩ F.entry_list_reverse (F.args_list_reverse_1 _) (AutoSeq1.list_reverse_list_0 l its.toArray n (by rw [List.size_toArray]; omega)) ⟨e, ?_⟩
  refine ⟨.non, _, I.lset (its' := its.reverse) hH e (by simp) r.reverse ?_, rfl, q⟩
  rw [List.length_reverse]
  omega

def rClear : V → List V → Hp → VK → Prop := fun x vs H Q => ∃ l xs, x = .ref l ∧ vs = [] ∧ H l = some (.lst xs) ∧ Q .non (upd H l (.lst []))
theorem mt_clear : MtM X "list.clear" rClear := by
  intro pins s σ H x vs v us Q I rx rv h
  obtain ⟨l, xs, rfl, rfl, hH, q⟩ := h
  cases rx
  have hus := rv.zero
  subst hus
  obtain ⟨z, its, n, r, hl, e⟩ := I.lstM hH
  refine call_meets F.slot_list_clear ⟨_, e, rfl⟩ F.entry_list_clear (F.args_list_clear_1 _) (AutoSeq1.list_clear_list_0 l its.toArray n (by rw [List.size_toArray]; omega)) ⟨e, ?_⟩
  exact ⟨.non, _, I.lset (its' := []) (ys := []) hH e rfl .nil (Nat.zero_le _), rfl, q⟩

/-! ### list + list, list += list, list * int -/
def rCat : R2 := fun x y H Q => ∃ l b xs zs, x = .ref l ∧ y = .ref b ∧ H l = some (.lst xs) ∧ H b = some (.lst zs) ∧ xs.length + zs.length ≤ sizeLine ∧ ∀ p, H p = none → Q (.ref p) (upd H p (.lst (xs ++ zs)))
theorem op_cat : OpR X (binaryOp .Add) rCat := by
  intro pins s σ H x y v u Q I rx ry h
  obtain ⟨l, b, xs, zs, rfl, rfl, hH, hB, hz, q⟩ := h
  cases rx
  cases ry
  obtain ⟨z, its, n, r, hl, e⟩ := I.lstM hH
  obtain ⟨z2, its2, n2, r2, hl2, e2⟩ := I.lstM hB
  refine PySem.P.add_list e e2 ?_ (by rw [List.size_toArray, List.size_toArray]; omega)
  have ea : its.toArray ++ its2.toArray = (its ++ its2).toArray := by simp
  rw [ea]
  exact ⟨.ref _, _, I.lnew (t' := s.toks) (r.append r2) (by rw [List.length_append]; omega), rfl, q _ I.fresh⟩
/-- a list times an int (a negative one is nothing) -/
def rRep : R2 := fun x y H Q => ∃ l k xs, x = .ref l ∧ y = .int k ∧ H l = some (.lst xs) ∧ -(2 ^ 63) ≤ k ∧ k < 2 ^ 63 ∧ xs.length * k.toNat ≤ sizeLine ∧
  ∀ p, H p = none → Q (.ref p) (upd H p (.lst (List.replicate k.toNat xs).flatten))
theorem len_rep {α : Type} (xs : List α) (k : Nat) : (List.replicate k xs).flatten.length = k * xs.length := by
  induction k with
  | zero => simp
  | succ k ih => rw [List.replicate_succ, List.flatten_cons, List.length_append, ih, Nat.succ_mul, Nat.add_comm]
theorem op_rep : OpR X (binaryOp .Mult) rRep := by
  intro pins s σ H x y v u Q I rx ry h
  obtain ⟨l, k, xs, rfl, rfl, hH, h1, h2, hz, q⟩ := h
  cases rx
  obtain ⟨t, rfl⟩ := ry
  obtain ⟨z, its, n, r, hl, e⟩ := I.lstM hH
  have hlen : its.toArray.size * k.toNat ≤ sizeLine := by rw [List.size_toArray, ← hl]; exact hz
  have hcap : ¬ its.toArray.size * k.toNat > (2 ^ 63 - 1) / 8 := by
    have : (sizeLine : Nat) ≤ (2 ^ 63 - 1) / 8 := by decide
    omega
  have hfit : ¬ (!Builtin.List.listFitsIndex k) = true := by
    rw [fitsIndex_both h1 h2]
    exact Bool.false_ne_true
  have hlong : ¬ Builtin.List.listTooLong (its.toArray.size * k.toNat) = true := by
    rw [notLongL hlen]
    exact Bool.false_ne_true
  have hnew : List.foldl (fun x1 x2 => x1 ++ x2) #[] (List.replicate (if its.toArray.isEmpty = true then 0 else k.toNat) its.toArray) = (List.replicate k.toNat its).flatten.toArray := by
    have f0 : ∀ m : Nat, List.foldl (fun x1 x2 => x1 ++ x2) #[] (List.replicate m its.toArray) = (List.replicate m its).flatten.toArray := fun m => by
      have := foldl_rep its m []
      rw [List.nil_append] at this
      exact this
    rw [f0]
    cases its with
    | nil => simp
    | cons a r' => rw [if_neg (by simp)]
  refine wpAny_binaryOp_repeat_ref (T := "list") (U := "int") (by decide) ⟨_, e, rfl⟩ (fun s' => typeIs_int s' k t) noFill_list_mul F.fills_int_mul F.slot_int_rmul repeat_list F.slot_int_index.lookup
    (call_meets F.slot_int_rmul (typeIs_int s k t) F.entry_int_rmul (F.args_int_rmul_2 _ _) (int___rmul___int_list k t l its.toArray n)
      ⟨e, rfl, ⟨_, e, rfl⟩, call_meets F.slot_list_mul ⟨_, e, rfl⟩ F.entry_list_mul (F.args_list_mul_2 _ _) (AutoListH.list___mul___list_int_3 l its.toArray n k t hfit hcap hlong) ⟨e, ?_⟩⟩)
  rw [hnew]
  exact ⟨.ref _, _, I.lnew (t' := s.toks) (r.rep k.toNat) (by rw [len_rep, Nat.mul_comm]; exact hz), rfl, q _ I.fresh⟩

/-! ### del xs[i] -/
theorem del_list {pins : List (Addr × Obj)} {s : Shared} {σ : St} {H : Hp} {l : Addr} {xs : List V} {i : Int} {t : Tok} {k : Nat} {Q : Unit → Shared → Prop} (I : Inv X pins σ H s) (hH : H l = some (.lst xs))
    (h1 : -(2 ^ 63) ≤ i) (h2 : i < 2 ^ 63) (hk : seqIndex? i xs.length = some k) (h : ∀ s', Inv X pins σ (upd H l (.lst (xs.eraseIdx k))) s' → Q () s') :
    wpAny (model X.prog X.w) X.A (delItem (.ref l) (.int i t)) Q X.xe s := by
  obtain ⟨z, its, n, r, hl, e⟩ := I.lstM hH
  refine PySem.P.delItem_list (k := k) e (fitsIndex_both h1 h2) (by rw [List.size_toArray, ← hl]; exact hk) (h _ ?_) (by rw [List.size_toArray]; omega)
  refine I.lset (its' := its.eraseIdx k) (t' := s.toks) hH e ?_ (r.eraseIdx k) ?_
  · show its.toArray.eraseIdxIfInBounds k = (its.eraseIdx k).toArray
    rw [List.eraseIdxIfInBounds_toArray]
  · have := len_erase xs k
    omega
end

/-! ### xs[a:b] = ys -/
section
variable {prog : Program} {w : World} {A : Around} {E : Value → Shared → Prop} {s : Shared}
theorem splice_eq (its its2 : List Value) (a c : Nat) : its.toArray.extract 0 a ++ its2.toArray ++ its.toArray.extract c its.toArray.size = (its.take a ++ its2 ++ its.drop c).toArray := by
  apply Array.toList_inj.mp
  first
    | (simp
       exact List.take_of_length_le (by simp))
    | simp [List.take_of_length_le]
    | simp
theorem bounds_run {a c n : Nat} (hac : a ≤ c) (hc : c ≤ n) : sliceBounds (some (a : Int)) (some (c : Int)) none n = ((a : Int), (c : Int), 1) := by
  simp only [sliceBounds, Option.getD_none]
  have h1 : ¬ ((a : Int) < 0) := by omega
  have h2 : ¬ ((c : Int) < 0) := by omega
  simp only [h1, h2, if_false, show (1 : Int) > 0 by decide, if_true]
  congr 1
  · omega
  · congr 1; omega
set_option maxRecDepth 100000 in
/-- list.__setitem__ with a slice of step one and another list -/
theorem setItem_slice {l b sl : Addr} {items new : Array Value} {n n2 : Nat} {vl vu : Value} {a c : Nat} {Q : Unit → Shared → Prop}
    (e : s.heap.get? l = some { cls := .type "list", data := .seq items n }) (e2 : s.heap.get? b = some { cls := .type "list", data := .seq new n2 }) (hne : l ≠ b)
    (hs : s.heap.IsSliceOf sl vl vu .none) (pl : IsPart vl (some (a : Int))) (pu : IsPart vu (some (c : Int))) (hac : a ≤ c) (hc : c ≤ items.size)
    (hsz : items.size + new.size ≤ sizeLine) (h : Q () { s with heap := s.heap.update l (Obj.mapSeq fun xs => xs.extract 0 a ++ new ++ xs.extract c xs.size) }) :
    wpAny (model prog w) A (setItem (.ref l) (.ref sl) (.ref b)) Q E s := by
  have hl : s.heap.IsList l items := PySem.IsL.isList e
  have hb : s.heap.IsList b new := PySem.IsL.isList e2
  obtain ⟨os, hos, hcs, hds⟩ := id hs
  have hTs : s.TypeIs (.ref sl) "slice" := ⟨os, hos, hcs⟩
  have hstep : ¬ ((rawPart none == rawInt 0) = true) := Bool.false_ne_true
  have hsame : Builtin.List.listSameRef (.ref l) (.ref b) = false := by
    unfold Builtin.List.listSameRef
    exact beq_eq_false_iff_ne.mpr hne
  have hmax : (max (a : Int) (c : Int)).toNat = c := by omega
  have hz' : ((fun xs : Array Value => xs.extract 0 a ++ new ++ xs.extract c xs.size) items).size ≤ sizeLine + 1 := by
    simp only [Array.size_append, Array.size_extract]
    omega
  unfold setItem
  try with_reducible refine wpAny_holding ?_
  first | refine wpAny_bind (wpAny_pure ?_) | skip
  refine wpAny_bind (wpAny_sequenceKey hl.typeIs (by decide) ?_)
  refine wpAny_bind (wpAny_callSpecial?_slot (name := Str.ofString "__setitem__") hl.typeIs slot_list_setitem
    (wpAny_call_entry slot_list_setitem hl.typeIs entry_list_setitem ?_ (args_list_setitem _ _ _)))
  show wpAny _ _ (Builtin.List.listSubscript? (.ref sl) >>= _) _ _ s
  refine wpAny_bind ?_
  unfold Builtin.List.listSubscript?
  refine wpAny_bind (wpAny_specialOf hTs slice_no_index ?_)
  simp only [Option.isNone_none, if_true]
  refine wpAny_pure ?_
  show wpAny _ _ (typeOf (.ref sl) >>= _) _ _ s
  refine wpAny_bind (wpAny_typeOf hTs ?_)
  first
    | rw [if_neg (by decide)]
    | refine PySem.W.KFB.if_not (by decide) ?_
  rw [listSliceParts_eq]
  refine wpAny_bind (wpAny_bind (wpAny_field hos hds (x := .none) rfl (wpAny_bind (wpAny_listPart .none ?_))))
  rw [if_neg hstep]
  refine wpAny_bind (wpAny_field hos hds (x := vl) rfl (wpAny_bind (wpAny_listPart pl ?_)))
  refine wpAny_bind (wpAny_field hos hds (x := vu) rfl (wpAny_bind (wpAny_listPart pu (wpAny_pure ?_))))
  first
    | simp only [hsame, Bool.false_eq_true, if_false]
    | refine PySem.W.KFB.if_not hsame ?_
    | (dsimp only
       rw [if_neg (by rw [hsame]; exact Bool.false_ne_true)])
  refine wpAny_bind (m := Builtin.List.listAllItems (.ref b) "must assign iterable to extended slice") ?_
  unfold Builtin.List.listAllItems
  refine wpAny_bind (wpAny_typeOf hb.typeIs ?_)
  first
    | refine PySem.W.KFB.if_so (by decide) ?_
    | rw [if_pos (by decide)]
    | simp only [beq_self_eq_true, Bool.true_or, if_true]
  unfold Builtin.List.listItems
  refine wpAny_bind (wpAny_seqItems e2 rfl (wpAny_pure ?_))
  refine wpAny_bind (wpAny_bind (wpAny_seqItems e rfl (wpAny_pure ?_)))
  refine wpAny_bind (wpAny_of_eq ((sliceIndices_raw (some (a : Int)) (some (c : Int)) none items.size (by simp)).trans (congrArg (pure : Int × Int × Int → Sem (Int × Int × Int)) (bounds_run hac hc))) ?_)
  show wpAny _ _ (if ((1 : Int) == 1) = true then _ else _) _ _ s
  rw [if_pos (by decide)]
  refine wpAny_bind (wpAny_rule ?_)
  first
    | simp only [notLongL hsz, Bool.false_eq_true, if_false]
    | refine PySem.W.KFB.if_not (notLongL hsz) ?_
  first | refine wpAny_bind (wpAny_pure ?_) | skip
  show wpAny _ _ (updateSeq l (fun xs => xs.extract 0 ((a : Int)).toNat ++ new ++ xs.extract (max (a : Int) (c : Int)).toNat xs.size) >>= _) _ _ s
  rw [hmax, Int.toNat_natCast]
  refine wpAny_bind (wpAny_updateSeq (hz := Nat.le_trans (Nat.le_add_right _ _) hsz) (_hz' := hz') e rfl ?_)
  refine wpAny_bind (wpAny_letGo ?_)
  first
    | exact wpAny_bind (wpAny_pure (wpAny_pure ⟨.none, rfl, wpAny_pure h⟩))
    | exact wpAny_pure ⟨.none, rfl, wpAny_pure h⟩
end

section
variable {X : Cx}
/-- xs[a:c] = ys of another list, at the value level: sl is the slice object that was just made -/
theorem set_slice {pins : List (Addr × Obj)} {s : Shared} {σ : St} {H : Hp} {l b sl : Addr} {xs ys : List V} {a c : Int} {vl vu : Value} {Q : Unit → Shared → Prop} (I : Inv X pins σ H s)
    (hH : H l = some (.lst xs)) (hB : H b = some (.lst ys)) (hne : l ≠ b) (hs : s.heap.IsSliceOf sl vl vu .none) (ra : RelV (.int a) vl) (rc : RelV (.int c) vu) (h0 : 0 ≤ a) (hac : a ≤ c) (hc : c ≤ xs.length)
    (hz : xs.length + ys.length ≤ sizeLine) (h : ∀ s', Inv X pins σ (upd H l (.lst (xs.take a.toNat ++ ys ++ xs.drop c.toNat))) s' → Q () s') :
    wpAny (model X.prog X.w) X.A (setItem (.ref l) (.ref sl) (.ref b)) Q X.xe s := by
  obtain ⟨ta, rfl⟩ := ra
  obtain ⟨tc, rfl⟩ := rc
  obtain ⟨z, its, n, r, hl, e⟩ := I.lstM hH
  obtain ⟨z2, its2, n2, r2, hl2, e2⟩ := I.lstM hB
  obtain ⟨a', rfl⟩ := Int.eq_ofNat_of_zero_le h0
  obtain ⟨c', rfl⟩ := Int.eq_ofNat_of_zero_le (Int.le_trans h0 hac)
  simp only [Int.toNat_natCast] at h
  refine setItem_slice (a := a') (c := c') e e2 hne hs (.int _ _) (.int _ _) (by omega) (by rw [List.size_toArray]; omega) (by rw [List.size_toArray, List.size_toArray]; omega) (h _ ?_)
  refine I.lset (its' := its.take a' ++ its2 ++ its.drop c') (t' := s.toks) hH e ?_ (Vals.append (Vals.append (r.take _) r2) (r.drop _)) ?_
  · exact splice_eq its its2 a' c'
  · rw [List.length_append, List.length_append, List.length_take, List.length_drop]
    omega
end
end L2

namespace Att
open PySem PySem.W PySem.Calls PyProof.Rows

/-! ### the script -/
theorem ints_of_wellAll {P : Params} {h : Heap} : ∀ (ns : List Int) (vs : List Value), WellAll P h vs (ns.map WData.int) → IntsAre vs ns := by
  intro ns
  induction ns with
  | nil =>
    intro vs w
    rw [List.map_nil] at w
    cases w
    exact .nil
  | cons n ns ih =>
    intro vs w
    rw [List.map_cons] at w
    cases w with
    | cons a b =>
      cases a
      exact .cons _ _ (ih _ b)

theorem script_of {l : OpenLaw} {n : Nat} (hn : l.most = some n) {P : Params} {h : Heap} {args : List WData} {vals : List Value}
    (hpre : l.row.toRowW.claim.pre args = true) (hwl : WellAll P h vals args) :
    ∃ a vs ns, vals = [Value.ref a] ∧ args = [WData.list (ns.map WData.int)] ∧ h.get? a = some { cls := .type "list", data := .seq vs.toArray } ∧ IntsAre vs ns ∧ ns.length ≤ n := by
  have hsh : WShape.hasAll [] args [.list .int] = true := (pre_splitW hpre).1
  have hc : l.pre.holds [] { args := args } = true := (pre_splitW hpre).2
  obtain ⟨d, r, rfl, h1, h2⟩ := hasAllW_cons hsh
  obtain rfl := hasAllW_nil h2
  obtain ⟨xs, rfl, h3⟩ := hasW_list h1
  obtain ⟨ns, rfl⟩ := items_int h3
  have hlen : ns.length ≤ n := by
    unfold OpenLaw.pre at hc
    have h4 : (WTm.not (.lt (.lit (.int (n : Int))) (.len (.arg 0)))).holds [] { args := [.list (ns.map .int)] } = true := by
      have h4 := (holds_andW hc).1
      rw [hn] at h4
      exact h4
    have h5 := condW_of h4 (w_not (w_lt w_lit (w_len_list (w_arg rfl))))
    rw [List.length_map] at h5
    refine Nat.le_of_not_lt fun q => ?_
    have q' : (n : Int) < ((ns.length : Nat) : Int) := by omega
    first
      | (rw [decide_eq_true q'] at h5; exact absurd h5 (by decide))
      | (simp at h5; omega)
  cases hwl with
  | cons w1 w2 =>
    cases w2
    cases w1 with
    | list ho hall => exact ⟨_, _, ns, rfl, rfl, ho, ints_of_wellAll ns _ hall, hlen⟩

theorem post_true (l : OpenLaw) (args : List WData) : l.row.toRowW.claim.post args (.bool true) args = true :=
  postW_of (r := l.row.toRowW) (X := (true == true))
    (show WShape.has [] (.bool true) .bool = true by first | rfl | decide | simp [WShape.has, WShape.arms, WShape.armsAll])
    (show (WTm.eq .res (.lit (.bool true))).value [] { args := args, res := some (.bool true), after := args } = some (.bool (true == true)) from w_eq_bool (w_res rfl) w_lit) rfl

/-! ### the attachment: holds_open's last premise (the goal 'hc' behind k_head) from a wpAny of the law's body -/
theorem attach {l : OpenLaw} {n : Nat} {q : Program} {loose : List Str} {XP : (Str → Option Value) → Heap → Prop} {YP : World → Heap → Prop} {d : DefRec} {x : Str}
    (hn : l.most = some n) (hdf : d.params.defaults = [])
    (hbind : ∀ pm cd doc v : Value, bindArgs (docDef d.name d.params d.body d.scope pm cd doc) ⟨[v], []⟩ = pure [(x, v)])
    (hx : d.scope.names.lookup x = some .local ∨ d.scope.names.lookup x = some .cell)
    (hk : d.scope.kind = .function) (hco : d.scope.isCoroutine = false) (hgen : d.scope.isGenerator = false)
    (body : ∀ (w : World) (s₀ s₁ s : Shared) (mg mb : Str → Option Value) (fa : Addr) (o : Obj) (pm cd doc : Value) (a : Addr) (vs : List Value) (ns : List Int),
      Ground q loose [] XP w s₀ mg mb s₁.heap → YP w s₁.heap →
      s₁.heap.get? fa = some o → o.data = .func (docDef d.name d.params d.body d.scope pm cd doc) → s₁.heap.CodeRec cd d.name → mg d.name = some (.ref fa) →
      s₁.heap.get? a = some { cls := .type "list", data := .seq vs.toArray } → IntsAre vs ns → ns.length ≤ n →
      s.gens = #[] → s.os = s₁.os →
      Fr s₁.heap s₁.heap.objs.size s.heap (bindL (envOfC d.name d.scope s₁.heap.objs.size fa cd).kindOf [(x, .ref a)] fun _ => none) →
      Cl s₁.heap.objs.size (cellsFrom (s₁.heap.objs.size + 1) d.scope.names []) s.heap (bindC (envOfC d.name d.scope s₁.heap.objs.size fa cd).kindOf [(x, .ref a)] fun _ => none) →
      wpAny (model l.prog w) (callerA.deeper (envOfC d.name d.scope s₁.heap.objs.size fa cd)) (execs d.body (envOfC d.name d.scope s₁.heap.objs.size fa cd))
        (fun f s' => f = .ret (.bool true) ∧ OldK s₁.heap s'.heap ∧ s'.os = s₁.os ∧ AllBare s'.gens) (fun _ _ => False) s) :
    WalkO q loose XP YP l.row.toRowW d [] (fun f vs => PySem.call f vs) := by
  intro w s₀ s₁ mg mb G Y fa o pm cd doc dV kV ho hd hcd hD hmg hg args vals as hpre hlay hrd hwl hlo
  obtain rfl : dV = .none := Dflts.none hD hdf
  obtain rfl : kV = .none := Dflts.noKw hD
  obtain ⟨a, vs, ns, rfl, rfl, hobj, hints, hlen⟩ := script_of hn hpre hwl
  refine enter_call ?_
  refine call_cells_ret (o := o) (by rw [depth_caller]; decide) ho (fd_plain hd) G.T.nolimit hcd (hbind pm cd doc (.ref a)) (fun y hy => ?_) (fun h₁ tk F X => ?_) hco hgen hk
  · obtain rfl : y = (x, Value.ref a) := List.mem_singleton.mp hy
    rcases hx with e | e
    · exact .inl e
    · exact .inr ⟨e, cellsFrom_some _ _ _ (.inl e)⟩
  · refine wpAny_mono (body w s₀ s₁ { s₁ with heap := h₁, toks := tk } mg mb fa o pm cd doc a vs ns G Y ho (fd_plain hd) hcd hmg hobj hints hlen hg rfl F X) (fun f s' hq => ?_) (fun _ _ hq => hq)
    obtain ⟨rfl, h2, h3, h4⟩ := hq
    exact ⟨.inl ⟨.bool true, .bool true, [], rfl, fun _ => rfl, .bool true, post_true l _, fun _ => ⟨List.Pairwise.nil, fun _ hm => (nomatch hm)⟩⟩, h2, h3, h4⟩

/-- the same from a codeAny of the CALL (for a layer whose function contracts speak of calls) -/
theorem attach_call {l : OpenLaw} {n : Nat} {q : Program} {loose : List Str} {XP : (Str → Option Value) → Heap → Prop} {YP : World → Heap → Prop} {d : DefRec}
    (hn : l.most = some n) (hdf : d.params.defaults = [])
    (call : ∀ (w : World) (s₀ s₁ : Shared) (mg mb : Str → Option Value) (fa : Addr) (o : Obj) (pm cd doc : Value) (a : Addr) (vs : List Value) (ns : List Int),
      Ground q loose [] XP w s₀ mg mb s₁.heap → YP w s₁.heap →
      s₁.heap.get? fa = some o → o.data = .func (docDef d.name d.params d.body d.scope pm cd doc) → s₁.heap.CodeRec cd d.name → mg d.name = some (.ref fa) →
      s₁.heap.get? a = some { cls := .type "list", data := .seq vs.toArray } → IntsAre vs ns → ns.length ≤ n → s₁.gens = #[] →
      codeAny (model l.prog w) callerA (.call (.ref fa) ⟨[.ref a], []⟩) (fun r s' => r = .ok (.ret (.bool true)) ∧ OldK s₁.heap s'.heap ∧ s'.os = s₁.os ∧ AllBare s'.gens) s₁) :
    WalkO q loose XP YP l.row.toRowW d [] (fun f vs => PySem.call f vs) := by
  intro w s₀ s₁ mg mb G Y fa o pm cd doc dV kV ho hd hcd hD hmg hg args vals as hpre hlay hrd hwl hlo
  obtain rfl : dV = .none := Dflts.none hD hdf
  obtain rfl : kV = .none := Dflts.noKw hD
  obtain ⟨a, vs, ns, rfl, rfl, hobj, hints, hlen⟩ := script_of hn hpre hwl
  refine enter_call (codeAny_mono (call w s₀ s₁ mg mb fa o pm cd doc a vs ns G Y ho (fd_plain hd) hcd hmg hobj hints hlen hg) fun r s' hq => ?_)
  obtain ⟨rfl, h2, h3, h4⟩ := hq
  exact ⟨.inl ⟨.bool true, .bool true, [], rfl, fun _ => rfl, .bool true, post_true l _, fun _ => ⟨List.Pairwise.nil, fun _ hm => (nomatch hm)⟩⟩, h2, h3, h4⟩

/-- the same where the top left finished generators (o_head chose holds_openN): nothing may have changed at all and no generator may be left -/
theorem attachN {l : OpenLaw} {n : Nat} {q : Program} {loose : List Str} {XP : (Str → Option Value) → Heap → Prop} {YP : World → Heap → Prop} {d : DefRec} {x : Str}
    (hn : l.most = some n) (hdf : d.params.defaults = [])
    (hbind : ∀ pm cd doc v : Value, bindArgs (docDef d.name d.params d.body d.scope pm cd doc) ⟨[v], []⟩ = pure [(x, v)])
    (hx : d.scope.names.lookup x = some .local ∨ d.scope.names.lookup x = some .cell)
    (hk : d.scope.kind = .function) (hco : d.scope.isCoroutine = false) (hgen : d.scope.isGenerator = false)
    (body : ∀ (w : World) (s₀ s₁ s : Shared) (mg mb : Str → Option Value) (fa : Addr) (o : Obj) (pm cd doc : Value) (a : Addr) (vs : List Value) (ns : List Int),
      Ground q loose [] XP w s₀ mg mb s₁.heap → YP w s₁.heap →
      s₁.heap.get? fa = some o → o.data = .func (docDef d.name d.params d.body d.scope pm cd doc) → s₁.heap.CodeRec cd d.name → mg d.name = some (.ref fa) →
      s₁.heap.get? a = some { cls := .type "list", data := .seq vs.toArray } → IntsAre vs ns → ns.length ≤ n →
      s.gens = #[] → s.os = s₁.os →
      Fr s₁.heap s₁.heap.objs.size s.heap (bindL (envOfC d.name d.scope s₁.heap.objs.size fa cd).kindOf [(x, .ref a)] fun _ => none) →
      Cl s₁.heap.objs.size (cellsFrom (s₁.heap.objs.size + 1) d.scope.names []) s.heap (bindC (envOfC d.name d.scope s₁.heap.objs.size fa cd).kindOf [(x, .ref a)] fun _ => none) →
      wpAny (model l.prog w) (callerA.deeper (envOfC d.name d.scope s₁.heap.objs.size fa cd)) (execs d.body (envOfC d.name d.scope s₁.heap.objs.size fa cd))
        (fun f s' => f = .ret (.bool true) ∧ (∀ b o, s₁.heap.get? b = some o → s'.heap.get? b = some o) ∧ s'.os = s₁.os ∧ s'.gens = #[]) (fun _ _ => False) s) :
    WalkN q loose XP YP l.row.toRowW d [] (fun f vs => PySem.call f vs) := by
  intro w s₀ s₁ mg mb G Y fa o pm cd doc dV kV ho hd hcd hD hmg hg args vals as hpre hlay hrd hwl hlo
  obtain rfl : dV = .none := Dflts.none hD hdf
  obtain rfl : kV = .none := Dflts.noKw hD
  obtain ⟨a, vs, ns, rfl, rfl, hobj, hints, hlen⟩ := script_of hn hpre hwl
  refine enter_callW ?_
  refine call_cells_ret (o := o) (by rw [depth_caller]; decide) ho (fd_plain hd) G.T.nolimit hcd (hbind pm cd doc (.ref a)) (fun y hy => ?_) (fun h₁ tk F X => ?_) hco hgen hk
  · obtain rfl : y = (x, Value.ref a) := List.mem_singleton.mp hy
    rcases hx with e | e
    · exact .inl e
    · exact .inr ⟨e, cellsFrom_some _ _ _ (.inl e)⟩
  · refine wpAny_mono (body w s₀ s₁ { s₁ with heap := h₁, toks := tk } mg mb fa o pm cd doc a vs ns G Y ho (fd_plain hd) hcd hmg hobj hints hlen hg rfl F X) (fun f s' hq => ?_) (fun _ _ hq => hq)
    obtain ⟨rfl, h2, h3, h4⟩ := hq
    exact ⟨.inl ⟨.bool true, .bool true, [], rfl, fun _ => rfl, .bool true, post_true l _, fun _ => ⟨List.Pairwise.nil, fun _ hm => (nomatch hm)⟩⟩, h2, h3, h4⟩

/-! ### rules over ANY heap (no ledger) from facts about the written part K: the library's own take a ledger (News) for what they write -/
section
variable {prog : Program} {w : World} {A : Around} {E : Value → Shared → Prop} {s : Shared} {K : Frag}

/-- a def of the module, or a method (qual 'C.m'), entered: the frame is the next address; cells behind it -/
theorem call_fn {R : Result → Shared → Prop} {name qual : Str} {params : Arguments} {body : List Stmt} {scope : Scope} {dV kV doc pm cdv ct oc : Value} {an od : Option Addr} {osl : Array (Option Value)} {f : Addr} {args : Args} {binds : List (Str × Value)}
    (X : K.In s.heap) (hlim : s.heap.NoLimit) (ho : K.lookup f = some ⟨oc, od, .func (fnOf name qual params body scope dV kV doc pm an cdv ct), osl⟩) (hcd : codeIn K cdv qual = true) (hroom : A.depth < recursionLimit)
    (hbind : BindsTo s (fnOf name qual params body scope dV kV doc pm an cdv ct) args binds)
    (hkind : (binds.all fun y => scope.names.lookup y.1 == some .local || scope.names.lookup y.1 == some .cell) = true)
    (h : ∀ s₁, InCallC s s.heap.objs.size (bindL (envOfC qual scope s.heap.objs.size f cdv).kindOf binds fun _ => none) (cellsFrom (s.heap.objs.size + 1) scope.names [])
        (bindC (envOfC qual scope s.heap.objs.size f cdv).kindOf binds fun _ => none) s₁ →
      wpAny (model prog w) (A.deeper (envOfC qual scope s.heap.objs.size f cdv)) (execs body (envOfC qual scope s.heap.objs.size f cdv))
        (fun fl s' => R (.ok (.ret (match fl with | .ret v => v | _ => .none))) s')
        (fun e s' => wpAny (model prog w) (A.deeper (envOfC qual scope s.heap.objs.size f cdv)) (leaving (envOfC qual scope s.heap.objs.size f cdv) e) (fun _ s'' => R (.error e) s'') (fun e' s'' => R (.error e') s'') s') s₁)
    (hco : scope.isCoroutine = false) (hgen : scope.isGenerator = false) (hk : scope.kind = .function) : codeAny (model prog w) A (.call (.ref f) args) R s := by
  refine codeAny_call_function hroom (X _ _ ho) rfl hco hgen rfl (codeRec_of X hcd) (hbind _ _ _ _ ?_)
  refine wpAny_newFunctionEnv_cells hk (kindsX hkind _) fun env he s₁ x => ?_
  subst he
  exact ⟨hlim.keeps x.toInCall.keep, codeAny_func (h s₁ x)⟩

/-- C(..): dict at size, instance at size + 1, then __init__ -/
theorem make_obj {R : Result → Shared → Prop} {C fI : Addr} {rest : List Value} {kw : List (Str × Value)}
    (X : K.In s.heap) (hm : makesIn K C = true) (hi : findIn K (.ref C) "__init__" = some (some (.ref fI))) (hf : isFn K (.ref fI) = true)
    (h : codeAny (model prog w) (A.under (.builtin "type.__call__" ⟨.ref C :: rest, kw⟩)) (.call (.ref fI) ⟨.ref (s.heap.objs.size + 1) :: rest, kw⟩) (InitBack (s.heap.objs.size + 1) R)
      { s with heap := (s.heap.push emptyDict).push (instObj C s.heap.objs.size) }) : codeAny (model prog w) A (.call (.ref C) ⟨rest, kw⟩) R s := by
  obtain ⟨hh, g, d, t, os⟩ := s
  exact make_core (makes_of X hm) (looks_findIn X hi) (fun self => bind_fn X self (beq_iff_eq.mp hf)) (.inl rfl) h

/-- x.name where the instance's dict holds the name and the class does not -/
theorem get_field {x C : Addr} {ox : Obj} {es : List DictEntry} {n : Nat} {name : Str} {expr : Bool} {v : Value} {Q : Value → Shared → Prop}
    (X : K.In s.heap) (I : PySem.W.InstAt s.heap x ox C (some (dictOf es n))) (hg : plainGet K C name = true) (hh : hasDictIn K C = true) (ha : findIn K (.ref C) name = some none)
    (hl : getL name es = some (some v)) (hv : handedIn v = true) (h : Q v { s with toks := s.toks + 1 }) : wpAny (model prog w) A (getAttr (.ref x) name expr) Q E s :=
  get_value X I (plainGet_of hg).1 (findObj_own hh ha rfl hl) hv h

/-- x.m(..): the method found in the class -/
theorem get_method {x C f : Addr} {ox : Obj} {es : List DictEntry} {n : Nat} {name : Str} {pl : Sem Bool} {Q : Value × List Value → Shared → Prop}
    (X : K.In s.heap) (I : PySem.W.InstAt s.heap x ox C (some (dictOf es n))) (hg : plainGet K C name = true) (hf : findIn K (.ref C) name = some (some (.ref f))) (ht : isFn K (.ref f) = true)
    (hl : getL name es = some none) (h : Q (.ref f, [.ref x]) s) : wpAny (model prog w) A (getMethod (.ref x) name pl) Q E s :=
  method_fn X I (plainGet_of hg).1 (plainGet_of hg).2 hf (beq_iff_eq.mp ht) (by show (lookIn name (dictOf es n)).map _ = _; rw [lookIn_dict, hl]; rfl) h

/-! the whole heap as the ledger: makes every rule that writes through a ledger a rule over any heap -/
def noObjs (h : Heap) : Heap := { h with objs := #[] }
theorem noObjs_get (h : Heap) (b : Addr) : (noObjs h).get? b = none := by
  cases e : (noObjs h).get? b with
  | none => rfl
  | some o => exact absurd (Heap.lt_size e) (Nat.not_lt_zero _)
def ledger (h : Heap) (L d : Addr) : List (Addr × Obj) := (List.range h.objs.size).filterMap fun a => if a = L ∨ a = d then none else (h.get? a).map fun o => (a, o)
theorem mem_ledger {h : Heap} {L d a : Addr} {o : Obj} : (a, o) ∈ ledger h L d ↔ a ≠ L ∧ a ≠ d ∧ h.get? a = some o := by
  unfold ledger
  rw [List.mem_filterMap]
  constructor
  · rintro ⟨b, _, e⟩
    split at e
    · cases e
    · rename_i hb
      obtain ⟨o', ho, e'⟩ := Option.map_eq_some_iff.mp e
      cases e'
      exact ⟨fun q => hb (.inl q), fun q => hb (.inr q), ho⟩
  · rintro ⟨n1, n2, ho⟩
    refine ⟨a, List.mem_range.mpr (Heap.lt_size ho), ?_⟩
    rw [if_neg (show ¬ (a = L ∨ a = d) from fun q => q.elim n1 n2), ho] <;> rfl
theorem news_ledger {h : Heap} {L d : Addr} {od : Obj} (hne : d ≠ L) (ho : h.get? d = some od) : News (noObjs h) L h ([] ++ (d, od) :: ledger h L d) := by
  rintro ⟨a, o⟩ hp
  rcases List.mem_cons.mp hp with e | hp
  · cases e
    exact ⟨ho, hne, noObjs_get _ _⟩
  · obtain ⟨n1, n2, e⟩ := mem_ledger.mp hp
    exact ⟨e, n1, noObjs_get _ _⟩
theorem fr_all {h : Heap} {L : Addr} {m : Str → Option Value} (n : h.Ns L m) : Fr (noObjs h) L h m :=
  ⟨n, fun b o e => (by rw [noObjs_get] at e; cases e), Nat.zero_le _⟩
/-- Upd of the head entry (for append_K, setItem_K ..) -/
theorem upd_ledger {h : Heap} {L d : Addr} {o o' : Obj} : Upd d o o' ((d, o) :: ledger h L d) ((d, o') :: ledger h L d) :=
  .head fun ⟨_, _⟩ hp => (mem_ledger.mp hp).2.1

/-- x.name = v over any heap: L is any namespace of the heap (the frame's, say): its map stays, its object is not told; all else but the dict stays -/
theorem set_field {x C dx L : Addr} {ox : Obj} {m : Str → Option Value} {es es' : List DictEntry} {n n' : Nat} {name : Str} {v : Value} {Q : Unit → Shared → Prop}
    (X : K.In s.heap) (I : PySem.W.InstAt s.heap x ox C (some (dictOf es n))) (hd : ox.dict = some dx) (hL : s.heap.Ns L m) (hne : dx ≠ L)
    (hs : findIn K (.ref C) "__setattr__" = some (some (.builtin "object.__setattr__"))) (hp : plainOver K C = true) (ht : takerIn K C name = some none) (hh : hasDictIn K C = true) (hl : (getL name es).isSome = true)
    (e : (putL name (PyData.keyHash w.params name) (.str name (s.toks + 1)) v es, putN name es n) = (es', n')) (hz : es'.length ≤ 1000)
    (h : ∀ h' : Heap, h'.Ns L m → h'.get? dx = some (dictOf es' n') → (∀ b o, b ≠ dx → b ≠ L → s.heap.get? b = some o → h'.get? b = some o) → Q () { s with heap := h', toks := s.toks + 2 }) :
    wpAny (model prog w) A (setAttr (.ref x) name v) Q E s := by
  obtain ⟨e1, e2⟩ := Prod.mk.inj e
  have hdx : s.heap.get? dx = some (dictOf es n) := by
    have := I.dict
    rw [hd] at this
    exact this
  refine set_plain X I hs (osa_dict (s := { s with toks := s.toks + 1 }) (h₀ := noObjs s.heap) (L := L) (m := m) (od := dictOf es n) (od' := dictOf es' n') (es := es') (n := n') (pre := []) (post := ledger s.heap L dx)
    (fr_all hL) (news_ledger hne hdx) X I hd hp ht hh hl (fun _ q => nomatch q) (fun ⟨_, _⟩ q => (mem_ledger.mp q).2.1) (by rw [putName_dict, e1, e2]) rfl hz fun h' F' N' => ?_)
  exact h h' F'.ns (N'.get (List.Mem.head _)) fun b o n1 n2 ho => N'.get (List.Mem.tail _ (mem_ledger.mpr ⟨n2, n1, ho⟩))
end
end Att

namespace L2
open PySem PySem.Spec PyProof.Rows

theorem vals_ints : ∀ {vs : List Value} {ns : List Int}, IntsAre vs ns → Vals (ns.map V.int) vs
  | _, _, .nil => .nil
  | _, _, .cons n t h => .cons ⟨t, rfl⟩ (vals_ints h)

/-- nothing is tracked but the script, known to the object (or it is an object of the module) -/
def Only (H : Hp) : Prop := ∀ b, H b = none ∨ ∃ o xs, H b = some (.frz o (.lst xs))

/-- THE HEAD: the law's promise, at the heap behind the top. F, the promise of the law's def, may use that base is part of the heap (so K.In base, base.Ns mainGlobals mg stand in Mod) -/
theorem law_call {P : Program} {w : World} {K : PySem.W.Frag} {mg mb : Str → Option Value} {CX : CXT} {k : Nat} {fa a : Addr} {fd : FuncData} {x : Str} {sp : Sp} {s₁ : Shared} {vs : List Value} {ns : List Int}
    (KX : K.In s₁.heap) (hns : s₁.heap.Ns mainGlobals mg) (hb : s₁.heap.Ns builtinsNs mb) (hbb : ∀ x : Str, x ≠ "__name__" → mb x = bootBuiltins x) (hlim : s₁.heap.NoLimit) (hg : s₁.gens = #[])
    (ha : s₁.heap.get? a = some { cls := .type "list", data := .seq vs.toArray }) (hi : IntsAre vs ns) (hl : ns.length ≤ sizeLine) (hr : Room k callerA)
    (F : ∀ base : Heap, K.In base → base.Ns mainGlobals mg → FnOk P w K mg base CX k fa fd [x] sp) (hbind : ∀ (s : Shared) (u : Value), BindsTo s fd ⟨[u], []⟩ [(x, u)])
    (hsp : ∀ H : Hp, Only H → SqL K H a (ns.map V.int) → sp [.ref a] H (fun v _ => v = .bl true) fun _ _ _ => False)
    (hCX : ∀ H e s', CX [] H s₁ (fun _ _ _ => False) e s' → False) :
    codeAny (model P w) callerA (.call (.ref fa) ⟨[.ref a], []⟩) (fun r s' => r = .ok (.ret (.bool true)) ∧ OldK s₁.heap s'.heap ∧ s'.os = s₁.os ∧ AllBare s'.gens) s₁ := by
  have rv := vals_ints hi
  have lenV := hi.length
  -- from an abstract heap in which nothing but the script may be tracked
  have core : ∀ H : Hp, Only H → SqL K H a (ns.map V.int) → HOk P w H s₁.heap → (∀ b, H b ≠ none → b = a) → (H a ≠ none → K.lookup a = none) →
      codeAny (model P w) callerA (.call (.ref fa) ⟨[.ref a], []⟩) (fun r s' => r = .ok (.ret (.bool true)) ∧ OldK s₁.heap s'.heap ∧ s'.os = s₁.os ∧ AllBare s'.gens) s₁ := by
    intro H hO hS hok hA hK
    have base_of : ∀ {b : Addr} {o : Obj}, s₁.heap.get? b = some o → H b = none → (hidT s₁.heap H).get? b = some o := fun e n => hidT_get e n
    have noA : ∀ {b : Addr} {o : Obj} {es : Array DictEntry} {ep : Nat}, s₁.heap.get? b = some o → o.data = .dict es ep → H b = none := fun {b o es ep} e d => by
      cases q : H b with
      | none => rfl
      | some u =>
        have e' : b = a := hA b (by rw [q]; simp)
        subst e'
        rw [ha] at e; cases e
        have d' : Data.seq vs.toArray _ = Data.dict es ep := d
        cases d'
    have nsK : ∀ {b : Addr} {m : Str → Option Value}, s₁.heap.Ns b m → (hidT s₁.heap H).Ns b m := fun {b m} ⟨o, es, ep, e, d, r⟩ => ⟨o, es, ep, base_of e (noA e d), d, r⟩
    have hKb : K.In (hidT s₁.heap H) := fun b o e => base_of (KX b o e) (by
      cases q : H b with
      | none => rfl
      | some u =>
        have e' : b = a := hA b (by rw [q]; simp)
        subst e'
        rw [hK (by rw [q]; simp)] at e; cases e)
    have hM : Mod K mg (hidT s₁.heap H) := ⟨hKb, nsK hns, ⟨mb, nsK hb, hbb⟩, let ⟨mc, h1, h2⟩ := hlim; ⟨mc, nsK h1, h2⟩⟩
    have e0 : Env0 P w K mg (hidT s₁.heap H) callerA [] s₁ H := ⟨rfl, hM, fun b o e => of_hidT e, Nat.le_of_eq (hidT_size _ _), trivial, fun b hb => absurd (show b ∈ ([] : List Addr) from hb) (by simp), hok, .of_eq hg⟩
    refine codeAny_mono ((F _ hKb (nsK hns)).run callerA [] s₁ H ⟨[.ref a], []⟩ [.ref a] [.ref a] _ _ hr e0 (hbind s₁ (.ref a)) (.cons rfl .nil) (hsp H hO hS)) fun r s' h => ?_
    cases r with
    | error e => exact (hCX H e s' h).elim
    | ok fl =>
      cases fl with
      | next => exact False.elim h
      | brk => exact False.elim h
      | cont => exact False.elim h
      | ret u =>
        obtain ⟨v, H', os, bare, un, hok', r', q⟩ := h
        have q' : v = .bl true := q
        subst q'
        obtain rfl : u = Value.bool true := r'
        refine ⟨rfl, OldK.of_keep fun b o e => ?_, os, bare⟩
        cases q : H b with
        | none => exact un.keep b o e q (by intro z; exact absurd (show b ∈ ([] : List Addr) from z) (by simp)) (by simp)
        | some u =>
          rcases hO b with z | ⟨ob, xs, z⟩
          · rw [q] at z; cases z
          · have z2 := un.frzs b ob _ z
            obtain ⟨e1, _⟩ := hok b _ z
            obtain ⟨e2, _⟩ := hok' b _ z2
            rw [e] at e1; cases e1
            exact e2
  cases hk : K.lookup a with
  | some o =>
    -- the script is one of the module's own objects
    have e := KX a o hk
    rw [ha] at e
    cases e
    refine core (fun _ => none) (fun _ => .inl rfl) (.inr ⟨_, vs.toArray, _, hk, rfl, rfl, rfl, by rw [List.size_toArray, lenV]; exact hl, by simpa using rv⟩) (fun b u z => by have z' : (none : Option HO) = some u := z; cases z') (fun b z => absurd rfl z) fun z => absurd rfl z
  | none =>
    refine core (fun b => if b = a then some (.frz { cls := .type "list", data := .seq vs.toArray } (.lst (ns.map V.int))) else none) (fun b => ?_) (.inl (.inr ⟨{ cls := .type "list", data := .seq vs.toArray }, if_pos rfl⟩)) (fun b u z => ?_) (fun b z => ?_) fun _ => hk
    · by_cases hb : b = a
      · exact .inr ⟨_, _, if_pos hb⟩
      · exact .inl (if_neg hb)
    · by_cases hb : b = a
      · have z' := (if_pos hb).symm.trans z
        cases z'
        subst hb
        exact ⟨ha, by rw [List.length_map]; exact hl, vs, _, rv, ha⟩
      · have z' := (if_neg hb).symm.trans z
        cases z'
    · by_cases hb : b = a
      · exact hb
      · exact absurd (if_neg hb) z
end L2

namespace L2
open PySem PySem.Spec PyProof.Rows

abbrev KOf {K : PySem.W.Frag} {h : Heap} (_ : K.In h) : PySem.W.Frag := K

/-- the goal that k_head leaves (case hc), from the law's promise. F gives the function object fd (K's own) once, then the promise over every base -/
theorem walk_of {l : PySem.W.OpenLaw} {n k : Nat} {q : Program} {loose : List Str} {XP : (Str → Option Value) → Heap → Prop} {YP : World → Heap → Prop} {d : DefRec} {K : Params → PySem.W.Frag} {CX : World → CXT} {sp : World → Sp} {x : Str}
    (hn : l.most = some n) (hn2 : n ≤ sizeLine) (hdf : d.params.defaults = []) (hr : Room k callerA)
    (hY : ∀ (w : World) (h : Heap), YP w h → (K w.params).In h)
    (F : ∀ (w : World) (mg : Str → Option Value) (fa : Addr) (h : Heap), (K w.params).In h → h.Ns mainGlobals mg → mg d.name = some (.ref fa) →
      ∃ fd : FuncData, (∀ (s : Shared) (u : Value), BindsTo s fd ⟨[u], []⟩ [(x, u)]) ∧
        ∀ base : Heap, (K w.params).In base → base.Ns mainGlobals mg → FnOk l.prog w (K w.params) mg base (CX w) k fa fd [x] (sp w))
    (hsp : ∀ (w : World) (H : Hp) (a : Addr) (ns : List Int), ns.length ≤ n → Only H → SqL (K w.params) H a (ns.map V.int) → sp w [.ref a] H (fun v _ => v = .bl true) fun _ _ _ => False)
    (hCX : ∀ (w : World) (H : Hp) (s : Shared) (e : Value) (s' : Shared), CX w [] H s (fun _ _ _ => False) e s' → False) :
    PySem.W.WalkO q loose XP YP l.row.toRowW d [] (fun f vs => PySem.call f vs) := by
  refine Att.attach_call hn hdf fun w s₀ s₁ mg mb fa o pm cd doc a vs ns G Y ho hd hcd hmg hobj hints hlen hg => ?_
  have KX := hY w _ Y
  obtain ⟨fd, hb, hF⟩ := F w mg fa _ KX G.T.g hmg
  exact law_call KX G.T.g G.T.b G.T.builtins G.T.nolimit hg hobj hints (Nat.le_trans hlen hn2) hr hF hb (fun H hO hS => hsp w H a ns hlen hO hS) fun H e s' => hCX w H s₁ e s'
/-- the same where the promise hangs on the written part alone: (sp := My.sp_law), no hole under a binder -/
theorem walk_ofK {l : PySem.W.OpenLaw} {n k : Nat} {q : Program} {loose : List Str} {XP : (Str → Option Value) → Heap → Prop} {YP : World → Heap → Prop} {d : DefRec} {K : Params → PySem.W.Frag} {CX : CXT} {sp : PySem.W.Frag → Sp} {x : Str}
    (hn : l.most = some n) (hn2 : n ≤ sizeLine) (hdf : d.params.defaults = []) (hr : Room k callerA)
    (hY : ∀ (w : World) (h : Heap), YP w h → (K w.params).In h)
    (F : ∀ (w : World) (mg : Str → Option Value) (fa : Addr) (h : Heap), (K w.params).In h → h.Ns mainGlobals mg → mg d.name = some (.ref fa) →
      ∃ fd : FuncData, (∀ (s : Shared) (u : Value), BindsTo s fd ⟨[u], []⟩ [(x, u)]) ∧
        ∀ base : Heap, (K w.params).In base → base.Ns mainGlobals mg → FnOk l.prog w (K w.params) mg base CX k fa fd [x] (sp (K w.params)))
    (hsp : ∀ (K : PySem.W.Frag) (H : Hp) (a : Addr) (ns : List Int), ns.length ≤ n → Only H → SqL K H a (ns.map V.int) → sp K [.ref a] H (fun v _ => v = .bl true) fun _ _ _ => False)
    (hCX : ∀ (H : Hp) (s : Shared) (e : Value) (s' : Shared), CX [] H s (fun _ _ _ => False) e s' → False) :
    PySem.W.WalkO q loose XP YP l.row.toRowW d [] (fun f vs => PySem.call f vs) :=
  walk_of (K := K) (CX := fun _ => CX) (sp := fun w => sp (K w.params)) hn hn2 hdf hr hY F (fun w H a ns h1 h2 h3 => hsp (K w.params) H a ns h1 h2 h3) fun _ H s e s' => hCX H s e s'
end L2

/- THE LAST THEOREM (shape; LID, My.* are yours):
   My.Adr: a structure of the addresses that your layer names (classes, functions); My.Txt K t: a structure (Prop) of the equations over K;
   My.txt_mk : {K} {implicit addresses ..} (e1 : nsIn K mainGlobals "law" = some (some (.ref f))) (e2 : K.lookup f = some ⟨oc, od, .func (fnOf "law" "law" params body scope dV kV doc pm an cdv ct), sl⟩) (e3 : codeIn K cdv "law" = true) .. : ∃ t, My.Txt K t

set_option maxRecDepth 100000 in
set_option maxHeartbeats 0 in
theorem PySem.Challenge.cw_LID_holds : PySem.Challenge.rw_LID.Holds := by
  w_on; o_law; k_head; (case hw => w_witness2)
  k_fill
  refine L2.walk_of (l := PySem.Challenge.rw_LID) (n := 63) (k := 40) (x := "script") (CX := fun w => ..) (sp := fun _ => My.sp_law) rfl (by decide) rfl ⟨rfl, by decide, by decide⟩ (fun w h Y => PySem.W.kIn_of Y) ?F ?S ?C
  case F =>
    intro w mg fa h KX G hmg
    have T : ∃ t, My.Txt (L2.KOf KX) t := by
      dsimp only [L2.KOf]                          -- K must stand as «<heap const> w.params» for k_is
      refine' My.txt_mk ?e1 ?e2 ?e3 ..
      (case e1 => PySem.W.k_is)                    -- in the order: a name -> its address -> its object -> its parts
      (case e2 => PySem.W.k_is)
      ..
    obtain ⟨t, T⟩ := T
    have e0 := hmg.symm.trans (PySem.W.mg_of KX G T.law)
    cases e0                                       -- fa is the law's own address
    exact ⟨_, fun s u => .of_eq rfl, fun base kb nb => My.law_fn T kb nb⟩     -- if «.of_eq rfl» comes too early: refine' ⟨_, ?b, fun base kb nb => My.law_fn T kb nb⟩; exact fun s u => .of_eq rfl
  case S => exact fun w H a ns hl hO hS => ..
  case C => exact ..
(the tactic k_is has no namespace: write k_is) -/

/-! SHORT WORDS over the layer: a def of the text, its body, what a loop and a test want. -/
namespace L2
open PySem PySem.Spec PyProof.Rows

/-! ### the text by places -/
/-- the j-th statement of a class's body -/
def inClass (s : Stmt) (j : Nat) : Stmt := match s with
  | .ClassDef _ _ _ body _ _ _ _ _ _ _ => body.getD j (.Pass ⟨0, 0, 0, 0⟩)
  | _ => .Pass ⟨0, 0, 0, 0⟩
def defArgs (s : Stmt) : Arguments := match s with
  | .FunctionDef _ a _ _ _ _ _ _ _ _ => a
  | _ => { posonlyargs := [], args := [], vararg := none, kwonlyargs := [], kw_defaults := [], kwarg := none, defaults := [] }
def defBody (s : Stmt) : List Stmt := match s with
  | .FunctionDef _ _ b _ _ _ _ _ _ _ => b
  | _ => []
def defScope (s : Stmt) : Scope := match s with
  | .FunctionDef _ _ _ _ _ _ sc _ _ _ => sc
  | _ => { kind := .function, names := [], isGenerator := false, isCoroutine := false }

/-! ### no exception leaves a def -/
abbrev CX0 : CXT := fun _ _ _ _ _ _ => False
abbrev E0 : XK := fun _ _ _ => False
theorem pass0 {X : Cx} : Passes CX0 X E0 := fun _ _ _ _ _ _ _ h => h.elim

/-! ### a def (or method) of the text as it stands behind the top -/
structure Fun (K : PySem.W.Frag) (x qual : Str) (st : Stmt) (f : Addr) (fd : FuncData) : Prop where
  ex : ∃ (oc : Value) (od : Option Addr) (kV doc pm : Value) (an : Option Addr) (cdv ct : Value) (osl : Array (Option Value)),
    fd = PySem.W.fnOf x qual (defArgs st) (defBody st) (defScope st) .none kV doc pm an cdv ct ∧ K.lookup f = some ⟨oc, od, .func fd, osl⟩ ∧ PySem.W.codeIn K cdv qual = true
  kp : PySem.W.keepIn K (.ref f) = true
section
variable {P : Program} {w : World} {K : PySem.W.Frag} {mg : Str → Option Value} {base : Heap}
/-- THE RULE for a def: its body as a term of rules, and the reading of that term -/
theorem Fun.ok {x qual : Str} {st : Stmt} {f : Addr} {fd : FuncData} {N ps : List Str} {k : Nat} {sp : Sp} (F : Fun K x qual st f fd) (S : FnScope N ps (defScope st)) (len : ∀ vs H Q E, sp vs H Q E → vs.length = ps.length)
    (hbody : ∀ (cdv : Value) (A : Around) (outer : List Env) (s : Shared) (H : Hp) (vs : List V) (Q : VK) (E : XK), Room k (A.deeper (envOfC qual (defScope st) s.heap.objs.size f cdv)) → sp vs H Q E →
      ∃ t, PSs (cxOf CX0 P w K mg base N qual (defScope st) f cdv A outer s H E).nox (defBody st) t ∧ t { nx := fun _ H' => Q .non H', rt := Q } (start N vs) H) : FnOk P w K mg base CX0 (k + 1) f fd ps sp := by
  obtain ⟨oc, od, kV, doc, pm, an, cdv, ct, osl, rfl, lk, hcd⟩ := F.ex
  refine fn_of lk hcd S len fun A outer s H vs Q E hr hsp => ?_
  obtain ⟨t, h, q⟩ := hbody cdv A outer s H vs Q E hr hsp
  exact ⟨t, h.nox, q⟩
/-- how its arguments bind (no defaults): h is «fun _ _ _ _ _ _ us hl => match us, hl with | [_, _], _ => rfl», one _ a parameter -/
theorem Fun.binds {x qual : Str} {st : Stmt} {f : Addr} {fd : FuncData} {ps : List Str} (F : Fun K x qual st f fd)
    (h : ∀ (kV doc pm : Value) (an : Option Addr) (cdv ct : Value) (us : List Value), us.length = ps.length → bindArgs (PySem.W.fnOf x qual (defArgs st) (defBody st) (defScope st) .none kV doc pm an cdv ct) ⟨us, []⟩ = pure (ps.zip us)) : Binds K fd ps [] := by
  obtain ⟨oc, od, kV, doc, pm, an, cdv, ct, osl, rfl, lk, hcd⟩ := F.ex
  exact .all (h kV doc pm an cdv ct)
theorem fun_mk {x qual : Str} {st : Stmt} {f : Addr} {oc : Value} {od an : Option Addr} {osl : Array (Option Value)} {kV doc pm cdv ct : Value} (l : K.lookup f = some ⟨oc, od, .func (PySem.W.fnOf x qual (defArgs st) (defBody st) (defScope st) .none kV doc pm an cdv ct), osl⟩)
    (c : PySem.W.codeIn K cdv qual = true) (k : PySem.W.keepIn K (.ref f) = true) : Fun K x qual st f (PySem.W.fnOf x qual (defArgs st) (defBody st) (defScope st) .none kV doc pm an cdv ct) := ⟨⟨oc, od, kV, doc, pm, an, cdv, ct, osl, rfl, l, c⟩, k⟩
end
theorem hu_of {A : Around} {k : Nat} (hr : Room k A) : A.units + 1 < cLine := Nat.lt_of_le_of_lt (Nat.add_le_add_left (by decide : 1 ≤ 64) _) hr.units
theorem small1000 {n : Nat} (h : n ≤ 1000) : n < sizeLine := Nat.lt_of_le_of_lt h (by decide)

/-! ### expressions in short: the name that stands in the i-th slot -/
section
variable {X : Cx}
theorem pv (i : Nat) {x : Str} {pos : Pos} (hN : X.N[i]? = some x := by rfl) (hv : Vis X.env.scope x := by first | exact Or.inl rfl | exact Or.inr (Or.inl rfl) | exact Or.inr (Or.inr rfl)) (hd : (x == ("__debug__" : Str)) = false := by decide)
    (hcd : (x == ("__classdict__" : Str)) = false := by decide) : PE X (.Name x pos) (tVar i) := pe_var hN hv hd hcd
/-- len of a dict -/
theorem call_lenD : CallR X (.builtin "len") (fun xs H Q => ∃ a kvs, xs = [V.ref a] ∧ H a = some (.dK kvs) ∧ Q (.int kvs.length) H) := by
  intro pins s σ H xs us Q I r h
  obtain ⟨a, kvs, rfl, ha, q⟩ := h
  obtain ⟨u, rfl, ru⟩ := vals1 r
  cases ru
  exact d_len I (.inl ha) fun t s' I' => ⟨.int kvs.length, H, I', ⟨t, rfl⟩, q⟩
end

/-! ### tests -/
theorem iteF {A B : Prop} (h : B) : if false = true then A else B := by
  rw [if_neg Bool.false_ne_true]
  exact h
theorem iteT {A B : Prop} (h : A) : if true = true then A else B := by
  rw [if_pos rfl]
  exact h
theorem ite2 {c A B : Prop} [Decidable c] (h1 : c → A) (h2 : ¬ c → B) : if c then A else B := by
  by_cases h : c
  · rw [if_pos h]
    exact h1 h
  · rw [if_neg h]
    exact h2 h
theorem iteNS {c A B : Prop} [Decidable c] (hc : c) (h : B) : if (!decide c) = true then A else B := by
  rw [decide_eq_true hc]
  exact iteF h

/-! ### heaps -/
/-- all that was tracked is as it was -/
def Same (H H' : Hp) : Prop := ∀ b o, H b = some o → H' b = some o
theorem Same.refl (H : Hp) : Same H H := fun _ _ h => h
theorem Same.trans {H H1 H2 : Hp} (a : Same H H1) (b : Same H1 H2) : Same H H2 := fun c o h => b c o (a c o h)
theorem Same.free {H H' : Hp} (e : Same H H') {l : Addr} (h : H' l = Option.none) : H l = Option.none := by
  cases q : H l with
  | none => rfl
  | some o =>
    rw [e l o q] at h
    cases h
theorem Same.seq {K : PySem.W.Frag} {H H' : Hp} {a : Addr} {xs : List V} (e : Same H H') (h : SqL K H a xs) : SqL K H' a xs := by
  rcases h with (h | ⟨o, h⟩) | h
  · exact .inl (.inl (e _ _ h))
  · exact .inl (.inr ⟨o, e _ _ h⟩)
  · exact .inr h

/-! ### a dict's pairs: keys that differ -/
section
variable {κ : Type} [DecidableEq κ]
theorem valV_not {kvs : List (κ × V)} {k : κ} (h : valV kvs k = none) : ¬ k ∈ kvs.map (·.1) := by
  intro m
  obtain ⟨p, hp, e⟩ := List.mem_map.mp m
  have q : (kvs.any fun kv => decide (kv.1 = k)) = true := List.any_eq_true.mpr ⟨p, hp, decide_eq_true e⟩
  rw [valV_any, h] at q
  exact absurd q (by simp)
theorem valV_in {kvs : List (κ × V)} {k : κ} {v : V} (h : valV kvs k = some v) : k ∈ kvs.map (·.1) := by
  have q : (kvs.any fun kv => decide (kv.1 = k)) = true := by
    rw [valV_any, h]
    all_goals rfl
  obtain ⟨p, hp, e⟩ := List.any_eq_true.mp q
  exact List.mem_map.mpr ⟨p, hp, of_decide_eq_true e⟩
theorem nd_snoc : ∀ {l : List κ} {k : κ}, l.Nodup → ¬ k ∈ l → (l ++ [k]).Nodup
  | [], k, _, _ => by simp
  | a :: r, k, h, hk => by
    obtain ⟨h1, h2⟩ := List.nodup_cons.mp h
    show (a :: (r ++ [k])).Nodup
    refine List.nodup_cons.mpr ⟨fun m => ?_, nd_snoc h2 fun m => hk (List.mem_cons.mpr (Or.inr m))⟩
    rcases List.mem_append.mp m with q | q
    · exact h1 q
    · exact hk (List.mem_cons.mpr (Or.inl (List.mem_singleton.mp q).symm))
theorem nd_putK {kvs : List (κ × V)} {k : κ} (v : V) (hn : (kvs.map (·.1)).Nodup) (h : valV kvs k = none) : ((putK kvs k v).map (·.1)).Nodup := by
  rw [putK_new v h, List.map_append]
  exact nd_snoc hn (valV_not h)
theorem dropK_pos {p : κ × V} {r : List (κ × V)} {k : κ} (e : p.1 = k) : dropK (p :: r) k = dropK r k := by
  unfold dropK
  rw [List.filter_cons, if_neg (by simp [e])]
theorem dropK_neg {p : κ × V} {r : List (κ × V)} {k : κ} (e : ¬ p.1 = k) : dropK (p :: r) k = p :: dropK r k := by
  unfold dropK
  rw [List.filter_cons, if_pos (by simp [e])]
theorem dropK_no : ∀ {kvs : List (κ × V)} {k : κ}, ¬ k ∈ kvs.map (·.1) → dropK kvs k = kvs
  | [], _, _ => rfl
  | p :: r, k, h => by
    have h' : ¬ k ∈ r.map (·.1) := fun m => by
      obtain ⟨q, hq, e⟩ := List.mem_map.mp m
      exact h (List.mem_map.mpr ⟨q, List.mem_cons.mpr (Or.inr hq), e⟩)
    rw [dropK_neg fun e => h (List.mem_map.mpr ⟨p, List.mem_cons.mpr (Or.inl rfl), e⟩), dropK_no h']
theorem dropK_mem {kvs : List (κ × V)} {k : κ} {p : κ × V} (h : p ∈ dropK kvs k) : p ∈ kvs := (List.mem_filter.mp h).1
theorem nd_dropK : ∀ {kvs : List (κ × V)} {k : κ}, (kvs.map (·.1)).Nodup → ((dropK kvs k).map (·.1)).Nodup
  | [], _, _ => List.nodup_nil
  | p :: r, k, h => by
    have h : (p.1 :: r.map (·.1)).Nodup := h
    obtain ⟨h1, h2⟩ := List.nodup_cons.mp h
    by_cases e : p.1 = k
    · rw [dropK_pos e]
      exact nd_dropK h2
    · rw [dropK_neg e]
      show (p.1 :: (dropK r k).map (·.1)).Nodup
      refine List.nodup_cons.mpr ⟨fun m => h1 ?_, nd_dropK h2⟩
      obtain ⟨q, hq, eq⟩ := List.mem_map.mp m
      exact List.mem_map.mpr ⟨q, dropK_mem hq, eq⟩
theorem dropK_len : ∀ {kvs : List (κ × V)} {k : κ}, (kvs.map (·.1)).Nodup → k ∈ kvs.map (·.1) → (dropK kvs k).length + 1 = kvs.length
  | [], _, _, m => by simp at m
  | p :: r, k, h, m => by
    have h : (p.1 :: r.map (·.1)).Nodup := h
    have m : k = p.1 ∨ k ∈ r.map (·.1) := List.mem_cons.mp m
    obtain ⟨h1, h2⟩ := List.nodup_cons.mp h
    by_cases e : p.1 = k
    · subst e
      rw [dropK_pos rfl, dropK_no h1]
      all_goals rfl
    · have m' : k ∈ r.map (·.1) := m.resolve_left fun z => e z.symm
      have q := dropK_len h2 m'
      rw [dropK_neg e, List.length_cons, List.length_cons]
      omega
end
end L2

set_option maxHeartbeats 4000000
namespace X2
open PySem PySem.Spec PyProof.Rows L2

/-! names that stand in the builtins -/
theorem bt_len : bootBuiltins "len" = some (.builtin "len") := by decide +kernel
theorem bt_divmod : bootBuiltins "divmod" = some (.builtin "divmod") := by decide +kernel
theorem bt_abs : bootBuiltins "abs" = some (.builtin "abs") := by decide +kernel
theorem bt_isinstance : bootBuiltins "isinstance" = some (.builtin "isinstance") := by decide +kernel
theorem bt_list : bootBuiltins "list" = some (.type "list") := by decide +kernel
theorem bt_tuple : bootBuiltins "tuple" = some (.type "tuple") := by decide +kernel
theorem bt_dict : bootBuiltins "dict" = some (.type "dict") := by decide +kernel
theorem bt_int : bootBuiltins "int" = some (.type "int") := by decide +kernel
theorem bt_bool : bootBuiltins "bool" = some (.type "bool") := by decide +kernel
theorem bt_str : bootBuiltins "str" = some (.type "str") := by decide +kernel
theorem bt_range : bootBuiltins "range" = some (.type "range") := by decide +kernel

/-! isinstance -/
section
variable {X : Cx}
theorem call_isi1 : CallR X (.builtin "isinstance") (fun xs H Q => ∃ x T t b, xs = [x, .ty T] ∧ TyOf X.K H x t ∧ PySem.W.kitOne X.K t (.type T) = some b ∧ Q (.bl b) H) := by
  intro pins s σ H xs us Q I r h
  obtain ⟨x, T, t, b, rfl, ty, e, q⟩ := h
  obtain ⟨u, w', rfl, ru, rw'⟩ := vals2 r
  cases (show w' = Value.type T from rw')
  exact isinst_ok I ru ty e fun tk => ⟨.bl b, H, I.tok _, rfl, q⟩
theorem call_isi2 : CallR X (.builtin "isinstance") (fun xs H Q => ∃ x p T1 T2, ∃ t : String, ∃ b, xs = [x, .ref p] ∧ H p = some (.tup [.ty T1, .ty T2]) ∧ TyOf X.K H x (.type t) ∧ PySem.W.kitAny X.K (.type t) [.type T1, .type T2] = some b ∧ Q (.bl b) H) := by
  intro pins s σ H xs us Q I r h
  obtain ⟨x, p, T1, T2, t, b, rfl, hp, ty, e, q⟩ := h
  obtain ⟨u, w', rfl, ru, rw'⟩ := vals2 r
  cases (show w' = Value.ref p from rw')
  obtain ⟨_, its, rel, o, h1, h2, n, h3⟩ := (show ObjOk X.prog X.w H s.heap p (.tup [.ty T1, .ty T2]) from I.hok p _ hp)
  obtain ⟨a1, a2, rfl, e1, e2⟩ := vals2 rel
  cases (show a1 = Value.type T1 from e1)
  cases (show a2 = Value.type T2 from e2)
  obtain ⟨oc, od, odt, osl⟩ := o
  cases (show oc = Value.type "tuple" from h2)
  cases (show odt = _ from h3)
  have fin : ∀ tk, EP X pins σ Q (.bool b) { s with toks := tk } := fun tk => ⟨.bl b, H, I.tok _, rfl, q⟩
  cases ty with
  | non => cases (show u = Value.none from ru); exact PySem.W.kia_tup PySem.W.kitx_none I.kIn True.intro h1 e (fun z => nomatch z) fin
  | bl y => cases (show u = Value.bool y from ru); exact PySem.W.kia_tup PySem.W.kitx_bool I.kIn True.intro h1 e (fun z => nomatch z) fin
  | int i => obtain ⟨t, q⟩ := (show ∃ t, u = Value.int i t from ru); cases q; exact PySem.W.kia_tup PySem.W.kitx_int I.kIn True.intro h1 e (fun z => nomatch z) fin
  | str y => obtain ⟨t, q⟩ := (show ∃ t, u = Value.str y t from ru); cases q; exact PySem.W.kia_tup PySem.W.kitx_str I.kIn True.intro h1 e (fun z => nomatch z) fin
  | flt y => obtain ⟨t, q⟩ := (show ∃ t, u = Value.float y t from ru); cases q; exact PySem.W.kia_tup PySem.W.kitx_float I.kIn True.intro h1 e (fun z => nomatch z) fin
  | @lst a xs ea =>
    cases (show u = Value.ref a from ru)
    obtain ⟨_, _, n, _, g1⟩ := (show ObjOk X.prog X.w H s.heap a (.lst xs) from I.hok a _ ea)
    exact PySem.W.kia_tup PySem.W.kitx_list I.kIn ⟨_, g1, rfl⟩ h1 e (fun z => nomatch z) fin
  | @frz a ob xs ea =>
    cases (show u = Value.ref a from ru)
    obtain ⟨_, _, _, n, _, g1⟩ := (show ObjOk X.prog X.w H s.heap a (.frz ob (.lst xs)) from I.hok a _ ea)
    exact PySem.W.kia_tup PySem.W.kitx_list I.kIn ⟨_, g1, rfl⟩ h1 e (fun z => nomatch z) fin
  | @tup a xs ea =>
    cases (show u = Value.ref a from ru)
    obtain ⟨_, _, _, p⟩ := (show ObjOk X.prog X.w H s.heap a (.tup xs) from I.hok a _ ea)
    obtain ⟨o, g1, g2, _⟩ := p
    exact PySem.W.kia_tup PySem.W.kitx_tuple I.kIn ⟨o, g1, g2⟩ h1 e (fun z => nomatch z) fin
  | @dK a kvs ea =>
    cases (show u = Value.ref a from ru)
    obtain ⟨_, _, vs, _, p⟩ := (show ObjOk X.prog X.w H s.heap a (.dK kvs) from I.hok a _ ea)
    obtain ⟨o, es, ep, g1, g2, _⟩ := p
    exact PySem.W.kia_tup PySem.W.kitx_dict I.kIn ⟨o, g1, g2.1⟩ h1 e (fun z => nomatch z) fin
  | @dT a kvs ea =>
    cases (show u = Value.ref a from ru)
    obtain ⟨_, _, xs, _, o, es, ep, g1, g2, _⟩ := (show ObjOk X.prog X.w H s.heap a (.dT kvs) from I.hok a _ ea)
    exact PySem.W.kia_tup PySem.W.kitx_dict I.kIn ⟨o, g1, g2.1⟩ h1 e (fun z => nomatch z) fin
end

/-! kinds of values, as isinstance sees them -/
section
variable {K : PySem.W.Frag}
theorem kit_NoneType_tuple : PySem.W.kitOne K (.type "NoneType") (.type "tuple") = some false := by
  show (if (Value.type "NoneType" == Value.type "tuple") = true then some true else if PySem.W.kitMeta "tuple" = true then (fastBuiltinMro "NoneType").map (·.contains (Value.type "tuple")) else none) = some false
  decide +kernel
theorem kit_NoneType_list : PySem.W.kitOne K (.type "NoneType") (.type "list") = some false := by
  show (if (Value.type "NoneType" == Value.type "list") = true then some true else if PySem.W.kitMeta "list" = true then (fastBuiltinMro "NoneType").map (·.contains (Value.type "list")) else none) = some false
  decide +kernel
theorem kit_NoneType_bool : PySem.W.kitOne K (.type "NoneType") (.type "bool") = some false := by
  show (if (Value.type "NoneType" == Value.type "bool") = true then some true else if PySem.W.kitMeta "bool" = true then (fastBuiltinMro "NoneType").map (·.contains (Value.type "bool")) else none) = some false
  decide +kernel
theorem kit_NoneType_int : PySem.W.kitOne K (.type "NoneType") (.type "int") = some false := by
  show (if (Value.type "NoneType" == Value.type "int") = true then some true else if PySem.W.kitMeta "int" = true then (fastBuiltinMro "NoneType").map (·.contains (Value.type "int")) else none) = some false
  decide +kernel
theorem kit_NoneType_str : PySem.W.kitOne K (.type "NoneType") (.type "str") = some false := by
  show (if (Value.type "NoneType" == Value.type "str") = true then some true else if PySem.W.kitMeta "str" = true then (fastBuiltinMro "NoneType").map (·.contains (Value.type "str")) else none) = some false
  decide +kernel
theorem kit_NoneType_tl : PySem.W.kitAny K (.type "NoneType") [.type "tuple", .type "list"] = some false := by
  simp only [PySem.W.kitAny, kit_NoneType_tuple, kit_NoneType_list]
theorem kit_bool_tuple : PySem.W.kitOne K (.type "bool") (.type "tuple") = some false := by
  show (if (Value.type "bool" == Value.type "tuple") = true then some true else if PySem.W.kitMeta "tuple" = true then (fastBuiltinMro "bool").map (·.contains (Value.type "tuple")) else none) = some false
  decide +kernel
theorem kit_bool_list : PySem.W.kitOne K (.type "bool") (.type "list") = some false := by
  show (if (Value.type "bool" == Value.type "list") = true then some true else if PySem.W.kitMeta "list" = true then (fastBuiltinMro "bool").map (·.contains (Value.type "list")) else none) = some false
  decide +kernel
theorem kit_bool_bool : PySem.W.kitOne K (.type "bool") (.type "bool") = some true := by
  show (if (Value.type "bool" == Value.type "bool") = true then some true else if PySem.W.kitMeta "bool" = true then (fastBuiltinMro "bool").map (·.contains (Value.type "bool")) else none) = some true
  decide +kernel
theorem kit_bool_int : PySem.W.kitOne K (.type "bool") (.type "int") = some true := by
  show (if (Value.type "bool" == Value.type "int") = true then some true else if PySem.W.kitMeta "int" = true then (fastBuiltinMro "bool").map (·.contains (Value.type "int")) else none) = some true
  decide +kernel
theorem kit_bool_str : PySem.W.kitOne K (.type "bool") (.type "str") = some false := by
  show (if (Value.type "bool" == Value.type "str") = true then some true else if PySem.W.kitMeta "str" = true then (fastBuiltinMro "bool").map (·.contains (Value.type "str")) else none) = some false
  decide +kernel
theorem kit_bool_tl : PySem.W.kitAny K (.type "bool") [.type "tuple", .type "list"] = some false := by
  simp only [PySem.W.kitAny, kit_bool_tuple, kit_bool_list]
theorem kit_int_tuple : PySem.W.kitOne K (.type "int") (.type "tuple") = some false := by
  show (if (Value.type "int" == Value.type "tuple") = true then some true else if PySem.W.kitMeta "tuple" = true then (fastBuiltinMro "int").map (·.contains (Value.type "tuple")) else none) = some false
  decide +kernel
theorem kit_int_list : PySem.W.kitOne K (.type "int") (.type "list") = some false := by
  show (if (Value.type "int" == Value.type "list") = true then some true else if PySem.W.kitMeta "list" = true then (fastBuiltinMro "int").map (·.contains (Value.type "list")) else none) = some false
  decide +kernel
theorem kit_int_bool : PySem.W.kitOne K (.type "int") (.type "bool") = some false := by
  show (if (Value.type "int" == Value.type "bool") = true then some true else if PySem.W.kitMeta "bool" = true then (fastBuiltinMro "int").map (·.contains (Value.type "bool")) else none) = some false
  decide +kernel
theorem kit_int_int : PySem.W.kitOne K (.type "int") (.type "int") = some true := by
  show (if (Value.type "int" == Value.type "int") = true then some true else if PySem.W.kitMeta "int" = true then (fastBuiltinMro "int").map (·.contains (Value.type "int")) else none) = some true
  decide +kernel
theorem kit_int_str : PySem.W.kitOne K (.type "int") (.type "str") = some false := by
  show (if (Value.type "int" == Value.type "str") = true then some true else if PySem.W.kitMeta "str" = true then (fastBuiltinMro "int").map (·.contains (Value.type "str")) else none) = some false
  decide +kernel
theorem kit_int_tl : PySem.W.kitAny K (.type "int") [.type "tuple", .type "list"] = some false := by
  simp only [PySem.W.kitAny, kit_int_tuple, kit_int_list]
theorem kit_str_tuple : PySem.W.kitOne K (.type "str") (.type "tuple") = some false := by
  show (if (Value.type "str" == Value.type "tuple") = true then some true else if PySem.W.kitMeta "tuple" = true then (fastBuiltinMro "str").map (·.contains (Value.type "tuple")) else none) = some false
  decide +kernel
theorem kit_str_list : PySem.W.kitOne K (.type "str") (.type "list") = some false := by
  show (if (Value.type "str" == Value.type "list") = true then some true else if PySem.W.kitMeta "list" = true then (fastBuiltinMro "str").map (·.contains (Value.type "list")) else none) = some false
  decide +kernel
theorem kit_str_bool : PySem.W.kitOne K (.type "str") (.type "bool") = some false := by
  show (if (Value.type "str" == Value.type "bool") = true then some true else if PySem.W.kitMeta "bool" = true then (fastBuiltinMro "str").map (·.contains (Value.type "bool")) else none) = some false
  decide +kernel
theorem kit_str_int : PySem.W.kitOne K (.type "str") (.type "int") = some false := by
  show (if (Value.type "str" == Value.type "int") = true then some true else if PySem.W.kitMeta "int" = true then (fastBuiltinMro "str").map (·.contains (Value.type "int")) else none) = some false
  decide +kernel
theorem kit_str_str : PySem.W.kitOne K (.type "str") (.type "str") = some true := by
  show (if (Value.type "str" == Value.type "str") = true then some true else if PySem.W.kitMeta "str" = true then (fastBuiltinMro "str").map (·.contains (Value.type "str")) else none) = some true
  decide +kernel
theorem kit_str_tl : PySem.W.kitAny K (.type "str") [.type "tuple", .type "list"] = some false := by
  simp only [PySem.W.kitAny, kit_str_tuple, kit_str_list]
theorem kit_list_tuple : PySem.W.kitOne K (.type "list") (.type "tuple") = some false := by
  show (if (Value.type "list" == Value.type "tuple") = true then some true else if PySem.W.kitMeta "tuple" = true then (fastBuiltinMro "list").map (·.contains (Value.type "tuple")) else none) = some false
  decide +kernel
theorem kit_list_list : PySem.W.kitOne K (.type "list") (.type "list") = some true := by
  show (if (Value.type "list" == Value.type "list") = true then some true else if PySem.W.kitMeta "list" = true then (fastBuiltinMro "list").map (·.contains (Value.type "list")) else none) = some true
  decide +kernel
theorem kit_list_bool : PySem.W.kitOne K (.type "list") (.type "bool") = some false := by
  show (if (Value.type "list" == Value.type "bool") = true then some true else if PySem.W.kitMeta "bool" = true then (fastBuiltinMro "list").map (·.contains (Value.type "bool")) else none) = some false
  decide +kernel
theorem kit_list_int : PySem.W.kitOne K (.type "list") (.type "int") = some false := by
  show (if (Value.type "list" == Value.type "int") = true then some true else if PySem.W.kitMeta "int" = true then (fastBuiltinMro "list").map (·.contains (Value.type "int")) else none) = some false
  decide +kernel
theorem kit_list_str : PySem.W.kitOne K (.type "list") (.type "str") = some false := by
  show (if (Value.type "list" == Value.type "str") = true then some true else if PySem.W.kitMeta "str" = true then (fastBuiltinMro "list").map (·.contains (Value.type "str")) else none) = some false
  decide +kernel
theorem kit_list_tl : PySem.W.kitAny K (.type "list") [.type "tuple", .type "list"] = some true := by
  simp only [PySem.W.kitAny, kit_list_tuple, kit_list_list]
theorem kit_tuple_tuple : PySem.W.kitOne K (.type "tuple") (.type "tuple") = some true := by
  show (if (Value.type "tuple" == Value.type "tuple") = true then some true else if PySem.W.kitMeta "tuple" = true then (fastBuiltinMro "tuple").map (·.contains (Value.type "tuple")) else none) = some true
  decide +kernel
theorem kit_tuple_list : PySem.W.kitOne K (.type "tuple") (.type "list") = some false := by
  show (if (Value.type "tuple" == Value.type "list") = true then some true else if PySem.W.kitMeta "list" = true then (fastBuiltinMro "tuple").map (·.contains (Value.type "list")) else none) = some false
  decide +kernel
theorem kit_tuple_bool : PySem.W.kitOne K (.type "tuple") (.type "bool") = some false := by
  show (if (Value.type "tuple" == Value.type "bool") = true then some true else if PySem.W.kitMeta "bool" = true then (fastBuiltinMro "tuple").map (·.contains (Value.type "bool")) else none) = some false
  decide +kernel
theorem kit_tuple_int : PySem.W.kitOne K (.type "tuple") (.type "int") = some false := by
  show (if (Value.type "tuple" == Value.type "int") = true then some true else if PySem.W.kitMeta "int" = true then (fastBuiltinMro "tuple").map (·.contains (Value.type "int")) else none) = some false
  decide +kernel
theorem kit_tuple_str : PySem.W.kitOne K (.type "tuple") (.type "str") = some false := by
  show (if (Value.type "tuple" == Value.type "str") = true then some true else if PySem.W.kitMeta "str" = true then (fastBuiltinMro "tuple").map (·.contains (Value.type "str")) else none) = some false
  decide +kernel
theorem kit_tuple_tl : PySem.W.kitAny K (.type "tuple") [.type "tuple", .type "list"] = some true := by
  simp only [PySem.W.kitAny, kit_tuple_tuple, kit_tuple_list]
theorem kit_dict_tuple : PySem.W.kitOne K (.type "dict") (.type "tuple") = some false := by
  show (if (Value.type "dict" == Value.type "tuple") = true then some true else if PySem.W.kitMeta "tuple" = true then (fastBuiltinMro "dict").map (·.contains (Value.type "tuple")) else none) = some false
  decide +kernel
theorem kit_dict_list : PySem.W.kitOne K (.type "dict") (.type "list") = some false := by
  show (if (Value.type "dict" == Value.type "list") = true then some true else if PySem.W.kitMeta "list" = true then (fastBuiltinMro "dict").map (·.contains (Value.type "list")) else none) = some false
  decide +kernel
theorem kit_dict_bool : PySem.W.kitOne K (.type "dict") (.type "bool") = some false := by
  show (if (Value.type "dict" == Value.type "bool") = true then some true else if PySem.W.kitMeta "bool" = true then (fastBuiltinMro "dict").map (·.contains (Value.type "bool")) else none) = some false
  decide +kernel
theorem kit_dict_int : PySem.W.kitOne K (.type "dict") (.type "int") = some false := by
  show (if (Value.type "dict" == Value.type "int") = true then some true else if PySem.W.kitMeta "int" = true then (fastBuiltinMro "dict").map (·.contains (Value.type "int")) else none) = some false
  decide +kernel
theorem kit_dict_str : PySem.W.kitOne K (.type "dict") (.type "str") = some false := by
  show (if (Value.type "dict" == Value.type "str") = true then some true else if PySem.W.kitMeta "str" = true then (fastBuiltinMro "dict").map (·.contains (Value.type "str")) else none) = some false
  decide +kernel
theorem kit_dict_tl : PySem.W.kitAny K (.type "dict") [.type "tuple", .type "list"] = some false := by
  simp only [PySem.W.kitAny, kit_dict_tuple, kit_dict_list]
end
end X2

set_option maxHeartbeats 4000000
namespace X2
open PySem PySem.Spec PyProof.Rows L2
/-! data without addresses, and how the heap bears them -/
inductive Dt where
  | non | bl (b : Bool) | int (i : Int) | str (x : Str) | tup (ds : List Dt) | lst (ds : List Dt)
inductive Rep (H : Hp) : V → Dt → Prop where
  | non : Rep H .non .non
  | bl (b : Bool) : Rep H (.bl b) (.bl b)
  | int (i : Int) : Rep H (.int i) (.int i)
  | str (x : Str) : Rep H (.str x) (.str x)
  | tup {a : Addr} {xs : List V} {ds : List Dt} (e : H a = some (.tup xs)) (l : xs.length = ds.length) (r : ∀ (i : Nat) x d, xs[i]? = some x → ds[i]? = some d → Rep H x d) : Rep H (.ref a) (.tup ds)
  | lst {a : Addr} {xs : List V} {ds : List Dt} (e : H a = some (.lst xs)) (l : xs.length = ds.length) (r : ∀ (i : Nat) x d, xs[i]? = some x → ds[i]? = some d → Rep H x d) : Rep H (.ref a) (.lst ds)
theorem Rep.mono {H H' : Hp} (s : Same H H') {v : V} {d : Dt} (r : Rep H v d) : Rep H' v d := by
  induction r with
  | non => exact .non
  | bl b => exact .bl b
  | int i => exact .int i
  | str x => exact .str x
  | tup e l r ih => exact .tup (s _ _ e) l ih
  | lst e l r ih => exact .lst (s _ _ e) l ih
/-- how deep -/
inductive Dp : Nat → Dt → Prop where
  | non (n) : Dp (n + 1) .non
  | bl (n b) : Dp (n + 1) (.bl b)
  | int (n i) : Dp (n + 1) (.int i)
  | str (n x) : Dp (n + 1) (.str x)
  | tup {n ds} (l : ds.length ≤ 100000) (h : ∀ d ∈ ds, Dp n d) : Dp (n + 1) (.tup ds)
  | lst {n ds} (l : ds.length ≤ 100000) (h : ∀ d ∈ ds, Dp n d) : Dp (n + 1) (.lst ds)
def tyN : Dt → String
  | .non => "NoneType" | .bl _ => "bool" | .int _ => "int" | .str _ => "str" | .tup _ => "tuple" | .lst _ => "list"
def isTup : Dt → Bool | .tup _ => true | _ => false
def isLst : Dt → Bool | .lst _ => true | _ => false
def isBl : Dt → Bool | .bl _ => true | _ => false
def isInt : Dt → Bool | .int _ => true | .bl _ => true | _ => false
def isStr : Dt → Bool | .str _ => true | _ => false
section
variable {K : PySem.W.Frag} {H : Hp} {x : V} {d : Dt}
theorem Rep.ty (r : Rep H x d) : TyOf K H x (.type (tyN d)) := by
  cases r with
  | non => exact .non
  | bl b => exact .bl b
  | int i => exact .int i
  | str x => exact .str x
  | tup e l r => exact .tup e
  | lst e l r => exact .lst e
theorem kd_tl (d : Dt) : PySem.W.kitAny K (.type (tyN d)) [.type "tuple", .type "list"] = some (isTup d || isLst d) := by
  cases d with
  | non => exact kit_NoneType_tl
  | bl b => exact kit_bool_tl
  | int i => exact kit_int_tl
  | str x => exact kit_str_tl
  | tup ds => exact kit_tuple_tl
  | lst ds => exact kit_list_tl
theorem kd_tuple (d : Dt) : PySem.W.kitOne K (.type (tyN d)) (.type "tuple") = some (isTup d) := by
  cases d with
  | non => exact kit_NoneType_tuple
  | bl b => exact kit_bool_tuple
  | int i => exact kit_int_tuple
  | str x => exact kit_str_tuple
  | tup ds => exact kit_tuple_tuple
  | lst ds => exact kit_list_tuple
theorem kd_list (d : Dt) : PySem.W.kitOne K (.type (tyN d)) (.type "list") = some (isLst d) := by
  cases d with
  | non => exact kit_NoneType_list
  | bl b => exact kit_bool_list
  | int i => exact kit_int_list
  | str x => exact kit_str_list
  | tup ds => exact kit_tuple_list
  | lst ds => exact kit_list_list
theorem kd_bool (d : Dt) : PySem.W.kitOne K (.type (tyN d)) (.type "bool") = some (isBl d) := by
  cases d with
  | non => exact kit_NoneType_bool
  | bl b => exact kit_bool_bool
  | int i => exact kit_int_bool
  | str x => exact kit_str_bool
  | tup ds => exact kit_tuple_bool
  | lst ds => exact kit_list_bool
theorem kd_int (d : Dt) : PySem.W.kitOne K (.type (tyN d)) (.type "int") = some (isInt d) := by
  cases d with
  | non => exact kit_NoneType_int
  | bl b => exact kit_bool_int
  | int i => exact kit_int_int
  | str x => exact kit_str_int
  | tup ds => exact kit_tuple_int
  | lst ds => exact kit_list_int
theorem kd_str (d : Dt) : PySem.W.kitOne K (.type (tyN d)) (.type "str") = some (isStr d) := by
  cases d with
  | non => exact kit_NoneType_str
  | bl b => exact kit_bool_str
  | int i => exact kit_int_str
  | str x => exact kit_str_str
  | tup ds => exact kit_tuple_str
  | lst ds => exact kit_list_str
end
theorem same_new {H : Hp} {p : Addr} (h : H p = none) (o : HO) : Same H (upd H p o) := fun b u q => by rw [upd_ne (ne_of_none q h)]; exact q
/-- an address that was free may change -/
theorem _root_.L2.Same.put {H H' : Hp} (s : Same H H') {p : Addr} (h : H p = none) (o : HO) : Same H (upd H' p o) := fun b u q => by rw [upd_ne (ne_of_none q h)]; exact s b u q
theorem _root_.L2.Same.new {H H' : Hp} (s : Same H H') {p : Addr} (h : H' p = none) (o : HO) : Same H (upd H' p o) := s.put (s.free h) o

/-! the draws -/
def Bd (ds : List Int) : Prop := ∀ d ∈ ds, 0 ≤ d ∧ d < 1013
theorem Bd.nil : Bd [] := fun _ h => nomatch h
theorem Bd.snoc {ds : List Int} {d : Int} (h : Bd ds) (h0 : 0 ≤ d) (h1 : d < 1013) : Bd (ds ++ [d]) := fun x m => by
  rcases List.mem_append.mp m with q | q
  · exact h x q
  · rw [List.mem_singleton] at q; subst q; exact ⟨h0, h1⟩
theorem Bd.at {ds : List Int} (h : Bd ds) {i : Nat} (hi : i < ds.length) : ∃ d, atI (ds.map V.int) (i : Int) = some (.int d) ∧ 0 ≤ d ∧ d < 1013 := by
  refine ⟨ds[i], atI_nat (by rw [List.getElem?_map, List.getElem?_eq_getElem hi] <;> rfl), ?_⟩
  exact h _ (List.getElem_mem hi)
def spDraws (K : PySem.W.Frag) : Sp := fun vs H Q _ => ∃ (a : Addr) (ns : List Int) (j : Int) (m : Nat), vs = [.ref a, .int j, .int m] ∧ SqL K H a (ns.map V.int) ∧ ns.length ≤ 63 ∧ 0 ≤ j ∧ j ≤ 1000 ∧ m ≤ 100 ∧
  ∀ (r : Addr) (ds : List Int) (H' : Hp), Same H H' → H r = none → H' r = some (.lst (ds.map V.int)) → ds.length = m → Bd ds → Q (.ref r) H'
/-- two data, are they the same -/
def spSame (n : Nat) : Sp := fun vs H Q _ => ∃ (x y : V) (d e : Dt), vs = [x, y] ∧ Rep H x d ∧ Rep H y e ∧ Dp n e ∧
  ∀ (b : Bool) (H' : Hp), (b = true ↔ d = e) → Same H H' → Q (.bl b) H'
def spLaw (K : PySem.W.Frag) : Sp := fun vs H Q _ => ∃ (a : Addr) (ns : List Int), vs = [.ref a] ∧ SqL K H a (ns.map V.int) ∧ ns.length ≤ 63 ∧ ∀ H', Q (.bl true) H'
theorem small {n : Nat} (h : n ≤ 1000) : n ≤ sizeLine := Nat.le_of_lt (small1000 h)
/-- an item of a written list at a place in it -/
theorem pick {xs : List V} {i : Int} (h0 : 0 ≤ i) (h1 : i < xs.length) : ∃ v, atI xs i = some v ∧ v ∈ xs := by
  obtain ⟨k, rfl⟩ := Int.eq_ofNat_of_zero_le h0
  have hk : k < xs.length := by omega
  exact ⟨xs[k], atI_nat (List.getElem?_eq_getElem hk), List.getElem_mem hk⟩
/-- a part of a body by a word of one's own -/
theorem pss_cut {X : Cx} {sts : List Stmt} {t R : TS} (h : PSs X sts t) (hr : ∀ D σ H, R D σ H → t D σ H) : PSs X sts R := fun pins s σ H D I q => h pins s σ H D I (hr D σ H q)
theorem iteP {c A B : Prop} [Decidable c] (h : c) (a : A) : if c then A else B := by rw [if_pos h]; exact a
theorem iteN {c A B : Prop} [Decidable c] (h : ¬ c) (b : B) : if c then A else B := by rw [if_neg h]; exact b
def isI : V → Bool | .int _ => true | _ => false
theorem pickI {xs : List V} {i : Int} (hx : xs.all isI = true) (h0 : 0 ≤ i) (h1 : i < xs.length) : ∃ z, atI xs i = some (.int z) ∧ V.int z ∈ xs := by
  obtain ⟨v, e, m⟩ := pick h0 h1
  have q := List.all_eq_true.mp hx v m
  cases v with
  | int z => exact ⟨z, e, m⟩
  | _ => cases q
theorem none_same {P : Program} {w : World} {K : PySem.W.Frag} {mg : Str → Option Value} {base : Heap} {f : Addr} {fd : FuncData} {ps : List Str} : FnOk P w K mg base CX0 0 f fd ps (spSame 0) := by
  have no : ∀ vs H Q E, ¬ spSame 0 vs H Q E := fun vs H Q E h => by
    obtain ⟨x, y, d, e, _, _, _, dp, _⟩ := h
    cases dp
  exact ⟨fun vs H Q E h => absurd h (no vs H Q E), fun A outer s H args us vs Q E _ _ _ _ h => absurd h (no vs H Q E)⟩
end X2

set_option maxHeartbeats 4000000
namespace X2
open PySem PySem.Spec PyProof.Rows L2
/-! ranges of any size -/
theorem turn_far {P : Program} {w : World} {K : PySem.W.Frag} {tg : Expr} (it : Addr) (lo : Int) (n : Nat) : Turn P w K tg (Itr lo n) [it] it (fun i h => IsLongIter h it (lo + (i : Nat) * 1) ((n : Int) - (i : Nat)) 1) where
  mem := List.mem_singleton.mpr rfl
  obj := fun i h st b hb => by
    cases List.mem_singleton.mp hb
    refine ⟨_, st, fun v z => ?_⟩
    have z' : Data.fields _ = Data.cell v := z
    cases z'
  keep := fun i h h' st k => k it (List.mem_singleton.mpr rfl) _ st
  item := by
    intro X hP hw hK hc i pins s σ H E I hf st hg
    subst hP hw hK
    obtain ⟨f0, f1, f2, f3, f4, f5⟩ := hf it (List.mem_singleton.mpr rfl)
    refine (Walks.longrange (prog := X.prog) (w := X.w) (I.ok.hd hc) it lo 1 n).item i s _ _ hg st fun v h' tk hv st' kk => ?_
    obtain ⟨t, rfl⟩ := hv
    have J : Inv X pins σ H { s with heap := h', toks := tk } := I.turned (fun b o hb e => kk b o (fun z => hb (List.mem_singleton.mp z)) e) f0 f1 f3 f4 f5
    refine ⟨_, rfl, go_of (s := { s with heap := h', toks := tk }) (n := "longrange_iterator") st' rfl rfl (by decide) ⟨.int (lo + i), H, J, ⟨t, ?_⟩, ⟨rfl, rfl⟩, st', fun b hb => (hf b hb).1⟩⟩
    rw [Int.mul_one]
  done := by
    intro X hP hw hK hc i pins s σ H E I hf st hg
    subst hP hw hK
    obtain ⟨f0, f1, f2, f3, f4, f5⟩ := hf it (List.mem_singleton.mpr rfl)
    have le : n ≤ i := hg
    refine wpAny_pyNext_long_end (I.ok.hd hc) st (by omega) fun h' eb => ⟨rfl, ?_⟩
    exact I.turned (t' := s.toks) (fun b o hb e => eb b o hb e) f0 f1 f3 f4 f5
  self := fun _ _ _ _ _ st h => wpAny_pyIter_longiter st h
section
variable {X : Cx} {tg : Expr}
theorem size_eq (lo hi : Int) : (((hi - lo).toNat : Nat) : Int) = Builtin.Range.rangeSize lo hi 1 := by rw [rangeSize_one]; split <;> omega
theorem range_any {pins : List (Addr × Obj)} {σ : L2.St} {H : Hp} {s : Shared} {R : It → Hp → Prop} {E : Value → Shared → Prop} {lo hi : Int} {t u v : Tok} {tk : Nat} (I : Inv X pins σ H s)
    (q : R (Itr lo (hi - lo).toNat) H) : wpAny (model X.prog X.w) X.A (pyIter (.ref s.heap.objs.size)) (PIE X pins σ tg R) E { s with heap := s.heap.push { cls := .type "range", data := .fields #[.int lo t, .int hi u, .int 1 v] }, toks := tk } := by
  have J : Inv X pins σ H { s with heap := s.heap.push { cls := .type "range", data := .fields #[.int lo t, .int hi u, .int 1 v] }, toks := tk } := I.kept fun b o e => Heap.get?_push_of_some _ e
  have e1 : lo + ((0 : Nat) : Int) * 1 = lo := by omega
  have e2 : (((hi - lo).toNat : Nat) : Int) - ((0 : Nat) : Int) = Builtin.Range.rangeSize lo hi 1 := by rw [← size_eq]; omega
  cases sm : Builtin.Range.small lo hi 1 with
  | true =>
    refine wpAny_pyIter_range (IsRange.new ..) sm ⟨_, [_], _, _, H, rfl, J.kept (t' := tk) fun b o e => Heap.get?_push_of_some _ e, turn_range _ lo (hi - lo).toNat, ?_, fun b hb => ?_, q⟩
    · show IsRangeIter _ _ (lo + ((0 : Nat) : Int) * 1) ((((hi - lo).toNat : Nat) : Int) - ((0 : Nat) : Int)) 1
      rw [e1, e2]
      exact Heap.get?_push_size _ rfl
    · cases List.mem_singleton.mp hb
      exact J.fpOk (Nat.le_refl _) (J.hok.fresh (Nat.le_refl _))
  | false =>
    refine wpAny_pyIter_longrange (IsRange.new ..) sm ⟨_, [_], _, _, H, rfl, J.kept (t' := tk) fun b o e => Heap.get?_push_of_some _ e, turn_far _ lo (hi - lo).toNat, ?_, fun b hb => ?_, q⟩
    · show IsLongIter _ _ (lo + ((0 : Nat) : Int) * 1) ((((hi - lo).toNat : Nat) : Int) - ((0 : Nat) : Int)) 1
      rw [e1, e2]
      exact Heap.get?_push_size _ rfl
    · cases List.mem_singleton.mp hb
      exact J.fpOk (Nat.le_refl _) (J.hok.fresh (Nat.le_refl _))
def iRngB (ta : TA) : TI := fun σ H R => ta σ H fun vs H1 => ∃ i j : Int, vs = [.int i, .int j] ∧ R (Itr i (j - i).toNat) H1
theorem pi_rangeB {a b : Expr} {ta : TA} {p pos : Pos} (hg : Gl X "range") (hm : X.mg "range" = none) (ha : PA X [a, b] ta) (hs : starEach [a, b] X.env = [(false, eval a X.env), (false, eval b X.env)] := by rfl) (hs2 : starEach [b] X.env = [(false, eval b X.env)] := by rfl) :
    PI X tg (.Call (.Name "range" p) [a, b] [] pos) (iRngB ta) := by
  intro pins s σ H R I h
  refine Call_ (ld_blt I hg hm bt_range (PyProof.Rows.callWith_type1 (thn (ha pos pins s σ H _ I h) fun us s1 ⟨vs, H1, J, r1, i, j, e, q⟩ => ?_) (by rw [hs, hs2]) (by rw [hs2]; rfl)))
  subst e
  obtain ⟨u1, u2, rfl, ⟨t, rfl⟩, ⟨t', rfl⟩⟩ := vals2 r1
  exact call_range_2 (range_any J q)
/-- a range as a value -/
theorem call_rng : CallR X (.type "range") (fun xs H Q => ∃ i j : Int, xs = [.int i, .int j] ∧ ∀ p, H p = none → Q (.ref p) (upd H p (.rng i j))) := by
  intro pins s σ H xs us Q I r h
  obtain ⟨i, j, rfl, q⟩ := h
  obtain ⟨u1, u2, rfl, ⟨t, rfl⟩, ⟨t', rfl⟩⟩ := vals2 r
  refine call_range_2 ⟨.ref s.heap.objs.size, _, I.laid (t' := s.toks + 1) (fun b o e => Heap.get?_push_of_some _ e) (Nat.le_refl _) ?_, rfl, q _ (I.hok.fresh (Nat.le_refl _))⟩
  show ObjOk X.prog X.w _ _ _ (.rng i j)
  exact ⟨t, t', s.toks, Heap.get?_push_size _ rfl⟩
end

/-! list(range(..)) where the numbers are great -/
section
variable {prog : Program} {w : World} {A : Around} {E : Value → Shared → Prop} {s : Shared}
theorem far_extend {R : Result → Shared → Prop} {rg : Addr} {lo hi st : Int} {t u v : Tok} {n : Nat} (hh : A.handled = none) (hr : IsRange s.heap rg lo hi st t u v) (hbig : Builtin.Range.small lo hi st = false)
    (hn : Builtin.Range.rangeSize lo hi st = n) (hlen : n ≤ 2 ^ 24) (lst : Addr) (res : Value) (cap : Nat) (hS : s.heap.get? lst = some { cls := .type "list", data := .seq #[] cap })
    (hR : ∀ h' tk its cap', (∀ b o, b ≠ lst → s.heap.get? b = some o → h'.get? b = some o) → h'.get? lst = some { cls := .type "list", dict := none, data := .seq its cap', slots := #[] } →
      ItemsOf (fun i v => ∃ t, v = .int (lo + i * st) t) its n → R (.ok (.ret res)) { s with heap := h', toks := tk }) :
    wpAny (model prog w) A.in1 (Builtin.List.listExtendWith (.ref lst) (.ref rg) res)
      (fun fin s' => match fin with | .done f => R (.ok f) s' | .again c' => c'.quiet = true ∧ codeAny (model prog w) A c' R s') (fun e s' => R (.error e) s') s := by
  have apart : lst ≠ rg := fun e => by rw [e, hr] at hS; simp at hS
  have low : lst < s.heap.objs.size := Heap.lt_size hS
  have lowne : lst ≠ s.heap.objs.size := Nat.ne_of_lt low
  have notin : lst ∉ [s.heap.objs.size] := fun hm => lowne (List.mem_singleton.mp hm)
  have Wk := (Walks.longrange (prog := prog) (w := w) (A := A.in1) hh s.heap.objs.size lo st n).toS
  have loop : ∀ (h : Heap) (cp tk : Nat), IsLongIter h s.heap.objs.size (lo + ((0 : Nat) : Int) * st) ((n : Int) - ((0 : Nat) : Int)) st → (∀ b o, b ≠ lst → s.heap.get? b = some o → h.get? b = some o) →
      h.get? lst = some { cls := .type "list", data := .seq #[] cp } → codeAny (model prog w) A (.builtin "list.extend.loop" ⟨[.ref lst, .ref s.heap.objs.size, res], []⟩) R { s with heap := h, toks := tk } := by
    intro h cp tk hit hk hS₁
    refine codeAny_extend_loopS Wk (by rw [sizeLine_eq]; omega) lst notin res n 0 _ #[] cp rfl (Nat.zero_le _) hit hS₁ (ItemsOf.nil _) fun s' its cap' hm hS' hacc => ?_
    rw [Moved.eq_with hm]
    refine hR s'.heap s'.toks its cap' (fun b o hb e => hm.heap b o (fun hmem => ?_) (hk b o hb e)) hS' hacc
    rcases List.mem_cons.mp hmem with z | z
    · exact hb z
    · have q := Heap.lt_size e
      rw [List.mem_singleton.mp z] at q
      exact Nat.lt_irrefl _ q
  unfold Builtin.List.listExtendWith
  refine wpAny_bind (wpAny_typeOf (T := "range") ⟨_, hr, rfl⟩ ?_)
  have d1 : Builtin.List.listSameRef (.ref lst) (.ref rg) = false := by simp [Builtin.List.listSameRef, apart]
  have d2 : (Value.type "range" == Value.type "list") = false := by decide
  have d3 : (Value.type "range" == Value.type "tuple") = false := by decide
  simp only [d1, d2, d3, Bool.or_false, Bool.false_eq_true, if_false]
  refine wpAny_bind (wpAny_pyIter_longrange hr hbig ?_)
  refine wpAny_bind (wpAny_holding (wpAny_hint_range (n := n) (Heap.get?_push_of_some _ hr) hn hlen ?_))
  have it1 : IsLongIter (s.heap.push { cls := .type "longrange_iterator", data := .fields #[rawInt lo, rawInt (Builtin.Range.rangeSize lo hi st), rawInt st] }) s.heap.objs.size (lo + ((0 : Nat) : Int) * st) ((n : Int) - ((0 : Nat) : Int)) st := by
    show IsLongIter _ _ _ _ _
    rw [hn]
    simpa using Heap.get?_push_size _ rfl
  have l1 := Heap.get?_push_of_some { cls := .type "longrange_iterator", data := .fields #[rawInt lo, rawInt (Builtin.Range.rangeSize lo hi st), rawInt st] } hS
  refine wpAny_ite_split (fun _ => ?_) (fun _ => wpAny_pure ⟨plainId_quiet F.plain_extend_loop _, loop _ cap _ it1 (fun b o _ e => Heap.get?_push_of_some _ e) l1⟩)
  refine wpAny_bind (wpAny_rule ?_)
  refine wpAny_bind ?_
  show wpAny _ _ (updateSeq lst (·.push .none) >>= fun _ => updateSeq lst (·.pop)) _ _ _
  refine wpAny_bind (wpAny_updateSeq l1 rfl ?_)
  have l2 := Heap.get?_update_self (Obj.mapSeq (·.push Value.none)) l1 rfl
  refine wpAny_updateSeq (hz := by seq_fits) l2 rfl ?_
  have l3 := Heap.get?_update_self (Obj.mapSeq (·.pop)) l2 rfl
  refine wpAny_pure ⟨plainId_quiet F.plain_extend_loop _, loop _ _ _ ?_ (fun b o hb e => ?_) l3⟩
  · exact (Heap.get?_update_other _ _ lowne).trans ((Heap.get?_update_other _ _ lowne).trans it1)
  · refine (Heap.get?_update_other _ _ (Ne.symm hb)).trans ?_
    exact (Heap.get?_update_other _ _ (Ne.symm hb)).trans (Heap.get?_push_of_some _ e)
theorem far_init {R : Result → Shared → Prop} {rg : Addr} {lo hi st : Int} {t u v : Tok} {n : Nat} (hh : A.handled = none) (hr : IsRange s.heap rg lo hi st t u v) (hbig : Builtin.Range.small lo hi st = false)
    (hn : Builtin.Range.rangeSize lo hi st = n) (hlen : n ≤ 2 ^ 24) (lst : Addr) (hS : s.heap.get? lst = some { cls := .type "list", data := .seq #[] })
    (hR : ∀ h' tk its cap', (∀ b o, b ≠ lst → s.heap.get? b = some o → h'.get? b = some o) → h'.get? lst = some { cls := .type "list", dict := none, data := .seq its cap', slots := #[] } →
      ItemsOf (fun i v => ∃ t, v = .int (lo + i * st) t) its n → R (.ok (.ret .none)) { s with heap := h', toks := tk }) :
    wpAny (model prog w) A.in1 (Builtin.«list.__init__» ⟨[.ref lst, .ref rg], []⟩)
      (fun fin s' => match fin with | .done f => R (.ok f) s' | .again c' => c'.quiet = true ∧ codeAny (model prog w) A c' R s') (fun e s' => R (.error e) s') s := by
  have apart : lst ≠ rg := fun e => by rw [e, hr] at hS; simp at hS
  show wpAny _ _ (do let old ← Builtin.List.listItems (.ref lst); Builtin.List.listUpdate (.ref lst) (fun _ => #[]); letGo old.toList.reverse; Builtin.List.listExtendWith (.ref lst) (.ref rg) .none) _ _ s
  refine wpAny_bind ?_
  unfold Builtin.List.listItems
  refine wpAny_bind (wpAny_seqItems hS rfl (wpAny_pure ?_))
  show wpAny _ _ (updateSeq lst (fun _ => #[]) >>= fun _ => letGo (#[] : Array Value).toList.reverse >>= fun _ => Builtin.List.listExtendWith (.ref lst) (.ref rg) .none) _ _ s
  refine wpAny_bind (wpAny_updateSeq hS rfl ?_)
  have l2 := Heap.get?_update_self (Obj.mapSeq (fun _ => (#[] : Array Value))) hS rfl
  have rest : ∀ b o, b ≠ lst → s.heap.get? b = some o → (s.heap.update lst (Obj.mapSeq (fun _ => (#[] : Array Value)))).get? b = some o :=
    fun b o hb e => (Heap.get?_update_other _ _ (Ne.symm hb)).trans e
  refine wpAny_bind (wpAny_letGo ?_)
  refine far_extend hh (rest rg _ (Ne.symm apart) hr) hbig hn hlen lst .none _ l2 fun h' tk its cap' hk hS' hacc => ?_
  exact hR h' tk its cap' (fun b o hb e => hk b o hb (rest b o hb e)) hS' hacc
theorem far_list {Q : Value → Shared → Prop} {rg : Addr} {lo hi st : Int} {t u v : Tok} {n : Nat} (hh : A.handled = none) (hr : IsRange s.heap rg lo hi st t u v) (hbig : Builtin.Range.small lo hi st = false)
    (hn : Builtin.Range.rangeSize lo hi st = n) (hlen : n ≤ 2 ^ 24)
    (hQ : ∀ h' tk its cap', (∀ b o, s.heap.get? b = some o → h'.get? b = some o) →
      h'.get? s.heap.objs.size = some { cls := .type "list", dict := none, data := .seq its cap', slots := #[] } → ItemsOf (fun i v => ∃ t, v = .int (lo + i * st) t) its n → Q (.ref s.heap.objs.size) { s with heap := h', toks := tk }) :
    wpAny (model prog w) A (call (.type "list") [.ref rg]) Q E s := by
  refine callType_codes (Q₁ := fun obj s₁ => obj = .ref s.heap.objs.size ∧ s₁ = { s with heap := s.heap.push { cls := .type "list", data := .seq #[] } }) F.called_list (F.typeCall_list_1 _) F.entry_list_init
    (code_list_new _ ⟨rfl, rfl⟩) fun obj s₁ hz => ?_
  obtain ⟨rfl, rfl⟩ := hz
  have new : (s.heap.push { cls := .type "list", data := .seq #[] }).get? s.heap.objs.size = some { cls := .type "list", data := .seq #[] } := Heap.get?_push_size _ rfl
  refine ⟨⟨_, new, rfl⟩, F.args_list_init_2 _ _, far_init (A := A.in1) hh (Heap.get?_push_of_some _ hr) hbig hn hlen _ new fun h' tk its cap' hk hS' hacc => ?_⟩
  exact ⟨rfl, hQ h' tk its cap' (fun b o e => hk b o (Nat.ne_of_lt (Heap.lt_size e)) (Heap.get?_push_of_some _ e)) hS' hacc⟩
end
def rngI (lo : Int) (n : Nat) : List Int := (List.range n).map fun k => lo + (k : Nat)
theorem ints_vals {lo : Int} {its : Array Value} {n : Nat} (h : ItemsOf (fun i v => ∃ t, v = .int (lo + i * 1) t) its n) : Vals ((rngI lo n).map V.int) its.toList := by
  obtain ⟨sz, at'⟩ := h
  subst sz
  obtain ⟨l⟩ := its
  simp only [List.size_toArray] at *
  have at2 : ∀ (j : Nat) v, l[j]? = some v → ∃ t, v = Value.int (lo + (j : Int) * 1) t := fun j v e => at' j v (by simpa using e)
  clear at'
  unfold rngI
  suffices key : ∀ (l : List Value) (z : Int), (∀ (j : Nat) v, l[j]? = some v → ∃ t, v = Value.int (z + j) t) → Vals (((List.range l.length).map fun (k : Nat) => z + (k : Int)).map V.int) l from
    key l lo fun j v e => by obtain ⟨t, q⟩ := at2 j v e; exact ⟨t, by rw [q, Int.mul_one]⟩
  intro l
  induction l with
  | nil => intro z _; exact .nil
  | cons x r ih =>
    intro z h
    have e : ((List.range (r.length + 1)).map fun (k : Nat) => z + (k : Int)) = z :: ((List.range r.length).map fun (k : Nat) => (z + 1) + (k : Int)) := by
      rw [List.range_succ_eq_map, List.map_cons, List.map_map]
      congr 1
      · simp
      · apply List.map_congr_left
        intro k _
        show z + ((k + 1 : Nat) : Int) = _
        omega
    rw [List.length_cons, e, List.map_cons]
    obtain ⟨t, q⟩ := h 0 x rfl
    refine .cons ⟨t, by rw [q]; simp⟩ ?_
    refine ih (z + 1) fun j v e' => ?_
    obtain ⟨t', q'⟩ := h (j + 1) v (by simpa using e')
    exact ⟨t', by rw [q']; congr 1; omega⟩
theorem call_list_rng {X : Cx} (hc : X.calm = true) : CallR X (.type "list") (fun xs H Q => ∃ (p : Addr) (i j : Int), xs = [.ref p] ∧ H p = some (.rng i j) ∧ j - i ≤ 100000 ∧ ∀ l, H l = none → Q (.ref l) (upd H l (.lst ((rngI i (j - i).toNat).map V.int)))) := by
  intro pins s σ H xs us Q I r h
  obtain ⟨p, i, j, rfl, hp, hle, q⟩ := h
  obtain ⟨u, rfl, ru⟩ := vals1 r
  cases (show u = Value.ref p from ru)
  obtain ⟨t, u, v, e⟩ := (show ObjOk X.prog X.w H s.heap p (.rng i j) from I.hok p _ hp)
  have fin : ∀ (h' : Heap) (tk : Nat) (its : Array Value) (cap : Nat), (∀ b o, s.heap.get? b = some o → h'.get? b = some o) → h'.get? s.heap.objs.size = some { cls := .type "list", dict := none, data := .seq its cap, slots := #[] } →
      ItemsOf (fun k v => ∃ t, v = .int (i + k * 1) t) its (j - i).toNat → EP X pins σ Q (.ref s.heap.objs.size) { s with heap := h', toks := tk } := fun h' tk its cap kp e z => by
    refine ⟨.ref s.heap.objs.size, _, I.laid (t' := tk) kp (Nat.le_refl _) (show ObjOk X.prog X.w _ h' _ (.lst ((rngI i (j - i).toNat).map V.int)) from ⟨?_, its.toList, cap, ints_vals z, by simpa using e⟩), rfl, q _ (I.hok.fresh (Nat.le_refl _))⟩
    rw [List.length_map]
    unfold rngI
    rw [List.length_map, List.length_range, sizeLine_eq]
    omega
  cases sm : Builtin.Range.small i j 1 with
  | true => exact call_list_range (I.ok.hd hc) e sm (size_eq i j).symm (by omega) fin
  | false => exact far_list (I.ok.hd hc) e sm (size_eq i j).symm (by omega) fin
end X2

namespace X2
open PySem PySem.Spec PyProof.Rows L2
def spLocal : Sp := fun vs H Q _ => ∃ m a : Int, vs = [.int m, .int a] ∧ ∀ p, H p = none → Q (.ref p) (upd H p (.tup [.int ((m + a) / 1440), .int ((m + a) % 1440)]))
def spMoment : Sp := fun vs H Q _ => ∃ d m a : Int, vs = [.int d, .int m, .int a] ∧ Q (.int (d * 1440 + m - a)) H
theorem rep2 {H : Hp} {p : Addr} {i j : Int} (h : H p = some (.tup [.int i, .int j])) : Rep H (.ref p) (.tup [.int i, .int j]) := by
  refine .tup h rfl fun n x d hx hd => ?_
  match n, hx, hd with
  | 0, hx, hd => cases hx; cases hd; exact .int _
  | 1, hx, hd => cases hx; cases hd; exact .int _
  | n + 2, hx, hd => cases hx
theorem dp2 {n : Nat} {i j : Int} : Dp (n + 2) (.tup [.int i, .int j]) := by
  refine .tup (by simp) fun d m => ?_
  simp only [List.mem_cons, List.not_mem_nil, or_false] at m
  rcases m with rfl | rfl <;> exact .int _ _
def spNights : Sp := fun vs H Q _ => ∃ c l a : Int, vs = [.int c, .int l, .int a] ∧ (c ≤ l ∧ l ≤ c + 1440 * 1000) ∧ ∀ (r : Addr) (H' : Hp), Same H H' → H r = none → H' r = some (.lst ((rngI ((c + a) / 1440) ((l + a) / 1440 - (c + a) / 1440).toNat).map V.int)) → Q (.ref r) H'
theorem repL {H : Hp} {p : Addr} {zs : List Int} (h : H p = some (.lst (zs.map V.int))) : Rep H (.ref p) (.lst (zs.map Dt.int)) := by
  refine .lst h (by rw [List.length_map, List.length_map]) fun n x d hx hd => ?_
  rw [List.getElem?_map] at hx hd
  cases e : zs[n]? with
  | none => rw [e] at hx; cases hx
  | some z => rw [e] at hx hd; cases hx; cases hd; exact .int z
theorem dpL {n : Nat} {zs : List Int} (h : zs.length ≤ 100000) : Dp (n + 2) (.lst (zs.map Dt.int)) := by
  refine .lst (by rw [List.length_map]; exact h) fun d m => ?_
  obtain ⟨z, _, rfl⟩ := List.mem_map.mp m
  exact .int _ _
/-- the law's own days, so far -/
def days (f c o : Int) (i : Nat) : List Int := ((List.range i).filter fun (k : Nat) => decide (c < 1440 * ((k : Int) - 2)) && decide (1440 * ((k : Int) - 2) ≤ c + o)).map fun (k : Nat) => f - 3 + (k : Int)
theorem days_len (f c o : Int) (i : Nat) : (days f c o i).length ≤ i := by
  unfold days
  rw [List.length_map]
  exact Nat.le_trans (List.length_filter_le _ _) (by rw [List.length_range]; exact Nat.le_refl _)
theorem days_next (f c o : Int) (i : Nat) (b : Bool) (h : b = true ↔ c < 1440 * ((i : Int) - 2) ∧ 1440 * ((i : Int) - 2) ≤ c + o) : days f c o (i + 1) = if b = true then days f c o i ++ [f - 3 + (i : Int)] else days f c o i := by
  have hb : (decide (c < 1440 * ((i : Int) - 2)) && decide (1440 * ((i : Int) - 2) ≤ c + o)) = b := by
    rw [Bool.eq_iff_iff, h, Bool.and_eq_true, decide_eq_true_iff, decide_eq_true_iff]
  unfold days
  rw [List.range_succ, List.filter_append, List.map_append]
  cases b with
  | true =>
    have e := List.filter_cons_of_pos (p := fun (k : Nat) => decide (c < 1440 * ((k : Int) - 2)) && decide (1440 * ((k : Int) - 2) ≤ c + o)) (a := i) (l := []) hb
    rw [if_pos rfl, e]
    rfl
  | false =>
    have e := List.filter_cons_of_neg (p := fun (k : Nat) => decide (c < 1440 * ((k : Int) - 2)) && decide (1440 * ((k : Int) - 2) ≤ c + o)) (a := i) (l := []) (by rw [hb]; decide)
    rw [if_neg (by decide), e]
    simp
theorem filter_mid (p : Nat → Bool) (lo : Nat) : ∀ (m n : Nat), m = 0 ∨ lo + m ≤ n → (∀ k, k < n → (p k = true ↔ lo ≤ k ∧ k < lo + m)) → (List.range n).filter p = (List.range m).map (lo + ·)
  | m, 0, hn, _ => by
    have e : m = 0 := by omega
    subst e
    rfl
  | m, n + 1, hn, h => by
    rw [List.range_succ, List.filter_append]
    by_cases e : lo ≤ n ∧ n < lo + m
    · have em : m = (m - 1) + 1 := by omega
      rw [filter_mid p lo (m - 1) n (by omega) (fun k hk => by rw [h k (by omega)]; omega), List.filter_cons_of_pos ((h n (by omega)).mpr (by omega))]
      conv => rhs; rw [em, List.range_succ, List.map_append]
      congr 1
      simp
      omega
    · rw [filter_mid p lo m n (by omega) (fun k hk => h k (by omega)), List.filter_cons_of_neg (fun z => e ((h n (by omega)).mp z))]
      simp
theorem days_all (f c o : Int) (c0 : -1 ≤ c) (c1 : c ≤ 1439) (o0 : 0 ≤ o) (o1 : o ≤ 1440 * 89 + 2) : days f c o 98 = rngI (f + c / 1440) (f + (c + o) / 1440 - (f + c / 1440)).toNat := by
  unfold days rngI
  rw [filter_mid _ (c / 1440 + 3).toNat (f + (c + o) / 1440 - (f + c / 1440)).toNat 98 (by omega) (fun k hk => by rw [Bool.and_eq_true, decide_eq_true_iff, decide_eq_true_iff]; omega), List.map_map]
  apply List.map_congr_left
  intro k _
  show f - 3 + (((c / 1440 + 3).toNat + k : Nat) : Int) = _
  omega
end X2

set_option maxHeartbeats 4000000
namespace X2
open PySem PySem.Spec PyProof.Rows L2
/-! a list comprehension with one for and any tests: its block is a context of its own, entered like a callee -/
section
variable {prog : Program} {w : World} {A : Around} {E : Value → Shared → Prop} {R : Result → Shared → Prop} {s : Shared}
/-- the loop, turn by turn -/
theorem comp_loop {elt tg iter : Expr} {ifs : List Expr} {scope : Scope} {pos : Pos} {it acc : Value} {env : Env} (W : Nat → Shared → Prop)
    (turn : ∀ n s, W n s → wpAny (model prog w) A (pyNext it) (fun r s1 => match r with
      | none => R (.ok .next) s1
      | some v => wpAny (model prog w) A (letOwnedTupleGo tg it v) (fun _ s2 => wpAny (model prog w) A (assign tg env v) (fun _ s3 =>
          wpAny (model prog w) A (forIn ifs true fun c r => if r = true then do let ok ← isTrue c env (eval c env); pure (ForInStep.yield ok) else pure (ForInStep.yield r)) (fun ok s4 =>
            if ok = true then wpAny (model prog w) A (eval elt env) (fun x s5 =>
              wpAny (model prog w) A (call (.builtin "list.append") [acc, x]) (fun _ s6 => ∃ m, m < n ∧ W m s6) (fun _ _ => False) s5) (fun _ _ => False) s4
            else ∃ m, m < n ∧ W m s4) (fun _ _ => False) s3) (fun _ _ => False) s2) (fun _ _ => False) s1) (fun _ _ => False) s)
    (n : Nat) (h : W n s) : codeAny (model prog w) A (.compLoop (.ListComp elt [⟨tg, iter, ifs, 0⟩] scope pos) 0 it acc env) R s := by
  have no : ∀ {α : Type} {t : Sem α} {Q : α → Shared → Prop} {E' : Value → Shared → Prop} {s : Shared}, wpAny (model prog w) A t Q (fun _ _ => False) s → wpAny (model prog w) A t Q E' s := fun q => wpAny_mono q (fun _ _ z => z) fun _ _ z => z.elim
  refine codeAny_loop rfl W (fun n s hW => ?_) n h
  show wpAny _ A ((compTurn (.ListComp elt [⟨tg, iter, ifs, 0⟩] scope pos) 0 it acc env).onRaise (fun x => do noteFrame x env; theTreesLotGoes x)) _ _ s
  refine wpAny_noted ?_
  rw [compTurn_list]
  refine wpAny_bind (wpAny_standAt (wpAny_bind (no (wpAny_mono (turn n s hW) (fun r s1 h1 => ?_) fun _ _ z => z))))
  cases r with
  | none => exact wpAny_pure h1
  | some v =>
    refine wpAny_bind (no (wpAny_mono h1 (fun _ s2 h2 => ?_) fun _ _ z => z))
    refine wpAny_bind (no (wpAny_mono h2 (fun _ s3 h3 => ?_) fun _ _ z => z))
    refine wpAny_bind (no (wpAny_mono h3 (fun ok s4 h4 => ?_) fun _ _ z => z))
    cases ok with
    | true =>
      rw [if_pos rfl] at h4
      rw [if_pos rfl]
      refine wpAny_bind (wpAny_bind (no (wpAny_mono h4 (fun x s5 h5 => ?_) fun _ _ z => z)))
      exact wpAny_bind (no (wpAny_mono h5 (fun _ s6 h6 => wpAny_pure (wpAny_pure ⟨rfl, h6⟩)) fun _ _ z => z))
    | false =>
      rw [if_neg (by decide)] at h4
      rw [if_neg (by decide)]
      exact wpAny_pure ⟨rfl, h4⟩
end

/-- the block's context: T the names of its own, caps what it takes from the def -/
def compCx (X : Cx) (scope : Scope) (cl : List (Str × Addr)) (N : List Str) (C : Addr) (s : Shared) (H : Hp) (fp : List Addr) : Cx :=
  { X with N := N, s₀ := s, H₀ := H, env := compEnvC scope cl C X.env, outer := X.stack, ex := fp, fn := fun _ => false, pn := [], xe := fun _ _ => False }
structure CompOk (X : Cx) (scope : Scope) (cl : List (Str × Addr)) (T caps : List Str) (ix : List Nat) : Prop where
  kind : scope.kind = .function
  clos : closureFor scope X.env = pure cl
  nocell : ∀ y ∈ scope.names, y.2 ≠ .cell
  names : ∀ y ∈ scope.names, y.2 = .local → scope.names.lookup y.1 = some .local
  ixs : ix.map (fun i => X.N[i]?) = caps.map some
  capk : ∀ x ∈ caps, (relabel scope X.env).names.lookup x = some .cell ∧ X.env.scope.names.lookup x = some .cell ∧ cl.lookup x = X.env.cells.lookup x
  has : ∀ x, ((relabel scope X.env).names.lookup x = some .cell ∨ (relabel scope X.env).names.lookup x = some .free) → ∃ c, cl.lookup x = some c
  sub : ∀ x c, cl.lookup x = some c → X.env.cells.lookup x = some c
def σC (T : List Str) (ix : List Nat) (σ : L2.St) : L2.St := T.map (fun _ => none) ++ ix.map fun i => (σ[i]?).join
section
variable {X : Cx} {scope : Scope} {cl : List (Str × Addr)} {T caps : List Str} {ix : List Nat} {pins : List (Addr × Obj)} {σ : L2.St} {H H1 : Hp} {s s2 : Shared} {C : Addr} {fp : List Addr}
theorem comp_enter (O : CompOk X scope cl T caps ix) (I : Inv X pins σ H s2) (J : Inv X pins σ H1 s) (un : Un (frs X.stack) fp H H1 s2.heap s.heap) (os : s.os = s2.os) {m0 : Str → Option Value} (hC : s.heap.Ns C m0) (hCs : s2.heap.objs.size ≤ C) (hCn : H1 C = none)
    (hfp : ∀ b ∈ fp, FpOk X pins H b ∧ b < s2.heap.objs.size) : Inv (compCx X scope cl (T ++ caps) C s2 H fp) [] (σC T ix σ) H1 s := by
  have li : ix.length = caps.length := by have := congrArg List.length O.ixs; simpa using this
  refine ⟨⟨I.ok.mod, O.kind, I.ok.glob, I.ok.blt, hCs, fun x y c h1 h2 => I.ok.inj x y c (O.sub _ _ h1) (O.sub _ _ h2), O.has, fun x c h _ => (nomatch h), I.ok.hd, I.ok.frames, .inl rfl, fun b hb => ⟨Nat.ne_of_lt (Nat.lt_of_lt_of_le (hfp b hb).2 hCs), fun x c e => (hfp b hb).1.2.2.2.2.1 x c (O.sub _ _ e)⟩,
    I.bs, Nat.le_trans I.ok.bsz I.sz, fun b o e hb => ?_, fun b hb z => ?_, I.stack, I.stkFree⟩, os, J.bare, un, ⟨m0, hC, fun i x v h1 h2 h3 => ?_⟩, fun x c e => J.cell x c (O.sub _ _ e), hCn, fun x c e => J.freeC x c (O.sub _ _ e), fun p hp => absurd (show p ∈ ([] : List (Addr × Obj)) from hp) (by simp), J.hok, ?_⟩
  · rcases (hfp b hb).1.2.2.2.1 with z | z
    · exact I.ok.noex b o e z
    · exact absurd (Nat.lt_of_lt_of_le (Heap.lt_size e) (Nat.le_trans I.ok.bsz z)) (Nat.lt_irrefl _)
  · rcases List.mem_cons.mp (I.stkSub b z) with q | q
    · exact (hfp b hb).1.2.1 q
    · exact (hfp b hb).1.2.2.1 q
  · have h1 : (T ++ caps)[i]? = some x := h1
    unfold σC at h2
    by_cases hi : i < T.length
    · rw [List.getElem?_append_left (by simpa using hi), List.getElem?_map, List.getElem?_eq_getElem hi] at h2
      cases h2
    · rw [List.getElem?_append_right (by simpa using hi), List.length_map, List.getElem?_map] at h2
      rw [List.getElem?_append_right (by omega)] at h1
      obtain ⟨k1, k2, k3⟩ := O.capk x (List.mem_of_getElem? h1)
      have q := congrArg (fun l => l[i - T.length]?) O.ixs
      simp only [List.getElem?_map, h1, Option.map_some] at q
      cases e : ix[i - T.length]? with
      | none => rw [e] at q; cases q
      | some j =>
        rw [e] at q h2
        have q' : X.N[j]? = some x := by simpa using q
        have h2' : (σ[j]?).join = some v := by simpa using h2
        cases e2 : σ[j]? with
        | none => rw [e2] at h2'; cases h2'
        | some o =>
          rw [e2] at h2'
          have h2'' : o = some v := h2'
          subst h2''
          obtain ⟨m, hn, hl⟩ := J.loc
          obtain ⟨u, r, l⟩ := hl j x v q' e2 (.inr (.inl k2))
          refine ⟨u, r, ?_⟩
          rcases l with ⟨hk, _⟩ | ⟨_, c, hc, hcell⟩
          · have hk' : X.env.scope.names.lookup x = some .local := hk
            rw [k2] at hk'
            cases hk'
          · exact .inr ⟨.inl k1, c, k3.trans hc, hcell⟩
  · unfold σC
    show _ = (T ++ caps).length
    rw [List.length_append, List.length_append, List.length_map, List.length_map, li]
end

/-- the tests of a comprehension -/
def PTs (X : Cx) (ifs : List Expr) (t : TT) : Prop :=
  ∀ (pins : List (Addr × Obj)) (s : Shared) (σ : L2.St) (H : Hp) (Q : Bool → Hp → Prop), Inv X pins σ H s → t σ H Q →
    wpAny (model X.prog X.w) X.A (forIn ifs true fun c r => if r = true then do let ok ← isTrue c X.env (eval c X.env); pure (ForInStep.yield ok) else pure (ForInStep.yield r)) (TP X pins σ Q) X.xe s
def tAll : TT := fun _ H Q => Q true H
theorem pts_nil {X : Cx} : PTs X [] tAll := fun _ _ _ H _ I h => wpAny_tests_nil ⟨H, I, h⟩
theorem pts_one {X : Cx} {c : Expr} {t : TT} (h : PT X c t) : PTs X [c] t := fun pins s σ H Q I q => wpAny_tests_one (h pins s σ H Q I q)
def tComp (wi : TI) (g : TG) (tt : TT) (te : TE) (T : List Str) (ix : List Nat) : TE := fun σ H Q => wi σ H fun J H1 => ∀ D, H1 D = none → ∃ W : Nat → Nat → L2.St → List V → Hp → Prop, (∃ m, W 0 m (σC T ix σ) [] (upd H1 D (.lst []))) ∧
  ∀ i m σ' xs H2, W i m σ' xs H2 → H2 D = some (.lst xs) ∧ xs.length < sizeLine ∧ ((J.stop i H2 ∧ Q (.ref D) H2) ∨
    (J.go i H2 ∧ ∀ x H3, J.yld i H2 x H3 → g x σ' H3 fun σ2 H4 => tt σ2 H4 fun b H5 =>
      if b = true then te σ2 H5 fun y H6 => H6 D = some (.lst xs) ∧ ∃ m', m' < m ∧ W (i + 1) m' σ2 (xs ++ [y]) (upd H6 D (.lst (xs ++ [y]))) else ∃ m', m' < m ∧ W (i + 1) m' σ2 xs H5))
theorem pe_comp {X : Cx} {elt tg iter : Expr} {ifs : List Expr} {scope : Scope} {pos : Pos} {cl : List (Str × Addr)} {T caps : List Str} {ix : List Nat} {wi : TI} {g : TG} {tt : TT} {te : TE}
    (O : CompOk X scope cl T caps ix) (hc : X.calm = true) (hi : PI X tg iter wi) (hg : ∀ C s H fp, PG (compCx X scope cl (T ++ caps) C s H fp) tg g) (ht : ∀ C s H fp, PTs (compCx X scope cl (T ++ caps) C s H fp) ifs tt)
    (he : ∀ C s H fp, PE (compCx X scope cl (T ++ caps) C s H fp) elt te) (hs : ∀ x, foldedSetIterable iter X.env x = pure x := by intro _; rfl) : PE X (.ListComp elt [⟨tg, iter, ifs, 0⟩] scope pos) (tComp wi g tt te T ix) := by
  intro pins s σ H Q I h
  rw [eval_ListComp]
  refine wpAny_comprehension_free (use := none) rfl hs O.clos O.kind O.names (thn (hi pins s σ H _ I h) fun v s1 h1 => thn h1 fun itv s2 h2 => ?_)
  obtain ⟨it, fp, tn, J, H2, e, I2, T2, st2, f2, R2⟩ := h2
  subst e
  have hfp : ∀ b ∈ fp, FpOk X pins H2 b ∧ b < s2.heap.objs.size := fun b hb => ⟨f2 b hb, by obtain ⟨o, e, _⟩ := T2.obj _ _ st2 b hb; exact Heap.lt_size e⟩
  refine wpAny_newObj_type (wpAny_newFunctionEnv O.nocell (fun y hy => absurd hy (by simp)) (fun h₁ hns hsb => ?_) O.kind)
  dsimp only at hns hsb ⊢
  generalize hG : s2.heap.push { cls := .type "list", dict := none, data := .seq ([] : List Value).toArray } = G at hns hsb ⊢
  have hCz : s2.heap.objs.size < G.objs.size := by rw [← hG, Heap.size_push]; exact Nat.lt_succ_self _
  have old : ∀ b o, s2.heap.get? b = some o → h₁.get? b = some o := fun b o e => by
    have lt := Heap.lt_size e
    exact hsb.extBut b o (Nat.ne_of_lt (Nat.lt_trans lt hCz)) (Heap.get?_push_of_some _ (hG ▸ Heap.get?_push_of_some _ e))
  have hD : h₁.get? s2.heap.objs.size = some { cls := .type "list", dict := none, data := .seq ([] : List Value).toArray } := hsb.extBut _ _ (Nat.ne_of_lt hCz) (Heap.get?_push_of_some _ (hG ▸ Heap.get?_push_size _ rfl))
  have nD : H2 s2.heap.objs.size = none := I2.hok.fresh (Nat.le_refl _)
  have nC : H2 G.objs.size = none := I2.hok.fresh (Nat.le_of_lt hCz)
  obtain ⟨W, ⟨m0, w0⟩, turn⟩ := R2 s2.heap.objs.size nD
  have J1 : Inv X pins σ (upd H2 s2.heap.objs.size (.lst [])) { s2 with heap := h₁, toks := s2.toks + ([] : List (Str × Value)).length } :=
    I2.laid (t' := s2.toks + ([] : List (Str × Value)).length) old (Nat.le_refl _) (show ObjOk X.prog X.w _ h₁ _ (.lst []) from ⟨Nat.zero_le _, [], 0, .nil, hD⟩)
  have un : Un (frs X.stack) fp H2 (upd H2 s2.heap.objs.size (.lst [])) s2.heap h₁ := Un.laid old (Nat.le_refl _) nD
  have hCn : (upd H2 s2.heap.objs.size (.lst [])) G.objs.size = none := by rw [upd_ne (Nat.ne_of_lt hCz).symm]; exact nC
  have K1 := comp_enter (s := { s2 with heap := h₁, toks := s2.toks + ([] : List (Str × Value)).length }) O I2 J1 un rfl hns (Nat.le_of_lt hCz) hCn hfp
  have stat : ∀ {H' : Hp}, (∀ b ∈ fp, H' b = none) → ∀ b ∈ fp, FpOk (compCx X scope cl (T ++ caps) G.objs.size s2 H2 fp) [] H' b := fun hn b hb =>
    ⟨hn b hb, Nat.ne_of_lt (Nat.lt_trans (hfp b hb).2 hCz), K1.ok.exfs b hb, .inl hb, fun x c e => (K1.ok.exf b hb).2 x c e, fun p hp => absurd (show p ∈ ([] : List (Addr × Obj)) from hp) (by simp)⟩
  have start : ∃ (i : Nat) (σ' : L2.St) (xs : List V) (H' : Hp), Inv (compCx X scope cl (T ++ caps) G.objs.size s2 H2 fp) [] σ' H' { s2 with heap := h₁, toks := s2.toks + ([] : List (Str × Value)).length } ∧ tn i h₁ ∧ (∀ b ∈ fp, H' b = none) ∧ W i m0 σ' xs H' :=
    ⟨0, _, [], _, K1, T2.keep _ _ _ st2 fun b _ o e => old b o e, fun b hb => by rw [upd_ne (Nat.ne_of_lt (hfp b hb).2)]; exact (f2 b hb).1, w0⟩
  have loop : codeAny (model X.prog X.w) X.A (.compLoop (.ListComp elt [⟨tg, iter, ifs, 0⟩] scope pos) 0 (.ref it) (.ref s2.heap.objs.size) (compEnvC scope cl G.objs.size X.env))
      (compPost (model X.prog X.w) X.A X.xe none (EP X pins σ Q) (.ref s2.heap.objs.size) G.objs.size) { s2 with heap := h₁, toks := s2.toks + ([] : List (Str × Value)).length } := by
    refine comp_loop (fun n s' => ∃ (i : Nat) (σ' : L2.St) (xs : List V) (H' : Hp), Inv (compCx X scope cl (T ++ caps) G.objs.size s2 H2 fp) [] σ' H' s' ∧ tn i s'.heap ∧ (∀ b ∈ fp, H' b = none) ∧ W i n σ' xs H') ?_ m0 start
    rintro n s3 ⟨i, σ3, xs, H3, I3, st3, fr3, w3⟩
    obtain ⟨hD3, hz3, tn3⟩ := turn i n σ3 xs H3 w3
    rcases tn3 with ⟨stop, qn⟩ | ⟨go, step⟩
    · refine thn (T2.done (compCx X scope cl (T ++ caps) G.objs.size s2 H2 fp) rfl rfl rfl hc i [] s3 σ3 H3 _ I3 (stat fr3) st3 stop) fun r s4 ⟨hr, I4⟩ => ?_
      subst hr
      obtain ⟨m, hm, _⟩ := I4.loc
      have B : Inv X pins σ H3 s4 := I2.call' I4.os I4.base I4.hok I4.bare fun b hb => ⟨(f2 b hb).2.2.2.1, (f2 b hb).2.1, (f2 b hb).2.2.2.2.1, (f2 b hb).2.2.2.2.2⟩
      refine ⟨m, hm, fun h' hs' => ?_⟩
      refine ⟨.ref s2.heap.objs.size, H3, B.turned (t' := s4.toks) (it := G.objs.size) (fun b o hb e => hs'.extBut b o hb e) I4.free ?_ (.inr ?_) (fun x c e z => ?_) fun p hp z => ?_, rfl, qn⟩
      · exact (Nat.ne_of_lt (Nat.lt_trans I2.lt hCz)).symm
      · exact Nat.le_of_lt (Nat.lt_of_le_of_lt I2.sz hCz)
      · obtain ⟨v, q⟩ := I2.cell x c e
        exact absurd z (Nat.ne_of_lt (Nat.lt_trans q.lt hCz))
      · exact absurd z (Nat.ne_of_lt (Nat.lt_trans (Heap.lt_size (I2.pin p hp).1) hCz))
    · refine thn (T2.item (compCx X scope cl (T ++ caps) G.objs.size s2 H2 fp) rfl rfl rfl hc i [] s3 σ3 H3 _ I3 (stat fr3) st3 go) fun r s4 ⟨u, hr, h4⟩ => ?_
      subst hr
      refine thn h4 fun _ s5 ⟨x, H5, I5, r5, y5, st5, fr5⟩ => ?_
      have I5' := I5.pinned (stat fr5) (T2.obj _ _ st5)
      have back : ∀ {σ7 : L2.St} {H7 : Hp} {s7 : Shared}, Inv (compCx X scope cl (T ++ caps) G.objs.size s2 H2 fp) ([] ++ pinsAt fp s5.heap) σ7 H7 s7 → Inv (compCx X scope cl (T ++ caps) G.objs.size s2 H2 fp) [] σ7 H7 s7 ∧ tn (i + 1) s7.heap ∧ ∀ b ∈ fp, H7 b = none := fun {σ7 H7 s7} I7 => by
        refine ⟨I7.unpinned, T2.keep _ _ _ st5 fun b hb o e => (I7.pin (b, o) (List.mem_append_right _ (List.mem_append_right _ (mem_pinsAt hb e)))).1, fun b hb => ?_⟩
        obtain ⟨o, e, d⟩ := T2.obj _ _ st5 b hb
        exact (I7.pin (b, o) (List.mem_append_right _ (List.mem_append_right _ (mem_pinsAt hb e)))).2.1
      refine thn (hg G.objs.size s2 H2 fp _ s5 σ3 H5 x u _ I5' r5 (step x H5 y5)) fun _ s6 ⟨σ6, H6, I6, q6⟩ => ?_
      refine thn (ht G.objs.size s2 H2 fp _ s6 σ6 H6 _ I6 q6) fun ok s7 ⟨H7, I7, q7⟩ => ?_
      cases ok with
      | true =>
        rw [if_pos rfl] at q7
        rw [if_pos rfl]
        refine thn (he G.objs.size s2 H2 fp _ s7 σ6 H7 _ I7 q7) fun z s8 ⟨y, H8, I8, r8, hD8, m', hm', w8⟩ => ?_
        refine thn (mt_append _ s8 σ6 H8 (.ref s2.heap.objs.size) [y] _ [z] (fun _ H9 => H9 = upd H8 s2.heap.objs.size (.lst (xs ++ [y]))) I8 rfl (.cons r8 .nil) ⟨_, xs, y, rfl, rfl, hD8, hz3, rfl⟩) fun _ s9 ⟨_, H9, I9, _, e9⟩ => ?_
        subst e9
        obtain ⟨a1, a2, a3⟩ := back I9
        exact ⟨m', hm', i + 1, σ6, xs ++ [y], _, a1, a2, a3, w8⟩
      | false =>
        rw [if_neg (by decide)] at q7
        rw [if_neg (by decide)]
        obtain ⟨m', hm', w7⟩ := q7
        obtain ⟨a1, a2, a3⟩ := back I7
        exact ⟨m', hm', i + 1, σ6, xs, H7, a1, a2, a3, w7⟩
  exact codeAny_compStart_list loop (T2.self _ 0 _ _ _ (T2.keep _ _ _ st2 fun b _ o e => old b o e) loop)
end X2

set_option maxHeartbeats 4000000
namespace X2
open PySem PySem.Spec PyProof.Rows L2
section
variable {X : Cx}
/-- xs[::-1] -/
def tRev (K : PySem.W.Frag) (te ts : TE) : TE := fun σ H Q => te σ H fun x H1 => ts σ H1 fun y H2 => y = .int (-1) ∧ ∃ a xs, x = .ref a ∧ SqL K H2 a xs ∧ ∀ p, H2 p = none → Q (.ref p) (upd H2 p (.lst xs.reverse))
theorem pe_rev {e st : Expr} {te ts : TE} {p2 pos : Pos} (he : PE X e te) (hst : PE X st ts) (hsb : ∀ o i, ∃ ops, subscripted (.Slice none none (some st) p2) false o i = operate ops (getItem o i) := by intro o i; exact ⟨_, by with_unfolding_all rfl⟩) : PE X (.Subscript e (.Slice none none (some st) p2) pos) (tRev X.K te ts) := by
  intro pins s σ H Q I h
  refine Subscript_ (thn (he pins s σ H _ I h) fun v s1 ⟨x, H1, I1, r1, q1⟩ => ?_)
  refine wpAny_Slice ?_
  rw [evalPart_none]
  refine wpAny_pure (wpAny_pure ?_)
  show wpAny (model X.prog X.w) X.A (eval st X.env) _ X.xe s1
  refine thn (hst pins s1 σ H1 _ I1 q1) fun vk s3 ⟨y, H3, I3, r3, q3⟩ => ?_
  obtain ⟨rfl, a, xs, rfl, hx, q⟩ := q3
  obtain ⟨tk, rfl⟩ := r3
  cases (show v = Value.ref a from r1)
  have I4 : Inv X pins σ H3 { s3 with heap := s3.heap.push { cls := .type "slice", data := .fields #[.none, .none, .int (-1) tk] } } := I3.kept (t' := s3.toks) fun b ob q => Heap.get?_push_of_some _ q
  obtain ⟨its, r, ht, hz⟩ := I4.list hx
  have hlen := r.length
  show wpAny (model X.prog X.w) X.A (subscriptTail e (.Slice none none (some st) p2) (.ref a) (.ref s3.heap.objs.size)) (EP X pins σ Q) X.xe { s3 with heap := s3.heap.push { cls := .type "slice", data := .fields #[.none, .none, .int (-1) tk] } }
  obtain ⟨ops, hops⟩ := hsb (.ref a) (.ref s3.heap.objs.size)
  refine tail_any (ops := ops) ht.isList.typeIs slot_list_getitem.lookup (wpAny_getItem_list_slice ht.isList (Heap.IsSliceOf.new ..) .none .none (.int (-1) tk) (by decide) ?_ (by rw [List.size_toArray] <;> omega)) hops
  rw [PySem.W.krv_pick]
  refine ⟨.ref _, _, I4.laid (t' := s3.toks) (o := .lst xs.reverse) (fun b ob q => Heap.get?_push_of_some _ q) (Nat.le_refl _) ?_, rfl, q _ (I4.hok.fresh (Nat.le_refl _))⟩
  exact ⟨by rw [List.length_reverse]; exact hz, _, 0, r.reverse, Heap.get?_push_size _ rfl⟩
/-- dict(d) -/
theorem call_dict_of : CallR X (.type "dict") (fun xs H Q => ∃ a kvs, xs = [.ref a] ∧ H a = some (.dK kvs) ∧ ∀ p, H p = none → Q (.ref p) (upd H p (.dK kvs))) := by
  intro pins s σ H xs us Q I r h
  obtain ⟨a, kvs, rfl, ha, q⟩ := h
  obtain ⟨u, rfl, ru⟩ := vals1 r
  cases (show u = Value.ref a from ru)
  exact d_copyOf I (.inl ha) fun p s' hp J => ⟨.ref p, _, J, rfl, q p hp⟩
/-- two dicts of the same pairs are equal -/
theorem hits_all {A : Around} {s : Shared} {kvs : List (Key × V)} {vb : List (Key × Value)} (hb : KV kvs vb) (hn : (kvs.map (·.1)).Nodup) (hi : ∀ p ∈ kvs, ∃ i, p.2 = V.int i) :
    ∀ {k2 : List (Key × V)} {va : List (Key × Value)}, KV k2 va → (∀ p ∈ k2, p ∈ kvs) → PySem.W.KeqHits A s vb va true := by
  intro k2 va ha
  unfold KV at ha
  induction ha with
  | nil => intro _; exact .nil
  | @cons p q k2 va pq rest ih =>
    intro sub
    obtain ⟨k, v⟩ := q
    obtain ⟨e1, e2⟩ := pq
    obtain ⟨kp, x⟩ := p
    cases (show kp = k from e1)
    have hm := sub _ (List.mem_cons.mpr (.inl rfl))
    obtain ⟨i, rfl⟩ := hi _ hm
    have hv : valV kvs k = some (.int i) := by
      obtain ⟨j, hj⟩ := List.mem_iff_getElem?.mp hm
      clear ih sub hb hi rest e1 e2
      induction kvs generalizing j with
      | nil => cases hj
      | cons p r ihr =>
        have hn' : (p.1 :: r.map (·.1)).Nodup := hn
        obtain ⟨h1, h2⟩ := List.nodup_cons.mp hn'
        cases j with
        | zero => cases hj; exact valV_pos rfl
        | succ j =>
          have hj' : r[j]? = some (k, V.int i) := by simpa using hj
          have : p.1 ≠ k := fun z => h1 (z ▸ List.mem_map.mpr ⟨_, List.mem_of_getElem? hj', rfl⟩)
          rw [valV_neg this]
          exact ihr h2 (List.mem_of_getElem? hj') j hj'
    have q := hb.val k
    rw [hv] at q
    obtain ⟨u, hu, ru⟩ := RelO.some_of q
    have eq : SeqAt.EqAt A s v u (eqV (.int i) (.int i)) := eqAt_V e2 ru rfl rfl
    have t : eqV (.int i) (.int i) = true := by simp [eqV]
    rw [t] at eq
    exact .hit hu eq (ih fun p hp => sub p (List.mem_cons.mpr (.inr hp)))
theorem op_eqD (hu : X.A.units < cLine) : OpR X (compareOp .Eq) (fun x y H Q => ∃ a b kvs, x = .ref a ∧ y = .ref b ∧ H a = some (.dK kvs) ∧ H b = some (.dK kvs) ∧ (kvs.map (·.1)).Nodup ∧ (∀ p ∈ kvs, ∃ i, p.2 = V.int i) ∧ Q (.bl true) H) := by
  intro pins s σ H x y v u Q I rx ry h
  obtain ⟨a, b, kvs, rfl, rfl, ha, hb, hn, hi, q⟩ := h
  cases (show v = Value.ref a from rx)
  cases (show u = Value.ref b from ry)
  obtain ⟨_, na, va, ra, da⟩ := dk_of I.hok ha
  obtain ⟨_, nb, vb, rb, db⟩ := dk_of I.hok hb
  have el : va.length = vb.length := by rw [← ra.length, ← rb.length]
  refine PySem.W.keq_eq na nb da db hu (fun _ => hits_all rb hn hi ra fun p hp => hp) ?_
  have e : (va.length == vb.length && true) = true := by rw [el]; simp
  rw [e]
  exact ⟨.bl true, H, I, rfl, q⟩
/-- sep.join(texts) -/
theorem strs_of : ∀ {texts : List Str} {us : List Value}, Vals (texts.map V.str) us → ∃ l : List (Str × Tok), us = strValues l ∧ l.map (·.1) = texts
  | [], _, .nil => ⟨[], rfl, rfl⟩
  | x :: r, _, .cons ⟨t, e⟩ q => by
    obtain ⟨l, h1, h2⟩ := strs_of q
    subst e h1 h2
    exact ⟨(x, t) :: l, rfl, rfl⟩
theorem mt_join : MtR X "str.join" (fun x xs H Q => ∃ sep p texts, x = .str sep ∧ xs = [.ref p] ∧ H p = some (.lst (texts.map V.str)) ∧ JoinOk sep texts = true ∧ Q (.str (Txt.join sep texts)) H) := by
  intro pins s σ H x xs v us Q I rx rv h
  obtain ⟨sep, p, texts, rfl, rfl, hp, ok, q⟩ := h
  obtain ⟨t, rfl⟩ := rx
  obtain ⟨u, rfl, ru⟩ := vals1 rv
  cases (show u = Value.ref p from ru)
  obtain ⟨its, r, pl, _⟩ := I.list (SqL.of (K := X.K) hp)
  obtain ⟨l, rfl, h2⟩ := strs_of r
  exact SC.join pl.isList h2 ok fun t' k => ⟨.str _, H, I.tok _, ⟨t', rfl⟩, q⟩
end
theorem compOk {X : Cx} {scope : Scope} {cl : List (Str × Addr)} {T caps : List Str} {ix : List Nat} (kind : scope.kind = .function) (clos : closureFor scope X.env = pure cl) (nocell : ∀ y ∈ scope.names, y.2 ≠ .cell)
    (names : ∀ y ∈ scope.names, y.2 = .local → scope.names.lookup y.1 = some .local) (ixs : ix.map (fun i => X.N[i]?) = caps.map some)
    (capk : ∀ x ∈ caps, (relabel scope X.env).names.lookup x = some .cell ∧ X.env.scope.names.lookup x = some .cell ∧ cl.lookup x = X.env.cells.lookup x)
    (has : ((relabel scope X.env).names.all fun p => match p.2 with | .cell => (cl.lookup p.1).isSome | .free => (cl.lookup p.1).isSome | _ => true) = true)
    (sub : ∀ p ∈ cl, X.env.cells.lookup p.1 = some p.2) : CompOk X scope cl T caps ix := by
  refine ⟨kind, clos, nocell, names, ixs, capk, fun x h => ?_, fun x c h => sub (x, c) (PySem.mem_of_lookup h)⟩
  rcases h with h | h
  · have q := List.all_eq_true.mp has _ (PySem.mem_of_lookup h)
    exact Option.isSome_iff_exists.mp q
  · have q := List.all_eq_true.mp has _ (PySem.mem_of_lookup h)
    exact Option.isSome_iff_exists.mp q
/-! the same rules where the context's written part is named from outside (inside a comprehension) -/
theorem ix_listK {X : Cx} (K : PySem.W.Frag) (h : X.K = K) : IxR X (rIxL K) := by subst h; exact ix_list
theorem ix_tupK {X : Cx} (K : PySem.W.Frag) (h : X.K = K) : IxR X (rIxT K) := by subst h; exact ix_tup
theorem pt_truthK {X : Cx} {a : Expr} {ta : TE} (K : PySem.W.Frag) (h : X.K = K) (ha : PE X a ta) (he : ∀ whole, isTrue a X.env whole = (do let v ← whole; standAt a.pos; holding [v] (truthy v))) : PT X a (fun σ H Q => ta σ H fun x H' => ∃ k, TruV K x H' k ∧ Q k H') := by subst h; exact pt_truth ha he
theorem sub_rev (k : Nat) (p3 p4 p2 : Pos) (o i : Value) : ∃ ops, subscripted (.Slice none none (some (.UnaryOp .USub (.Constant (.int 1) k p3) p4)) p2) false o i = operate ops (getItem o i) := ⟨_, by with_unfolding_all rfl⟩
end X2

set_option maxHeartbeats 4000000
namespace X2
open PySem PySem.Spec PyProof.Rows L2
/-! the law's own world: names, spans, rides -/
theorem pickG {α : Type} {xs : List α} {i : Int} (h0 : 0 ≤ i) (h1 : i < xs.length) : ∃ v, atI xs i = some v := by
  obtain ⟨k, rfl⟩ := Int.eq_ofNat_of_zero_le h0
  have hk : k < xs.length := by omega
  exact ⟨xs[k], atI_nat (List.getElem?_eq_getElem hk)⟩
/-- a turn without a test, its target one name -/
theorem allG {i : Nat} {x : V} {σ : L2.St} {H : Hp} {P N : L2.St → Hp → Prop} (h : P (σ.set i (some x)) H) : gName i x σ H (fun σ2 H4 => tAll σ2 H4 fun b H5 => if b = true then P σ2 H5 else N σ2 H5) := by
  show if true = true then P (σ.set i (some x)) H else N (σ.set i (some x)) H
  rw [if_pos rfl]
  exact h
def abc : Str := "abcdefghijklmnopqrstuvwxyz"
def abc9 : Str := (abc ++ ("0123456789" : Str))
theorem abc_len : abc.cps.toList.length = 26 := by decide +kernel
theorem abc9_len : abc9.cps.toList.length = 36 := by decide +kernel
theorem lenL0 : abc.length ≤ sizeLine := by decide +kernel
theorem lenL9 : (abc ++ ("0123456789" : Str)).length ≤ sizeLine := by decide +kernel
theorem lenL : abc.length + ("0123456789" : Str).length ≤ sizeLine := by decide +kernel
theorem join_ok {ts : List Str} (h : ∀ t ∈ ts, t.length = 1) (hl : ts.length ≤ 20) : JoinOk ("" : Str) ts = true := by
  unfold JoinOk
  have e := PySem.StrLaws.joinFits (sep := ("" : Str)) (texts := ts) (B := 1) (fun y hy => by rw [h y hy]; exact Nat.le_refl _) (by
    have z : ("" : Str).length = 0 := by decide +kernel
    rw [z]
    omega)
  rw [e]
  rfl
theorem join_len {ts : List Str} (h : ∀ t ∈ ts, t.length = 1) : (Txt.join ("" : Str) ts).length = ts.length := by
  have z : ("" : Str).length = 0 := by decide +kernel
  have e := size_glued ("" : Str) ts
  rw [z, Nat.mul_zero, Nat.add_zero] at e
  refine e.trans ?_
  clear e
  induction ts with
  | nil => rfl
  | cons t r ih =>
    rw [List.map_cons, List.sum_cons, List.length_cons, h t (List.mem_cons.mpr (.inl rfl)), ih fun t ht => h t (List.mem_cons.mpr (.inr ht))]
    omega
theorem len_one (c : Nat) : (⟨#[c]⟩ : Str).length = 1 := rfl
theorem len_app (x y : Str) : (x ++ y).length = x.length + y.length := by
  show (x.cps ++ y.cps).size = x.cps.size + y.cps.size
  exact Array.size_append
def spNames : Sp := fun vs H Q _ => ∃ (d : Addr) (ds : List Int) (m : Nat), vs = [.ref d, .int m] ∧ H d = some (.lst (ds.map V.int)) ∧ Bd ds ∧ ds.length = 20 ∧ m ≤ 5 ∧
  ∀ (r : Addr) (ns : List Str) (H' : Hp), Same H H' → H r = none → H' r = some (.lst (ns.map V.str)) → ns.length = m → Q (.ref r) H'
/-- a ride as the heap bears it -/
def RideAt (H : Hp) (q : Addr) (n : Int) (a b : Str) (l c : Int) : Prop := H q = some (.tup [.int n, .str a, .str b, .int l, .int c])
def spLater : Sp := fun vs H Q _ => ∃ (q : Addr) (n : Int) (a b : Str) (l c m : Int), vs = [.ref q, .int m] ∧ RideAt H q n a b l c ∧ ∀ p, H p = none → Q (.ref p) (upd H p (.tup [.int n, .str a, .str b, .int (l + m), .int (c + m)]))
def spSpare : Sp := fun vs H Q _ => ∃ (q1 q2 p : Addr) (n1 : Int) (a1 b1 : Str) (l1 c1 n2 : Int) (a2 b2 : Str) (l2 c2 z : Int) (kvs : List (Key × V)), vs = [.ref q1, .ref q2, .ref p] ∧ RideAt H q1 n1 a1 b1 l1 c1 ∧ RideAt H q2 n2 a2 b2 l2 c2 ∧ H p = some (.dK kvs) ∧ valV kvs (Sum.inr b1 : Key) = some (.int z) ∧
  Q (.int (l2 - c1 - z)) H
def spHangs : Sp := fun vs H Q _ => ∃ (q1 q2 p : Addr) (n1 : Int) (a1 b1 : Str) (l1 c1 n2 : Int) (a2 b2 : Str) (l2 c2 z : Int) (kvs : List (Key × V)), vs = [.ref q1, .ref q2, .ref p] ∧ RideAt H q1 n1 a1 b1 l1 c1 ∧ RideAt H q2 n2 a2 b2 l2 c2 ∧ H p = some (.dK kvs) ∧ valV kvs (Sum.inr b1 : Key) = some (.int z) ∧
  ∀ b : Bool, (b = true ↔ b1 = a2 ∧ c1 + z ≤ l2) → Q (.bl b) H
structure Wld (H : Hp) (pn ps pr : Addr) (base : Int) (ns : List Str) (kvs : List (Key × V)) (rs : List V) : Prop where
  hn : H pn = some (.lst (ns.map V.str))
  hs : H ps = some (.dK kvs)
  hr : H pr = some (.lst rs)
  np : pn ≠ pr
  nd : (kvs.map (·.1)).Nodup
  iv : ∀ p ∈ kvs, ∃ i, p.2 = V.int i
  le : rs.length ≤ 9
  rd : ∀ x ∈ rs, ∃ q n a b l c z, x = .ref q ∧ RideAt H q n a b l c ∧ valV kvs (Sum.inr b : Key) = some (.int z)
theorem Wld.mono {H H' : Hp} {pn ps pr : Addr} {base : Int} {ns : List Str} {kvs : List (Key × V)} {rs : List V} (W : Wld H pn ps pr base ns kvs rs) (s : Same H H') : Wld H' pn ps pr base ns kvs rs :=
  ⟨s _ _ W.hn, s _ _ W.hs, s _ _ W.hr, W.np, W.nd, W.iv, W.le, fun x hx => by
    obtain ⟨q, n, a, b, l, c, z, e, h, v⟩ := W.rd x hx
    exact ⟨q, n, a, b, l, c, z, e, s _ _ h, v⟩⟩
theorem place_at {ns : List Str} {kvs : List (Key × V)} (h : ∀ (t : Nat) x, ns[t]? = some x → ∃ z, valV kvs (Sum.inr x : Key) = some (.int z)) {i : Int} (h0 : 0 ≤ i) (h1 : i < (((ns.map V.str).length : Nat) : Int)) :
    ∃ x, atI (ns.map V.str) i = some (.str x) ∧ ∃ z, valV kvs (Sum.inr x : Key) = some (.int z) := by
  obtain ⟨t, rfl⟩ := Int.eq_ofNat_of_zero_le h0
  rw [List.length_map] at h1
  have ht : t < ns.length := by omega
  refine ⟨ns[t], atI_nat (by rw [List.getElem?_map, List.getElem?_eq_getElem ht]; rfl), h t _ (List.getElem?_eq_getElem ht)⟩
theorem Wld.more {H : Hp} {pn ps pr q : Addr} {base : Int} {ns : List Str} {kvs : List (Key × V)} {rs : List V} {n : Int} {a b : Str} {l c z : Int} (W : Wld H pn ps pr base ns kvs rs) (hq : RideAt H q n a b l c) (hz : valV kvs (Sum.inr b : Key) = some (.int z)) (hl : rs.length ≤ 8) :
    Wld (upd H pr (.lst (rs ++ [.ref q]))) pn ps pr base ns kvs (rs ++ [.ref q]) := by
  have kind : ∀ {b : Addr} {o : HO}, H b = some o → (∀ xs, o ≠ .lst xs) → b ≠ pr := fun h n => ne_of h W.hr (n _)
  have ride : ∀ {q n a b l c}, RideAt H q n a b l c → RideAt (upd H pr (.lst (rs ++ [.ref q]))) q n a b l c := fun h => (upd_ne (kind h fun _ z => nomatch z)).trans h
  refine ⟨(upd_ne W.np).trans W.hn, (upd_ne (kind W.hs fun _ z => nomatch z)).trans W.hs, upd_same, W.np, W.nd, W.iv, by rw [List.length_append, List.length_singleton]; omega, fun x hx => ?_⟩
  rcases List.mem_append.mp hx with h | h
  · obtain ⟨q', n', a', b', l', c', z', e, h1, h2⟩ := W.rd x h
    exact ⟨q', n', a', b', l', c', z', e, (upd_ne (kind h1 fun _ z => nomatch z)).trans h1, h2⟩
  · exact ⟨q, n, a, b, l, c, z, List.mem_singleton.mp h, (upd_ne (kind hq fun _ z => nomatch z)).trans hq, hz⟩
theorem nd_put {kvs : List (Key × V)} (k : Key) (v : V) (h : (kvs.map (·.1)).Nodup) : ((putK kvs k v).map (·.1)).Nodup := by
  cases e : valV kvs k with
  | none => exact nd_putK v h e
  | some x =>
    have q : (kvs.any fun kv => decide (kv.1 = k)) = true := by rw [valV_any, e]; rfl
    unfold putK
    rw [if_pos q, List.map_map]
    have e2 : ((fun (p : Key × V) => p.1) ∘ fun kv => if kv.1 = k then (kv.1, v) else kv) = fun (p : Key × V) => p.1 := by
      funext p
      show (if p.1 = k then (p.1, v) else p).1 = p.1
      split <;> rfl
    rw [e2]
    exact h
theorem iv_put {kvs : List (Key × V)} (k : Key) (z : Int) (h : ∀ p ∈ kvs, ∃ i, p.2 = V.int i) : ∀ p ∈ putK kvs k (V.int z), ∃ i, p.2 = V.int i := by
  intro p hp
  unfold putK at hp
  split at hp
  · obtain ⟨q, hq, rfl⟩ := List.mem_map.mp hp
    split
    · exact ⟨z, rfl⟩
    · exact h q hq
  · rcases List.mem_append.mp hp with m | m
    · exact h p m
    · rw [List.mem_singleton.mp m]
      exact ⟨z, rfl⟩
def spWorld (K : PySem.W.Frag) : Sp := fun vs H Q _ => ∃ (a : Addr) (is : List Int) (j : Int), vs = [.ref a, .int j, .int 9] ∧ SqL K H a (is.map V.int) ∧ is.length ≤ 63 ∧ 0 ≤ j ∧ j ≤ 500 ∧
  ∀ (p pn ps pr : Addr) (base : Int) (ns : List Str) (kvs : List (Key × V)) (rs : List V) (H' : Hp), Same H H' → H p = none → H pn = none → H ps = none → H pr = none → H' p = some (.tup [.ref pn, .ref ps, .ref pr, .int base]) → Wld H' pn ps pr base ns kvs rs → Q (.ref p) H'
theorem rep5 {H : Hp} {p : Addr} {n l c : Int} {a b : Str} (h : H p = some (.tup [.int n, .str a, .str b, .int l, .int c])) : Rep H (.ref p) (.tup [.int n, .str a, .str b, .int l, .int c]) := by
  refine .tup h rfl fun k x d hx hd => ?_
  match k, hx, hd with
  | 0, hx, hd => cases hx; cases hd; exact .int _
  | 1, hx, hd => cases hx; cases hd; exact .str _
  | 2, hx, hd => cases hx; cases hd; exact .str _
  | 3, hx, hd => cases hx; cases hd; exact .int _
  | 4, hx, hd => cases hx; cases hd; exact .int _
  | k + 5, hx, hd => cases hx
theorem dp5 {m : Nat} {n l c : Int} {a b : Str} : Dp (m + 2) (.tup [.int n, .str a, .str b, .int l, .int c]) := by
  refine .tup (by simp) fun d m => ?_
  simp only [List.mem_cons, List.not_mem_nil, or_false] at m
  rcases m with rfl | rfl | rfl | rfl | rfl
  · exact .int _ _
  · exact .str _ _
  · exact .str _ _
  · exact .int _ _
  · exact .int _ _
end X2

set_option maxHeartbeats 4000000
namespace X2
open PySem PySem.Spec PyProof.Rows L2
/-! enumerate and zip -/
theorem bt_zip : bootBuiltins "zip" = some (.type "zip") := by decide +kernel
section
variable {X : Cx} {pins : List (Addr × Obj)} {σ : L2.St} {H : Hp} {s : Shared} {h' : Heap}
theorem _root_.L2.Inv.turnedL {t' : Nat} {fp : List Addr} (I : Inv X pins σ H s) (k : ∀ b o, b ∉ fp → s.heap.get? b = some o → h'.get? b = some o) (hf : ∀ b ∈ fp, FpOk X pins H b) : Inv X pins σ H { s with heap := h', toks := t' } := by
  have nit : ∀ b u, H b = some u → b ∉ fp := fun b u e z => by rw [(hf b z).1] at e; cases e
  refine I.step (g' := s.gens) (d' := s.drawn) (ch := fp) (fun b hb => ?_) (fun b o _ _ hc e _ => k b o hc e) (fun b o _ _ hc e _ => ⟨o.slots, k b o hc e⟩) (fun _ _ _ _ n => n)
    (fun b o hc e => ⟨o, k b o hc e⟩) (fun _ _ e => e) (fun _ _ _ e => e) (fun b ps e => ⟨#[], by rw [e]; simp⟩) (fun m hm => ?_) (fun b u e => ?_) I.bare
  · obtain ⟨f0, f1, f2, f3, f4, f5⟩ := hf b hb
    exact ⟨f3, f1, f4, f5⟩
  · obtain ⟨o, es, ep, ho, r⟩ := hm
    exact ⟨o, es, ep, k _ o (fun z => (hf _ z).2.1 rfl) ho, r⟩
  · refine (I.hok b u e).stay (fun c v hc q => k c v ?_ q) (fun _ q => q) fun _ _ q => q
    rcases hc with z | z
    · rw [z]; exact nit b u e
    · exact nit c _ z
/-- the iterator's own objects turned, and a new pair laid -/
theorem _root_.L2.Inv.turnedPair {t' : Nat} {fp : List Addr} {x y : V} {u v : Value} (I : Inv X pins σ H s) (rx : RelV x u) (ry : RelV y v) (lt : ∀ b ∈ fp, b < s.heap.objs.size) (k : ∀ b o, b ∉ fp → s.heap.get? b = some o → h'.get? b = some o) (hT : h'.get? s.heap.objs.size = some { cls := .type "tuple", data := .seq #[u, v] }) (hf : ∀ b ∈ fp, FpOk X pins H b) :
    Inv X pins σ (upd H s.heap.objs.size (.tup [x, y])) { s with heap := h', toks := t' } ∧ H s.heap.objs.size = none ∧ ∀ b ∈ fp, (upd H s.heap.objs.size (.tup [x, y])) b = none := by
  have hn : H s.heap.objs.size = none := I.hok.fresh (Nat.le_refl _)
  have fr : ∀ b ∈ fp, (upd H s.heap.objs.size (.tup [x, y])) b = none := fun b hb => by rw [upd_ne (Nat.ne_of_lt (lt b hb))]; exact (hf b hb).1
  have J : Inv X pins σ (upd H s.heap.objs.size (.tup [x, y])) { s with heap := s.heap.push { cls := .type "tuple", data := .seq #[u, v] }, toks := t' } := by
    refine I.laid (fun b o e => Heap.get?_push_of_some _ e) (Nat.le_refl _) ⟨by simp only [List.length_cons, List.length_nil]; rw [sizeLine_eq]; decide, [u, v], .cons rx (.cons ry .nil), ?_⟩
    exact ⟨_, Heap.get?_push_size s.heap rfl, rfl, 0, rfl⟩
  refine ⟨J.turnedL (fun b o hb e => ?_) (fun b hb => ⟨fr b hb, (hf b hb).2⟩), hn, fr⟩
  rcases Heap.get?_push_cases e with ⟨z, z'⟩ | z
  · subst z z'
    exact hT
  · exact k b o hb z
end
def ItEn (K : PySem.W.Frag) (a : Addr) : It :=
  ⟨fun i H => ∃ xs x, SqL K H a xs ∧ xs[i]? = some x, fun i H x H' => ∃ T y, H T = none ∧ (∀ xs, SqL K H a xs → xs[i]? = some y) ∧ x = .ref T ∧ H' = upd H T (.tup [.int i, y]), fun i H => ∃ xs, SqL K H a xs ∧ xs.length ≤ i⟩
theorem turn_enum {P : Program} {w : World} {K : PySem.W.Frag} {es : List Expr} {k : Nat} {tp : Pos} (a e it : Addr) (ne : e ≠ it) : Turn P w K (.Tuple es k tp) (ItEn K a) [e, it] e (fun i h => (∃ old, IsEnum h e it i old) ∧ h.IsListIter it a i) where
  mem := by simp
  obj := fun i h st b hb => by
    obtain ⟨⟨old, he⟩, o, ho, c, d⟩ := st
    simp only [List.mem_cons, List.not_mem_nil, or_false] at hb
    rcases hb with rfl | rfl
    · exact ⟨_, he, fun v z => by
        have z' : Data.fields _ = Data.cell v := z
        cases z'⟩
    · exact ⟨o, ho, fun v z => by rw [d] at z; cases z⟩
  keep := fun i h h' st k => ⟨let ⟨old, he⟩ := st.1; ⟨old, k e (by simp) _ he⟩, st.2.at fun o x => k it (by simp) o x⟩
  item := by
    intro X hP hw hK hc i pins s σ H E I hf st hg
    subst hP hw hK
    obtain ⟨xs, x, hq, hx⟩ := hg
    obtain ⟨its, rv, p, hz⟩ := I.list hq
    obtain ⟨u, hu, ru⟩ := rv.get hx
    obtain ⟨⟨old, he⟩, hit⟩ := st
    have lt : ∀ b ∈ [e, it], b < s.heap.objs.size := fun b hb => by
      simp only [List.mem_cons, List.not_mem_nil, or_false] at hb
      rcases hb with rfl | rfl
      · exact Heap.lt_size he
      · obtain ⟨_, q, _⟩ := hit; exact Heap.lt_size q
    refine wpAny_pyNext_enum_item he hit p.isList (x := u) (by simpa using hu) ne fun h1 ho hit1 hT hs1 k1 => ?_
    refine ⟨_, rfl, wpAny_letOwnedTupleGo_enum ho fun h2 he2 hs2 => ?_⟩
    have neT : s.heap.objs.size ≠ e := Nat.ne_of_gt (Heap.lt_size he)
    obtain ⟨J, hn, fr⟩ := I.turnedPair (t' := s.toks + 1) (h' := h2) (fp := [e, it]) (x := .int i) (y := x) ⟨_, rfl⟩ ru lt (fun b o hb q => by
      simp only [List.mem_cons, List.not_mem_nil, or_false, not_or] at hb
      exact (hs2.2 b hb.1).trans (k1 b o hb.1 hb.2 q)) ((hs2.2 _ neT).trans hT) hf
    exact ⟨.ref s.heap.objs.size, _, J, rfl, ⟨_, x, hn, fun ys hy => by rw [I.list_inj hy hq]; exact hx, rfl, rfl⟩, ⟨⟨_, by simpa using he2⟩, hit1.at fun o q => (hs2.2 it ne.symm).trans q⟩, fr⟩
  done := by
    intro X hP hw hK hc i pins s σ H E I hf st hg
    subst hP hw hK
    obtain ⟨xs, hq, hx⟩ := hg
    obtain ⟨its, rv, p, hz⟩ := I.list hq
    obtain ⟨⟨old, he⟩, hit⟩ := st
    have hl := rv.length
    exact wpAny_pyNext_enum_end (I.ok.hd hc) he hit p.isList (by simp; omega) fun h' eb => ⟨rfl, I.turnedL (t' := s.toks) (fun b o hb q => eb b o (fun z => hb (by simp [z])) q) hf⟩
  self := fun _ _ _ _ _ st h => let ⟨_, he⟩ := st.1; wpAny_pyIter_enum he h
def iEnum (K : PySem.W.Frag) (ta : TA) : TI := fun σ H R => ta σ H fun vs H1 => ∃ a, vs = [.ref a] ∧ (∃ xs, SqL K H1 a xs) ∧ R (ItEn K a) H1
theorem pi_enum {X : Cx} {l : Expr} {ta : TA} {p pos : Pos} {es : List Expr} {k : Nat} {tp : Pos} (hg : Gl X "enumerate") (hm : X.mg "enumerate" = none) (ha : PA X [l] ta) (hs : starEach [l] X.env = [(false, eval l X.env)] := by rfl) : PI X (.Tuple es k tp) (.Call (.Name "enumerate" p) [l] [] pos) (iEnum X.K ta) := by
  intro pins s σ H R I h
  refine Call_ (ld_blt I hg hm boot_enumerate (PyProof.Rows.callWith_type1 (thn (ha pos pins s σ H _ I h) fun us s1 ⟨vs, H1, I1, r1, q1⟩ => ?_) hs rfl))
  obtain ⟨a, e, ⟨xs, hq⟩, q⟩ := q1
  subst e
  obtain ⟨u, rfl, ru⟩ := vals1 r1
  cases (show u = Value.ref a from ru)
  obtain ⟨its, rv, pl, hz⟩ := I1.list hq
  refine call_enumerate_list pl.isList fun h' he hit hsz kk => ?_
  have I2 : Inv X pins σ H1 { s1 with heap := h' } := I1.kept (t' := s1.toks) kk
  have ne : s1.heap.objs.size + 1 ≠ s1.heap.objs.size := Nat.succ_ne_self _
  refine wpAny_pyIter_enum he ?_
  refine ⟨s1.heap.objs.size + 1, [s1.heap.objs.size + 1, s1.heap.objs.size], _, _, H1, rfl, I2, turn_enum a _ _ ne, ⟨⟨_, he⟩, hit⟩, fun b hb => ?_, q⟩
  simp only [List.mem_cons, List.not_mem_nil, or_false] at hb
  rcases hb with rfl | rfl
  · exact I1.fpOk (Nat.le_succ _) (I1.hok.fresh (Nat.le_succ _))
  · exact I1.fpOk (Nat.le_refl _) (I1.hok.fresh (Nat.le_refl _))

structure Z5 (z TI TO i1 i2 : Addr) : Prop where
  TIz : TI ≠ z
  TOz : TO ≠ z
  i1z : i1 ≠ z
  i2z : i2 ≠ z
  TITO : TI ≠ TO
  TIi1 : TI ≠ i1
  TIi2 : TI ≠ i2
  TOi1 : TO ≠ i1
  TOi2 : TO ≠ i2
  i12 : i1 ≠ i2
theorem z5_new (n : Nat) : Z5 (n + 4) (n + 2) (n + 3) n (n + 1) := 
  ⟨(by show (n + 2 : Nat) ≠ n + 4; omega), (by show (n + 3 : Nat) ≠ n + 4; omega), (by show (n : Nat) ≠ n + 4; omega), (by show (n + 1 : Nat) ≠ n + 4; omega), (by show (n + 2 : Nat) ≠ n + 3; omega), (by show (n + 2 : Nat) ≠ n; omega), (by show (n + 2 : Nat) ≠ n + 1; omega), (by show (n + 3 : Nat) ≠ n; omega), (by show (n + 3 : Nat) ≠ n + 1; omega), (by show (n : Nat) ≠ n + 1; omega)⟩
theorem Z5.apart {z TI TO i1 i2 l1 l2 : Addr} {h : Heap} {a b f : Value} {k1 k2 : Nat} {xs ys : Array Value} {n1 n2 : Addr} (Z : Z5 z TI TO i1 i2) (hz : IsZip h z TI TO f) (hO : IsPair h TO a b) (h1 : h.IsListIter i1 n1 k1) (h2 : h.IsListIter i2 n2 k2) (p1 : h.IsList l1 xs) (p2 : h.IsList l2 ys) : ZipApart z TI TO i1 i2 l1 l2 := by
  have df : ∀ {l c : Addr} {o : Obj} {vs : Array Value}, h.IsList l vs → h.get? c = some o → o.cls ≠ .type "list" → l ≠ c := fun {l c o vs} p q nc e => by
    obtain ⟨ol, q1, c1, _⟩ := p
    subst e
    rw [q] at q1
    cases q1
    exact nc c1
  obtain ⟨o1, e1, c1, _⟩ := h1
  obtain ⟨o2, e2, c2, _⟩ := h2
  have n1 : o1.cls ≠ .type "list" := by rw [c1]; simp
  have n2 : o2.cls ≠ .type "list" := by rw [c2]; simp
  exact ⟨Z.TIz, Z.TOz, Z.i1z, Z.i2z, Z.TITO, Z.TIi1, Z.TIi2, Z.TOi1, Z.TOi2, Z.i12, df p1 hz (by simp), df p1 hO (by simp), df p1 e1 n1, df p1 e2 n2, df p2 hz (by simp), df p2 hO (by simp), df p2 e1 n1, df p2 e2 n2⟩
def ItZip (K : PySem.W.Frag) (a b : Addr) : It :=
  ⟨fun i H => ∃ xs ys x y, SqL K H a xs ∧ SqL K H b ys ∧ xs[i]? = some x ∧ ys[i]? = some y, fun i H x H' => ∃ T u v, H T = none ∧ (∀ xs, SqL K H a xs → xs[i]? = some u) ∧ (∀ ys, SqL K H b ys → ys[i]? = some v) ∧ x = .ref T ∧ H' = upd H T (.tup [u, v]), fun i H => ∃ xs ys, SqL K H a xs ∧ SqL K H b ys ∧ (xs.length ≤ i ∨ ys.length ≤ i)⟩
theorem turn_zip {P : Program} {w : World} {K : PySem.W.Frag} {es : List Expr} {k : Nat} {tp : Pos} (a b z TI TO i1 i2 : Addr) (Z : Z5 z TI TO i1 i2) : Turn P w K (.Tuple es k tp) (ItZip K a b) [z, TI, TO, i1, i2] z (fun i h => IsZip h z TI TO .none ∧ IsPair h TI (.ref i1) (.ref i2) ∧ (∃ x y, IsPair h TO x y) ∧ h.IsListIter i1 a i ∧ h.IsListIter i2 b i) where
  mem := by simp
  obj := fun i h st c hc => by
    obtain ⟨hz, hTI, ⟨x, y, hTO⟩, ⟨o1, e1, c1, d1⟩, ⟨o2, e2, c2, d2⟩⟩ := st
    simp only [List.mem_cons, List.not_mem_nil, or_false] at hc
    rcases hc with rfl | rfl | rfl | rfl | rfl
    · exact ⟨_, hz, fun v z => by
        have z' : Data.fields _ = Data.cell v := z
        cases z'⟩
    · exact ⟨_, hTI, fun v z => by
        have z' : Data.seq _ _ = Data.cell v := z
        cases z'⟩
    · exact ⟨_, hTO, fun v z => by
        have z' : Data.seq _ _ = Data.cell v := z
        cases z'⟩
    · exact ⟨o1, e1, fun v z => by rw [d1] at z; cases z⟩
    · exact ⟨o2, e2, fun v z => by rw [d2] at z; cases z⟩
  keep := fun i h h' st k => by
    obtain ⟨hz, hTI, ⟨x, y, hTO⟩, h1, h2⟩ := st
    exact ⟨k z (by simp) _ hz, k TI (by simp) _ hTI, ⟨x, y, k TO (by simp) _ hTO⟩, h1.at fun o e => k i1 (by simp) o e, h2.at fun o e => k i2 (by simp) o e⟩
  item := by
    intro X hP hw hK hc i pins s σ H E I hf st hg
    subst hP hw hK
    obtain ⟨xs, ys, x, y, hq, hq', hx, hy⟩ := hg
    obtain ⟨its, rv, p, hz0⟩ := I.list hq
    obtain ⟨its', rv', p', hz0'⟩ := I.list hq'
    obtain ⟨u, hu, ru⟩ := rv.get hx
    obtain ⟨v, hv, rw'⟩ := rv'.get hy
    obtain ⟨hz, hTI, ⟨a0, b0, hTO⟩, h1, h2⟩ := st
    have D := Z.apart hz hTO h1 h2 p.isList p'.isList
    have lt : ∀ c ∈ [z, TI, TO, i1, i2], c < s.heap.objs.size := fun c hc => by
      simp only [List.mem_cons, List.not_mem_nil, or_false] at hc
      rcases hc with rfl | rfl | rfl | rfl | rfl
      · exact Heap.lt_size hz
      · exact Heap.lt_size hTI
      · exact Heap.lt_size hTO
      · obtain ⟨_, q, _⟩ := h1; exact Heap.lt_size q
      · obtain ⟨_, q, _⟩ := h2; exact Heap.lt_size q
    refine wpAny_pyNext_zip_item D hz hTI hTO h1 h2 p.isList p'.isList (x := u) (y := v) (by simpa using hu) (by simpa using hv) fun hh1 a1 a2 a3 a4 a5 a6 kk => ?_
    refine ⟨_, rfl, wpAny_letOwnedTupleGo_zip a1 fun hh2 z2 hs2 => ?_⟩
    have neT : s.heap.objs.size ≠ z := Nat.ne_of_gt (Heap.lt_size hz)
    obtain ⟨J, hn, fr⟩ := I.turnedPair (t' := s.toks) (h' := hh2) (fp := [z, TI, TO, i1, i2]) (x := x) (y := y) ru rw' lt (fun c o hc q => by
      simp only [List.mem_cons, List.not_mem_nil, or_false, not_or] at hc
      exact (hs2.2 c hc.1).trans (kk c o hc.1 hc.2.2.1 hc.2.2.2.1 hc.2.2.2.2 q)) ((hs2.2 _ neT).trans a5) hf
    refine ⟨.ref s.heap.objs.size, _, J, rfl, ⟨_, x, y, hn, fun ws hw => by rw [I.list_inj hw hq]; exact hx, fun ws hw => by rw [I.list_inj hw hq']; exact hy, rfl, rfl⟩, ⟨z2, (hs2.2 _ Z.TIz).trans (kk _ _ Z.TIz Z.TITO Z.TIi1 Z.TIi2 hTI), ⟨_, _, (hs2.2 _ Z.TOz).trans a2⟩, a3.at fun o q => (hs2.2 _ Z.i1z).trans q, a4.at fun o q => (hs2.2 _ Z.i2z).trans q⟩, fr⟩
  done := by
    intro X hP hw hK hc i pins s σ H E I hf st hg
    subst hP hw hK
    obtain ⟨xs, ys, hq, hq', hx⟩ := hg
    obtain ⟨its, rv, p, hz0⟩ := I.list hq
    obtain ⟨its', rv', p', hz0'⟩ := I.list hq'
    obtain ⟨hz, hTI, ⟨a0, b0, hTO⟩, h1, h2⟩ := st
    have D := Z.apart hz hTO h1 h2 p.isList p'.isList
    have hl := rv.length
    have hl' := rv'.length
    refine wpAny_pyNext_zip_end (I.ok.hd hc) D hz hTI hTO h1 h2 p.isList p'.isList ?_ fun h' eb => ⟨rfl, I.turnedL (t' := s.toks) (fun c o hc q => eb c o (fun z => hc (by simp [z])) (fun z => hc (by simp [z])) (fun z => hc (by simp [z])) (fun z => hc (by simp [z])) q) hf⟩
    rcases hx with h | h
    · exact .inl (by simp; omega)
    · exact .inr (by simp; omega)
  self := fun _ _ _ _ _ st h => wpAny_pyIter_zip st.1 h
def iZip (K : PySem.W.Frag) (ta : TA) : TI := fun σ H R => ta σ H fun vs H1 => ∃ a b, vs = [.ref a, .ref b] ∧ (∃ xs, SqL K H1 a xs) ∧ (∃ ys, SqL K H1 b ys) ∧ R (ItZip K a b) H1
theorem pi_zip {X : Cx} {l m : Expr} {ta : TA} {p pos : Pos} {es : List Expr} {k : Nat} {tp : Pos} (hg : Gl X "zip") (hm : X.mg "zip" = none) (ha : PA X [l, m] ta) (hs : starEach [l, m] X.env = [(false, eval l X.env), (false, eval m X.env)] := by rfl) (hs2 : starEach [m] X.env = [(false, eval m X.env)] := by rfl) : PI X (.Tuple es k tp) (.Call (.Name "zip" p) [l, m] [] pos) (iZip X.K ta) := by
  intro pins s σ H R I h
  refine Call_ (ld_blt I hg hm bt_zip (PyProof.Rows.callWith_type1 (thn (ha pos pins s σ H _ I h) fun us s1 ⟨vs, H1, I1, r1, q1⟩ => ?_) (by rw [hs, hs2]) (by rw [hs2]; rfl)))
  obtain ⟨a, b, e, ⟨xs, hq⟩, ⟨ys, hq'⟩, q⟩ := q1
  subst e
  obtain ⟨u, v, rfl, ru, rv'⟩ := vals2 r1
  cases (show u = Value.ref a from ru)
  cases (show v = Value.ref b from rv')
  obtain ⟨its, rv, pl, hz⟩ := I1.list hq
  obtain ⟨its', rv', pl', hz'⟩ := I1.list hq'
  refine call_zip_2 pl.isList pl'.isList fun h' a1 a2 a3 a4 a5 a6 kk => ?_
  have I2 : Inv X pins σ H1 { s1 with heap := h' } := I1.kept (t' := s1.toks) kk
  refine wpAny_pyIter_zip a1 ?_
  refine ⟨s1.heap.objs.size + 4, [s1.heap.objs.size + 4, s1.heap.objs.size + 2, s1.heap.objs.size + 3, s1.heap.objs.size, s1.heap.objs.size + 1], _, _, H1, rfl, I2, turn_zip a b _ _ _ _ _ (z5_new _), ⟨a1, a2, ⟨_, _, a3⟩, a4, a5⟩, fun c hc => ?_, q⟩
  have ge : s1.heap.objs.size ≤ c := by
    simp only [List.mem_cons, List.not_mem_nil, or_false] at hc
    rcases hc with rfl | rfl | rfl | rfl | rfl
    · exact Nat.le_add_right _ _
    · exact Nat.le_add_right _ _
    · exact Nat.le_add_right _ _
    · exact Nat.le_refl _
    · exact Nat.le_add_right _ _
  exact I1.fpOk ge (I1.hok.fresh ge)
end X2

set_option maxHeartbeats 4000000
namespace X2
open PySem PySem.Spec PyProof.Rows L2
/-! the same block, whatever is done with its list -/
theorem comp_any {X : Cx} {elt tg iter : Expr} {ifs : List Expr} {scope : Scope} {pos pos2 : Pos} {cl : List (Str × Addr)} {T caps : List Str} {ix : List Nat} {wi : TI} {g : TG} {tt : TT} {te : TE}
    (O : CompOk X scope cl T caps ix) (hc : X.calm = true) (hi : PI X tg iter wi) (hg : ∀ C s H fp, PG (compCx X scope cl (T ++ caps) C s H fp) tg g) (ht : ∀ C s H fp, PTs (compCx X scope cl (T ++ caps) C s H fp) ifs tt)
    (he : ∀ C s H fp, PE (compCx X scope cl (T ++ caps) C s H fp) elt te) (hs : ∀ x, foldedSetIterable iter X.env x = pure x)
    {pins : List (Addr × Obj)} {s : Shared} {σ : L2.St} {H : Hp} {Q : VK} {use : Option (Value → Sem Unit)} {QQ : Value → Shared → Prop} (I : Inv X pins σ H s) (h : tComp wi g tt te T ix σ H Q)
    (fin : ∀ (D C : Addr) (H3 : Hp) (s4 : Shared) (m : Str → Option Value), Inv X pins σ H3 s4 → s4.heap.Ns C m → H3 C = none → C ≠ X.env.locals → X.s₀.heap.objs.size ≤ C → (∀ x c, X.env.cells.lookup x = some c → c ≠ C) → (∀ p ∈ X.pn ++ pins, p.1 ≠ C) → Q (.ref D) H3 → compPost (model X.prog X.w) X.A X.xe use QQ (.ref D) C (.ok .next) s4) :
    wpAny (model X.prog X.w) X.A (comprehension (.ListComp elt [⟨tg, iter, ifs, 0⟩] scope pos) scope X.env pos2 (newList []) false (eval iter X.env) use) QQ X.xe s := by
  refine wpAny_comprehension_free (use := use) rfl hs O.clos O.kind O.names (thn (hi pins s σ H _ I h) fun v s1 h1 => thn h1 fun itv s2 h2 => ?_)
  obtain ⟨it, fp, tn, J, H2, e, I2, T2, st2, f2, R2⟩ := h2
  subst e
  have hfp : ∀ b ∈ fp, FpOk X pins H2 b ∧ b < s2.heap.objs.size := fun b hb => ⟨f2 b hb, by obtain ⟨o, e, _⟩ := T2.obj _ _ st2 b hb; exact Heap.lt_size e⟩
  refine wpAny_newObj_type (wpAny_newFunctionEnv O.nocell (fun y hy => absurd hy (by simp)) (fun h₁ hns hsb => ?_) O.kind)
  dsimp only at hns hsb ⊢
  generalize hG : s2.heap.push { cls := .type "list", dict := none, data := .seq ([] : List Value).toArray } = G at hns hsb ⊢
  have hCz : s2.heap.objs.size < G.objs.size := by rw [← hG, Heap.size_push]; exact Nat.lt_succ_self _
  have old : ∀ b o, s2.heap.get? b = some o → h₁.get? b = some o := fun b o e => by
    have lt := Heap.lt_size e
    exact hsb.extBut b o (Nat.ne_of_lt (Nat.lt_trans lt hCz)) (Heap.get?_push_of_some _ (hG ▸ Heap.get?_push_of_some _ e))
  have hD : h₁.get? s2.heap.objs.size = some { cls := .type "list", dict := none, data := .seq ([] : List Value).toArray } := hsb.extBut _ _ (Nat.ne_of_lt hCz) (Heap.get?_push_of_some _ (hG ▸ Heap.get?_push_size _ rfl))
  have nD : H2 s2.heap.objs.size = none := I2.hok.fresh (Nat.le_refl _)
  have nC : H2 G.objs.size = none := I2.hok.fresh (Nat.le_of_lt hCz)
  obtain ⟨W, ⟨m0, w0⟩, turn⟩ := R2 s2.heap.objs.size nD
  have J1 : Inv X pins σ (upd H2 s2.heap.objs.size (.lst [])) { s2 with heap := h₁, toks := s2.toks + ([] : List (Str × Value)).length } :=
    I2.laid (t' := s2.toks + ([] : List (Str × Value)).length) old (Nat.le_refl _) (show ObjOk X.prog X.w _ h₁ _ (.lst []) from ⟨Nat.zero_le _, [], 0, .nil, hD⟩)
  have un : Un (frs X.stack) fp H2 (upd H2 s2.heap.objs.size (.lst [])) s2.heap h₁ := Un.laid old (Nat.le_refl _) nD
  have hCn : (upd H2 s2.heap.objs.size (.lst [])) G.objs.size = none := by rw [upd_ne (Nat.ne_of_lt hCz).symm]; exact nC
  have K1 := comp_enter (s := { s2 with heap := h₁, toks := s2.toks + ([] : List (Str × Value)).length }) O I2 J1 un rfl hns (Nat.le_of_lt hCz) hCn hfp
  have stat : ∀ {H' : Hp}, (∀ b ∈ fp, H' b = none) → ∀ b ∈ fp, FpOk (compCx X scope cl (T ++ caps) G.objs.size s2 H2 fp) [] H' b := fun hn b hb =>
    ⟨hn b hb, Nat.ne_of_lt (Nat.lt_trans (hfp b hb).2 hCz), K1.ok.exfs b hb, .inl hb, fun x c e => (K1.ok.exf b hb).2 x c e, fun p hp => absurd (show p ∈ ([] : List (Addr × Obj)) from hp) (by simp)⟩
  have start : ∃ (i : Nat) (σ' : L2.St) (xs : List V) (H' : Hp), Inv (compCx X scope cl (T ++ caps) G.objs.size s2 H2 fp) [] σ' H' { s2 with heap := h₁, toks := s2.toks + ([] : List (Str × Value)).length } ∧ tn i h₁ ∧ (∀ b ∈ fp, H' b = none) ∧ W i m0 σ' xs H' :=
    ⟨0, _, [], _, K1, T2.keep _ _ _ st2 fun b _ o e => old b o e, fun b hb => by rw [upd_ne (Nat.ne_of_lt (hfp b hb).2)]; exact (f2 b hb).1, w0⟩
  have loop : codeAny (model X.prog X.w) X.A (.compLoop (.ListComp elt [⟨tg, iter, ifs, 0⟩] scope pos) 0 (.ref it) (.ref s2.heap.objs.size) (compEnvC scope cl G.objs.size X.env))
      (compPost (model X.prog X.w) X.A X.xe use QQ (.ref s2.heap.objs.size) G.objs.size) { s2 with heap := h₁, toks := s2.toks + ([] : List (Str × Value)).length } := by
    refine comp_loop (fun n s' => ∃ (i : Nat) (σ' : L2.St) (xs : List V) (H' : Hp), Inv (compCx X scope cl (T ++ caps) G.objs.size s2 H2 fp) [] σ' H' s' ∧ tn i s'.heap ∧ (∀ b ∈ fp, H' b = none) ∧ W i n σ' xs H') ?_ m0 start
    rintro n s3 ⟨i, σ3, xs, H3, I3, st3, fr3, w3⟩
    obtain ⟨hD3, hz3, tn3⟩ := turn i n σ3 xs H3 w3
    rcases tn3 with ⟨stop, qn⟩ | ⟨go, step⟩
    · refine thn (T2.done (compCx X scope cl (T ++ caps) G.objs.size s2 H2 fp) rfl rfl rfl hc i [] s3 σ3 H3 _ I3 (stat fr3) st3 stop) fun r s4 ⟨hr, I4⟩ => ?_
      subst hr
      obtain ⟨m, hm, _⟩ := I4.loc
      have B : Inv X pins σ H3 s4 := I2.call' I4.os I4.base I4.hok I4.bare fun b hb => ⟨(f2 b hb).2.2.2.1, (f2 b hb).2.1, (f2 b hb).2.2.2.2.1, (f2 b hb).2.2.2.2.2⟩
      refine fin s2.heap.objs.size G.objs.size H3 s4 m B hm I4.free ?_ (Nat.le_of_lt (Nat.lt_of_le_of_lt I2.sz hCz)) (fun x c e z => ?_) (fun p hp z => ?_) qn
      · exact (Nat.ne_of_lt (Nat.lt_trans I2.lt hCz)).symm
      · obtain ⟨v, q⟩ := I2.cell x c e
        exact absurd z (Nat.ne_of_lt (Nat.lt_trans q.lt hCz))
      · exact absurd z (Nat.ne_of_lt (Nat.lt_trans (Heap.lt_size (I2.pin p hp).1) hCz))
    · refine thn (T2.item (compCx X scope cl (T ++ caps) G.objs.size s2 H2 fp) rfl rfl rfl hc i [] s3 σ3 H3 _ I3 (stat fr3) st3 go) fun r s4 ⟨u, hr, h4⟩ => ?_
      subst hr
      refine thn h4 fun _ s5 ⟨x, H5, I5, r5, y5, st5, fr5⟩ => ?_
      have I5' := I5.pinned (stat fr5) (T2.obj _ _ st5)
      have back : ∀ {σ7 : L2.St} {H7 : Hp} {s7 : Shared}, Inv (compCx X scope cl (T ++ caps) G.objs.size s2 H2 fp) ([] ++ pinsAt fp s5.heap) σ7 H7 s7 → Inv (compCx X scope cl (T ++ caps) G.objs.size s2 H2 fp) [] σ7 H7 s7 ∧ tn (i + 1) s7.heap ∧ ∀ b ∈ fp, H7 b = none := fun {σ7 H7 s7} I7 => by
        refine ⟨I7.unpinned, T2.keep _ _ _ st5 fun b hb o e => (I7.pin (b, o) (List.mem_append_right _ (List.mem_append_right _ (mem_pinsAt hb e)))).1, fun b hb => ?_⟩
        obtain ⟨o, e, d⟩ := T2.obj _ _ st5 b hb
        exact (I7.pin (b, o) (List.mem_append_right _ (List.mem_append_right _ (mem_pinsAt hb e)))).2.1
      refine thn (hg G.objs.size s2 H2 fp _ s5 σ3 H5 x u _ I5' r5 (step x H5 y5)) fun _ s6 ⟨σ6, H6, I6, q6⟩ => ?_
      refine thn (ht G.objs.size s2 H2 fp _ s6 σ6 H6 _ I6 q6) fun ok s7 ⟨H7, I7, q7⟩ => ?_
      cases ok with
      | true =>
        rw [if_pos rfl] at q7
        rw [if_pos rfl]
        refine thn (he G.objs.size s2 H2 fp _ s7 σ6 H7 _ I7 q7) fun z s8 ⟨y, H8, I8, r8, hD8, m', hm', w8⟩ => ?_
        refine thn (mt_append _ s8 σ6 H8 (.ref s2.heap.objs.size) [y] _ [z] (fun _ H9 => H9 = upd H8 s2.heap.objs.size (.lst (xs ++ [y]))) I8 rfl (.cons r8 .nil) ⟨_, xs, y, rfl, rfl, hD8, hz3, rfl⟩) fun _ s9 ⟨_, H9, I9, _, e9⟩ => ?_
        subst e9
        obtain ⟨a1, a2, a3⟩ := back I9
        exact ⟨m', hm', i + 1, σ6, xs ++ [y], _, a1, a2, a3, w8⟩
      | false =>
        rw [if_neg (by decide)] at q7
        rw [if_neg (by decide)]
        obtain ⟨m', hm', w7⟩ := q7
        obtain ⟨a1, a2, a3⟩ := back I7
        exact ⟨m', hm', i + 1, σ6, xs, H7, a1, a2, a3, w7⟩
  exact codeAny_compStart_list loop (T2.self _ 0 _ _ _ (T2.keep _ _ _ st2 fun b _ o e => old b o e) loop)

/-- x = [..] on one row: the list goes straight to the name -/
theorem ps_setC {X : Cx} {elt tg iter : Expr} {ifs : List Expr} {scope : Scope} {pos spos py : Pos} {cl : List (Str × Addr)} {T caps : List Str} {ix : List Nat} {wi : TI} {g : TG} {tt : TT} {te : TE} {i : Nat} {y : Str} (hN : X.N.Nodup) (hi' : X.N[i]? = some y) (hx : Loc X.env.scope y)
    (O : CompOk X scope cl T caps ix) (hc : X.calm = true) (hi : PI X tg iter wi) (hg : ∀ C s H fp, PG (compCx X scope cl (T ++ caps) C s H fp) tg g) (ht : ∀ C s H fp, PTs (compCx X scope cl (T ++ caps) C s H fp) ifs tt)
    (he : ∀ C s H fp, PE (compCx X scope cl (T ++ caps) C s H fp) elt te) (hs : ∀ x, foldedSetIterable iter X.env x = pure x := by intro _; rfl)
    (hsw : swapsWith (.ListComp elt [⟨tg, iter, ifs, 0⟩] scope pos) (some (.Name y py)) spos.line X.env = pure true := by rfl)
    (hf : X.fn y = true ∨ X.env.scope.names.lookup y = some .local := by first | exact .inl rfl | exact .inr rfl | assumption) :
    PS X (.Assign [.Name y py] (.ListComp elt [⟨tg, iter, ifs, 0⟩] scope pos) spos) (tAsg (tComp wi g tt te T ix) (gName i)) := by
  intro pins s σ H D I h
  rw [exec_Assign_Name_used _ _ _ _ hsw]
  refine wpAny_bind (wpAny_standAt (wpAny_bind ?_))
  show wpAny _ X.A (do let _ ← comprehension (.ListComp elt [⟨tg, iter, ifs, 0⟩] scope pos) scope X.env _ (newList []) false (eval iter X.env) (some (assign (.Name y py) X.env))) _ _ s
  refine wpAny_bind (wpAny_mono (comp_any (QQ := fun _ s' => SP X pins D .next s') O hc hi hg ht he hs I h ?_) (fun _ s' hq => wpAny_pure (wpAny_pure hq)) fun _ _ e => e)
  intro A C H3 s4 m B hm nC cL cs cc cp q
  show wpAny _ _ (assign (.Name y py) X.env (.ref A)) _ _ _
  refine wpAny_assign_Name (store_ok2 B hN hi' hx (v := .ref A) rfl (fun s5 I5 hsb => ?_) hf)
  obtain ⟨a, sb, ha⟩ := hsb
  have ne : C ≠ a := by
    rcases ha with z | z
    · rw [z]; exact cL
    · exact (cc _ _ z).symm
  refine ⟨m, hm.sameBut sb ne, fun h' hs' => ?_⟩
  exact ⟨_, H3, I5.turned (t' := s5.toks) (it := C) (fun b o hb e => hs'.extBut b o hb e) nC cL (.inr cs) cc cp, q⟩
end X2

set_option maxHeartbeats 4000000
namespace X2
open PySem PySem.Spec PyProof.Rows L2
/-! equal lists, or with any truth, loops over enumerate -/
section
variable {X : Cx}
def plainV : V → Bool | .byt _ => false | .flt _ => false | _ => true
theorem eqAt_self {A : Around} {s : Shared} {x : V} {u v : Value} (h : plainV x = true) (rx : RelV x u) (ry : RelV x v) : SeqAt.EqAt A s u v true := by
  cases x with
  | non => cases rx; cases ry; exact .same _
  | bl b => cases rx; cases ry; exact .same _
  | int i =>
    obtain ⟨t, rfl⟩ := rx
    obtain ⟨t', rfl⟩ := ry
    have q := SeqAt.EqAt.int_int (A := A) (s := s) i t i t'
    simpa using q
  | str i =>
    obtain ⟨t, rfl⟩ := rx
    obtain ⟨t', rfl⟩ := ry
    have q := SeqAt.EqAt.str_str (A := A) (s := s) i t i t'
    simpa using q
  | byt b => cases h
  | flt b => cases h
  | ref a => cases rx; cases ry; exact .same _
  | ty n => cases rx; cases ry; exact .same _
theorem eqAt_lists {A : Around} {s : Shared} {xs : List V} {us vs : List Value} (h : ∀ x ∈ xs, plainV x = true) (ru : Vals xs us) (rv : Vals xs vs) : ∀ j (h1 : j < us.toArray.size) (h2 : j < vs.toArray.size), SeqAt.EqAt A s us.toArray[j] vs.toArray[j] true := by
  intro j h1 h2
  have lu := ru.length
  simp only [List.size_toArray] at h1 h2
  have hx : xs[j]? = some xs[j] := List.getElem?_eq_getElem (by omega)
  obtain ⟨u, e1, r1⟩ := ru.get hx
  obtain ⟨v, e2, r2⟩ := rv.get hx
  have f1 : us.toArray[j] = u := by rw [List.getElem?_eq_getElem h1] at e1; simpa using e1
  have f2 : vs.toArray[j] = v := by rw [List.getElem?_eq_getElem h2] at e2; simpa using e2
  rw [f1, f2]
  exact eqAt_self (h _ (List.getElem_mem _)) r1 r2
theorem all_true (n : Nat) : (List.range n).all (fun _ => true) = true := by simp
theorem op_eqL (hu : X.A.units < cLine) : OpR X (compareOp .Eq) (fun x y H Q => ∃ a b xs, x = .ref a ∧ y = .ref b ∧ SqL X.K H a xs ∧ SqL X.K H b xs ∧ (∀ x ∈ xs, plainV x = true) ∧ Q (.bl true) H) := by
  intro pins s σ H x y v u Q I rx ry h
  obtain ⟨a, b, xs, rfl, rfl, ha, hb, hp, q⟩ := h
  cases (show v = Value.ref a from rx)
  cases (show u = Value.ref b from ry)
  obtain ⟨us, ru, pu, _⟩ := I.list ha
  obtain ⟨vs, rv, pv, _⟩ := I.list hb
  have el : us.toArray.size = vs.toArray.size := by simp only [List.size_toArray]; rw [← ru.length, ← rv.length]
  refine SeqAt.eq_listAt (e := fun _ => true) pu.isList pv.isList el hu (eqAt_lists hp ru rv) ?_
  rw [all_true]
  exact ⟨.bl true, H, I, rfl, q⟩
theorem op_neL (hu : X.A.units < cLine) : OpR X (compareOp .NotEq) (fun x y H Q => ∃ a b xs, x = .ref a ∧ y = .ref b ∧ SqL X.K H a xs ∧ SqL X.K H b xs ∧ (∀ x ∈ xs, plainV x = true) ∧ Q (.bl false) H) := by
  intro pins s σ H x y v u Q I rx ry h
  obtain ⟨a, b, xs, rfl, rfl, ha, hb, hp, q⟩ := h
  cases (show v = Value.ref a from rx)
  cases (show u = Value.ref b from ry)
  obtain ⟨us, ru, pu, _⟩ := I.list ha
  obtain ⟨vs, rv, pv, _⟩ := I.list hb
  have el : us.toArray.size = vs.toArray.size := by simp only [List.size_toArray]; rw [← ru.length, ← rv.length]
  refine SeqAt.RcNeAt.lists (e := fun _ => true) pu.isList pv.isList el hu (eqAt_lists hp ru rv) X.prog X.w X.xe _ ?_
  rw [all_true]
  exact ⟨.bl false, H, I, rfl, q⟩
theorem op_neD (hu : X.A.units < cLine) : OpR X (compareOp .NotEq) (fun x y H Q => ∃ a b kvs, x = .ref a ∧ y = .ref b ∧ H a = some (.dK kvs) ∧ H b = some (.dK kvs) ∧ (kvs.map (·.1)).Nodup ∧ (∀ p ∈ kvs, ∃ i, p.2 = V.int i) ∧ Q (.bl false) H) := by
  intro pins s σ H x y v u Q I rx ry h
  obtain ⟨a, b, kvs, rfl, rfl, ha, hb, hn, hi, q⟩ := h
  cases (show v = Value.ref a from rx)
  cases (show u = Value.ref b from ry)
  obtain ⟨_, na, va, ra, da⟩ := dk_of I.hok ha
  obtain ⟨_, nb, vb, rb, db⟩ := dk_of I.hok hb
  have el : va.length = vb.length := by rw [← ra.length, ← rb.length]
  refine PySem.W.keq_ne na nb da db hu (fun _ => hits_all rb hn hi ra fun p hp => hp) ?_
  have e : (!(va.length == vb.length && true)) = false := by rw [el]; simp
  rw [e]
  exact ⟨.bl false, H, I, rfl, q⟩
/-- a or b, a of any kind whose truth is known -/
def tOrT (K : PySem.W.Frag) (ta tb : TE) : TE := fun σ H Q => ta σ H fun x H1 => ∃ k, TruV K x H1 k ∧ if k = true then Q x H1 else tb σ H1 Q
theorem pe_orT {a b : Expr} {rest : List Expr} {pos : Pos} {ta tb : TE} (ha : PE X a ta) (hb : PE X (.BoolOp .Or (b :: rest) pos) tb) : PE X (.BoolOp .Or (a :: b :: rest) pos) (tOrT X.K ta tb) := by
  intro pins s σ H Q I h
  refine BoolOp_or (thn (ha pins s σ H _ I h) fun v s1 ⟨x, H1, I1, r1, k, tk, q1⟩ => ?_)
  refine thn (tru_ok pins s1 σ H1 x v (fun c H2 => c = k ∧ H2 = H1) I1 r1 ⟨k, tk, rfl, rfl⟩) fun c s2 ⟨H2, I2, e, e2⟩ => ?_
  subst e e2
  cases c with
  | true => exact ⟨x, H2, I2, r1, q1⟩
  | false => exact hb pins s2 σ H2 Q I2 q1
theorem for_enum {K : PySem.W.Frag} {a : Addr} {xs : List V} {g : TG} {tb : TS} {D : Ends} {σ : L2.St} {H : Hp} (Pv : Nat → L2.St → Hp → Prop) (h0 : Pv 0 σ H) (hl : ∀ i σ H, i ≤ xs.length → Pv i σ H → SqL K H a xs)
    (hs : ∀ i x σ H T, xs[i]? = some x → H T = none → Pv i σ H → g (.ref T) σ (upd H T (.tup [.int i, x])) fun σ2 H2 => tb { D with nx := Pv (i + 1), ct := Pv (i + 1), bk := D.nx } σ2 H2) (hd : ∀ σ H, Pv xs.length σ H → D.nx σ H) :
    ∃ W : Nat → Nat → L2.St → Hp → Prop, (∃ m, W 0 m σ H) ∧ ∀ i m σ H, W i m σ H →
      ((ItEn K a).stop i H ∧ D.nx σ H) ∨ ((ItEn K a).go i H ∧ ∃ N : L2.St → Hp → Prop, (∀ σ' H', N σ' H' → ∃ m', m' < m ∧ W (i + 1) m' σ' H') ∧ ∀ x H', (ItEn K a).yld i H x H' → g x σ H' fun σ2 H2 => tb { D with nx := N, ct := N, bk := D.nx } σ2 H2) := by
  refine ⟨fun i m σ H => m = xs.length - i ∧ i ≤ xs.length ∧ Pv i σ H, ⟨xs.length, by simp, Nat.zero_le _, h0⟩, ?_⟩
  rintro i m σ H ⟨rfl, hi, p⟩
  have q := hl i σ H hi p
  by_cases hlt : i < xs.length
  · refine .inr ⟨⟨xs, xs[i], q, by simp [hlt]⟩, Pv (i + 1), fun σ' H' p' => ⟨xs.length - (i + 1), by omega, rfl, hlt, p'⟩, fun x H' y => ?_⟩
    obtain ⟨T, y, hT, hy, rfl, rfl⟩ := y
    exact hs i y σ _ T (hy xs q) hT p
  · have e : i = xs.length := by omega
    subst e
    exact .inl ⟨⟨xs, q, Nat.le_refl _⟩, hd σ H p⟩
end
/-! rows of rides -/
structure Rd where
  n : Int
  a : Str
  b : Str
  l : Int
  c : Int
def spn (kvs : List (Key × V)) (b : Str) : Int := match valV kvs (Sum.inr b : Key) with | some (.int z) => z | _ => 0
def RdAt (H : Hp) (kvs : List (Key × V)) (x : V) (r : Rd) : Prop := ∃ q, x = .ref q ∧ RideAt H q r.n r.a r.b r.l r.c ∧ valV kvs (Sum.inr r.b : Key) = some (.int (spn kvs r.b))
def OptAt (H : Hp) (kvs : List (Key × V)) (x : V) : Option Rd → Prop
  | none => x = .non
  | some r => RdAt H kvs x r
structure RowAt (H : Hp) (kvs : List (Key × V)) (xs : List V) (rs : List (Option Rd)) : Prop where
  len : xs.length = rs.length
  at' : ∀ (i : Nat) x r, xs[i]? = some x → rs[i]? = some r → OptAt H kvs x r
def RowV (H : Hp) (kvs : List (Key × V)) (x : V) : Prop := ∃ r, OptAt H kvs x r
theorem RdAt.mono {H H' : Hp} (s : Same H H') {kvs : List (Key × V)} {x : V} {r : Rd} (h : RdAt H kvs x r) : RdAt H' kvs x r := by
  obtain ⟨q, e, h, v⟩ := h
  exact ⟨q, e, s _ _ h, v⟩
theorem OptAt.mono {H H' : Hp} (s : Same H H') {kvs : List (Key × V)} {x : V} {r : Option Rd} (h : OptAt H kvs x r) : OptAt H' kvs x r := by
  cases r with
  | none => exact h
  | some r => exact RdAt.mono s h
theorem RowV.mono {H H' : Hp} (s : Same H H') {kvs : List (Key × V)} {x : V} (h : RowV H kvs x) : RowV H' kvs x := let ⟨r, h⟩ := h; ⟨r, h.mono s⟩
theorem RowAt.mono {H H' : Hp} (s : Same H H') {kvs : List (Key × V)} {xs : List V} {rs : List (Option Rd)} (h : RowAt H kvs xs rs) : RowAt H' kvs xs rs := ⟨h.len, fun i x r h1 h2 => (h.at' i x r h1 h2).mono s⟩
theorem row_of {H : Hp} {kvs : List (Key × V)} : ∀ {xs : List V}, (∀ x ∈ xs, RowV H kvs x) → ∃ rs, RowAt H kvs xs rs
  | [], _ => ⟨[], rfl, fun i x r h => by simp at h⟩
  | x :: xs, h => by
    obtain ⟨rs, hl, ha⟩ := row_of (xs := xs) fun y hy => h y (List.mem_cons_of_mem _ hy)
    obtain ⟨r, hr⟩ := h x (List.mem_cons_self ..)
    refine ⟨r :: rs, by simp [hl], fun i y t h1 h2 => ?_⟩
    cases i with
    | zero => simp at h1 h2; subst h1 h2; exact hr
    | succ i => exact ha i y t (by simpa using h1) (by simpa using h2)
theorem RowAt.take {H : Hp} {kvs : List (Key × V)} {xs : List V} {rs : List (Option Rd)} (h : RowAt H kvs xs rs) (k : Nat) : RowAt H kvs (xs.take k) (rs.take k) := by
  refine ⟨by simp [h.len], fun i x r h1 h2 => ?_⟩
  rw [List.getElem?_take] at h1 h2
  split at h1
  · rename_i q
    rw [if_pos q] at h2
    exact h.at' i x r h1 h2
  · cases h1
theorem RowAt.none {H : Hp} {kvs : List (Key × V)} : RowAt H kvs [] [] := ⟨rfl, fun i x r h => by simp at h⟩
theorem RowAt.snoc {H : Hp} {kvs : List (Key × V)} {xs : List V} {rs : List (Option Rd)} {x : V} {r : Option Rd} (h : RowAt H kvs xs rs) (hx : OptAt H kvs x r) : RowAt H kvs (xs ++ [x]) (rs ++ [r]) := by
  refine ⟨by simp [h.len], fun i y t h1 h2 => ?_⟩
  have hl := h.len
  by_cases hi : i < xs.length
  · rw [List.getElem?_append_left hi] at h1
    rw [List.getElem?_append_left (by omega)] at h2
    exact h.at' i y t h1 h2
  · rw [List.getElem?_append_right (by omega)] at h1
    rw [List.getElem?_append_right (by omega)] at h2
    by_cases he : i = xs.length
    · have e2 : i = rs.length := by omega
      rw [he, Nat.sub_self] at h1
      rw [e2, Nat.sub_self] at h2
      simp at h1 h2
      subst h1 h2
      exact hx
    · have : i - xs.length = (i - xs.length - 1) + 1 := by omega
      rw [this] at h1
      simp at h1
theorem RowAt.plain {H : Hp} {kvs : List (Key × V)} {xs : List V} {rs : List (Option Rd)} (h : RowAt H kvs xs rs) : ∀ x ∈ xs, plainV x = true := by
  intro x hx
  obtain ⟨i, hi⟩ := List.mem_iff_getElem?.mp hx
  have hl := h.len
  have hi' : i < rs.length := by rw [← hl]; exact (List.getElem?_eq_some_iff.mp hi).1
  have q := h.at' i x rs[i] hi (List.getElem?_eq_getElem hi')
  cases e : rs[i] with
  | none => rw [e] at q; cases (show x = V.non from q); rfl
  | some r => rw [e] at q; obtain ⟨p, rfl, _⟩ := (show RdAt H kvs x r from q); rfl
def hg (sp : Str → Int) (e d : Rd) : Bool := decide (e.b = d.a ∧ e.c + sp e.b ≤ d.l)
def okAt (sp : Str → Int) (rs : List (Option Rd)) (i : Nat) : Bool :=
  match rs[i]? with
  | some (some d) => (match i with | 0 => true | j + 1 => (match rs[j]? with | some (some e) => hg sp e d | _ => false))
  | _ => false
def FF (sp : Str → Int) (rs : List (Option Rd)) (k : Nat) : Prop := (∀ i < k, okAt sp rs i = true) ∧ okAt sp rs k = false
theorem FF.uniq {sp : Str → Int} {rs : List (Option Rd)} {k k' : Nat} (h : FF sp rs k) (h' : FF sp rs k') : k = k' := by
  rcases Nat.lt_trichotomy k k' with q | q | q
  · exact absurd (h'.1 k q) (by rw [h.2]; decide)
  · exact q
  · exact absurd (h.1 k' q) (by rw [h'.2]; decide)
theorem okAt_lt {sp : Str → Int} {rs : List (Option Rd)} {i : Nat} (h : okAt sp rs i = true) : ∃ d, rs[i]? = some (some d) := by
  unfold okAt at h
  cases e : rs[i]? with
  | none => rw [e] at h; cases h
  | some o =>
    cases o with
    | none => rw [e] at h; cases h
    | some d => exact ⟨d, rfl⟩
theorem FF.le {sp : Str → Int} {rs : List (Option Rd)} {k : Nat} (h : FF sp rs k) : k ≤ rs.length := by
  by_cases q : k ≤ rs.length
  · exact q
  · obtain ⟨d, e⟩ := okAt_lt (h.1 rs.length (by omega))
    rw [List.getElem?_eq_none (Nat.le_refl _)] at e
    cases e
theorem okAt_end {sp : Str → Int} {rs : List (Option Rd)} : okAt sp rs rs.length = false := by
  unfold okAt
  rw [List.getElem?_eq_none (Nat.le_refl _)]
def wd (rs : List (Option Rd)) (k : Nat) : Str := match rs[k]? with | some none => "gone" | _ => "missed"
def ffD (rs : List (Option Rd)) (k : Nat) : Dt := if k = rs.length then .non else .tup [.int k, .str (wd rs k)]
theorem okAt_none {sp : Str → Int} {rs : List (Option Rd)} {i : Nat} (h : rs[i]? = some none) : okAt sp rs i = false := by unfold okAt; rw [h]
theorem okAt_zero {sp : Str → Int} {rs : List (Option Rd)} {d : Rd} (h : rs[0]? = some (some d)) : okAt sp rs 0 = true := by unfold okAt; rw [h]
theorem okAt_succ {sp : Str → Int} {rs : List (Option Rd)} {i : Nat} {d e : Rd} (h : rs[i + 1]? = some (some d)) (h' : rs[i]? = some (some e)) : okAt sp rs (i + 1) = hg sp e d := by unfold okAt; rw [h]; show (match rs[i]? with | some (some e) => hg sp e d | _ => false) = _; rw [h']
/-- hangs over two rides of rows -/
theorem hangs_of {H : Hp} {kvs : List (Key × V)} {p : Addr} {x y : V} {e d : Rd} {Q : VK} {E : XK} (hp : H p = some (.dK kvs)) (hx : RdAt H kvs x e) (hy : RdAt H kvs y d) (k : Q (.bl (hg (spn kvs) e d)) H) : spHangs [x, y, .ref p] H Q E := by
  obtain ⟨q, rfl, h1, v1⟩ := hx
  obtain ⟨q', rfl, h2, v2⟩ := hy
  refine ⟨q, q', p, _, _, _, _, _, _, _, _, _, _, _, kvs, rfl, h1, h2, hp, v1, fun b hb => ?_⟩
  have e : b = hg (spn kvs) e d := by
    unfold hg
    exact Bool.eq_iff_iff.mpr (hb.trans (decide_eq_true_iff).symm)
  rw [e]
  exact k
def spFF (K : PySem.W.Frag) : Sp := fun vs H Q _ => ∃ (p ps : Addr) (xs : List V) (kvs : List (Key × V)) (rs : List (Option Rd)), vs = [.ref p, .ref ps] ∧ H p = some (.lst xs) ∧ H ps = some (.dK kvs) ∧ RowAt H kvs xs rs ∧ xs.length ≤ 100 ∧
  ∀ (k : Nat) (v : V) (H' : Hp), FF (spn kvs) rs k → Same H H' → Rep H' v (ffD rs k) → Q v H'
def spKept (K : PySem.W.Frag) : Sp := fun vs H Q _ => ∃ (p ps : Addr) (xs : List V) (kvs : List (Key × V)) (rs : List (Option Rd)), vs = [.ref p, .ref ps] ∧ H p = some (.lst xs) ∧ H ps = some (.dK kvs) ∧ RowAt H kvs xs rs ∧ xs.length ≤ 100 ∧
  ∀ (k : Nat) (r : Addr) (H' : Hp), FF (spn kvs) rs k → Same H H' → H r = none → H' r = some (.lst (xs.take k)) → Q (.ref r) H'
def spLine (K : PySem.W.Frag) : Sp := fun vs H Q _ => ∃ (a : Addr) (is : List Int), vs = [.ref a, .int 0] ∧ SqL K H a (is.map V.int) ∧ is.length ≤ 63 ∧
  ∀ (p pn ps pr : Addr) (base : Int) (kvs : List (Key × V)) (xs : List V) (H' : Hp), Same H H' → H p = none → H pn = none → H ps = none → H pr = none → H' p = some (.tup [.ref pn, .ref ps, .ref pr, .int base]) → (∃ us, H' pn = some (.lst us)) → H' ps = some (.dK kvs) → H' pr = some (.lst xs) →
    (kvs.map (·.1)).Nodup → (∀ p ∈ kvs, ∃ i, p.2 = V.int i) → xs.length ≤ 7 → (∀ x ∈ xs, RowV H' kvs x) → Q (.ref p) H'
theorem rep_pair {H : Hp} {p : Addr} {k : Nat} {w : Str} (h : H p = some (.tup [.int k, .str w])) : Rep H (.ref p) (.tup [.int k, .str w]) := by
  refine .tup h rfl fun i x d hx hd => ?_
  match i, hx, hd with
  | 0, hx, hd => cases hx; cases hd; exact .int _
  | 1, hx, hd => cases hx; cases hd; exact .str _
  | i + 2, hx, hd => cases hx
theorem dp_ff {m : Nat} {rs : List (Option Rd)} {k : Nat} : Dp (m + 2) (ffD rs k) := by
  unfold ffD
  split
  · exact .non _
  · refine .tup (by simp) fun d m => ?_
    simp only [List.mem_cons, List.not_mem_nil, or_false] at m
    rcases m with rfl | rfl
    · exact .int _ _
    · exact .str _ _
end X2
namespace X2
open PySem PySem.Spec PyProof.Rows L2
theorem ffD_gone {rs : List (Option Rd)} {i : Nat} (h : rs[i]? = some none) : ffD rs i = .tup [.int i, .str "gone"] := by
  have hi : i < rs.length := (List.getElem?_eq_some_iff.mp h).1
  unfold ffD wd
  rw [if_neg (by omega), h]
theorem ffD_missed {rs : List (Option Rd)} {i : Nat} {d : Rd} (h : rs[i]? = some (some d)) : ffD rs i = .tup [.int i, .str "missed"] := by
  have hi : i < rs.length := (List.getElem?_eq_some_iff.mp h).1
  unfold ffD wd
  rw [if_neg (by omega), h]
theorem ffD_end {rs : List (Option Rd)} : ffD rs rs.length = .non := by unfold ffD; rw [if_pos rfl]
theorem take_snoc {α : Type} {xs : List α} {i : Nat} {x : α} (h : xs[i]? = some x) : xs.take (i + 1) = xs.take i ++ [x] := by
  rw [List.take_succ, h]
  rfl
theorem RowV.upd {H : Hp} {p : Addr} {ys zs : List V} (hp : H p = some (.lst ys)) {kvs : List (Key × V)} {x : V} (h : RowV H kvs x) : RowV (upd H p (.lst zs)) kvs x := by
  obtain ⟨r, h⟩ := h
  cases r with
  | none => exact ⟨.none, h⟩
  | some r =>
    obtain ⟨q, e, h, v⟩ := h
    exact ⟨some r, q, e, (upd_ne (ne_of h hp fun z => nomatch z)).trans h, v⟩
theorem snoc_of {α : Type} : ∀ {xs : List α}, xs ≠ [] → ∃ ys z, xs = ys ++ [z]
  | xs, h => ⟨xs.dropLast, xs.getLast h, (List.dropLast_concat_getLast h).symm⟩
theorem cut_take (xs : List V) (i : Nat) (h : i ≤ xs.length) : cutV xs none (some (0 + (i : Int))) = xs.take i := by
  unfold cutV
  have e0 : HT.sIx xs.length 0 none = 0 := by simp [HT.sIx]
  have e1 : HT.sIx xs.length xs.length (some (0 + (i : Int))) = i := by
    unfold HT.sIx
    have hn : ¬ (0 + (i : Int) < 0) := by omega
    simp only [hn, if_false]
    omega
  rw [e0, e1]
  simp
theorem Wld.row {H : Hp} {pn ps pr : Addr} {base : Int} {ns : List Str} {kvs : List (Key × V)} {rs : List V} (W : Wld H pn ps pr base ns kvs rs) {x : V} (hx : x ∈ rs) : ∃ r, RdAt H kvs x r := by
  obtain ⟨q, n, a, b, l, c, z, e, h, v⟩ := W.rd x hx
  refine ⟨⟨n, a, b, l, c⟩, q, e, h, ?_⟩
  show valV kvs (Sum.inr b : Key) = some (.int (spn kvs b))
  have : spn kvs b = z := by unfold spn; rw [v]
  rw [this]
  exact v
theorem hg_of {sp : Str → Int} {e d : Rd} {b : Bool} (h : b = true ↔ e.b = d.a ∧ e.c + sp e.b ≤ d.l) : b = hg sp e d := by
  unfold hg
  exact Bool.eq_iff_iff.mpr (h.trans decide_eq_true_iff.symm)
theorem okAt_snoc {sp : Str → Int} {rs : List (Option Rd)} (i : Nat) : okAt sp (rs ++ [none]) i = okAt sp rs i := by
  rcases Nat.lt_trichotomy i rs.length with h | h | h
  · have e1 : (rs ++ [none])[i]? = rs[i]? := List.getElem?_append_left h
    cases i with
    | zero => unfold okAt; rw [e1]
    | succ j =>
      have e2 : (rs ++ [none])[j]? = rs[j]? := List.getElem?_append_left (by omega)
      unfold okAt
      simp only [e1, e2]
  · subst h
    rw [okAt_end]
    exact okAt_none (by rw [List.getElem?_append_right (Nat.le_refl _), Nat.sub_self]; rfl)
  · have e1 : (rs ++ [none])[i]? = none := List.getElem?_eq_none (by rw [List.length_append, List.length_singleton]; omega)
    have e2 : rs[i]? = none := List.getElem?_eq_none (by omega)
    unfold okAt
    rw [e1, e2]
theorem FF.snoc {sp : Str → Int} {rs : List (Option Rd)} {k : Nat} (h : FF sp (rs ++ [none]) k) : FF sp rs k := ⟨fun i hi => by rw [← okAt_snoc]; exact h.1 i hi, by rw [← okAt_snoc]; exact h.2⟩
theorem last_none {rs : List (Option Rd)} : (rs ++ [none])[rs.length]? = some none := by rw [List.getElem?_append_right (Nat.le_refl _), Nat.sub_self]; rfl
theorem ffD_snoc {rs : List (Option Rd)} {k : Nat} (h : k < rs.length) : ffD (rs ++ [none]) k = ffD rs k := by
  unfold ffD wd
  rw [if_neg (by rw [List.length_append, List.length_singleton]; omega), if_neg (by omega), List.getElem?_append_left h]
theorem ffD_tup {rs : List (Option Rd)} {k : Nat} (h : k ≠ rs.length) : ∃ w, ffD rs k = .tup [.int k, .str w] := ⟨_, by unfold ffD; rw [if_neg h]⟩
end X2

set_option maxHeartbeats 4000000
namespace X2
open PySem PySem.Spec PyProof.Rows L2
/-! a comprehension over a list, by its invariant -/
def CW (Pv : Nat → Addr → L2.St → List V → Hp → Prop) (n i : Nat) (D : Addr) (σ : L2.St) (ys : List V) (H : Hp) : Prop := ∃ m', m' < n - i ∧ (m' = n - (i + 1) ∧ i + 1 ≤ n ∧ Pv (i + 1) D σ ys H)
theorem CW.of {Pv : Nat → Addr → L2.St → List V → Hp → Prop} {n i : Nat} {D : Addr} {σ : L2.St} {ys : List V} {H : Hp} (h : i < n) (p : Pv (i + 1) D σ ys H) : CW Pv n i D σ ys H := ⟨n - (i + 1), by omega, rfl, h, p⟩
theorem comp_list {K : PySem.W.Frag} {l : Addr} {xs : List V} {g : TG} {tt : TT} {te : TE} {σ0 : L2.St} {H1 : Hp} {QD : Addr → Hp → Prop} (Pv : Nat → Addr → L2.St → List V → Hp → Prop)
    (h0 : ∀ D, H1 D = none → Pv 0 D σ0 [] (upd H1 D (.lst [])))
    (hl : ∀ i D σ ys H2, i ≤ xs.length → H1 D = none → Pv i D σ ys H2 → SqL K H2 l xs ∧ H2 D = some (.lst ys) ∧ ys.length < sizeLine)
    (hs : ∀ i x D σ ys H2, xs[i]? = some x → i < xs.length → H1 D = none → Pv i D σ ys H2 → g x σ H2 fun σ2 H4 => tt σ2 H4 fun b H5 => if b = true then te σ2 H5 fun y H6 => H6 D = some (.lst ys) ∧ CW Pv xs.length i D σ2 (ys ++ [y]) (upd H6 D (.lst (ys ++ [y]))) else CW Pv xs.length i D σ2 ys H5)
    (hd : ∀ D ys σ H2, H1 D = none → Pv xs.length D σ ys H2 → QD D H2) :
    ∀ D, H1 D = none → ∃ W : Nat → Nat → L2.St → List V → Hp → Prop, (∃ m, W 0 m σ0 [] (upd H1 D (.lst []))) ∧
      ∀ i m σ' ys H2, W i m σ' ys H2 → H2 D = some (.lst ys) ∧ ys.length < sizeLine ∧ (((Itl K l).stop i H2 ∧ QD D H2) ∨
        ((Itl K l).go i H2 ∧ ∀ x H3, (Itl K l).yld i H2 x H3 → g x σ' H3 fun σ2 H4 => tt σ2 H4 fun b H5 =>
          if b = true then te σ2 H5 fun y H6 => H6 D = some (.lst ys) ∧ ∃ m', m' < m ∧ W (i + 1) m' σ2 (ys ++ [y]) (upd H6 D (.lst (ys ++ [y]))) else ∃ m', m' < m ∧ W (i + 1) m' σ2 ys H5)) := by
  intro D nD
  refine ⟨fun i m σ ys H => m = xs.length - i ∧ i ≤ xs.length ∧ Pv i D σ ys H, ⟨xs.length, by simp, Nat.zero_le _, h0 D nD⟩, ?_⟩
  rintro i m σ ys H2 ⟨rfl, hi, p⟩
  obtain ⟨q, hD, hz⟩ := hl i D σ ys H2 hi nD p
  refine ⟨hD, hz, ?_⟩
  by_cases hlt : i < xs.length
  · refine .inr ⟨⟨xs, xs[i], q, by simp [hlt]⟩, fun x H3 hy => ?_⟩
    obtain ⟨rfl, hy⟩ := hy
    exact hs i x D σ ys _ (hy xs q) hlt nD p
  · have e : i = xs.length := by omega
    subst e
    exact .inl ⟨⟨xs, q, Nat.le_refl _⟩, hd D ys σ H2 nD p⟩
/-! rows as data, and how many leave by a moment -/
def optD : Option Rd → Dt
  | none => .non
  | some r => .tup [.int r.n, .str r.a, .str r.b, .int r.l, .int r.c]
theorem rep_opt {H : Hp} {kvs : List (Key × V)} {x : V} {o : Option Rd} (h : OptAt H kvs x o) : Rep H x (optD o) := by
  cases o with
  | none => cases (show x = V.non from h); exact .non
  | some r =>
    obtain ⟨q, rfl, h, _⟩ := (show RdAt H kvs x r from h)
    exact rep5 h
theorem rep_row {H : Hp} {kvs : List (Key × V)} {xs : List V} {rs : List (Option Rd)} {p : Addr} (hp : H p = some (.lst xs)) (h : RowAt H kvs xs rs) : Rep H (.ref p) (.lst (rs.map optD)) := by
  refine .lst hp (by rw [List.length_map]; exact h.len) fun i x d hx hd => ?_
  rw [List.getElem?_map] at hd
  cases e : rs[i]? with
  | none => rw [e] at hd; cases hd
  | some o =>
    rw [e] at hd
    cases hd
    exact rep_opt (h.at' i x o hx e)
theorem dp_row {m : Nat} {rs : List (Option Rd)} (h : rs.length ≤ 1000) : Dp (m + 3) (.lst (rs.map optD)) := by
  refine .lst (by rw [List.length_map]; omega) fun d hd => ?_
  obtain ⟨o, _, rfl⟩ := List.mem_map.mp hd
  cases o with
  | none => exact .non _
  | some r => exact dp5
def lv (now : Int) : Option Rd → Bool
  | none => false
  | some d => decide (d.l ≤ now)
def cntO (now : Int) (rs : List (Option Rd)) : Nat := (rs.filter (lv now)).length
theorem cntO_snoc {now : Int} {rs : List (Option Rd)} {i : Nat} {o : Option Rd} (h : rs[i]? = some o) : cntO now (rs.take (i + 1)) = cntO now (rs.take i) + (if lv now o then 1 else 0) := by
  unfold cntO
  rw [take_snoc h, List.filter_append, List.length_append]
  congr 1
  cases e : lv now o <;> simp [List.filter, e]
/-- [ride for ride in l if ride[3] <= now] -/
theorem comp_cnt {K : PySem.W.Frag} {l : Addr} {kvs : List (Key × V)} {xs : List V} {rs : List (Option Rd)} {now : Int} {H1 : Hp} {QD : Addr → Hp → Prop} (hl : H1 l = some (.lst xs)) (R : RowAt H1 kvs xs rs) (all : ∀ i < rs.length, ∃ d, rs[i]? = some (some d)) (hz : xs.length ≤ 100)
    (k : ∀ D ys H2, Same H1 H2 → H2 D = some (.lst ys) → ys.length = cntO now rs → QD D H2) :
    ∀ D, H1 D = none → ∃ W : Nat → Nat → L2.St → List V → Hp → Prop, (∃ m, W 0 m [none, some (.int now)] [] (upd H1 D (.lst []))) ∧
      ∀ i m σ' ys H2, W i m σ' ys H2 → H2 D = some (.lst ys) ∧ ys.length < sizeLine ∧ (((Itl K l).stop i H2 ∧ QD D H2) ∨
        ((Itl K l).go i H2 ∧ ∀ x H3, (Itl K l).yld i H2 x H3 → gName 0 x σ' H3 fun σ2 H4 => tTest (tOp (rI0 fun i j => .bl (decide (i ≤ j))) (tOp (rIxT K) (tVar 0) (tC (.int 3))) (tVar 1)) σ2 H4 fun b H5 =>
          if b = true then tVar 0 σ2 H5 fun y H6 => H6 D = some (.lst ys) ∧ ∃ m', m' < m ∧ W (i + 1) m' σ2 (ys ++ [y]) (upd H6 D (.lst (ys ++ [y]))) else ∃ m', m' < m ∧ W (i + 1) m' σ2 ys H5)) := by
  have hlen := R.len
  refine comp_list (xs := xs) (fun i D σ ys H2 => ∃ v : Option V, σ = [v, some (.int now)] ∧ Same H1 H2 ∧ H2 D = some (.lst ys) ∧ ys.length = cntO now (rs.take i) ∧ ys.length ≤ i) (fun D nD => ⟨none, rfl, same_new nD _, upd_same, by simp [cntO], Nat.le_refl _⟩) ?_ ?_ ?_
  · rintro i D σ ys H2 hi nD ⟨v, rfl, s, hD, _, ly⟩
    exact ⟨SqL.of (s _ _ hl), hD, small1000 (by omega)⟩
  · rintro i x D σ ys H2 hx hi nD ⟨v, rfl, s, hD, hc, ly⟩
    obtain ⟨d, hd⟩ := all i (by omega)
    obtain ⟨q, rfl, hq, _⟩ := (show RdAt H1 kvs x d from R.at' i x _ hx hd)
    have e := cntO_snoc (now := now) hd
    refine ⟨_, rfl, _, _, _, _, rfl, rfl, SqT.of (s _ _ hq), rfl, _, rfl, _, _, rfl, rfl, _, rfl, ?_⟩
    refine ite2 (fun c => ?_) (fun c => ?_)
    · refine ⟨_, rfl, hD, CW.of hi ⟨_, rfl, s.put nD _, upd_same, ?_, by rw [List.length_append, List.length_singleton]; omega⟩⟩
      have e2 : lv now (some d) = true := c
      rw [e, e2, List.length_append, hc]
      rfl
    · refine CW.of hi ⟨_, rfl, s, hD, ?_, by omega⟩
      have e2 : lv now (some d) = false := Bool.eq_false_iff.mpr c
      rw [e, e2, hc]
      rfl
  · rintro D ys σ H2 nD ⟨v, rfl, s, hD, hc, ly⟩
    refine k D ys H2 s hD ?_
    rw [hc, hlen, List.take_length]
theorem FF.all {sp : Str → Int} {rs : List (Option Rd)} {k : Nat} (h : FF sp rs k) : ∀ i < (rs.take k).length, ∃ d, (rs.take k)[i]? = some (some d) := by
  intro i hi
  rw [List.length_take] at hi
  obtain ⟨d, e⟩ := okAt_lt (h.1 i (by omega))
  exact ⟨d, by rw [List.getElem?_take, if_pos (by omega)]; exact e⟩
def spRidden (K : PySem.W.Frag) : Sp := fun vs H Q _ => ∃ (p ps : Addr) (now : Int) (xs : List V) (kvs : List (Key × V)) (rs : List (Option Rd)), vs = [.ref p, .ref ps, .int now] ∧ H p = some (.lst xs) ∧ H ps = some (.dK kvs) ∧ RowAt H kvs xs rs ∧ xs.length ≤ 100 ∧
  ∀ (k : Nat) (H' : Hp), FF (spn kvs) rs k → Same H H' → Q (.int (cntO now (rs.take k) : Nat)) H'
end X2

set_option maxHeartbeats 4000000
namespace X2
open PySem PySem.Spec PyProof.Rows L2
/-! a comprehension over zip without a test -/
theorem pg_tupK {X : Cx} {es : List Expr} {k : Nat} {t : TGs} {n : Nat} {pos : Pos} (K : PySem.W.Frag) (hK : X.K = K) (hc : X.calm = true) (h : PGs X es t) (hn : (assignEach es X.env).length = n := by rfl) (hst : (assignEach es X.env).findIdx? (·.1) = none := by rfl) : PG X (.Tuple es k pos) (gTup K n t) := by
  subst hK
  exact pg_tup hc h hn hst
theorem comp_zip0 {K : PySem.W.Frag} {a b : Addr} {xs zs : List V} {n : Nat} {g : TG} {te : TE} {σ0 : L2.St} {H1 : Hp} {QD : Addr → Hp → Prop} (hn : n = min xs.length zs.length) (Pv : Nat → Addr → L2.St → List V → Hp → Prop)
    (h0 : ∀ D, H1 D = none → Pv 0 D σ0 [] (upd H1 D (.lst [])))
    (hl : ∀ i D σ ys H2, i ≤ n → H1 D = none → Pv i D σ ys H2 → SqL K H2 a xs ∧ SqL K H2 b zs ∧ H2 D = some (.lst ys) ∧ ys.length < sizeLine)
    (hs : ∀ i x z D σ ys H2 T, xs[i]? = some x → zs[i]? = some z → i < n → H1 D = none → H2 T = none → Pv i D σ ys H2 → g (.ref T) σ (upd H2 T (.tup [x, z])) fun σ2 H4 => te σ2 H4 fun y H6 => H6 D = some (.lst ys) ∧ CW Pv n i D σ2 (ys ++ [y]) (upd H6 D (.lst (ys ++ [y]))))
    (hd : ∀ D ys σ H2, H1 D = none → Pv n D σ ys H2 → QD D H2) :
    ∀ D, H1 D = none → ∃ W : Nat → Nat → L2.St → List V → Hp → Prop, (∃ m, W 0 m σ0 [] (upd H1 D (.lst []))) ∧
      ∀ i m σ' ys H2, W i m σ' ys H2 → H2 D = some (.lst ys) ∧ ys.length < sizeLine ∧ (((ItZip K a b).stop i H2 ∧ QD D H2) ∨
        ((ItZip K a b).go i H2 ∧ ∀ x H3, (ItZip K a b).yld i H2 x H3 → g x σ' H3 fun σ2 H4 => tAll σ2 H4 fun b H5 =>
          if b = true then te σ2 H5 fun y H6 => H6 D = some (.lst ys) ∧ ∃ m', m' < m ∧ W (i + 1) m' σ2 (ys ++ [y]) (upd H6 D (.lst (ys ++ [y]))) else ∃ m', m' < m ∧ W (i + 1) m' σ2 ys H5)) := by
  intro D nD
  refine ⟨fun i m σ ys H => m = n - i ∧ i ≤ n ∧ Pv i D σ ys H, ⟨n, by simp, Nat.zero_le _, h0 D nD⟩, ?_⟩
  rintro i m σ ys H2 ⟨rfl, hi, p⟩
  obtain ⟨q, q', hD, hz⟩ := hl i D σ ys H2 hi nD p
  refine ⟨hD, hz, ?_⟩
  by_cases hlt : i < n
  · have l1 : i < xs.length := by omega
    have l2 : i < zs.length := by omega
    refine .inr ⟨⟨xs, zs, xs[i], zs[i], q, q', by simp [l1], by simp [l2]⟩, fun x H3 hy => ?_⟩
    obtain ⟨T, u, v, hT, hu, hv, rfl, rfl⟩ := hy
    have r := hs i u v D σ ys _ T (hu xs q) (hv zs q') hlt nD hT p
    have e : ∀ (P N : L2.St → Hp → Prop), (fun (σ2 : L2.St) (H4 : Hp) => tAll σ2 H4 fun b H5 => if b = true then P σ2 H5 else N σ2 H5) = P := fun P N => by
      funext σ2 H4
      unfold tAll
      exact if_pos rfl
    rw [e]
    exact r
  · have e : i = n := by omega
    subst e
    exact .inl ⟨⟨xs, zs, q, q', by omega⟩, hd D ys σ H2 nD p⟩
theorem cut_drop1 (xs : List V) : cutV xs (some 1) none = xs.drop 1 := by
  unfold cutV
  have e1 : HT.sIx xs.length xs.length none = xs.length := by simp [HT.sIx]
  rw [e1]
  have e0 : HT.sIx xs.length 0 (some 1) = min 1 xs.length := by
    unfold HT.sIx
    have hn : ¬ ((1 : Int) < 0) := by decide
    simp only [hn, if_false]
    omega
  rw [e0]
  cases xs with
  | nil => rfl
  | cons x r =>
    have : min 1 (x :: r).length = 1 := by simp
    rw [this]
    simp
/-! rides that all stand -/
abbrev RdsAt (H : Hp) (kvs : List (Key × V)) (xs : List V) (ds : List Rd) : Prop := RowAt H kvs xs (ds.map some)
theorem RowAt.rd {H : Hp} {kvs : List (Key × V)} {xs : List V} {ds : List Rd} (h : RdsAt H kvs xs ds) {i : Nat} {d : Rd} (hd : ds[i]? = some d) : ∃ x, xs[i]? = some x ∧ RdAt H kvs x d := by
  have hl := h.len
  rw [List.length_map] at hl
  have hi : i < xs.length := by rw [hl]; exact (List.getElem?_eq_some_iff.mp hd).1
  have hx : xs[i]? = some xs[i] := List.getElem?_eq_getElem hi
  exact ⟨_, hx, h.at' i _ (some d) hx (by rw [List.getElem?_map, hd]; rfl)⟩
theorem FF.rides {sp : Str → Int} {rs : List (Option Rd)} {k : Nat} (h : FF sp rs k) : ∃ ds : List Rd, rs.take k = ds.map some ∧ ds.length = k ∧ ∀ i e d, ds[i]? = some e → ds[i + 1]? = some d → hg sp e d = true := by
  have build : ∀ n, n ≤ k → ∃ ds : List Rd, rs.take n = ds.map some ∧ ds.length = n := by
    intro n
    induction n with
    | zero => intro _; exact ⟨[], rfl, rfl⟩
    | succ n ih =>
      intro hn
      obtain ⟨ds, e, l⟩ := ih (by omega)
      obtain ⟨d, hd⟩ := okAt_lt (h.1 n (by omega))
      exact ⟨ds ++ [d], by rw [take_snoc hd, e, List.map_append]; rfl, by rw [List.length_append, l]; rfl⟩
  obtain ⟨ds, e, l⟩ := build k (Nat.le_refl _)
  refine ⟨ds, e, l, fun i a b ha hb => ?_⟩
  have hi : i + 1 < k := by rw [← l]; exact (List.getElem?_eq_some_iff.mp hb).1
  have get : ∀ j c, j < k → ds[j]? = some c → rs[j]? = some (some c) := fun j c hj hc => by
    have q : (rs.take k)[j]? = (ds.map some)[j]? := by rw [e]
    rw [List.getElem?_take, if_pos hj, List.getElem?_map, hc] at q
    exact q
  have q := h.1 (i + 1) hi
  rw [okAt_succ (get _ _ hi hb) (get _ _ (by omega) ha)] at q
  exact q
def two (ds : List Rd) : List (Rd × Rd) := ds.zip (ds.drop 1)
theorem two_at {ds : List Rd} {i : Nat} {e d : Rd} (h1 : ds[i]? = some e) (h2 : ds[i + 1]? = some d) : (two ds)[i]? = some (e, d) := by
  unfold two
  rw [List.getElem?_zip_eq_some]
  exact ⟨h1, by rw [List.getElem?_drop, Nat.add_comm]; exact h2⟩
theorem two_len (ds : List Rd) : (two ds).length = ds.length - 1 := by
  unfold two
  rw [List.length_zip, List.length_drop]
  omega
def spL (sp : Str → Int) (ds : List Rd) : List V := (two ds).map fun p => V.int (p.2.l - p.1.c - sp p.1.b)
theorem spL_at {sp : Str → Int} {ds : List Rd} {i : Nat} {e d : Rd} (h1 : ds[i]? = some e) (h2 : ds[i + 1]? = some d) : (spL sp ds)[i]? = some (.int (d.l - e.c - sp e.b)) := by
  unfold spL
  rw [List.getElem?_map, two_at h1 h2]
  rfl
theorem spL_len (sp : Str → Int) (ds : List Rd) : (spL sp ds).length = ds.length - 1 := by unfold spL; rw [List.length_map, two_len]
def sparesV (sp : Str → Int) (ds : List Rd) : List V := if ds = [] then [] else spL sp ds ++ [.non]
def wD (p : Rd × Rd) : Dt := .tup [.str p.1.b, .int p.1.c, .int p.2.l]
def waitsD (ds : List Rd) : Dt := .lst ((two ds).map wD)
def WA (H : Hp) (ds : List Rd) (ys : List V) (n : Nat) : Prop := ys.length = n ∧ ∀ j y, ys[j]? = some y → ∃ q e d, y = V.ref q ∧ ds[j]? = some e ∧ ds[j + 1]? = some d ∧ H q = some (.tup [.str e.b, .int e.c, .int d.l])
theorem WA.mono {H H' : Hp} (s : Same H H') {ds : List Rd} {ys : List V} {n : Nat} (h : WA H ds ys n) : WA H' ds ys n := ⟨h.1, fun j y hy => by
  obtain ⟨q, e, d, h1, h2, h3, h4⟩ := h.2 j y hy
  exact ⟨q, e, d, h1, h2, h3, s _ _ h4⟩⟩
theorem WA.upd {H : Hp} {p : Addr} {us vs : List V} (hp : H p = some (.lst us)) {ds : List Rd} {ys : List V} {n : Nat} (h : WA H ds ys n) : WA (upd H p (.lst vs)) ds ys n := ⟨h.1, fun j y hy => by
  obtain ⟨q, e, d, h1, h2, h3, h4⟩ := h.2 j y hy
  exact ⟨q, e, d, h1, h2, h3, (upd_ne (ne_of h4 hp fun z => nomatch z)).trans h4⟩⟩
theorem WA.snoc {H : Hp} {ds : List Rd} {ys : List V} {i : Nat} {q : Addr} {e d : Rd} (h : WA H ds ys i) (h1 : ds[i]? = some e) (h2 : ds[i + 1]? = some d) (h3 : H q = some (.tup [.str e.b, .int e.c, .int d.l])) : WA H ds (ys ++ [.ref q]) (i + 1) := by
  refine ⟨by rw [List.length_append, h.1]; rfl, fun j y hy => ?_⟩
  have hl := h.1
  by_cases hj : j < ys.length
  · rw [List.getElem?_append_left hj] at hy
    exact h.2 j y hy
  · rw [List.getElem?_append_right (by omega)] at hy
    by_cases he : j = i
    · subst he
      rw [hl, Nat.sub_self] at hy
      cases hy
      exact ⟨q, e, d, rfl, h1, h2, h3⟩
    · have : j - ys.length = (j - ys.length - 1) + 1 := by omega
      rw [this] at hy
      simp at hy
theorem rep3 {H : Hp} {p : Addr} {b : Str} {c l : Int} (h : H p = some (.tup [.str b, .int c, .int l])) : Rep H (.ref p) (.tup [.str b, .int c, .int l]) := by
  refine .tup h rfl fun k x d hx hd => ?_
  match k, hx, hd with
  | 0, hx, hd => cases hx; cases hd; exact .str _
  | 1, hx, hd => cases hx; cases hd; exact .int _
  | 2, hx, hd => cases hx; cases hd; exact .int _
  | k + 3, hx, hd => cases hx
theorem WA.rep {H : Hp} {ds : List Rd} {ys : List V} {r : Addr} (hr : H r = some (.lst ys)) (h : WA H ds ys (ds.length - 1)) : Rep H (.ref r) (waitsD ds) := by
  unfold waitsD
  refine .lst hr (by rw [List.length_map, two_len]; exact h.1) fun i x d hx hd => ?_
  obtain ⟨q, e, d', rfl, h1, h2, h3⟩ := h.2 i x hx
  rw [List.getElem?_map, two_at h1 h2] at hd
  cases hd
  exact rep3 h3
theorem dp_waits {m : Nat} {ds : List Rd} (h : ds.length ≤ 1000) : Dp (m + 3) (waitsD ds) := by
  unfold waitsD
  refine .lst (by rw [List.length_map, two_len]; omega) fun d hd => ?_
  obtain ⟨p, _, rfl⟩ := List.mem_map.mp hd
  refine .tup (by simp) fun d m => ?_
  simp only [List.mem_cons, List.not_mem_nil, or_false] at m
  rcases m with rfl | rfl | rfl
  · exact .str _ _
  · exact .int _ _
  · exact .int _ _
def spSpares (K : PySem.W.Frag) : Sp := fun vs H Q _ => ∃ (p ps : Addr) (xs : List V) (kvs : List (Key × V)) (ds : List Rd), vs = [.ref p, .ref ps] ∧ H p = some (.lst xs) ∧ H ps = some (.dK kvs) ∧ RdsAt H kvs xs ds ∧ xs.length ≤ 100 ∧
  ∀ (r : Addr) (H' : Hp), Same H H' → H r = none → H' r = some (.lst (sparesV (spn kvs) ds)) → Q (.ref r) H'
def spWaits (K : PySem.W.Frag) : Sp := fun vs H Q _ => ∃ (p : Addr) (xs : List V) (kvs : List (Key × V)) (ds : List Rd), vs = [.ref p] ∧ H p = some (.lst xs) ∧ RdsAt H kvs xs ds ∧ xs.length ≤ 100 ∧
  ∀ (r : Addr) (ys : List V) (H' : Hp), Same H H' → H r = none → H' r = some (.lst ys) → WA H' ds ys (ds.length - 1) → Q (.ref r) H'
theorem sparesV_at {sp : Str → Int} {ds : List Rd} {i : Nat} {e d : Rd} (h1 : ds[i]? = some e) (h2 : ds[i + 1]? = some d) : (sparesV sp ds)[i]? = some (.int (d.l - e.c - sp e.b)) := by
  have hi : i + 1 < ds.length := (List.getElem?_eq_some_iff.mp h2).1
  have n : ds ≠ [] := fun z => by rw [z] at hi; exact absurd hi (Nat.not_lt_zero _)
  unfold sparesV
  rw [if_neg n, List.getElem?_append_left (by rw [spL_len]; omega)]
  exact spL_at h1 h2
theorem sparesV_len (sp : Str → Int) (ds : List Rd) : (sparesV sp ds).length = ds.length := by
  unfold sparesV
  split
  · rename_i z
    rw [z]
    rfl
  · rename_i z
    have : 0 < ds.length := List.length_pos_iff.mpr z
    rw [List.length_append, spL_len, List.length_singleton]
    omega
end X2

set_option maxHeartbeats 4000000
namespace X2
open PySem PySem.Spec PyProof.Rows L2
/-! the head where some code tables may grow (a lambda is made) -/
def Bm (base : Heap) (mg : Str → Option Value) : Prop := ∃ bm ob, mg "__builtins__" = some (.ref bm) ∧ bm ≠ builtinsNs ∧ base.get? bm = some ob ∧ ob.cls = .type "module" ∧ ob.dict = some builtinsNs ∧ ob.data = .plain
theorem law_callT {P : Program} {w : World} {K : PySem.W.Frag} {mg mb : Str → Option Value} {CX : CXT} {k : Nat} {fa a : Addr} {fd : FuncData} {x : Str} {sp : Sp} {s₁ : Shared} {vs : List Value} {ns : List Int} {ts : List Addr}
    (KX : K.In s₁.heap) (hns : s₁.heap.Ns mainGlobals mg) (hb : s₁.heap.Ns builtinsNs mb) (hbb : ∀ x : Str, x ≠ "__name__" → mb x = bootBuiltins x) (hlim : s₁.heap.NoLimit) (hg : s₁.gens = #[])
    (ha : s₁.heap.get? a = some { cls := .type "list", data := .seq vs.toArray }) (hi : IntsAre vs ns) (hl : ns.length ≤ sizeLine) (hr : Room k callerA)
    (htab : ∀ P ∈ ts, s₁.heap.get? P = some (PySem.W.tabObj #[])) (hKt : ∀ P ∈ ts, K.lookup P = none) (hct : ∀ P ∈ ts, isCodeTable s₁.heap P) (hbm : Bm s₁.heap mg)
    (F : ∀ base : Heap, K.In base → base.Ns mainGlobals mg → Bm base mg → FnOk P w K mg base CX k fa fd [x] sp) (hbind : ∀ (s : Shared) (u : Value), BindsTo s fd ⟨[u], []⟩ [(x, u)])
    (hsp : ∀ H : Hp, (∀ P ∈ ts, H P = some (.tbl #[])) → SqL K H a (ns.map V.int) → sp [.ref a] H (fun v _ => v = .bl true) fun _ _ _ => False)
    (hCX : ∀ H e s', CX [] H s₁ (fun _ _ _ => False) e s' → False) :
    codeAny (model P w) callerA (.call (.ref fa) ⟨[.ref a], []⟩) (fun r s' => r = .ok (.ret (.bool true)) ∧ OldK s₁.heap s'.heap ∧ s'.os = s₁.os ∧ AllBare s'.gens) s₁ := by
  have rv := vals_ints hi
  have lenV := hi.length
  have nat : a ∉ ts := fun z => by
    have q := htab a z
    rw [ha] at q
    cases q
  have core : ∀ H : Hp, (∀ b, H b = none ∨ (∃ o xs, H b = some (.frz o (.lst xs))) ∨ (b ∈ ts ∧ H b = some (.tbl #[]))) → (∀ P ∈ ts, H P = some (.tbl #[])) → SqL K H a (ns.map V.int) → HOk P w H s₁.heap → (∀ b, H b ≠ none → b = a ∨ b ∈ ts) → (∀ b, H b ≠ none → K.lookup b = none) →
      codeAny (model P w) callerA (.call (.ref fa) ⟨[.ref a], []⟩) (fun r s' => r = .ok (.ret (.bool true)) ∧ OldK s₁.heap s'.heap ∧ s'.os = s₁.os ∧ AllBare s'.gens) s₁ := by
    intro H hO hT hS hok hA hK
    have base_of : ∀ {b : Addr} {o : Obj}, s₁.heap.get? b = some o → H b = none → (hidT s₁.heap H).get? b = some o := fun e n => hidT_get e n
    have kindly : ∀ {b : Addr} {o : Obj}, s₁.heap.get? b = some o → (∀ it n, o.data ≠ .seq it n) → (∀ ps, o.data ≠ .fields ps) → H b = none := fun {b o} e d1 d2 => by
      cases q : H b with
      | none => rfl
      | some u =>
        rcases hA b (by rw [q]; simp) with e' | e'
        · subst e'
          rw [ha] at e; cases e
          exact absurd rfl (d1 _ _)
        · rw [htab b e'] at e; cases e
          exact absurd rfl (d2 _)
    have nsK : ∀ {b : Addr} {m : Str → Option Value}, s₁.heap.Ns b m → (hidT s₁.heap H).Ns b m := fun {b m} ⟨o, es, ep, e, d, r⟩ => ⟨o, es, ep, base_of e (kindly e (fun _ _ z => by rw [d] at z; cases z) (fun _ z => by rw [d] at z; cases z)), d, r⟩
    have hKb : K.In (hidT s₁.heap H) := fun b o e => base_of (KX b o e) (by
      cases q : H b with
      | none => rfl
      | some u =>
        rw [hK b (by rw [q]; simp)] at e; cases e)
    have hM : Mod K mg (hidT s₁.heap H) := ⟨hKb, nsK hns, ⟨mb, nsK hb, hbb⟩, let ⟨mc, h1, h2⟩ := hlim; ⟨mc, nsK h1, h2⟩⟩
    have hB : Bm (hidT s₁.heap H) mg := by
      obtain ⟨bm, ob, b1, b2, b3, b4, b5, b6⟩ := hbm
      exact ⟨bm, ob, b1, b2, base_of b3 (kindly b3 (fun _ _ z => by rw [b6] at z; cases z) (fun _ z => by rw [b6] at z; cases z)), b4, b5, b6⟩
    have e0 : Env0 P w K mg (hidT s₁.heap H) callerA [] s₁ H := ⟨rfl, hM, fun b o e => of_hidT e, Nat.le_of_eq (hidT_size _ _), trivial, fun b hb => absurd (show b ∈ ([] : List Addr) from hb) (by simp), hok, .of_eq hg⟩
    refine codeAny_mono ((F _ hKb (nsK hns) hB).run callerA [] s₁ H ⟨[.ref a], []⟩ [.ref a] [.ref a] _ _ hr e0 (hbind s₁ (.ref a)) (.cons rfl .nil) (hsp H hT hS)) fun r s' h => ?_
    cases r with
    | error e => exact (hCX H e s' h).elim
    | ok fl =>
      cases fl with
      | next => exact False.elim h
      | brk => exact False.elim h
      | cont => exact False.elim h
      | ret u =>
        obtain ⟨v, H', os, bare, un, hok', r', q⟩ := h
        have q' : v = .bl true := q
        subst q'
        obtain rfl : u = Value.bool true := r'
        have main : ∀ b o, s₁.heap.get? b = some o → asItWas s₁.heap s'.heap b o ∧ ∃ o', s'.heap.get? b = some o' := fun b o e => by
          rcases hO b with q | ⟨ob, xs, z⟩ | ⟨hbt, z⟩
          · have y := un.keep b o e q (by intro z; exact absurd (show b ∈ ([] : List Addr) from z) (by simp)) (by simp)
            exact ⟨.inl y, _, y⟩
          · have z2 := un.frzs b ob _ z
            obtain ⟨e1, _⟩ := hok b _ z
            obtain ⟨e2, _⟩ := hok' b _ z2
            rw [e] at e1; cases e1
            exact ⟨.inl e2, _, e2⟩
          · obtain ⟨more, z2⟩ := un.tbls b _ z
            have y : s'.heap.get? b = some { cls := .none, data := .fields (#[] ++ more) } := hok' b _ z2
            rw [htab b hbt] at e; cases e
            exact ⟨.inr (.inl ⟨hct b hbt, rfl, #[], more, rfl, y⟩), _, y⟩
        exact ⟨rfl, ⟨fun b o e => (main b o e).1, fun b o e => (main b o e).2⟩, os, bare⟩
  have tb : ∀ b, b ∈ ts → ObjOk P w (fun c => if c ∈ ts then some (.tbl #[]) else none) s₁.heap b (.tbl #[]) := fun b hb => htab b hb
  cases hk : K.lookup a with
  | some o =>
    have e := KX a o hk
    rw [ha] at e
    cases e
    refine core (fun b => if b ∈ ts then some (.tbl #[]) else none) (fun b => ?_) (fun b hb => if_pos hb) (.inr ⟨_, vs.toArray, _, hk, rfl, rfl, rfl, by rw [List.size_toArray, lenV]; exact hl, by simpa using rv⟩) (fun b u z => ?_) (fun b z => ?_) fun b z => ?_
    · by_cases hb : b ∈ ts
      · exact .inr (.inr ⟨hb, if_pos hb⟩)
      · exact .inl (if_neg hb)
    · by_cases hb : b ∈ ts
      · have z' := (if_pos hb).symm.trans z
        cases z'
        exact htab b hb
      · have z' := (if_neg hb).symm.trans z
        cases z'
    · by_cases hb : b ∈ ts
      · exact .inr hb
      · exact absurd (if_neg hb) z
    · by_cases hb : b ∈ ts
      · exact hKt b hb
      · exact absurd (if_neg hb) z
  | none =>
    refine core (fun b => if b = a then some (.frz { cls := .type "list", data := .seq vs.toArray } (.lst (ns.map V.int))) else if b ∈ ts then some (.tbl #[]) else none) (fun b => ?_) (fun b hb => ?_) (.inl (.inr ⟨{ cls := .type "list", data := .seq vs.toArray }, if_pos rfl⟩)) (fun b u z => ?_) (fun b z => ?_) fun b z => ?_
    · by_cases hb : b = a
      · exact .inr (.inl ⟨_, _, if_pos hb⟩)
      · by_cases ht : b ∈ ts
        · exact .inr (.inr ⟨ht, (if_neg hb).trans (if_pos ht)⟩)
        · exact .inl ((if_neg hb).trans (if_neg ht))
    · have nb : b ≠ a := fun z => nat (z ▸ hb)
      exact (if_neg nb).trans (if_pos hb)
    · by_cases hb : b = a
      · have z' := (if_pos hb).symm.trans z
        cases z'
        subst hb
        exact ⟨ha, by rw [List.length_map]; exact hl, vs, _, rv, ha⟩
      · by_cases ht : b ∈ ts
        · have z' : some (HO.tbl #[]) = some u := ((if_neg hb).trans (if_pos ht)).symm.trans z
          cases z'
          exact htab b ht
        · have z' : (none : Option HO) = some u := ((if_neg hb).trans (if_neg ht)).symm.trans z
          cases z'
    · by_cases hb : b = a
      · exact .inl hb
      · by_cases ht : b ∈ ts
        · exact .inr ht
        · exact absurd ((if_neg hb).trans (if_neg ht)) z
    · by_cases hb : b = a
      · rw [hb]; exact hk
      · by_cases ht : b ∈ ts
        · exact hKt b ht
        · exact absurd ((if_neg hb).trans (if_neg ht)) z
theorem lookup_of_keys {K : PySem.W.Frag} {as : List Addr} {P : Addr} (e : as = K.map (·.1)) (h : P ∉ as) : K.lookup P = none := by
  rw [e] at h
  clear e
  induction K with
  | nil => rfl
  | cons p r ih =>
    obtain ⟨k, o⟩ := p
    rw [List.map_cons, List.mem_cons, not_or] at h
    rw [List.lookup_cons]
    have : (P == k) = false := by simpa using h.1
    rw [this]
    exact ih h.2
theorem codeTable_of {K : PySem.W.Frag} {h : Heap} {c P : Addr} (X : K.In h) (e : PySem.W.codeHdIn K c P = true) : isCodeTable h P := by
  obtain ⟨o, vs, file, tf, flags, tg, inF, text, tt, e1, e2, e3, e4, _⟩ := PySem.W.codeHd_of_K X e
  exact ⟨c, o, vs, e1, e2, e3, e4⟩
/-- the goal that k_head leaves, tables ts (each of a code c of K) growing -/
theorem walk_ofT {l : PySem.W.OpenLaw} {n k : Nat} {q : Program} {loose : List Str} {XP : (Str → Option Value) → Heap → Prop} {d : DefRec} {K : Params → PySem.W.Frag} {as : List Addr} {e : ∀ P, as = (K P).map (·.1)} {ts : List Addr} {CX : World → CXT} {sp : World → Sp} {x : Str}
    (hn : l.most = some n) (hn2 : n ≤ sizeLine) (hdf : d.params.defaults = []) (hr : Room k callerA) (hts : ∀ P ∈ ts, P ∉ as)
    (hcs : ∀ (w : World), ∀ P ∈ ts, ∃ c, PySem.W.codeHdIn (K w.params) c P = true)
    (F : ∀ (w : World) (mg : Str → Option Value) (fa : Addr) (h : Heap), (K w.params).In h → h.Ns mainGlobals mg → mg d.name = some (.ref fa) →
      ∃ fd : FuncData, (∀ (s : Shared) (u : Value), BindsTo s fd ⟨[u], []⟩ [(x, u)]) ∧
        ∀ base : Heap, (K w.params).In base → base.Ns mainGlobals mg → Bm base mg → FnOk l.prog w (K w.params) mg base (CX w) k fa fd [x] (sp w))
    (hsp : ∀ (w : World) (H : Hp) (a : Addr) (ns : List Int), ns.length ≤ n → (∀ P ∈ ts, H P = some (.tbl #[])) → SqL (K w.params) H a (ns.map V.int) → sp w [.ref a] H (fun v _ => v = .bl true) fun _ _ _ => False)
    (hCX : ∀ (w : World) (H : Hp) (s : Shared) (e : Value) (s' : Shared), CX w [] H s (fun _ _ _ => False) e s' → False) :
    PySem.W.WalkO q loose XP (PySem.W.kmHook K as e ts).says l.row.toRowW d [] (fun f vs => PySem.call f vs) := by
  refine Att.attach_call hn hdf fun w s₀ s₁ mg mb fa o pm cd doc a vs ns G Y ho hd hcd hmg hobj hints hlen hg => ?_
  have KX := PySem.W.km_in_of Y
  obtain ⟨fd, hb, hF⟩ := F w mg fa _ KX G.T.g hmg
  exact law_callT (ts := ts) KX G.T.g G.T.b G.T.builtins G.T.nolimit hg hobj hints (Nat.le_trans hlen hn2) hr (PySem.W.km_tabs_of Y) (fun P hP => lookup_of_keys (e _) (hts P hP)) (fun P hP => let ⟨c, hc⟩ := hcs w P hP; codeTable_of KX hc) G.T.bmain hF hb (fun H hO hS => hsp w H a ns hlen hO hS) fun H e s' => hCX w H s₁ e s'
end X2

set_option maxHeartbeats 4000000
namespace X2
open PySem PySem.Spec PyProof.Rows L2
theorem bt_sorted : bootBuiltins "sorted" = some (.builtin "sorted") := by decide +kernel
theorem objOk_there {P : Program} {w : World} {H : Hp} {h : Heap} {a : Addr} {o : HO} (x : ObjOk P w H h a o) : ∃ u, h.get? a = some u := by
  cases o with
  | lst xs => obtain ⟨_, _, _, _, e⟩ := x; exact ⟨_, e⟩
  | tup xs => obtain ⟨_, _, _, o, e, _⟩ := x; exact ⟨_, e⟩
  | dK kvs => obtain ⟨_, _, _, _, o, _, _, e, _⟩ := x; exact ⟨_, e⟩
  | dT kvs => obtain ⟨_, _, _, _, o, _, _, e, _⟩ := x; exact ⟨_, e⟩
  | set S n => obtain ⟨o, _, _, _, e, _⟩ := x; exact ⟨_, e⟩
  | ins C dx fs => obtain ⟨_, _, _, e, _⟩ := x; exact ⟨_, e⟩
  | own b => exact x
  | xd fs => obtain ⟨_, ⟨o, _, _, e, _⟩, _⟩ := x; exact ⟨_, e⟩
  | rng lo hi => obtain ⟨_, _, _, e⟩ := x; exact ⟨_, e⟩
  | frz o u => exact ⟨_, x.1⟩
  | tbl ps => exact ⟨_, x⟩
  | met f y => exact ⟨_, x⟩
  | ext φ => exact x.2.1
section
variable {X : Cx} {pins : List (Addr × Obj)} {σ : L2.St} {H : Hp} {s : Shared} {h' : Heap}
theorem free_of {D : Addr} (I : Inv X pins σ H s) (h : s.heap.get? D = none) : H D = none := by
  cases e : H D with
  | none => rfl
  | some u =>
    obtain ⟨o, q⟩ := objOk_there (I.hok D u e)
    rw [h] at q
    cases q
/-- all but the frame's own object kept (that by its map), a new object tracked -/
theorem _root_.L2.Inv.laidL {D : Addr} {o : HO} {t' : Nat} (I : Inv X pins σ H s) (k : ∀ b u, b ≠ X.env.locals → s.heap.get? b = some u → h'.get? b = some u) (ns : ∀ m, s.heap.Ns X.env.locals m → h'.Ns X.env.locals m) (hD : s.heap.get? D = none) (new : ObjOk X.prog X.w (upd H D o) h' D o) :
    Inv X pins σ (upd H D o) { s with heap := h', toks := t' } := by
  have hn := free_of I hD
  have old : ∀ {b u}, s.heap.get? b = some u → b ≠ D := fun e z => by rw [z, hD] at e; cases e
  refine I.step (g' := s.gens) (d' := s.drawn) (ch := []) (fun _ z => nomatch z) (fun b u hL _ _ e _ => k b u hL e) (fun b u hL _ _ e _ => ⟨u.slots, k b u hL e⟩) (fun b u _ e n => by rw [upd_ne (old e)]; exact n)
    (fun b u _ e => ?_) (fun b xs q => by rw [upd_ne (ne_of_none q hn)]; exact q) (fun b u xs q => by rw [upd_ne (ne_of_none q hn)]; exact q) (fun b ps q => ⟨#[], by rw [upd_ne (ne_of_none q hn), q]; simp⟩) ns (fun b u e => ?_) I.bare
  · by_cases hL : b = X.env.locals
    · obtain ⟨m, hm, _⟩ := I.loc
      obtain ⟨o', _, _, e', _⟩ := ns m hm
      exact ⟨o', hL ▸ e'⟩
    · exact ⟨u, k b u hL e⟩
  · by_cases hb : b = D
    · subst hb
      rw [upd_same] at e
      cases e
      exact new
    · rw [upd_ne hb] at e
      refine (I.hok b u e).stay (fun c v hc q => k c v ?_ q) (fun c q => by rw [upd_ne (ne_of_none q hn)]; exact q) fun c xs q => by rw [upd_ne (ne_of_none q hn)]; exact q
      rintro rfl
      rcases hc with z | z
      · rw [← z, I.free] at e; cases e
      · rw [I.free] at z; cases z
end
/-! tables may grow, all else stays -/
def isTb : HO → Bool | .tbl _ => true | _ => false
structure SaT (H H' : Hp) : Prop where
  keep : ∀ b u, H b = some u → isTb u = false → H' b = some u
  tbl : ∀ b ps, H b = some (.tbl ps) → ∃ more, H' b = some (.tbl (ps ++ more))
theorem SaT.of {H H' : Hp} (s : Same H H') : SaT H H' := ⟨fun b u e _ => s b u e, fun b ps e => ⟨#[], by rw [s _ _ e]; simp⟩⟩
theorem SaT.trans {H H1 H2 : Hp} (a : SaT H H1) (b : SaT H1 H2) : SaT H H2 := ⟨fun c u e n => b.keep c u (a.keep c u e n) n, fun c ps e => by
  obtain ⟨m1, e1⟩ := a.tbl c ps e
  obtain ⟨m2, e2⟩ := b.tbl c _ e1
  exact ⟨m1 ++ m2, by rw [e2, Array.append_assoc]⟩⟩
theorem SaT.free {H H' : Hp} (s : SaT H H') {b : Addr} (h : H' b = none) : H b = none := by
  cases e : H b with
  | none => rfl
  | some u =>
    cases n : isTb u with
    | false => rw [s.keep b u e n] at h; cases h
    | true =>
      cases u with
      | tbl ps =>
        obtain ⟨m, q⟩ := s.tbl b ps e
        rw [h] at q; cases q
      | _ => cases n
theorem SaT.new {H H' : Hp} (s : SaT H H') {p : Addr} (h : H' p = none) (o : HO) : SaT H (upd H' p o) := s.trans (SaT.of (same_new h o))
theorem SaT.put {H H' : Hp} (s : SaT H H') {p : Addr} (h : H p = none) (o : HO) : SaT H (upd H' p o) := ⟨fun b u q n => by rw [upd_ne (ne_of_none q h)]; exact s.keep b u q n, fun b ps q => by rw [upd_ne (ne_of_none q h)]; exact s.tbl b ps q⟩
def CodeAt (c' : Addr) (lq : Str) : HO := .ext (fun h => h.CodeRec (.ref c') lq)
def TabOk (H : Hp) (P : Addr) (pos : Pos) (lq : Str) : Prop := ∃ ps, H P = some (.tbl ps) ∧ TriplesOk ps.toList ∧ (codeAmong pos ps.toList = none ∨ ∃ c', codeAmong pos ps.toList = some (.ref c') ∧ H c' = some (CodeAt c' lq))
theorem TabOk.mono {H H' : Hp} {P : Addr} {pos : Pos} {lq : Str} (s : Same H H') (t : TabOk H P pos lq) : TabOk H' P pos lq := by
  obtain ⟨ps, e, ht, q⟩ := t
  refine ⟨ps, s _ _ e, ht, ?_⟩
  rcases q with q | ⟨c', q, h⟩
  · exact .inl q
  · exact .inr ⟨c', q, s _ _ h⟩
theorem TabOk.nil {H : Hp} {P : Addr} {pos : Pos} {lq : Str} (h : H P = some (.tbl #[])) : TabOk H P pos lq := ⟨#[], h, trivial, .inl rfl⟩
theorem triples_snoc {i j : Int} {a b : Tok} {v : Value} : ∀ (l : List Value), TriplesOk l → TriplesOk (l ++ [.int i a, .int j b, v]) := by
  intro l h
  fun_induction TriplesOk l with
  | case1 => trivial
  | case2 _ _ _ _ _ rest ih => exact ih h
  | case3 => exact h.elim
/-- a lambda as it stands in the heap -/
def LamObj (q : Addr) (lq : Str) (params : Arguments) (body : Expr) (scope : Scope) (pm : Value) (c' : Addr) : HO := .ext (fun h => ∃ ctv, h.get? q = some (PySem.W.kla_obj "<lambda>" lq params body scope [] pm c' ctv))
def tLam (P : Addr) (lpos : Pos) (lq : Str) (params : Arguments) (body : Expr) (scope : Scope) (pm : Value) : TE := fun _ H Q => TabOk H P lpos lq ∧ ∀ q c' H1, SaT H H1 → TabOk H1 P lpos lq → H q = none → H1 q = some (LamObj q lq params body scope pm c') → H1 c' = some (CodeAt c' lq) → Q (.ref q) H1
theorem pe_lam {X : Cx} {params : Arguments} {body : Expr} {scope : Scope} {lpos : Pos} {c P : Addr} (hcode : X.env.code = .ref c) (hc : PySem.W.codeHdIn X.K c P = true) (BM : Bm X.base X.mg) (hdef : defaultsOf params X.env = ([], []) := by rfl) (hcl : closureFor scope X.env = pure [] := by rfl) :
    PE X (.Lambda params body scope lpos) (tLam P lpos (X.env.qual ++ "<lambda>") params body scope ((X.mg "__name__").getD .none)) := by
  intro pins s σ H Q I h
  obtain ⟨⟨ps, hP, ht, hcase⟩, q⟩ := h
  have gP : s.heap.get? P = some (PySem.W.tabObj ps) := I.hok P _ hP
  have glob : s.heap.Ns mainGlobals X.mg := I.mod.glob.keeps I.bk
  have C : PySem.W.CodeHd s.heap c P := PySem.W.codeHd_of_K I.kIn hc
  obtain ⟨bm, ob, b1, b2, b3, b4, b5, b6⟩ := BM
  have b3' := I.bk _ _ b3
  have hgP : mainGlobals ≠ P := fun z => by
    obtain ⟨o, es, ep, e, d, _⟩ := glob
    rw [z, gP] at e; cases e; cases d
  have hbP : bm ≠ P := fun z => by rw [z, gP] at b3'; cases b3'; cases b4
  have hbG : bm ≠ mainGlobals := fun z => by
    obtain ⟨o, es, ep, e, d, _⟩ := glob
    rw [z, e] at b3'; cases b3'; rw [d] at b6; cases b6
  have hB : s.heap.BuiltinsAt X.mg P := ⟨bm, ob, b1, b2, hbG, hbP, b3', b4, b5, b6⟩
  have lamStay : ∀ (q c' : Addr) (h1 h2 : Heap), (∃ ctv, h1.get? q = some (PySem.W.kla_obj "<lambda>" (X.env.qual ++ "<lambda>") params body scope [] ((X.mg "__name__").getD .none) c' ctv)) → (∀ o, h1.get? q = some o → h2.get? q = some o) → ∃ ctv, h2.get? q = some (PySem.W.kla_obj "<lambda>" (X.env.qual ++ "<lambda>") params body scope [] ((X.mg "__name__").getD .none) c' ctv) := fun q c' h1 h2 ⟨ctv, e⟩ k => ⟨ctv, k _ e⟩
  have codeStay : ∀ (c' : Addr) (h1 h2 : Heap), h1.CodeRec (.ref c') (X.env.qual ++ "<lambda>") → (∀ o, h1.get? c' = some o → h2.get? c' = some o) → h2.CodeRec (.ref c') (X.env.qual ++ "<lambda>") := fun c' h1 h2 ⟨c2, o, vs, t, e1, e2, e3, e4⟩ k => by
    cases e1
    exact ⟨_, o, vs, t, rfl, k o e2, e3, e4⟩
  refine PySem.W.kla_eval hdef ?_
  rcases hcase with hnf | ⟨c', hf, hc'⟩
  · refine PySem.W.kla_makeFunction (mg := X.mg) hcl I.ok.glob glob hcode C gP ht hnf hgP hB fun c' ctv h' tk hx hge hlt hrec htb => ?_
    have nP : ∀ b u, H b = some u → isTb u = false → b ≠ P := fun b u e n z => by rw [z, hP] at e; cases e; cases n
    have hcP : c' ≠ P := fun z => absurd (Nat.lt_of_lt_of_le (Heap.lt_size gP) (z ▸ hge)) (Nat.lt_irrefl _)
    have fc : H c' = none := I.hok.fresh hge
    let H1 := upd (upd H P (.tbl (ps ++ #[rawInt lpos.line, rawInt lpos.col, .ref c']))) c' (CodeAt c' (X.env.qual ++ "<lambda>"))
    have H1old : ∀ b, b ≠ P → b ≠ c' → H1 b = H b := fun b n1 n2 => by show upd _ c' _ b = _; rw [upd_ne n2, upd_ne n1]
    have old : ∀ {b u}, s.heap.get? b = some u → b ≠ c' := fun e z => absurd (Nat.lt_of_lt_of_le (Heap.lt_size e) (z ▸ hge)) (Nat.lt_irrefl _)
    have oldH : ∀ {b u}, H b = some u → b ≠ c' := fun e z => by rw [z, fc] at e; cases e
    have I1 : Inv X pins σ H1 { s with heap := h', toks := tk } := by
      refine I.step (g' := s.gens) (d' := s.drawn) (ch := []) (fun _ z => nomatch z) (fun b u _ _ _ e n => hx b u (fun z => by rw [z, hP] at n; cases n) e) (fun b u _ _ _ e n => ⟨u.slots, hx b u (fun z => by rw [z, hP] at n; cases n) e⟩) (fun b u _ e n => ?_)
        (fun b u _ e => ?_) (fun b xs z => ?_) (fun b u xs z => ?_) (fun b ps' z => ?_) (fun m hm => hm.extBut hx (fun z => by have := I.free; rw [z, hP] at this; cases this)) (fun b u e => ?_) I.bare
      · rw [H1old b (fun z => by rw [z, hP] at n; cases n) (old e)]; exact n
      · by_cases hb : b = P
        · exact ⟨_, hb ▸ htb⟩
        · exact ⟨u, hx b u hb e⟩
      · rw [H1old b (nP b _ z rfl) (oldH z)]; exact z
      · rw [H1old b (nP b _ z rfl) (oldH z)]; exact z
      · by_cases hb : b = P
        · subst hb
          rw [hP] at z
          cases z
          exact ⟨#[rawInt lpos.line, rawInt lpos.col, .ref c'], by show upd _ c' _ b = _; rw [upd_ne hcP.symm, upd_same]⟩
        · exact ⟨#[], by rw [H1old b hb (oldH z), z]; simp⟩
      · have e' : upd (upd H P (.tbl (ps ++ #[rawInt lpos.line, rawInt lpos.col, .ref c']))) c' (CodeAt c' (X.env.qual ++ "<lambda>")) b = some u := e
        by_cases hb : b = c'
        · subst hb
          rw [upd_same] at e'
          cases e'
          obtain ⟨c2, o, vs, t, z1, z2, z3, z4⟩ := id hrec
          cases z1
          exact ⟨hrec, ⟨o, z2⟩, codeStay b⟩
        · rw [upd_ne hb] at e'
          by_cases hp : b = P
          · subst hp
            rw [upd_same] at e'
            cases e'
            exact htb
          · rw [upd_ne hp] at e'
            refine (I.hok b u e').stay (fun a v ha z => hx a v ?_ z) (fun a z => ?_) (fun a xs z => ?_)
            · rintro rfl
              rcases ha with z | z
              · exact hp z.symm
              · rw [hP] at z; cases z
            · have ea : H1 a = H a := H1old a (nP a _ z rfl) (oldH z)
              show H1 a = _
              rw [ea]; exact z
            · have ea : H1 a = H a := H1old a (nP a _ z rfl) (oldH z)
              show H1 a = _
              rw [ea]; exact z
    have fq : H1 h'.objs.size = none := I1.hok.fresh (Nat.le_refl _)
    have I2 : Inv X pins σ (upd H1 h'.objs.size (LamObj h'.objs.size (X.env.qual ++ "<lambda>") params body scope ((X.mg "__name__").getD .none) c')) { s with heap := h'.push (PySem.W.kla_obj "<lambda>" (X.env.qual ++ "<lambda>") params body scope [] ((X.mg "__name__").getD .none) c' ctv), toks := tk } :=
      I1.laid (t' := tk) (fun b o e => Heap.get?_push_of_some _ e) (Nat.le_refl _) ⟨⟨ctv, Heap.get?_push_size _ rfl⟩, ⟨_, Heap.get?_push_size _ rfl⟩, lamStay _ c'⟩
    have s1 : SaT H H1 := ⟨fun b u e n => by rw [H1old b (nP b u e n) (oldH e)]; exact e, fun b ps' e => by
      by_cases hb : b = P
      · subst hb
        rw [hP] at e
        cases e
        exact ⟨#[rawInt lpos.line, rawInt lpos.col, .ref c'], by show upd _ c' _ b = _; rw [upd_ne hcP.symm, upd_same]⟩
      · exact ⟨#[], by rw [H1old b hb (oldH e), e]; simp⟩⟩
    have hP1 : H1 P = some (.tbl (ps ++ #[rawInt lpos.line, rawInt lpos.col, .ref c'])) := by show upd _ c' _ P = _; rw [upd_ne hcP.symm, upd_same]
    have hc1 : H1 c' = some (CodeAt c' (X.env.qual ++ "<lambda>")) := upd_same
    have sq := same_new fq (LamObj h'.objs.size (X.env.qual ++ "<lambda>") params body scope ((X.mg "__name__").getD .none) c')
    have el : (ps ++ #[rawInt lpos.line, rawInt lpos.col, .ref c']).toList = ps.toList ++ [rawInt lpos.line, rawInt lpos.col, .ref c'] := by simp
    have T1 : TabOk H1 P lpos (X.env.qual ++ "<lambda>") := ⟨_, hP1, by rw [el]; exact triples_snoc _ ht, .inr ⟨c', by rw [el]; exact codeAmong_snoc _ ht hnf, hc1⟩⟩
    exact ⟨.ref h'.objs.size, _, I2, rfl, q _ c' _ (s1.trans (SaT.of sq)) (T1.mono sq) (s1.free fq) upd_same (sq _ _ hc1)⟩
  · refine PySem.W.kla_makeFunctionHit (mg := X.mg) hcl I.ok.glob glob hcode C gP ht hf hB fun ctv h' tk hk hsz => ?_
    have I1 : Inv X pins σ H { s with heap := h', toks := tk } := I.kept hk
    have fq : H h'.objs.size = none := I1.hok.fresh (Nat.le_refl _)
    have I2 : Inv X pins σ (upd H h'.objs.size (LamObj h'.objs.size (X.env.qual ++ "<lambda>") params body scope ((X.mg "__name__").getD .none) c')) { s with heap := h'.push (PySem.W.kla_obj "<lambda>" (X.env.qual ++ "<lambda>") params body scope [] ((X.mg "__name__").getD .none) c' ctv), toks := tk } :=
      I1.laid (t' := tk) (fun b o e => Heap.get?_push_of_some _ e) (Nat.le_refl _) ⟨⟨ctv, Heap.get?_push_size _ rfl⟩, ⟨_, Heap.get?_push_size _ rfl⟩, lamStay _ c'⟩
    have sq := same_new fq (LamObj h'.objs.size (X.env.qual ++ "<lambda>") params body scope ((X.mg "__name__").getD .none) c')
    have T0 : TabOk H P lpos (X.env.qual ++ "<lambda>") := ⟨ps, hP, ht, .inr ⟨c', hf, hc'⟩⟩
    exact ⟨.ref h'.objs.size, _, I2, rfl, q _ c' _ (SaT.of sq) (T0.mono sq) fq upd_same (sq _ _ hc')⟩
end X2

set_option maxHeartbeats 4000000
namespace X2
open PySem PySem.Spec PyProof.Rows L2
/-- (lambda p: p[G])(x), x a tuple, G a number of the module -/
theorem lam_call {prog : Program} {w : World} {A : Around} {s : Shared} {q c' x : Addr} {lq px gx : Str} {params : Arguments} {scope : Scope} {pm ctv : Value} {pp gp bp : Pos} {mg : Str → Option Value} {its : Array Value} {ix : Nat} {t t0 : Tok} {k : Int}
    (hq : s.heap.get? q = some (PySem.W.kla_obj "<lambda>" lq params (.Subscript (.Name px pp) (.Name gx gp) bp) scope [] pm c' ctv)) (hc : s.heap.CodeRec (.ref c') lq) (hd : A.depth < recursionLimit) (lim : s.heap.NoLimit) (glob : s.heap.Ns mainGlobals mg)
    (hgx : mg gx = some (.int ix t0)) (ht : IsTup s.heap x its) (hk : its[ix]? = some (.int k t)) (hz : its.size ≤ sizeLine)
    (hb : bindArgs (PySem.W.kla_fn "<lambda>" lq params (.Subscript (.Name px pp) (.Name gx gp) bp) scope [] pm (.ref c') ctv) ⟨[.ref x], []⟩ = pure [(px, .ref x)])
    (kd : scope.kind = .function) (co : scope.isCoroutine = false) (gn : scope.isGenerator = false) (ncell : ∀ y ∈ scope.names, y.2 ≠ .cell) (lpx : scope.names.lookup px = some .local) (lgx : scope.names.lookup gx = some .globalImplicit)
    (d1 : (px == ("__debug__" : Str)) = false) (d2 : (gx == ("__debug__" : Str)) = false) :
    wpAny (model prog w) A (call (.ref q) [.ref x]) (fun v s' => ∃ h' tk t', s' = { s with heap := h', toks := tk } ∧ v = .int k t' ∧ ∀ b o, s.heap.get? b = some o → h'.get? b = some o) (fun _ _ => False) s := by
  refine wpAny_call (PySem.W.kla_callFunE hd hq rfl co gn rfl hc ?_)
  rw [hb]
  refine wpAny_pure (wpAny_newFunctionEnv ncell (fun y hy => ?_) (fun h₁ hns hsb => ⟨lim.fresh _ hsb, ?_⟩) kd)
  · rw [List.mem_singleton.mp hy]
    exact lpx
  have hk₁ : ∀ b o, s.heap.get? b = some o → h₁.get? b = some o := fun b o e => hsb.extBut b o (Nat.ne_of_lt (Heap.lt_size e)) (Heap.get?_push_of_some _ e)
  refine PySem.W.kla_codeExpr ?_
  have hix : ix < its.size := by
    obtain ⟨z, _⟩ := Array.getElem?_eq_some_iff.mp hk
    exact z
  refine Subscript_ (wpAny_Name (wpAny_loadName_local kd lpx hns (show List.lookup px [(px, Value.ref x)].reverse = some (.ref x) by simp [List.lookup]) ?_) d1)
  refine Calls.Name_function_global kd lgx (Calls.loadGlobal_global (glob.keeps hk₁) hgx ?_) d2
  have ht1 : IsTup h₁ x its := by
    obtain ⟨o, e, r⟩ := ht
    exact ⟨o, hk₁ _ _ e, r⟩
  have hn := line63
  refine subscriptTail_builtinR (x := .int k t) ht1.typeIs slot_tuple_getitem.lookup (getItem_tuple (j := ix) ht1 (by omega) (by omega) ?_ hk ⟨rfl, ?_⟩)
  · unfold seqIndex?
    simp
    omega
  · exact ⟨_, _, _, rfl, rfl, hk₁⟩

theorem perm_lift {α β : Type} {R : α → β → Prop} {l1 l2 : List β} (p : l1.Perm l2) : ∀ {m2 : List α}, Paired R m2 l2 → ∃ m1, Paired R m1 l1 ∧ m1.Perm m2 := by
  induction p with
  | nil =>
    intro m2 h
    cases h
    exact ⟨[], .nil, .nil⟩
  | cons x _ ih =>
    intro m2 h
    cases h with
    | cons r t =>
      obtain ⟨m1, a, b⟩ := ih t
      exact ⟨_ :: m1, .cons r a, b.cons _⟩
  | swap x y l =>
    intro m2 h
    cases h with
    | cons r t =>
      cases t with
      | cons r' t => exact ⟨_ :: _ :: _, .cons r' (.cons r t), .swap _ _ _⟩
  | trans _ _ ih1 ih2 =>
    intro m2 h
    obtain ⟨m1, a, b⟩ := ih2 h
    obtain ⟨m0, c, d⟩ := ih1 a
    exact ⟨m0, c, d.trans b⟩
def KOut (b : Bool) (ks : List Int) (xs out : List V) : Prop := ∃ ps : List (Int × V), ps.Perm (ks.zip xs) ∧ out = ps.map Prod.snd ∧ ps.Pairwise (fun p q => if b then q.1 ≤ p.1 else p.1 ≤ q.1)
theorem paired_zip : ∀ {ks : List Int} {xs : List V} {us : List Value}, Vals xs us → Paired (fun (p : Int × V) (q : Int × Value) => p.1 = q.1 ∧ RelV p.2 q.2) (ks.zip xs) (ks.zip us)
  | [], _, _, _ => by simp; exact .nil
  | _ :: _, [], _, .nil => by simp; exact .nil
  | k :: ks, x :: xs, u :: us, .cons r t => by
    rw [List.zip_cons_cons, List.zip_cons_cons]
    exact .cons ⟨rfl, r⟩ (paired_zip t)
theorem paired_snd : ∀ {ps : List (Int × V)} {qs : List (Int × Value)}, Paired (fun (p : Int × V) (q : Int × Value) => p.1 = q.1 ∧ RelV p.2 q.2) ps qs → Vals (ps.map Prod.snd) (qs.map Prod.snd)
  | _, _, .nil => .nil
  | _, _, .cons r t => .cons r.2 (paired_snd t)
theorem paired_pw {b : Bool} : ∀ {ps : List (Int × V)} {qs : List (Int × Value)}, Paired (fun (p : Int × V) (q : Int × Value) => p.1 = q.1 ∧ RelV p.2 q.2) ps qs → qs.Pairwise (fun p q => if b then q.1 ≤ p.1 else p.1 ≤ q.1) → ps.Pairwise (fun p q => if b then q.1 ≤ p.1 else p.1 ≤ q.1)
  | _, _, .nil, _ => .nil
  | p :: ps, q :: qs, .cons r t, h => by
    obtain ⟨h1, h2⟩ := List.pairwise_cons.mp h
    refine List.pairwise_cons.mpr ⟨fun x hx => ?_, paired_pw t h2⟩
    have mem : ∀ {ps : List (Int × V)} {qs : List (Int × Value)}, Paired (fun (p : Int × V) (q : Int × Value) => p.1 = q.1 ∧ RelV p.2 q.2) ps qs → ∀ x ∈ ps, ∃ y ∈ qs, x.1 = y.1 := by
      intro ps qs h
      induction h with
      | nil => intro x hx; cases hx
      | cons r _ ih =>
        intro x hx
        rcases List.mem_cons.mp hx with z | z
        · subst z; exact ⟨_, List.mem_cons_self .., r.1⟩
        · obtain ⟨y, hy, e⟩ := ih x z
          exact ⟨y, List.mem_cons_of_mem _ hy, e⟩
    obtain ⟨y, hy, e⟩ := mem t x hx
    have g := h1 y hy
    rw [r.1, e]
    exact g
theorem sort_core {X : Cx} {pins : List (Addr × Obj)} {σ : L2.St} {H : Hp} {s : Shared} {Q : VK} {a q c' : Addr} {xs : List V} {ks : List Int} {b : Bool} {kw : List (Str × Value)} {k0 : Nat} {lq px gx : Str} {params : Arguments} {scope : Scope} {pm : Value} {pp gp bp : Pos} {ix : Nat} {t0 : Tok}
    (I : Inv X pins σ H s) (hr : Room k0 X.A) (hx : SqL X.K H a xs) (h64 : xs.length < 64) (hlen : ks.length = xs.length) (items : ∀ (i : Nat) x k, xs[i]? = some x → ks[i]? = some k → ∃ p ws, x = V.ref p ∧ H p = some (.tup ws) ∧ ws[ix]? = some (.int k))
    (hq : H q = some (LamObj q lq params (.Subscript (.Name px pp) (.Name gx gp) bp) scope pm c')) (hc : H c' = some (CodeAt c' lq)) (hgx : X.mg gx = some (.int ix t0))
    (hb : ∀ ctv x, bindArgs (PySem.W.kla_fn "<lambda>" lq params (.Subscript (.Name px pp) (.Name gx gp) bp) scope [] pm (.ref c') ctv) ⟨[.ref x], []⟩ = pure [(px, .ref x)])
    (kd : scope.kind = .function) (co : scope.isCoroutine = false) (gn : scope.isGenerator = false) (ncell : ∀ y ∈ scope.names, y.2 ≠ .cell) (lpx : scope.names.lookup px = some .local) (lgx : scope.names.lookup gx = some .globalImplicit)
    (d1 : (px == ("__debug__" : Str)) = false) (d2 : (gx == ("__debug__" : Str)) = false)
    (ha1 : argsOk "sorted" ⟨[.ref a], kw⟩) (ha2 : ∀ x, argsOk "list.sort" ⟨[.ref x], kw⟩) (ht : ∀ x, Builtin.«list.sort» ⟨[.ref x], kw⟩ = ksk_tree x (.ref q) b)
    (fin : ∀ D out, H D = none → KOut b ks xs out → Q (.ref D) (upd H D (.lst out))) : wpAny (model X.prog X.w) X.A (call (.builtin "sorted") [.ref a] kw) (EP X pins σ Q) X.xe s := by
  obtain ⟨us, ru, pu, hz⟩ := I.list hx
  obtain ⟨m, hm, _⟩ := id I.loc
  have lu := ru.length
  have nL : ∀ {b u}, H b = some u → b ≠ X.env.locals := fun e z => by have := I.free; rw [← z, e] at this; cases this
  refine ksk_sorted (h₀ := Att.noObjs s.heap) (L := X.env.locals) (m := m) (news := allNews (Att.noObjs s.heap) s.heap X.env.locals) (kz := ks) (Att.fr_all hm) news_all pu.isList (by rw [hlen, lu]) (by rw [← lu]; exact h64) ha1 ha2 ht ?_ ?_
  · intro i v k hv hk h tk own F' N'
    have get : ∀ b o, b ≠ X.env.locals → s.heap.get? b = some o → h.get? b = some o := fun b o nb e => (N' (b, o) (List.mem_append_left _ (mem_allNews nb (Att.noObjs_get _ _) e))).1
    have hi : i < xs.length := by rw [lu]; exact (List.getElem?_eq_some_iff.mp hv).1
    have hxi : xs[i]? = some xs[i] := List.getElem?_eq_getElem hi
    obtain ⟨u, hu, rv⟩ := ru.get hxi
    rw [hv] at hu
    cases hu
    obtain ⟨p, ws, ep, hp, hw⟩ := items i _ k hxi hk
    rw [ep] at rv
    cases (show v = Value.ref p from rv)
    obtain ⟨its, r, pl, hz2⟩ := I.tuple (SqT.of (K := X.K) hp)
    obtain ⟨u, hu, ⟨t, rfl⟩⟩ := r.get hw
    obtain ⟨⟨ctv, eq⟩, _⟩ := I.hok q _ hq
    have cr : s.heap.CodeRec (.ref c') lq := (I.hok c' _ hc).1
    have keepB : ∀ b o, X.base.get? b = some o → h.get? b = some o := fun b o e => get b o (Nat.ne_of_lt (Nat.lt_of_lt_of_le (Heap.lt_size (I.ok.bs b o e).1) I.ok.above)) (I.bk b o e)
    have cr' : h.CodeRec (.ref c') lq := by
      obtain ⟨c2, o, vs, t, z1, z2, z3, z4⟩ := cr
      cases z1
      exact ⟨_, o, vs, t, rfl, get _ _ (nL hc) z2, z3, z4⟩
    have tp : IsTup h p its.toArray := by
      obtain ⟨o, e, r⟩ := pl
      exact ⟨o, get _ _ (nL hp) e, r⟩
    refine wpAny_mono (lam_call (s := { s with heap := h, toks := tk }) (mg := X.mg) (get _ _ (nL hq) eq) cr' (show X.A.in1.in1.depth < recursionLimit from hr.depth) (I.mod.nolimit.keeps keepB) (I.mod.glob.keeps keepB) hgx tp (by simpa using hu) (by rw [List.size_toArray, ← r.length]; exact hz2) (hb ctv p) kd co gn ncell lpx lgx d1 d2) (fun v s' hh => ?_) fun _ _ z => z
    obtain ⟨h2, tk2, t2, e1, e2, kk⟩ := hh
    exact ⟨h2, tk2, t2, by rw [e1], e2, F'.kept kk, N'.grown kk⟩
  · intro D h' tk out c F' N' hlt ko
    have kept : ∀ b o, b ≠ X.env.locals → s.heap.get? b = some o → h'.get? b = some o := fun b o nb e => (N' (b, o) (List.mem_cons_of_mem _ (mem_allNews nb (Att.noObjs_get _ _) e))).1
    have hDn := N' (D, seqObj "list" out c) (List.mem_cons_self ..)
    have hD : s.heap.get? D = none := by
      cases e : s.heap.get? D with
      | none => rfl
      | some o => exact absurd (hlt (D, o) (mem_allNews hDn.2.1 (Att.noObjs_get _ _) e)) (Nat.lt_irrefl _)
    obtain ⟨qs, hp, ho, hw⟩ := ko
    obtain ⟨ps, pr, pp'⟩ := perm_lift hp (paired_zip (ks := ks) ru)
    have lps : ps.length = xs.length := by rw [pp'.length_eq, List.length_zip]; omega
    have vo : Vals (ps.map Prod.snd) out.toList := by rw [ho]; exact paired_snd pr
    refine ⟨.ref D, _, I.laidL (t' := tk) (o := .lst (ps.map Prod.snd)) kept (fun m' hm' => ?_) hD ?_, rfl, fin D _ (free_of I hD) ⟨ps, pp', rfl, paired_pw pr hw⟩⟩
    · have em : m' = m := funext fun x => hm'.agree hm x
      rw [em]
      exact F'.ns
    · exact ⟨by rw [List.length_map, lps]; exact Nat.le_of_lt (small1000 (by omega)), out.toList, c, vo, by rw [Array.toArray_toList]; exact hDn.1⟩

theorem SaT.seq {K : PySem.W.Frag} {H H' : Hp} (s : SaT H H') {a : Addr} {xs : List V} (h : SqL K H a xs) : SqL K H' a xs := by
  rcases h with h | h
  · rcases h with h | ⟨o, h⟩
    · exact .inl (.inl (s.keep _ _ h rfl))
    · exact .inl (.inr ⟨o, s.keep _ _ h rfl⟩)
  · exact .inr h
def tSortL (K : PySem.W.Frag) (P : Addr) (lpos : Pos) (lq : Str) (ix : Nat) (b : Bool) (tl : TE) : TE := fun σ H Q => tl σ H fun x H1 => ∃ a xs ks, x = .ref a ∧ SqL K H1 a xs ∧ xs.length < 64 ∧ ks.length = xs.length ∧
  (∀ (i : Nat) x k, xs[i]? = some x → ks[i]? = some k → ∃ p ws, x = V.ref p ∧ H1 p = some (.tup ws) ∧ ws[ix]? = some (.int k)) ∧ TabOk H1 P lpos lq ∧
  ∀ D out H2, SaT H1 H2 → TabOk H2 P lpos lq → H1 D = none → H2 D = some (.lst out) → KOut b ks xs out → Q (.ref D) H2
section
variable {X : Cx} {l : Expr} {tl : TE} {k0 : Nat} {px gx : Str} {params : Arguments} {scope : Scope} {pp gp bp lpos kp p pos : Pos} {ix : Nat} {t0 : Tok} {c P : Addr} {k1 : Nat} {rp kp2 : Pos}
theorem pe_sortL (hr : Room k0 X.A) (hg : Gl X "sorted") (hm : X.mg "sorted" = none) (hl : PE X l tl) (hcode : X.env.code = .ref c) (hc : PySem.W.codeHdIn X.K c P = true) (BM : Bm X.base X.mg) (hgx : X.mg gx = some (.int ix t0))
    (hdef : defaultsOf params X.env = ([], []) := by rfl) (hcl : closureFor scope X.env = pure [] := by rfl)
    (hb : ∀ (c' : Addr) (pm ctv : Value) (x : Addr), bindArgs (PySem.W.kla_fn "<lambda>" (X.env.qual ++ "<lambda>") params (.Subscript (.Name px pp) (.Name gx gp) bp) scope [] pm (.ref c') ctv) ⟨[.ref x], []⟩ = pure [(px, .ref x)] := by intro _ _ _ _; rfl)
    (kd : scope.kind = .function := by rfl) (co : scope.isCoroutine = false := by rfl) (gn : scope.isGenerator = false := by rfl) (ncell : ∀ y ∈ scope.names, y.2 ≠ .cell := by decide +kernel) (lpx : scope.names.lookup px = some .local := by rfl) (lgx : scope.names.lookup gx = some .globalImplicit := by rfl)
    (d1 : (px == ("__debug__" : Str)) = false := by decide) (d2 : (gx == ("__debug__" : Str)) = false := by decide) (he : starEach [l] X.env = [(false, eval l X.env)] := by rfl) :
    PE X (.Call (.Name "sorted" p) [l] [⟨some "key", .Lambda params (.Subscript (.Name px pp) (.Name gx gp) bp) scope lpos, kp⟩] pos) (tSortL X.K P lpos (X.env.qual ++ "<lambda>") ix false tl) := by
  intro pins s σ H Q I h
  refine wpAny_Call_Name_kw (ld_blt I hg hm bt_sorted ?_)
  refine callWith_builtin_kwB (first := []) (by rw [he]; rfl) rfl (evalArgs_kw2 rfl ?_ he)
  refine thn ((pa_cons hl pa_nil he) pos pins s σ H (fun vs H1 => match vs with
    | [x] => ∃ a xs ks, x = .ref a ∧ SqL X.K H1 a xs ∧ xs.length < 64 ∧ ks.length = xs.length ∧ (∀ (i : Nat) x k, xs[i]? = some x → ks[i]? = some k → ∃ p ws, x = V.ref p ∧ H1 p = some (.tup ws) ∧ ws[ix]? = some (.int k)) ∧ TabOk H1 P lpos (X.env.qual ++ "<lambda>") ∧
        ∀ D out H2, SaT H1 H2 → TabOk H2 P lpos (X.env.qual ++ "<lambda>") → H1 D = none → H2 D = some (.lst out) → KOut false ks xs out → Q (.ref D) H2
    | _ => False) I h) fun us s1 hus => ?_
  obtain ⟨vs, H1, I1, r1, q1⟩ := hus
  obtain ⟨x, rfl⟩ : ∃ x, vs = [x] := by
    cases vs with
    | nil => exact q1.elim
    | cons x r =>
      cases r with
      | nil => exact ⟨x, rfl⟩
      | cons y r => exact q1.elim
  obtain ⟨u, rfl, ru⟩ := vals1 r1
  obtain ⟨a, xs, ks, rfl, hx, h64, hlen, items, tab, fin⟩ := q1
  cases (show u = Value.ref a from ru)
  refine thn ((pk_cons (kpos := kp) (nm := some "key") (pe_lam hcode hc BM hdef hcl) pk_nil) pos pins s1 σ H1 (fun zs H2 => match zs with
      | [z] => ∃ q c', z = .ref q ∧ SaT H1 H2 ∧ TabOk H2 P lpos (X.env.qual ++ "<lambda>") ∧ H2 q = some (LamObj q (X.env.qual ++ "<lambda>") params (.Subscript (.Name px pp) (.Name gx gp) bp) scope ((X.mg "__name__").getD .none) c') ∧ H2 c' = some (CodeAt c' (X.env.qual ++ "<lambda>"))
      | _ => False) I1 ⟨tab, fun q c' H2 s2 t2 _ hq hc' => ⟨q, c', rfl, s2, t2, hq, hc'⟩⟩) fun ws s2 hws => ?_
  obtain ⟨zs, H2, I2, rz, q2⟩ := hws
  obtain ⟨z, rfl⟩ : ∃ z, zs = [z] := by
    cases zs with
    | nil => exact q2.elim
    | cons x r =>
      cases r with
      | nil => exact ⟨x, rfl⟩
      | cons y r => exact q2.elim
  obtain ⟨w, rfl, rw'⟩ := vals1 rz
  obtain ⟨q, c', rfl, s2', t2, hq, hc'⟩ := q2
  cases (show w = Value.ref q from rw')
  show wpAny (model X.prog X.w) X.A (call (.builtin "sorted") [.ref a] [(Str.ofString "key", .ref q)]) (EP X pins σ Q) X.xe s2
  refine sort_core (b := false) (kw := [(Str.ofString "key", .ref q)]) I2 hr (s2'.seq hx) h64 hlen (fun i x k h1 h2 => ?_) hq hc' hgx (hb c' _) kd co gn ncell lpx lgx d1 d2 (ksk_s1 _ _) (fun x => ksk_l1 _ _) (fun x => ksk_t1 q x) fun D out hD ko => ?_
  · obtain ⟨p, ws, e, hp, hw⟩ := items i x k h1 h2
    exact ⟨p, ws, e, s2'.keep _ _ hp rfl, hw⟩
  · exact fin D out _ (s2'.new hD _) (t2.mono (same_new hD _)) (s2'.free hD) upd_same ko
theorem pe_sortLR (hr : Room k0 X.A) (hg : Gl X "sorted") (hm : X.mg "sorted" = none) (hl : PE X l tl) (hcode : X.env.code = .ref c) (hc : PySem.W.codeHdIn X.K c P = true) (BM : Bm X.base X.mg) (hgx : X.mg gx = some (.int ix t0))
    (hdef : defaultsOf params X.env = ([], []) := by rfl) (hcl : closureFor scope X.env = pure [] := by rfl)
    (hb : ∀ (c' : Addr) (pm ctv : Value) (x : Addr), bindArgs (PySem.W.kla_fn "<lambda>" (X.env.qual ++ "<lambda>") params (.Subscript (.Name px pp) (.Name gx gp) bp) scope [] pm (.ref c') ctv) ⟨[.ref x], []⟩ = pure [(px, .ref x)] := by intro _ _ _ _; rfl)
    (kd : scope.kind = .function := by rfl) (co : scope.isCoroutine = false := by rfl) (gn : scope.isGenerator = false := by rfl) (ncell : ∀ y ∈ scope.names, y.2 ≠ .cell := by decide +kernel) (lpx : scope.names.lookup px = some .local := by rfl) (lgx : scope.names.lookup gx = some .globalImplicit := by rfl)
    (d1 : (px == ("__debug__" : Str)) = false := by decide) (d2 : (gx == ("__debug__" : Str)) = false := by decide) (he : starEach [l] X.env = [(false, eval l X.env)] := by rfl) :
    PE X (.Call (.Name "sorted" p) [l] [⟨some "key", .Lambda params (.Subscript (.Name px pp) (.Name gx gp) bp) scope lpos, kp⟩, ⟨some "reverse", .Constant (.bool true) k1 rp, kp2⟩] pos) (tSortL X.K P lpos (X.env.qual ++ "<lambda>") ix true tl) := by
  intro pins s σ H Q I h
  refine wpAny_Call_Name_kw (ld_blt I hg hm bt_sorted ?_)
  refine callWith_builtin_kwB (first := []) (by rw [he]; rfl) rfl (evalArgs_kw2 rfl ?_ he)
  refine thn ((pa_cons hl pa_nil he) pos pins s σ H (fun vs H1 => match vs with
    | [x] => ∃ a xs ks, x = .ref a ∧ SqL X.K H1 a xs ∧ xs.length < 64 ∧ ks.length = xs.length ∧ (∀ (i : Nat) x k, xs[i]? = some x → ks[i]? = some k → ∃ p ws, x = V.ref p ∧ H1 p = some (.tup ws) ∧ ws[ix]? = some (.int k)) ∧ TabOk H1 P lpos (X.env.qual ++ "<lambda>") ∧
        ∀ D out H2, SaT H1 H2 → TabOk H2 P lpos (X.env.qual ++ "<lambda>") → H1 D = none → H2 D = some (.lst out) → KOut true ks xs out → Q (.ref D) H2
    | _ => False) I h) fun us s1 hus => ?_
  obtain ⟨vs, H1, I1, r1, q1⟩ := hus
  obtain ⟨x, rfl⟩ : ∃ x, vs = [x] := by
    cases vs with
    | nil => exact q1.elim
    | cons x r =>
      cases r with
      | nil => exact ⟨x, rfl⟩
      | cons y r => exact q1.elim
  obtain ⟨u, rfl, ru⟩ := vals1 r1
  obtain ⟨a, xs, ks, rfl, hx, h64, hlen, items, tab, fin⟩ := q1
  cases (show u = Value.ref a from ru)
  refine thn ((pk_cons (kpos := kp) (nm := some "key") (pe_lam hcode hc BM hdef hcl) (pk_cons (kpos := kp2) (nm := some "reverse") pe_bl pk_nil)) pos pins s1 σ H1 (fun zs H2 => match zs with
      | [z, y] => ∃ q c', y = .bl true ∧ z = .ref q ∧ SaT H1 H2 ∧ TabOk H2 P lpos (X.env.qual ++ "<lambda>") ∧ H2 q = some (LamObj q (X.env.qual ++ "<lambda>") params (.Subscript (.Name px pp) (.Name gx gp) bp) scope ((X.mg "__name__").getD .none) c') ∧ H2 c' = some (CodeAt c' (X.env.qual ++ "<lambda>"))
      | _ => False) I1 ⟨tab, fun q c' H2 s2 t2 _ hq hc' => ⟨q, c', rfl, rfl, s2, t2, hq, hc'⟩⟩) fun ws s2 hws => ?_
  obtain ⟨zs, H2, I2, rz, q2⟩ := hws
  obtain ⟨z, y, rfl⟩ : ∃ z y, zs = [z, y] := by
    cases zs with
    | nil => exact q2.elim
    | cons x r =>
      cases r with
      | nil => exact q2.elim
      | cons y r =>
        cases r with
        | nil => exact ⟨x, y, rfl⟩
        | cons y r => exact q2.elim
  obtain ⟨w, w2, rfl, rw', rw2⟩ := vals2 rz
  obtain ⟨q, c', rfl, rfl, s2', t2, hq, hc'⟩ := q2
  cases (show w = Value.ref q from rw')
  cases (show w2 = Value.bool true from rw2)
  show wpAny (model X.prog X.w) X.A (call (.builtin "sorted") [.ref a] [(Str.ofString "key", .ref q), (Str.ofString "reverse", .bool true)]) (EP X pins σ Q) X.xe s2
  refine sort_core (b := true) (kw := [(Str.ofString "key", .ref q), (Str.ofString "reverse", .bool true)]) I2 hr (s2'.seq hx) h64 hlen (fun i x k h1 h2 => ?_) hq hc' hgx (hb c' _) kd co gn ncell lpx lgx d1 d2 (ksk_s2 _ _ _) (fun x => ksk_l2 _ _ _) (fun x => ksk_t2 q x true) fun D out hD ko => ?_
  · obtain ⟨p, ws, e, hp, hw⟩ := items i x k h1 h2
    exact ⟨p, ws, e, s2'.keep _ _ hp rfl, hw⟩
  · exact fin D out _ (s2'.new hD _) (t2.mono (same_new hD _)) (s2'.free hD) upd_same ko
end
end X2

set_option maxHeartbeats 4000000
namespace X2
open PySem PySem.Spec PyProof.Rows L2 PySem.W
/-! the sort's questions, answered by an order: at most five items, all unlike -/
def runC {α : Type} (n : Nat) (lt : Nat → Nat → Bool) : KasT α → Option α
  | .ret a => some a
  | .ask i j k => if i < n ∧ j < n then runC n lt (k (lt i j)) else none
theorem runC_wp {α : Type} {n : Nat} {lt : Nat → Nat → Bool} {cmp : Nat → Nat → (Bool → Shared → Prop) → Shared → Prop} {s : Shared} (hc : ∀ i j C, i < n → j < n → C (lt i j) s → cmp i j C s) {Q : α → Shared → Prop} : ∀ (t : KasT α) (a : α), runC n lt t = some a → Q a s → t.kasWp cmp Q s
  | .ret b, a, e, q => by cases e; exact q
  | .ask i j k, a, e, q => by
    unfold runC at e
    split at e
    · rename_i h
      exact hc i j _ h.1 h.2 (runC_wp hc (k (lt i j)) a e q)
    · cases e
def goodRun (n : Nat) (r : List Nat) : Bool := match runC n (fun i j => decide (r.getD i 0 < r.getD j 0)) (kas_sort n) with
  | some p => p.toList.isPerm (List.range n) && (p.toList.map (fun i => r.getD i 0) == List.range n)
  | none => false
def lists (m : Nat) : Nat → List (List Nat)
  | 0 => [[]]
  | n + 1 => (lists m n).flatMap fun l => (List.range m).map fun i => i :: l
theorem mem_lists {m : Nat} : ∀ {l : List Nat}, (∀ i ∈ l, i < m) → l ∈ lists m l.length
  | [], _ => List.mem_singleton.mpr rfl
  | i :: l, h => List.mem_flatMap.mpr ⟨l, mem_lists fun j hj => h j (List.mem_cons_of_mem _ hj), List.mem_map.mpr ⟨i, List.mem_range.mpr (h i (List.mem_cons_self ..)), rfl⟩⟩
theorem good2 : ∀ r ∈ lists 2 2, r.Nodup → goodRun 2 r = true := by decide +kernel
theorem good3 : ∀ r ∈ lists 3 3, r.Nodup → goodRun 3 r = true := by decide +kernel
theorem good4 : ∀ r ∈ lists 4 4, r.Nodup → goodRun 4 r = true := by decide +kernel
theorem good5 : ∀ r ∈ lists 5 5, r.Nodup → goodRun 5 r = true := by decide +kernel
theorem good_of {r : List Nat} (h2 : 2 ≤ r.length) (h5 : r.length ≤ 5) (hr : ∀ i ∈ r, i < r.length) (nd : r.Nodup) : goodRun r.length r = true := by
  have hm := mem_lists hr
  rcases (by omega : r.length = 2 ∨ r.length = 3 ∨ r.length = 4 ∨ r.length = 5) with e | e | e | e <;> rw [e] at hm ⊢
  · exact good2 r hm nd
  · exact good3 r hm nd
  · exact good4 r hm nd
  · exact good5 r hm nd
end X2
namespace X2
open PySem PySem.Spec PyProof.Rows L2 PySem.W
theorem runC_congr {α : Type} {n : Nat} {lt lt' : Nat → Nat → Bool} (h : ∀ i j, i < n → j < n → lt i j = lt' i j) : ∀ t : KasT α, runC n lt t = runC n lt' t
  | .ret a => rfl
  | .ask i j k => by
    unfold runC
    split
    · rename_i q
      rw [h i j q.1 q.2]
      exact runC_congr h _
    · rfl
theorem tot {a b : List Nat} (h1 : ¬ a < b) (h2 : ¬ b < a) : a = b := List.le_antisymm (List.not_lt.mp h2) (List.not_lt.mp h1)
def rk (ks : List (List Nat)) (k : List Nat) : Nat := (ks.filter fun x => decide (x < k)).length
theorem rk_lt {ks : List (List Nat)} {k : List Nat} (h : k ∈ ks) : rk ks k < ks.length := by
  unfold rk
  rw [List.length_filter_lt_length_iff_exists]
  exact ⟨k, h, by simp [List.lt_irrefl]⟩
theorem rk_mono {ks : List (List Nat)} {k k' : List Nat} (h : k ∈ ks) (hk : k < k') : rk ks k < rk ks k' := by
  unfold rk
  have e : ks.filter (fun x => decide (x < k)) = (ks.filter (fun x => decide (x < k'))).filter (fun x => decide (x < k)) := by
    rw [List.filter_filter]
    apply List.filter_congr
    intro x _
    by_cases q : x < k
    · have : x < k' := List.lt_trans q hk
      simp [q, this]
    · simp [q]
  rw [e, List.length_filter_lt_length_iff_exists]
  exact ⟨k, List.mem_filter.mpr ⟨h, by simpa using hk⟩, by simp [List.lt_irrefl]⟩
theorem rk_iff {ks : List (List Nat)} {k k' : List Nat} (h : k ∈ ks) (h' : k' ∈ ks) : rk ks k < rk ks k' ↔ k < k' := by
  refine ⟨fun q => ?_, rk_mono h⟩
  by_cases c : k < k'
  · exact c
  · by_cases c2 : k' < k
    · exact absurd (rk_mono h' c2) (by omega)
    · rw [tot c c2] at q
      omega
theorem sort_keys {ks : List (List Nat)} (h2 : 2 ≤ ks.length) (h5 : ks.length ≤ 5) (nd : ks.Nodup) :
    ∃ p : Array Nat, runC ks.length (fun i j => decide (ks.getD i [] < ks.getD j [])) (kas_sort ks.length) = some p ∧ p.toList.Perm (List.range ks.length) ∧ (p.toList.map (fun i => ks.getD i [])).Pairwise (· < ·) := by
  have lr : (ks.map (rk ks)).length = ks.length := List.length_map _
  have gd : ∀ i, i < ks.length → ∃ k, k ∈ ks ∧ ks.getD i [] = k ∧ (ks.map (rk ks)).getD i 0 = rk ks k := fun i hi => by
    refine ⟨ks[i], List.getElem_mem hi, by simp [hi], ?_⟩
    simp [hi]
  have g := good_of (r := ks.map (rk ks)) (by rw [lr]; exact h2) (by rw [lr]; exact h5) (fun i hi => by
    obtain ⟨k, hk, rfl⟩ := List.mem_map.mp hi
    rw [lr]
    exact rk_lt hk) (by
    rw [List.nodup_iff_pairwise_ne] at nd ⊢
    rw [List.pairwise_map]
    refine nd.imp_of_mem fun {a b} ha hb hne e => hne ?_
    have c1 : ¬ a < b := fun z => absurd (rk_mono ha z) (by omega)
    have c2 : ¬ b < a := fun z => absurd (rk_mono hb z) (by omega)
    exact tot c1 c2)
  rw [lr] at g
  have ec : ∀ i j, i < ks.length → j < ks.length → decide ((ks.map (rk ks)).getD i 0 < (ks.map (rk ks)).getD j 0) = decide (ks.getD i [] < ks.getD j []) := fun i j hi hj => by
    obtain ⟨k, mk, e1, e2⟩ := gd i hi
    obtain ⟨k', mk', e3, e4⟩ := gd j hj
    rw [e1, e2, e3, e4]
    exact decide_eq_decide.mpr (rk_iff mk mk')
  unfold goodRun at g
  rw [runC_congr ec] at g
  split at g
  · rename_i p hp
    rw [Bool.and_eq_true] at g
    obtain ⟨g1, g2⟩ := g
    have pm : p.toList.Perm (List.range ks.length) := List.isPerm_iff.mp g1
    refine ⟨p, hp, pm, ?_⟩
    have g3 : p.toList.map (fun i => (ks.map (rk ks)).getD i 0) = List.range ks.length := eq_of_beq g2
    have pw : (p.toList.map (fun i => (ks.map (rk ks)).getD i 0)).Pairwise (· < ·) := by rw [g3]; exact List.pairwise_lt_range
    rw [List.pairwise_map] at pw ⊢
    refine pw.imp_of_mem fun {a b} ha hb q => ?_
    have la := List.mem_range.mp (pm.mem_iff.mp ha)
    have lb := List.mem_range.mp (pm.mem_iff.mp hb)
    have := ec a b la lb
    have t : decide ((ks.map (rk ks)).getD a 0 < (ks.map (rk ks)).getD b 0) = true := decide_eq_true q
    rw [this] at t
    exact of_decide_eq_true t
  · cases g
end X2

set_option maxHeartbeats 4000000
namespace X2
open PySem PySem.Spec PyProof.Rows L2 PySem.W
section
variable {prog : Program} {w : World} {A : Around} {E : Value → Shared → Prop} {s : Shared}
theorem list_sort_run {a : Addr} {vs : List Value} {n : Nat} {P : PySem.Fin → Shared → Prop} {κ : SortKind} {lt : Nat → Nat → Bool} {p : Array Nat} (ho : s.heap.get? a = some (seqObj "list" vs.toArray n)) (h2 : 2 ≤ vs.length) (h64 : vs.length < 64)
    (hk : ∀ s' : Shared, (∀ b o, b ≠ a → s.heap.get? b = some o → s'.heap.get? b = some o) → ∀ (Q : SortKind → Shared → Prop) (E' : Value → Shared → Prop), Q κ s' → wpAny (model prog w) A (keyKind' vs.toArray) Q E' s')
    (hc : ∀ s' : Shared, (∀ b o, b ≠ a → s.heap.get? b = some o → s'.heap.get? b = some o) → ∀ i j C, i < vs.length → j < vs.length → C (lt i j) s' → kas_ask prog w A κ vs i j C s')
    (hp : runC vs.length lt (kas_sort vs.length) = some p) (pl : p.toList.length = vs.length)
    (h : P (.done (.ret .none)) { s with heap := sortedHeap s.heap a vs (p.toList.map fun i => vs.getD i Value.none).toArray }) :
    wpAny (model prog w) A (Builtin.«list.sort» ⟨[.ref a], []⟩) P E s := by
  have ha : a < s.heap.objs.size := Heap.lt_size ho
  have s1 := Heap.SameBut.update s.heap a (Obj.mapSeq fun _ => (#[] : Array Value))
  obtain ⟨e1, ho1⟩ : ∃ e1, (s.heap.update a (Obj.mapSeq fun _ => (#[] : Array Value))).get? a = some (seqObj "list" #[] e1) := ⟨_, get?_update_seq ho fun _ => #[]⟩
  have keep : ∀ b o, b ≠ a → s.heap.get? b = some o → (((s.heap.update a (Obj.mapSeq fun _ => (#[] : Array Value))).push (seqObj "tuple" vs.toArray 0)).push (seqObj "list" #[] 0)).get? b = some o := fun b o nb e =>
    Heap.get?_push_of_some _ (Heap.get?_push_of_some _ ((s1.2 b nb).trans e))
  have ho3 : (((s.heap.update a (Obj.mapSeq fun _ => (#[] : Array Value))).push (seqObj "tuple" vs.toArray 0)).push (seqObj "list" #[] 0)).get? a = some (seqObj "list" #[] e1) := Heap.get?_push_of_some _ (Heap.get?_push_of_some _ ho1)
  rw [list_sort_plain]
  refine wpAny_bind (listItems_at ho rfl ?_)
  refine wpAny_bind (listUpdate_at ho rfl ?_ (by rw [List.size_toArray, sizeLine_eq]; omega) (Nat.zero_le _))
  refine wpAny_bind (seqEpoch_at ho1 rfl ?_)
  refine wpAny_bind (wpAny_newTuple ?_ (by show vs.length ≤ _; rw [sizeLine_eq]; omega))
  refine wpAny_bind (wpAny_newList ?_ (Nat.zero_le _))
  refine wpAny_holding ?_
  show wpAny (model prog w) A _ P E { s with heap := ((s.heap.update a (Obj.mapSeq fun _ => (#[] : Array Value))).push (seqObj "tuple" vs.toArray 0)).push (seqObj "list" #[] 0) }
  dsimp only
  have hn2 : ¬ vs.toArray.size < 2 := by rw [List.size_toArray]; omega
  rw [if_neg hn2, if_neg hn2]
  refine wpAny_bind (hk { s with heap := ((s.heap.update a (Obj.mapSeq fun _ => (#[] : Array Value))).push (seqObj "tuple" vs.toArray 0)).push (seqObj "list" #[] 0) } keep _ _ ?_)
  have run := kat_run (prog := prog) (w := w) (A := A) (E := E) (κ := κ) (ks := vs) (vs := vs) (s := { s with heap := ((s.heap.update a (Obj.mapSeq fun _ => (#[] : Array Value))).push (seqObj "tuple" vs.toArray 0)).push (seqObj "list" #[] 0) })
    (Q := fun st' s' => s' = { s with heap := ((s.heap.update a (Obj.mapSeq fun _ => (#[] : Array Value))).push (seqObj "tuple" vs.toArray 0)).push (seqObj "list" #[] 0) } ∧ arrOf st' = p.map (kas_item (vs.toArray.zip vs.toArray)) ∧ failedOf st' = none)
    (G := fun p' s' => p' = p ∧ s' = { s with heap := ((s.heap.update a (Obj.mapSeq fun _ => (#[] : Array Value))).push (seqObj "tuple" vs.toArray 0)).push (seqObj "list" #[] 0) })
    rfl h2 h64 (fun p' st' s' _ a2 a3 ⟨e, e'⟩ => ⟨e', by rw [a2, e], a3⟩) (runC_wp (hc { s with heap := ((s.heap.update a (Obj.mapSeq fun _ => (#[] : Array Value))).push (seqObj "tuple" vs.toArray 0)).push (seqObj "list" #[] 0) } keep) _ p hp ⟨rfl, rfl⟩)
  refine wpAny_bind (wpAny_mono run ?_ fun _ _ e => e)
  rintro ⟨⟨⟩, st'⟩ s' ⟨rfl, har, hf⟩
  dsimp only
  have hout := kat_snds (ks := vs) (vs := vs) rfl har
  rw [hout]
  refine wpAny_bind (seqEpoch_at ho3 rfl ?_)
  refine wpAny_bind (listUpdate_at ho3 rfl ?_ (Nat.zero_le _) (by rw [List.size_toArray, List.length_map, pl, sizeLine_eq]; omega))
  rw [hf]
  simp only [bne_self_eq_false, Bool.false_eq_true, if_false]
  exact wpAny_pure h
theorem list_sort_small {a : Addr} {vs : List Value} {n : Nat} {P : PySem.Fin → Shared → Prop} (ho : s.heap.get? a = some (seqObj "list" vs.toArray n)) (h2 : vs.length < 2)
    (h : P (.done (.ret .none)) { s with heap := sortedHeap s.heap a vs vs.toArray }) :
    wpAny (model prog w) A (Builtin.«list.sort» ⟨[.ref a], []⟩) P E s := by
  have s1 := Heap.SameBut.update s.heap a (Obj.mapSeq fun _ => (#[] : Array Value))
  obtain ⟨e1, ho1⟩ : ∃ e1, (s.heap.update a (Obj.mapSeq fun _ => (#[] : Array Value))).get? a = some (seqObj "list" #[] e1) := ⟨_, get?_update_seq ho fun _ => #[]⟩
  have ho3 : (((s.heap.update a (Obj.mapSeq fun _ => (#[] : Array Value))).push (seqObj "tuple" vs.toArray 0)).push (seqObj "list" #[] 0)).get? a = some (seqObj "list" #[] e1) := Heap.get?_push_of_some _ (Heap.get?_push_of_some _ ho1)
  rw [list_sort_plain]
  refine wpAny_bind (listItems_at ho rfl ?_)
  refine wpAny_bind (listUpdate_at ho rfl ?_ (by rw [List.size_toArray, sizeLine_eq]; omega) (Nat.zero_le _))
  refine wpAny_bind (seqEpoch_at ho1 rfl ?_)
  refine wpAny_bind (wpAny_newTuple ?_ (by show vs.length ≤ _; rw [sizeLine_eq]; omega))
  refine wpAny_bind (wpAny_newList ?_ (Nat.zero_le _))
  refine wpAny_holding ?_
  show wpAny (model prog w) A _ P E { s with heap := ((s.heap.update a (Obj.mapSeq fun _ => (#[] : Array Value))).push (seqObj "tuple" vs.toArray 0)).push (seqObj "list" #[] 0) }
  dsimp only
  have hn2 : vs.toArray.size < 2 := by rw [List.size_toArray]; exact h2
  rw [if_pos hn2, if_pos hn2]
  refine wpAny_bind (wpAny_pure ?_)
  rw [StateT.run_pure]
  refine wpAny_bind (wpAny_pure ?_)
  dsimp only
  have hout : (arrOf (SortSt.mk' general' (vs.toArray.zip vs.toArray) #[] 7 none)).map (·.2) = vs.toArray := by
    show (vs.toArray.zip vs.toArray).map (·.2) = vs.toArray
    apply Array.toList_inj.mp
    rw [Array.toList_map, ksk_zip, List.toList_toArray, List.map_snd_zip (Nat.le_refl _)]
  rw [hout]
  refine wpAny_bind (seqEpoch_at ho3 rfl ?_)
  refine wpAny_bind (listUpdate_at ho3 rfl ?_ (Nat.zero_le _) (by rw [List.size_toArray, sizeLine_eq]; omega))
  show wpAny _ _ _ _ _ _
  simp only [bne_self_eq_false, Bool.false_eq_true, if_false]
  exact wpAny_pure h
end

/-! d.items(), sorted -/
def ViewAt (v d : Addr) : HO := .ext (fun h => h.get? v = some { cls := .type "dict_items", data := .fields #[.ref d] })
theorem mt_items {X : Cx} : MtR X "dict.items" (fun x xs H Q => ∃ d kvs, x = .ref d ∧ xs = [] ∧ H d = some (.dK kvs) ∧ ∀ v, H v = none → Q (.ref v) (upd H v (ViewAt v d))) := by
  intro pins s σ H x xs v us Q I rx rv h
  obtain ⟨d, kvs, rfl, rfl, hd, q⟩ := h
  cases (show v = Value.ref d from rx)
  cases rv
  obtain ⟨_, nd, vs, r, da⟩ := dk_of I.hok hd
  refine call_meetsIn PySem.F.slot_dict_items da.typeIs PySem.F.entry_dict_items (PySem.F.args_dict_items_1 _) (meets_dict_items (mixKind X.prog X.w) d nd) ⟨⟨vs, da⟩, ?_⟩
  refine ⟨.ref s.heap.objs.size, _, I.laid (t' := s.toks) (o := ViewAt s.heap.objs.size d) (fun b o e => Heap.get?_push_of_some _ e) (Nat.le_refl _) ?_, rfl, q _ (I.hok.fresh (Nat.le_refl _))⟩
  exact ⟨Heap.get?_push_size _ rfl, ⟨_, Heap.get?_push_size _ rfl⟩, fun h1 h2 e k => k _ e⟩
theorem _root_.L2.Inv.laidMany {X : Cx} {pins : List (Addr × Obj)} {σ : L2.St} {H H' : Hp} {s : Shared} {h' : Heap} {t' : Nat} (I : Inv X pins σ H s) (k : ∀ b u, s.heap.get? b = some u → h'.get? b = some u) (old : ∀ b u, s.heap.get? b = some u → H' b = H b) (new : ∀ b u, H' b = some u → s.heap.get? b = none → ObjOk X.prog X.w H' h' b u) :
    Inv X pins σ H' { s with heap := h', toks := t' } := by
  have there : ∀ b u, H b = some u → H' b = some u := fun b u e => by
    obtain ⟨o, q⟩ := objOk_there (I.hok b u e)
    rw [old b o q]
    exact e
  refine I.step (g' := s.gens) (d' := s.drawn) (ch := []) (fun _ z => nomatch z) (fun b u _ _ _ e _ => k b u e) (fun b u _ _ _ e _ => ⟨u.slots, k b u e⟩) (fun b u _ e n => by rw [old b u e]; exact n)
    (fun b u _ e => ⟨u, k b u e⟩) (fun b xs q => there b _ q) (fun b u xs q => there b _ q) (fun b ps q => ⟨#[], by rw [there b _ q]; simp⟩) (fun m hm => hm.keeps k) (fun b u e => ?_) I.bare
  cases q : s.heap.get? b with
  | none => exact new b u e q
  | some o =>
    rw [old b o q] at e
    exact (I.hok b u e).stay (fun c v _ z => k c v z) (fun c z => there c _ z) fun c xs z => there c _ z

theorem paired_get {α β : Type} {R : α → β → Prop} : ∀ {xs : List α} {ys : List β} {i : Nat} {x : α}, Paired R xs ys → xs[i]? = some x → ∃ y, ys[i]? = some y ∧ R x y
  | _, _, i, x, .nil, h => by simp at h
  | _, _, 0, x, .cons r t, h => by simp at h; subst h; exact ⟨_, rfl, r⟩
  | _, _, i + 1, x, .cons r t, h => by
    obtain ⟨y, e, q⟩ := paired_get (i := i) (x := x) t (by simpa using h)
    exact ⟨y, by simpa using e, q⟩
theorem str_ext {a b : Str} (h : a.cps.toList = b.cps.toList) : a = b := by
  obtain ⟨x⟩ := a
  obtain ⟨y⟩ := b
  have : x = y := Array.toList_inj.mp h
  rw [this]
def toDK (ps : List (Str × Int)) : List (Key × V) := ps.map fun p => ((Sum.inr p.1 : Key), V.int p.2)
theorem lookup_zip {as : List Addr} {ps : List (Str × Int)} (hd : as.Nodup) : ∀ {i : Nat} {a : Addr} {o : Str × Int}, as[i]? = some a → ps[i]? = some o → (as.zip ps).lookup a = some o := by
  induction as generalizing ps with
  | nil => intro i a o h; simp at h
  | cons b as ih =>
    intro i a o h1 h2
    cases ps with
    | nil => simp at h2
    | cons p ps =>
      rw [List.zip_cons_cons, List.lookup_cons]
      obtain ⟨n1, n2⟩ := List.nodup_cons.mp hd
      cases i with
      | zero =>
        simp at h1 h2
        subst h1 h2
        simp
      | succ i =>
        have h1' : as[i]? = some a := by simpa using h1
        have : (a == b) = false := by
          have : a ≠ b := fun z => n1 (z ▸ List.mem_of_getElem? h1')
          simpa using this
        rw [this]
        exact ih n2 h1' (by simpa using h2)
theorem of_lookup_zip {as : List Addr} {ps : List (Str × Int)} {b : Addr} {o : Str × Int} : (as.zip ps).lookup b = some o → ∃ i : Nat, as[i]? = some b ∧ ps[i]? = some o := by
  induction as generalizing ps with
  | nil => intro h; simp at h
  | cons a as ih =>
    intro h
    cases ps with
    | nil => simp at h
    | cons p ps =>
      rw [List.zip_cons_cons, List.lookup_cons] at h
      cases e : b == a with
      | true =>
        rw [e] at h
        have eb : b = a := by simpa using e
        subst eb
        exact ⟨0, rfl, by simpa using h⟩
      | false =>
        rw [e] at h
        obtain ⟨i, h1, h2⟩ := ih h
        exact ⟨i + 1, by simpa using h1, by simpa using h2⟩
theorem getD_map {α β : Type} (f : α → β) (l : List α) (d : α) (i : Nat) (h : i < l.length) (e : β) : (l.map f).getD i e = f (l.getD i d) := by simp [h]
theorem range_getD {α : Type} (l : List α) (d : α) : (List.range l.length).map (fun i => l.getD i d) = l := by
  apply List.ext_getElem
  · simp
  · intro i h1 h2
    simp [h2]
theorem call_sortedItems {X : Cx} (hcm : X.calm = true) : CallR X (.builtin "sorted") (fun xs H Q => ∃ (v d : Addr) (ps : List (Str × Int)), xs = [.ref v] ∧ H v = some (ViewAt v d) ∧ H d = some (.dK (toDK ps)) ∧ ps.length ≤ 5 ∧
    ∀ (l : Addr) (out : List (Str × Int)) (qs : List Addr) (H' : Hp), Same H H' → H l = none → out.Perm ps → out.Pairwise (fun a b => a.1.cps.toList < b.1.cps.toList) → H' l = some (.lst (qs.map V.ref)) → qs.length = out.length → (∀ (i : Nat) q (o : Str × Int), qs[i]? = some q → out[i]? = some o → H' q = some (.tup [.str o.1, .int o.2])) → Q (.ref l) H') := by
  intro pins s σ H xs us Q I r h
  obtain ⟨v, d, ps, rfl, hv, hd, l5, q⟩ := h
  obtain ⟨u, rfl, ru⟩ := vals1 r
  cases (show u = Value.ref v from ru)
  obtain ⟨hz, nd, vs, rkv, da⟩ := dk_of I.hok hd
  obtain ⟨ep, dat⟩ := da.dictAt
  have lvs : vs.length = ps.length := by rw [← Paired.length rkv]; exact List.length_map _
  have hview : s.heap.IsItemsView v d := ⟨_, (I.hok v _ hv).1, rfl, rfl⟩
  have ndk : (ps.map (·.1)).Nodup := by
    obtain ⟨_, _, _, _, _, _, _, _, n⟩ := da
    have e : vs.map (·.1) = (ps.map (·.1)).map (Sum.inr : Str → Key) := by
      apply List.ext_getElem
      · simp [lvs]
      · intro i h1 h2
        have hi : i < ps.length := by simpa using h2
        have hk : (toDK ps)[i]? = some (Sum.inr ps[i].1, V.int ps[i].2) := by unfold toDK; rw [List.getElem?_map, List.getElem?_eq_getElem hi]; rfl
        obtain ⟨y, e1, e2, _⟩ := paired_get rkv hk
        have hy : vs[i]'(by omega) = y := by rw [List.getElem?_eq_getElem (by omega)] at e1; exact Option.some.inj e1
        simp only [List.getElem_map]
        rw [hy]
        exact e2.symm
    rw [e] at n
    exact (List.pairwise_map.mp (List.nodup_iff_pairwise_ne.mp n)).imp fun hne z => hne (by rw [z])
  refine Calls.call_function_entry kind_sorted plain_sorted entry_sorted (args_sorted1 _) ?_
  unfold Builtin.«sorted»
  refine wpAny_bind (m := checkCount "sorted" 1 1 _) (wpAny_pure ?_)
  refine wpAny_bind (kdx_collect (A := X.A.in1) (knd := mixKind X.prog X.w) (kvs := vs) (ep := ep) (I.ok.hd hcm) hview dat (by rw [lvs, sizeLine_eq]; omega) fun h1 tk as hk hl hG => ?_)
  have la : as.length = ps.length := hl.trans lvs
  refine wpAny_bind (wpAny_newList ?_ (by rw [List.length_map, la, sizeLine_eq]; omega))
  have hB : (h1.push { cls := .type "list", data := .seq (as.map Value.ref).toArray }).get? h1.objs.size = some (seqObj "list" (as.map Value.ref).toArray 0) := Heap.get?_push_size _ rfl
  have info : ∀ (i : Nat) a o, as[i]? = some a → ps[i]? = some o → ∃ t t', h1.get? a = some { cls := .type "tuple", data := .seq #[.str o.1 t, .int o.2 t'] } := fun i a o ha ho => by
    obtain ⟨key, k, x, e1, e2, e3⟩ := hG.pairs i a ha
    have hkv : (toDK ps)[i]? = some (Sum.inr o.1, V.int o.2) := by unfold toDK; rw [List.getElem?_map, ho]; rfl
    obtain ⟨y, e4, e5, e6⟩ := paired_get rkv hkv
    rw [e1] at e4
    cases e4
    cases (show Sum.inr o.1 = k from e5)
    obtain ⟨t', rfl⟩ := (show ∃ t, x = Value.int o.2 t from e6)
    rcases keyIs_shape (show keyIs (Sum.inr o.1) key = true from e2) with ⟨_, _, z, _⟩ | ⟨y, t, z, rfl⟩
    · cases z
    · cases z
      exact ⟨t, t', e3⟩
  have asn : as.Nodup := List.nodup_iff_pairwise_ne.mpr (hG.rise.imp fun h => Nat.ne_of_lt h)
  have asl : ∀ a ∈ as, a < h1.objs.size := fun a ha => hG.there ha
  -- the end, for a list out that is as by places p
  have fin : ∀ (p : List Nat) (out' : Array Value), p.Perm (List.range ps.length) → (p.map (fun i => ps.getD i ("", 0))).Pairwise (fun a b => a.1.cps.toList < b.1.cps.toList) → out' = (p.map fun i => (as.map Value.ref).getD i Value.none).toArray →
      EP X pins σ Q (.ref h1.objs.size) { s with heap := sortedHeap (h1.push { cls := .type "list", data := .seq (as.map Value.ref).toArray }) h1.objs.size (as.map Value.ref) out', toks := tk } := by
    intro p out' pp pw eo
    have pin : ∀ i ∈ p, i < ps.length := fun i hi => List.mem_range.mp (pp.mem_iff.mp hi)
    have plen : p.length = ps.length := by rw [pp.length_eq, List.length_range]
    let qs := p.map fun i => as.getD i 0
    have eo2 : out'.toList = qs.map Value.ref := by
      rw [eo, List.toList_toArray, List.map_map]
      refine List.map_congr_left fun i hi => ?_
      have := pin i hi
      exact getD_map Value.ref as 0 i (by omega) _
    let H' : Hp := fun b => if b = h1.objs.size then some (.lst (qs.map V.ref)) else match (as.zip ps).lookup b with | some o => some (.tup [.str o.1, .int o.2]) | none => H b
    have nB : s.heap.get? h1.objs.size = none := by
      cases e : s.heap.get? h1.objs.size with
      | none => rfl
      | some o => exact absurd (Heap.lt_size (hk _ _ e)) (Nat.lt_irrefl _)
    have nA : ∀ a ∈ as, s.heap.get? a = none := fun a ha => Heap.get?_none_of_le (Nat.le_of_lt (hG.above a ha))
    have szp : (h1.push { cls := .type "list", data := .seq (as.map Value.ref).toArray }).objs.size = h1.objs.size + 1 := Heap.size_push ..
    have keepG : ∀ b o, h1.get? b = some o → (sortedHeap (h1.push { cls := .type "list", data := .seq (as.map Value.ref).toArray }) h1.objs.size (as.map Value.ref) out').get? b = some o := fun b o e =>
      (sortedHeap_old (Nat.ne_of_lt (Heap.lt_size e)) (by rw [szp]; exact Nat.lt_succ_of_lt (Heap.lt_size e))).trans (Heap.get?_push_of_some _ e)
    have oldH : ∀ b u, s.heap.get? b = some u → H' b = H b := fun b u e => by
      have n1 : b ≠ h1.objs.size := fun z => by rw [z, nB] at e; cases e
      show (if b = h1.objs.size then _ else _) = _
      rw [if_neg n1]
      cases lk : (as.zip ps).lookup b with
      | none => rfl
      | some o =>
        obtain ⟨i, z1, _⟩ := of_lookup_zip lk
        rw [nA b (List.mem_of_getElem? z1)] at e
        cases e
    have vr : ∀ l : List Addr, Vals (l.map V.ref) (l.map Value.ref) := fun l => by
      induction l with
      | nil => exact .nil
      | cons a l ih => exact .cons rfl ih
    have HB : H' h1.objs.size = some (.lst (qs.map V.ref)) := if_pos rfl
    have HT : ∀ (i : Nat) a o, as[i]? = some a → ps[i]? = some o → H' a = some (.tup [.str o.1, .int o.2]) := fun i a o z1 z2 => by
      have n1 : a ≠ h1.objs.size := Nat.ne_of_lt (asl a (List.mem_of_getElem? z1))
      show (if a = h1.objs.size then _ else _) = _
      rw [if_neg n1, lookup_zip asn z1 z2]
    have new : ∀ b u, H' b = some u → s.heap.get? b = none → ObjOk X.prog X.w H' (sortedHeap (h1.push { cls := .type "list", data := .seq (as.map Value.ref).toArray }) h1.objs.size (as.map Value.ref) out') b u := fun b u e nb => by
      by_cases hb : b = h1.objs.size
      · subst hb
        rw [HB] at e
        cases e
        obtain ⟨e', he⟩ := sortedHeap_at (out := out') hB
        refine ⟨by rw [List.length_map, List.length_map, plen, sizeLine_eq]; omega, qs.map Value.ref, e', vr qs, ?_⟩
        rw [← eo2, Array.toArray_toList]
        exact he
      · have e' : (match (as.zip ps).lookup b with | some o => some (HO.tup [V.str o.1, V.int o.2]) | none => H b) = some u := by
          have e2 : (if b = h1.objs.size then some (HO.lst (qs.map V.ref)) else match (as.zip ps).lookup b with | some o => some (HO.tup [V.str o.1, V.int o.2]) | none => H b) = some u := e
          rw [if_neg hb] at e2
          exact e2
        cases lk : (as.zip ps).lookup b with
        | none =>
          rw [lk] at e'
          obtain ⟨o, z⟩ := objOk_there (I.hok b u e')
          rw [nb] at z
          cases z
        | some o =>
          rw [lk] at e'
          cases e'
          obtain ⟨i, z1, z2⟩ := of_lookup_zip lk
          obtain ⟨t, t', z3⟩ := info i b o z1 z2
          exact ⟨by show 2 ≤ sizeLine; decide, [.str o.1 t, .int o.2 t'], .cons ⟨t, rfl⟩ (.cons ⟨t', rfl⟩ .nil), _, keepG _ _ z3, rfl, 0, rfl⟩
    have sm : Same H H' := fun b u e => by
      obtain ⟨o, z⟩ := objOk_there (I.hok b u e)
      rw [oldH b o z]
      exact e
    refine ⟨.ref h1.objs.size, H', I.laidMany (t' := tk) (fun b o e => keepG b o (hk b o e)) oldH new, rfl, q h1.objs.size (p.map fun i => ps.getD i ("", 0)) qs H' sm (free_of I nB) ?_ pw HB (by rw [List.length_map, List.length_map]) fun i a o z1 z2 => ?_⟩
    · have := pp.map (fun i => ps.getD i (("" : Str), (0 : Int)))
      rw [range_getD] at this
      exact this
    · rw [List.getElem?_map] at z1 z2
      cases e : p[i]? with
      | none => rw [e] at z1; cases z1
      | some j =>
        rw [e] at z1 z2
        have hj := pin j (List.mem_of_getElem? e)
        have z1' : as.getD j 0 = a := Option.some.inj z1
        have z2' : ps.getD j ("", 0) = o := Option.some.inj z2
        refine HT j a o ?_ ?_
        · rw [← z1']; simp [show j < as.length by omega]
        · rw [← z2']; simp [hj]
  refine wpAny_bind (wpAny_holding (wpAny_call_entry slot_list_sort ⟨_, hB, rfl⟩ entry_list_sort ?body (args_list_sort _)))
  have lm : (as.map Value.ref).length = ps.length := by rw [List.length_map, la]
  by_cases h2 : 2 ≤ ps.length
  · have lk : (ps.map fun o => o.1.cps.toList).length = ps.length := List.length_map _
    obtain ⟨p, hp, pp, pw⟩ := sort_keys (ks := ps.map fun o => o.1.cps.toList) (by rw [lk]; exact h2) (by rw [lk]; exact l5) (by
      refine List.nodup_iff_pairwise_ne.mpr (List.pairwise_map.mpr ?_)
      exact (List.pairwise_map.mp (List.nodup_iff_pairwise_ne.mp ndk)).imp fun hne z => hne (str_ext z))
    rw [lk] at hp pp
    have gk : ∀ i, i < ps.length → (ps.map fun o => o.1.cps.toList).getD i [] = (ps.getD i ("", 0)).1.cps.toList := fun i hi => getD_map _ ps ("", 0) i hi []
    have at' : ∀ i, i < ps.length → ∃ a t t', (as.map Value.ref).getD i Value.none = .ref a ∧ as[i]? = some a ∧ h1.get? a = some { cls := .type "tuple", data := .seq #[.str (ps.getD i ("", 0)).1 t, .int (ps.getD i ("", 0)).2 t'] } := fun i hi => by
      have z1 : as[i]? = some (as[i]'(by omega)) := List.getElem?_eq_getElem _
      have z2 : ps[i]? = some (ps.getD i ("", 0)) := by simp [hi]
      obtain ⟨t, t', z3⟩ := info i _ _ z1 z2
      exact ⟨as[i]'(by omega), t, t', by simp [show i < as.length by omega], z1, z3⟩
    refine list_sort_run (κ := tuples' true) (lt := fun i j => decide ((ps.map fun o => o.1.cps.toList).getD i [] < (ps.map fun o => o.1.cps.toList).getD j [])) (p := p) hB (by rw [lm]; exact h2) (by rw [lm]; omega) ?_ ?_ (by rw [lm]; exact hp) (by rw [lm, pp.length_eq, List.length_range]) ⟨_, rfl, wpAny_pure ⟨_, rfl, fin p.toList _ pp ?_ rfl⟩⟩
    · intro s' kp Q' E' hq
      have tups : ∀ (n : Nat) (bs : List Addr) (os : List (Str × Int)), bs.length = os.length → (∀ (i : Nat) a o, bs[i]? = some a → os[i]? = some o → ∃ t t', s'.heap.get? a = some { cls := .type "tuple", data := .seq #[.str o.1 t, .int o.2 t'] }) → ∃ fs, KatTups s'.heap (bs.map Value.ref) fs ∧ fs.length = bs.length ∧ ∀ f ∈ fs, ∃ x t, f = Value.str x t := by
        intro _ bs
        induction bs with
        | nil =>
          intro os hl _
          exact ⟨[], .nil, rfl, fun f hf => nomatch hf⟩
        | cons a bs ih =>
          intro os hl hh
          cases os with
          | nil => cases hl
          | cons o os =>
            obtain ⟨t, t', z⟩ := hh 0 a o rfl rfl
            obtain ⟨fs, k1, k2, k3⟩ := ih os (by simpa using hl) fun i a o z1 z2 => hh (i + 1) a o (by simpa using z1) (by simpa using z2)
            refine ⟨.str o.1 t :: fs, KatTups.cons z rfl rfl rfl k1, by simp [k2], fun f hf => ?_⟩
            rcases List.mem_cons.mp hf with e | e
            · exact ⟨_, _, e⟩
            · exact k3 f e
      obtain ⟨fs, k1, k2, k3⟩ := tups 0 as ps la fun i a o z1 z2 => by
        obtain ⟨t, t', z⟩ := info i a o z1 z2
        exact ⟨t, t', kp _ _ (Nat.ne_of_lt (asl a (List.mem_of_getElem? z1))) (Heap.get?_push_of_some _ z)⟩
      refine kat_kind (T := .type "str") k1 (by omega) (fun f hf => ?_) (by decide) (show Q' (tuples' (Value.type "str" != Value.type "tuple")) s' from (show (Value.type "str" != Value.type "tuple") = true by decide) ▸ hq)
      obtain ⟨x, t, rfl⟩ := k3 f hf
      exact Looks.of_pure rfl
    · intro s' kp i j C hi hj hC
      rw [lm] at hi hj
      obtain ⟨a, t, t', e1, e2, e3⟩ := at' i hi
      obtain ⟨b, u, u', f1, f2, f3⟩ := at' j hj
      unfold kas_ask
      rw [e1, f1]
      have ga := kp _ _ (Nat.ne_of_lt (asl a (List.mem_of_getElem? e2))) (Heap.get?_push_of_some _ e3)
      have gb := kp _ _ (Nat.ne_of_lt (asl b (List.mem_of_getElem? f2))) (Heap.get?_push_of_some _ f3)
      rw [gk i hi, gk j hj] at hC
      refine kat_lt ga rfl gb rfl ?_
      show KatLex X.prog X.w _ true (decide ((2 : Nat) < 2)) C [(.str (ps.getD i ("", 0)).1 t, .str (ps.getD j ("", 0)).1 u), (.int (ps.getD i ("", 0)).2 t', .int (ps.getD j ("", 0)).2 u')] 0 s'
      refine kat_cons (SeqAt.EqAt.str_str _ _ _ _ _ _ _ _ ?_)
      by_cases hs : (ps.getD i (("" : Str), (0 : Int))).1 = (ps.getD j (("" : Str), (0 : Int))).1
      · have ij : i = j := by
          have n := List.pairwise_map.mp (List.nodup_iff_pairwise_ne.mp ndk)
          rw [List.pairwise_iff_getElem] at n
          have g1 : ps.getD i (("" : Str), (0 : Int)) = ps[i] := by simp [hi]
          have g2 : ps.getD j (("" : Str), (0 : Int)) = ps[j] := by simp [hj]
          rw [g1, g2] at hs
          rcases Nat.lt_trichotomy i j with z | z | z
          · exact absurd hs (n i j hi hj z)
          · exact z
          · exact absurd hs.symm (n j i hj hi z)
        subst ij
        rw [beq_self_eq_true]
        refine kat_yes (kat_cons (SeqAt.EqAt.int_int _ _ _ _ _ _ _ _ ?_))
        rw [beq_self_eq_true]
        refine kat_yes (kat_nil ?_)
        have : decide ((ps.getD i (("" : Str), (0 : Int))).1.cps.toList < (ps.getD i (("" : Str), (0 : Int))).1.cps.toList) = false := by simp [List.lt_irrefl]
        rw [this] at hC
        exact hC
      · have : ((ps.getD i (("" : Str), (0 : Int))).1 == (ps.getD j (("" : Str), (0 : Int))).1) = false := by simpa using hs
        rw [this]
        exact kat_no (oneLt_str hC)
    · rw [List.pairwise_map] at pw ⊢
      refine pw.imp_of_mem fun {x y} hx hy hlt => ?_
      have lx := List.mem_range.mp (pp.mem_iff.mp hx)
      have ly := List.mem_range.mp (pp.mem_iff.mp hy)
      rw [gk x lx, gk y ly] at hlt
      exact hlt
  · refine list_sort_small hB (by rw [lm]; omega) ⟨_, rfl, wpAny_pure ⟨_, rfl, fin (List.range ps.length) _ (List.Perm.refl _) ?_ ?_⟩⟩
    · rw [range_getD]
      match ps, h2 with
      | [], _ => exact .nil
      | [x], _ => exact List.pairwise_singleton _ _
      | x :: y :: r, h2 => exact absurd (by simp) h2
    · have := range_getD (as.map Value.ref) Value.none
      rw [lm] at this
      rw [this]
end X2

set_option maxHeartbeats 4000000
namespace X2
open PySem PySem.Spec PyProof.Rows L2
theorem bt_min : bootBuiltins "min" = some (.builtin "min") := by decide +kernel
abbrev ltS (a b : Str) : Prop := a.cps.toList < b.cps.toList
theorem rising_pw : ∀ (p : Str) (l : List Str), risingS p l = true → (p :: l).Pairwise (fun a b => ¬ ltS b a)
  | p, [], _ => List.pairwise_singleton _ _
  | p, x :: r, h => by
    have h' : (!ltCps x.cps.toList p.cps.toList && risingS x r) = true := h
    rw [Bool.and_eq_true] at h'
    obtain ⟨h1, h2⟩ := h'
    have ih := rising_pw x r h2
    have px : ¬ ltS x p := by
      rw [ltCps_eq] at h1
      simpa using h1
    refine List.pairwise_cons.mpr ⟨fun y hy => ?_, ih⟩
    rcases List.mem_cons.mp hy with e | e
    · rw [e]; exact px
    · have xy := (List.pairwise_cons.mp ih).1 y e
      intro z
      exact xy (by
        by_cases c : ltS y x
        · exact c
        · have h3 : x.cps.toList ≤ y.cps.toList := List.not_lt.mp c
          have h4 : p.cps.toList ≤ x.cps.toList := List.not_lt.mp px
          exact absurd z (List.not_lt.mpr (List.le_trans h4 h3)))
theorem sorted_pw {l : List Str} (h : sortedS l = true) : l.Pairwise (fun a b => ¬ ltS b a) := by
  cases l with
  | nil => exact .nil
  | cons p l => exact rising_pw p l h
theorem strs_are : ∀ {ns : List Str} {us : List Value}, Vals (ns.map V.str) us → StrsAre us ns
  | [], _, .nil => .nil
  | x :: r, _, .cons ⟨t, e⟩ q => by subst e; exact .cons x t (strs_are q)
theorem vals_strs : ∀ {us : List Value} {ns : List Str}, StrsAre us ns → Vals (ns.map V.str) us
  | _, _, .nil => .nil
  | _, _, .cons x t h => .cons ⟨t, rfl⟩ (vals_strs h)
theorem call_sortedS {X : Cx} : CallR X (.builtin "sorted") (fun xs H Q => ∃ (p : Addr) (ns : List Str), xs = [.ref p] ∧ SqL X.K H p (ns.map V.str) ∧ ns.length < 64 ∧
    ∀ (l : Addr) (out : List Str), H l = none → out.Perm ns → out.Pairwise (fun a b => ¬ ltS b a) → Q (.ref l) (upd H l (.lst (out.map V.str)))) := by
  intro pins s σ H xs us Q I r h
  obtain ⟨p, ns, rfl, hp, h64, q⟩ := h
  obtain ⟨u, rfl, ru⟩ := vals1 r
  cases (show u = Value.ref p from ru)
  obtain ⟨its, rv, pl, hz⟩ := I.list hp
  have lr : its.length = ns.length := by rw [← rv.length, List.length_map]
  refine sorted_strs pl.isList (strs_are rv) (by omega) fun out ss' a1 a2 a3 => ?_
  obtain ⟨e, he⟩ := sortedAll_at s.heap its out
  have lo : ss'.length = ns.length := a2.length_eq
  refine ⟨.ref (s.heap.objs.size + 1), _, I.laid (t' := s.toks) (a := s.heap.objs.size + 1) (o := .lst (ss'.map V.str)) (fun b o e => sortedAll_old e) (Nat.le_succ _) ?_, rfl, q _ ss' (I.hok.fresh (Nat.le_succ _)) a2 (sorted_pw a3)⟩
  exact ⟨Nat.le_of_lt (small1000 (by rw [List.length_map]; omega)), out.toList, e, vals_strs a1, by rw [Array.toArray_toList]; exact he⟩
theorem call_minI {X : Cx} (hcm : X.calm = true) : CallR X (.builtin "min") (fun xs H Q => ∃ (p : Addr) (ns : List Int), xs = [.ref p] ∧ SqL X.K H p (ns.map V.int) ∧ ns ≠ [] ∧ ∀ M, M ∈ ns → (∀ a ∈ ns, M ≤ a) → Q (.int M) H) := by
  intro pins s σ H xs us Q I r h
  obtain ⟨p, ns, rfl, hp, hne, q⟩ := h
  obtain ⟨u, rfl, ru⟩ := vals1 r
  cases (show u = Value.ref p from ru)
  obtain ⟨its, rv, pl, hz⟩ := I.list hp
  obtain ⟨m, hm, _⟩ := id I.loc
  refine min_list_N (h₀ := Att.noObjs s.heap) (L := X.env.locals) (m := m) (news := allNews (Att.noObjs s.heap) s.heap X.env.locals) (I.ok.hd hcm) (Att.fr_all hm) news_all pl.isList (intsAre_of rv) (List.length_pos_iff.mpr hne) fun h' M t tk F' N' mM le => ?_
  have kept : ∀ b o, b ≠ X.env.locals → s.heap.get? b = some o → h'.get? b = some o := fun b o nb e => (N' (b, o) (mem_allNews nb (Att.noObjs_get _ _) e)).1
  have J : Inv X pins σ H { s with heap := h', toks := tk } := by
    refine I.step (g' := s.gens) (d' := s.drawn) (ch := []) (fun _ z => nomatch z) (fun b u hL _ _ e _ => kept b u hL e) (fun b u hL _ _ e _ => ⟨u.slots, kept b u hL e⟩) (fun b u _ e n => n)
      (fun b u _ e => ?_) (fun b xs q => q) (fun b u xs q => q) (fun b ps q => ⟨#[], by rw [q]; simp⟩) (fun m' hm' => ?_) (fun b u e => ?_) I.bare
    · by_cases hL : b = X.env.locals
      · obtain ⟨o', _, _, e', _⟩ := F'.ns
        exact ⟨o', hL ▸ e'⟩
      · exact ⟨u, kept b u hL e⟩
    · have em : m' = m := funext fun x => hm'.agree hm x
      rw [em]
      exact F'.ns
    · refine (I.hok b u e).stay (fun c v hc z => kept c v ?_ z) (fun _ z => z) fun _ _ z => z
      rintro rfl
      rcases hc with z | z
      · rw [← z, I.free] at e; cases e
      · rw [I.free] at z; cases z
  exact ⟨.int M, H, J, ⟨t, rfl⟩, q M mM le⟩
end X2

set_option maxHeartbeats 4000000
namespace X2
open PySem PySem.Spec PyProof.Rows L2
/-! rides that a row from the start leads to -/
inductive Reach (sp : Str → Int) (rds : List Rd) (st : Str) (si : Int) : Rd → Prop
  | fst {d : Rd} (m : d ∈ rds) (e : d.a = st) (h : si ≤ d.l) : Reach sp rds st si d
  | nxt {e d : Rd} (r : Reach sp rds st si e) (m : d ∈ rds) (h : hg sp e d = true) : Reach sp rds st si d
theorem Reach.mem {sp : Str → Int} {rds : List Rd} {st : Str} {si : Int} {d : Rd} (r : Reach sp rds st si d) : d ∈ rds := by cases r <;> assumption
theorem hg_iff {sp : Str → Int} {e d : Rd} : hg sp e d = true ↔ e.b = d.a ∧ e.c + sp e.b ≤ d.l := by unfold hg; exact decide_eq_true_iff
structure Good (sp : Str → Int) (rds : List Rd) : Prop where
  lc : ∀ d ∈ rds, d.l < d.c
  s0 : ∀ d ∈ rds, 0 ≤ sp d.b
theorem Reach.since {sp : Str → Int} {rds : List Rd} {st : Str} {si : Int} (G : Good sp rds) {d : Rd} (r : Reach sp rds st si d) : si ≤ d.l := by
  induction r with
  | fst m e h => exact h
  | nxt r m h ih =>
    have := G.lc _ r.mem
    have := G.s0 _ r.mem
    have := (hg_iff.mp h).2
    omega
theorem hg_lt {sp : Str → Int} {rds : List Rd} (G : Good sp rds) {e d : Rd} (he : e ∈ rds) (h : hg sp e d = true) : e.l < d.l := by
  have := G.lc _ he
  have := G.s0 _ he
  have := (hg_iff.mp h).2
  omega
/-! the moments so far -/
def rdy (ps : List (Str × Int)) (x : Str) (m : Int) : Bool := match ps.lookup x with | some z => decide (z ≤ m) | none => false
theorem rdy_iff {ps : List (Str × Int)} {x : Str} {m : Int} : rdy ps x m = true ↔ ∃ z, ps.lookup x = some z ∧ z ≤ m := by
  unfold rdy
  cases ps.lookup x with
  | none => simp
  | some z => simp
theorem valV_toDK (ps : List (Str × Int)) (x : Str) : valV (toDK ps) (Sum.inr x : Key) = (ps.lookup x).map V.int := by
  induction ps with
  | nil => rfl
  | cons p r ih =>
    obtain ⟨k, v⟩ := p
    show valV (((Sum.inr k : Key), V.int v) :: toDK r) (Sum.inr x) = _
    rw [List.lookup_cons]
    unfold valV at ih ⊢
    rw [List.find?_cons]
    by_cases e : k = x
    · subst e
      simp
    · have e1 : ¬ x = k := fun z => e z.symm
      have e2 : (x == k) = false := by simpa using e1
      simp only [e2, Sum.inr.injEq, e, decide_false]
      exact ih
def putS (ps : List (Str × Int)) (x : Str) (m : Int) : List (Str × Int) := if (ps.any fun p => decide (p.1 = x)) = true then ps.map fun p => if p.1 = x then (p.1, m) else p else ps ++ [(x, m)]
theorem putK_toDK (ps : List (Str × Int)) (x : Str) (m : Int) : putK (toDK ps) (Sum.inr x : Key) (V.int m) = toDK (putS ps x m) := by
  unfold putK putS
  have e : ((toDK ps).any fun kv => decide (kv.1 = (Sum.inr x : Key))) = (ps.any fun p => decide (p.1 = x)) := by
    unfold toDK
    rw [List.any_map]
    congr 1
    funext p
    show decide ((Sum.inr p.1 : Key) = Sum.inr x) = _
    exact key_rr _ _
  rw [e]
  split
  · unfold toDK
    rw [List.map_map, List.map_map]
    congr 1
    funext p
    show (if (Sum.inr p.1 : Key) = Sum.inr x then _ else _) = _
    by_cases h : p.1 = x
    · have : (Sum.inr p.1 : Key) = Sum.inr x := by rw [h]
      rw [if_pos this]
      show _ = (fun p : Str × Int => ((Sum.inr p.1 : Key), V.int p.2)) (if p.1 = x then (p.1, m) else p)
      rw [if_pos h]
    · have : ¬ (Sum.inr p.1 : Key) = Sum.inr x := fun z => h (Sum.inr.inj z)
      rw [if_neg this]
      show _ = (fun p : Str × Int => ((Sum.inr p.1 : Key), V.int p.2)) (if p.1 = x then (p.1, m) else p)
      rw [if_neg h]
  · unfold toDK
    rw [List.map_append]
    rfl
theorem any_lookup {ps : List (Str × Int)} {x : Str} : (ps.any fun p => decide (p.1 = x)) = (ps.lookup x).isSome := by
  induction ps with
  | nil => rfl
  | cons p r ih =>
    obtain ⟨k, v⟩ := p
    rw [List.any_cons, List.lookup_cons, ih]
    by_cases e : k = x
    · subst e; simp
    · have e1 : ¬ x = k := fun z => e z.symm
      have e2 : (x == k) = false := by simpa using e1
      simp [e2, e]
theorem lookup_put {ps : List (Str × Int)} {x y : Str} {m : Int} : (putS ps x m).lookup y = if y = x then some m else ps.lookup y := by
  unfold putS
  split
  · rename_i h
    rw [any_lookup] at h
    induction ps with
    | nil => cases h
    | cons p r ih =>
      obtain ⟨k, v⟩ := p
      rw [List.map_cons, List.lookup_cons]
      by_cases e : k = x
      · subst e
        simp only [if_true]
        rw [List.lookup_cons]
        by_cases ey : y = k
        · subst ey; simp
        · have e2 : (y == k) = false := by simpa using ey
          rw [e2, if_neg ey]
          simp only []
          by_cases hr : (r.lookup k).isSome = true
          · rw [ih hr, if_neg ey]
          · clear ih
            have : (r.map fun p => if p.1 = k then (p.1, m) else p) = r := by
              rw [← any_lookup] at hr
              have hr' : ∀ p ∈ r, ¬ p.1 = k := fun p hp z => hr (List.any_eq_true.mpr ⟨p, hp, by simpa using z⟩)
              calc r.map (fun p => if p.1 = k then (p.1, m) else p) = r.map id := List.map_congr_left fun p hp => if_neg (hr' p hp)
                _ = r := List.map_id r
            rw [this]
      · have e1 : ¬ x = k := fun z => e z.symm
        have e3 : (x == k) = false := by simpa using e1
        rw [List.lookup_cons, e3] at h
        simp only [e, if_false]
        rw [List.lookup_cons]
        by_cases ey : y = k
        · subst ey
          rw [if_neg e]
          simp
        · have e2 : (y == k) = false := by simpa using ey
          rw [e2]
          simp only []
          exact ih h
  · rename_i h
    rw [any_lookup] at h
    have hn : ps.lookup x = none := by cases q : ps.lookup x with | none => rfl | some z => rw [q] at h; exact absurd rfl h
    clear h
    induction ps with
    | nil =>
      rw [List.nil_append, List.lookup_cons]
      by_cases ey : y = x
      · subst ey; simp
      · have e2 : (y == x) = false := by simpa using ey
        rw [e2, if_neg ey]
    | cons p r ih =>
      obtain ⟨k, v⟩ := p
      rw [List.lookup_cons] at hn
      rw [List.cons_append, List.lookup_cons, List.lookup_cons]
      by_cases e : x = k
      · subst e; simp at hn
      · have e3 : (x == k) = false := by simpa using e
        rw [e3] at hn
        by_cases ey : y = k
        · subst ey
          have : ¬ y = x := fun z => e z.symm
          simp [this]
        · have e2 : (y == k) = false := by simpa using ey
          simp only [e2]
          exact ih hn
theorem keys_put {ps : List (Str × Int)} {x : Str} {m : Int} (h : (ps.map Prod.fst).Nodup) : ((putS ps x m).map Prod.fst).Nodup := by
  unfold putS
  split
  · rw [List.map_map]
    have : (Prod.fst ∘ fun p : Str × Int => if p.1 = x then (p.1, m) else p) = Prod.fst := by
      funext p
      show (if p.1 = x then (p.1, m) else p).1 = p.1
      split <;> rfl
    rw [this]
    exact h
  · rename_i q
    rw [List.map_append, List.nodup_append]
    refine ⟨h, by simp, fun a ha b hb => ?_⟩
    simp only [List.map_cons, List.map_nil, List.mem_singleton] at hb
    subst hb
    obtain ⟨p, hp, rfl⟩ := List.mem_map.mp ha
    exact fun z => q (List.any_eq_true.mpr ⟨p, hp, by simpa using z⟩)
theorem mem_lookup {ps : List (Str × Int)} (h : (ps.map Prod.fst).Nodup) {x : Str} {m : Int} : (x, m) ∈ ps ↔ ps.lookup x = some m := by
  induction ps with
  | nil => simp
  | cons p r ih =>
    obtain ⟨k, v⟩ := p
    rw [List.map_cons, List.nodup_cons] at h
    rw [List.mem_cons, List.lookup_cons]
    by_cases e : x = k
    · subst e
      simp only [beq_self_eq_true, Prod.mk.injEq, true_and, Option.some.injEq]
      constructor
      · rintro (q | q)
        · exact q.symm
        · exact absurd (List.mem_map.mpr ⟨_, q, rfl⟩) h.1
      · intro q; exact .inl q.symm
    · have e2 : (x == k) = false := by simpa using e
      simp only [e2]
      rw [← ih h.2]
      constructor
      · rintro (q | q)
        · exact absurd (congrArg Prod.fst q) e
        · exact q
      · exact .inr
/-- how the moments stand behind the rides pre -/
structure Soon (sp : Str → Int) (rds pre : List Rd) (st : Str) (si : Int) (ps : List (Str × Int)) : Prop where
  nd : (ps.map Prod.fst).Nodup
  st0 : rdy ps st si = true
  sound : ∀ x m, ps.lookup x = some m → (x = st ∧ m = si) ∨ ∃ e, Reach sp rds st si e ∧ e.b = x ∧ m = e.c + sp x
  closed : ∀ d ∈ pre, rdy ps d.a d.l = true → rdy ps d.b (d.c + sp d.b) = true
theorem Soon.nil {sp : Str → Int} {rds : List Rd} {st : Str} {si : Int} : Soon sp rds [] st si [(st, si)] := by
  refine ⟨by simp, ?_, fun x m h => ?_, (fun _ h => nomatch h)⟩
  · rw [rdy_iff]; exact ⟨si, by simp, Int.le_refl _⟩
  · rw [List.lookup_cons] at h
    by_cases e : x = st
    · subst e
      simp at h
      exact .inl ⟨rfl, h.symm⟩
    · have e2 : (x == st) = false := by simpa using e
      rw [e2] at h
      cases h
theorem Soon.skip {sp : Str → Int} {rds pre : List Rd} {st : Str} {si : Int} {ps : List (Str × Int)} {d : Rd} (S : Soon sp rds pre st si ps) (h : rdy ps d.a d.l = true → rdy ps d.b (d.c + sp d.b) = true) : Soon sp rds (pre ++ [d]) st si ps :=
  ⟨S.nd, S.st0, S.sound, fun e he => by
    rcases List.mem_append.mp he with q | q
    · exact S.closed e q
    · rw [List.mem_singleton.mp q]; exact h⟩
theorem Soon.step {sp : Str → Int} {rds pre : List Rd} {st : Str} {si : Int} {ps : List (Str × Int)} {d : Rd} (G : Good sp rds) (S : Soon sp rds pre st si ps) (hd : d ∈ rds) (hp : ∀ e ∈ pre, e.l ≤ d.l) (h : rdy ps d.a d.l = true) (hn : rdy ps d.b (d.c + sp d.b) = false) :
    Soon sp rds (pre ++ [d]) st si (putS ps d.b (d.c + sp d.b)) := by
  have l1 := G.lc _ hd
  have l2 := G.s0 _ hd
  have mono : ∀ x m, rdy ps x m = true → rdy (putS ps d.b (d.c + sp d.b)) x m = true := fun x m q => by
    obtain ⟨z, e, le⟩ := rdy_iff.mp q
    rw [rdy_iff, lookup_put]
    by_cases ex : x = d.b
    · subst ex
      refine ⟨_, if_pos rfl, ?_⟩
      by_cases q : d.c + sp d.b ≤ m
      · exact q
      · exact absurd (rdy_iff.mpr (⟨z, e, by omega⟩ : ∃ z, ps.lookup d.b = some z ∧ z ≤ d.c + sp d.b)) (by rw [hn]; decide)
    · rw [if_neg ex]; exact ⟨z, e, le⟩
  have self : rdy (putS ps d.b (d.c + sp d.b)) d.b (d.c + sp d.b) = true := rdy_iff.mpr ⟨_, by rw [lookup_put, if_pos rfl], Int.le_refl _⟩
  have back : ∀ x m, m ≤ d.l → rdy (putS ps d.b (d.c + sp d.b)) x m = true → rdy ps x m = true := fun x m hm q => by
    obtain ⟨z, e, le⟩ := rdy_iff.mp q
    rw [lookup_put] at e
    by_cases ex : x = d.b
    · rw [if_pos ex] at e
      cases e
      omega
    · rw [if_neg ex] at e
      exact rdy_iff.mpr ⟨z, e, le⟩
  refine ⟨keys_put S.nd, mono _ _ S.st0, fun x m q => ?_, fun e he q => ?_⟩
  · rw [lookup_put] at q
    by_cases ex : x = d.b
    · rw [if_pos ex] at q
      cases q
      refine .inr ⟨d, ?_, ex.symm, by rw [ex]⟩
      obtain ⟨z, e, le⟩ := rdy_iff.mp h
      rcases S.sound _ _ e with ⟨e1, e2⟩ | ⟨e', r, e1, e2⟩
      · exact .fst hd e1 (by omega)
      · exact .nxt r hd (hg_iff.mpr ⟨e1, by rw [e1]; omega⟩)
    · rw [if_neg ex] at q
      exact S.sound x m q
  · rcases List.mem_append.mp he with he | he
    · exact mono _ _ (S.closed e he (back _ _ (hp e he) q))
    · rw [List.mem_singleton.mp he]; exact self
theorem Soon.all {sp : Str → Int} {rds : List Rd} {st : Str} {si : Int} {ps : List (Str × Int)} {pre : List Rd} (S : Soon sp rds pre st si ps) (hp : ∀ d ∈ rds, d ∈ pre) {d : Rd} (r : Reach sp rds st si d) : rdy ps d.b (d.c + sp d.b) = true := by
  have up : ∀ x m n, rdy ps x m = true → m ≤ n → rdy ps x n = true := fun x m n q le => by
    obtain ⟨z, e, l⟩ := rdy_iff.mp q
    exact rdy_iff.mpr ⟨z, e, by omega⟩
  induction r with
  | fst m e h => exact S.closed _ (hp _ m) (by rw [e]; exact up _ _ _ S.st0 h)
  | nxt r m h ih =>
    obtain ⟨h1, h2⟩ := hg_iff.mp h
    exact S.closed _ (hp _ m) (by rw [← h1]; exact up _ _ _ ih h2)
/-- the least moment of a place -/
def Least (sp : Str → Int) (rds : List Rd) (st : Str) (si : Int) (x : Str) (m : Int) : Prop :=
  (x = st ∧ m = si) ∨ (x ≠ st ∧ (∃ e, Reach sp rds st si e ∧ e.b = x ∧ m = e.c + sp x) ∧ ∀ e, Reach sp rds st si e → e.b = x → m ≤ e.c + sp x)
theorem Least.uniq {sp : Str → Int} {rds : List Rd} {st : Str} {si : Int} {x : Str} {m m' : Int} (h : Least sp rds st si x m) (h' : Least sp rds st si x m') : m = m' := by
  rcases h with ⟨a, b⟩ | ⟨a, ⟨e, r, eb, em⟩, c⟩ <;> rcases h' with ⟨a', b'⟩ | ⟨a', ⟨e', r', eb', em'⟩, c'⟩
  · omega
  · exact absurd a a'
  · exact absurd a' a
  · have := c e' r' eb'
    have := c' e r eb
    omega
theorem Soon.least {sp : Str → Int} {rds : List Rd} {st : Str} {si : Int} {ps : List (Str × Int)} {pre : List Rd} (G : Good sp rds) (S : Soon sp rds pre st si ps) (hp : ∀ d ∈ rds, d ∈ pre) {x : Str} {m : Int} : (x, m) ∈ ps ↔ Least sp rds st si x m := by
  rw [mem_lookup S.nd]
  have ge : ∀ e, Reach sp rds st si e → si ≤ e.c + sp e.b := fun e r => by
    have := r.since G
    have := G.lc _ r.mem
    have := G.s0 _ r.mem
    omega
  have fwd : ∀ {m}, ps.lookup x = some m → Least sp rds st si x m := fun {m} q => by
    by_cases ex : x = st
    · refine .inl ⟨ex, ?_⟩
      obtain ⟨z, e, le⟩ := rdy_iff.mp S.st0
      rw [← ex, q] at e
      cases e
      rcases S.sound x m q with ⟨_, h⟩ | ⟨e, r, eb, em⟩
      · exact h
      · have := ge e r
        rw [eb] at this
        omega
    · refine .inr ⟨ex, ?_, fun e r eb => ?_⟩
      · rcases S.sound x m q with ⟨h, _⟩ | h
        · exact absurd h ex
        · exact h
      · obtain ⟨z, h1, h2⟩ := rdy_iff.mp (S.all hp r)
        rw [eb, q] at h1
        cases h1
        rw [eb] at h2
        exact h2
  refine ⟨fwd, fun h => ?_⟩
  cases q : ps.lookup x with
  | some z => rw [(fwd q).uniq h]
  | none =>
    rcases h with ⟨a, b⟩ | ⟨a, ⟨e, r, eb, em⟩, c⟩
    · obtain ⟨z, e, le⟩ := rdy_iff.mp S.st0
      rw [← a, q] at e
      cases e
    · obtain ⟨z, h1, h2⟩ := rdy_iff.mp (S.all hp r)
      rw [eb, q] at h1
      cases h1
/-- two rising lists of the same pairs -/
theorem rising_eq {P : Str → Int → Prop} : ∀ {as bs : List (Str × Int)}, as.Pairwise (fun a b => a.1.cps.toList < b.1.cps.toList) → bs.Pairwise (fun a b => a.1.cps.toList < b.1.cps.toList) → (∀ o, o ∈ as ↔ o ∈ bs) → as = bs
  | [], bs, _, _, h => by
    cases bs with
    | nil => rfl
    | cons b r => exact absurd ((h b).mpr (List.mem_cons_self ..)) (by simp)
  | a :: as, bs, ha, hb, h => by
    cases bs with
    | nil => exact absurd ((h a).mp (List.mem_cons_self ..)) (by simp)
    | cons b bs =>
      rw [List.pairwise_cons] at ha hb
      have irr : ∀ x : Str, ¬ x.cps.toList < x.cps.toList := fun x => List.lt_irrefl _
      have asym : ∀ x y : Str, x.cps.toList < y.cps.toList → ¬ y.cps.toList < x.cps.toList := fun x y q q' => List.lt_irrefl _ (List.lt_trans q q')
      have eab : a = b := by
        rcases List.mem_cons.mp ((h a).mp (List.mem_cons_self ..)) with q | q
        · exact q
        · rcases List.mem_cons.mp ((h b).mpr (List.mem_cons_self ..)) with q' | q'
          · exact q'.symm
          · exact absurd (ha.1 b q') (asym _ _ (hb.1 a q))
      subst eab
      have : as = bs := rising_eq (P := P) ha.2 hb.2 fun o => by
        constructor
        · intro q
          rcases List.mem_cons.mp ((h o).mp (List.mem_cons_of_mem _ q)) with z | z
          · subst z; exact absurd (ha.1 _ q) (irr _)
          · exact z
        · intro q
          rcases List.mem_cons.mp ((h o).mpr (List.mem_cons_of_mem _ q)) with z | z
          · subst z; exact absurd (hb.1 _ q) (irr _)
          · exact z
      rw [this]
/-! how many rows there can be -/
def rank (rds : List Rd) (d : Rd) : Nat := rds.countP fun e => decide (d.l < e.l)
def fct : Nat → Nat
  | 0 => 1
  | n + 1 => (n + 1) * fct n
theorem fct_pos : ∀ n, 1 ≤ fct n
  | 0 => Nat.le_refl _
  | n + 1 => Nat.le_trans (fct_pos n) (Nat.le_mul_of_pos_left _ (Nat.succ_pos n))
theorem fct_mono {m n : Nat} (h : m ≤ n) : fct m ≤ fct n := by
  induction h with
  | refl => exact Nat.le_refl _
  | step h ih => exact Nat.le_trans ih (Nat.le_mul_of_pos_left _ (Nat.succ_pos _))
def pot (rds : List Rd) (d : Rd) : Nat := fct (rank rds d + 1)
theorem countP_lt' {α : Type} {p q : α → Bool} : ∀ {l : List α}, (∀ x ∈ l, p x = true → q x = true) → (∃ x ∈ l, q x = true ∧ p x = false) → l.countP p < l.countP q
  | [], _, h => by obtain ⟨x, m, _⟩ := h; cases m
  | y :: l, h, ⟨x, m, hq, hp⟩ => by
    have le : l.countP p ≤ l.countP q := by
      have := List.countP_mono_left (p := p) (q := q) (l := l) fun z hz => h z (List.mem_cons_of_mem _ hz)
      exact this
    rw [List.countP_cons, List.countP_cons]
    rcases List.mem_cons.mp m with e | m
    · subst e
      rw [hq, hp]
      simp
      omega
    · have ih := countP_lt' (p := p) (q := q) (l := l) (fun z hz => h z (List.mem_cons_of_mem _ hz)) ⟨x, m, hq, hp⟩
      have hy := h y (List.mem_cons_self ..)
      cases ep : p y with
      | false => simp; split <;> omega
      | true => rw [hy ep]; simp; exact ih
theorem rank_lt {rds : List Rd} {e d : Rd} (hd : d ∈ rds) (h : e.l < d.l) : rank rds d < rank rds e := by
  unfold rank
  refine countP_lt' (fun x _ q => ?_) ⟨d, hd, decide_eq_true h, by simp⟩
  have := of_decide_eq_true q
  exact decide_eq_true (by omega)
theorem rank_le (rds : List Rd) (d : Rd) : rank rds d ≤ rds.length := List.countP_le_length
theorem rank_le' {rds : List Rd} {d : Rd} (hd : d ∈ rds) : rank rds d + 1 ≤ rds.length := by
  have : rds.countP (fun e => decide (d.l < e.l)) < rds.countP (fun _ => true) := countP_lt' (fun _ _ _ => rfl) ⟨d, hd, rfl, by simp⟩
  rw [List.countP_true] at this
  exact this
/-- the rides behind a ride's leaving, as far as looked -/
def cntB (rds : List Rd) (d : Rd) (j : Nat) : Nat := (rds.take j).countP fun e => decide (d.l < e.l)
theorem cntB_skip {rds : List Rd} {d : Rd} {j : Nat} : cntB rds d j ≤ cntB rds d (j + 1) := by
  unfold cntB
  exact List.Sublist.countP_le (List.take_sublist_take_left (Nat.le_succ j))
theorem cntB_add {rds : List Rd} {d e : Rd} {j : Nat} (he : rds[j]? = some e) (h : d.l < e.l) : cntB rds d (j + 1) = cntB rds d j + 1 := by
  unfold cntB
  rw [take_snoc he, List.countP_append]
  simp [h]
theorem cntB_end {rds : List Rd} {d : Rd} : cntB rds d rds.length = rank rds d := by unfold cntB rank; rw [List.take_length]
theorem pot_ext {rds : List Rd} {d e : Rd} (he : e ∈ rds) (h : d.l < e.l) : pot rds e ≤ fct (rank rds d) := fct_mono (rank_lt he h)
theorem pot_spent {rds : List Rd} {d : Rd} : rank rds d * fct (rank rds d) + 1 ≤ pot rds d := by
  have := fct_pos (rank rds d)
  show _ ≤ (rank rds d + 1) * fct (rank rds d)
  rw [Nat.succ_mul]
  omega
theorem pot_le {rds : List Rd} {d : Rd} (hd : d ∈ rds) (h : rds.length ≤ 9) : pot rds d ≤ 362880 := by
  have := fct_mono (Nat.le_trans (rank_le' hd) h)
  exact this
end X2

set_option maxHeartbeats 4000000
namespace X2
open PySem PySem.Spec PyProof.Rows L2
/-- a def whose code object is known -/
structure FunC (K : PySem.W.Frag) (x qual : Str) (st : Stmt) (f : Addr) (fd : FuncData) (c : Addr) : Prop where
  ex : ∃ (oc : Value) (od : Option Addr) (kV doc pm : Value) (an : Option Addr) (ct : Value) (osl : Array (Option Value)),
    fd = PySem.W.fnOf x qual (defArgs st) (defBody st) (defScope st) .none kV doc pm an (.ref c) ct ∧ K.lookup f = some ⟨oc, od, .func fd, osl⟩ ∧ PySem.W.codeIn K (.ref c) qual = true
  kp : PySem.W.keepIn K (.ref f) = true
section
variable {P : Program} {w : World} {K : PySem.W.Frag} {mg : Str → Option Value} {base : Heap}
theorem FunC.ok {x qual : Str} {st : Stmt} {f c : Addr} {fd : FuncData} {N ps : List Str} {k : Nat} {sp : Sp} (F : FunC K x qual st f fd c) (S : FnScope N ps (defScope st)) (len : ∀ vs H Q E, sp vs H Q E → vs.length = ps.length)
    (hbody : ∀ (A : Around) (outer : List Env) (s : Shared) (H : Hp) (vs : List V) (Q : VK) (E : XK), Room k (A.deeper (envOfC qual (defScope st) s.heap.objs.size f (.ref c))) → sp vs H Q E →
      ∃ t, PSs (cxOf CX0 P w K mg base N qual (defScope st) f (.ref c) A outer s H E).nox (defBody st) t ∧ t { nx := fun _ H' => Q .non H', rt := Q } (start N vs) H) : FnOk P w K mg base CX0 (k + 1) f fd ps sp := by
  obtain ⟨oc, od, kV, doc, pm, an, ct, osl, rfl, lk, hcd⟩ := F.ex
  refine fn_of lk hcd S len fun A outer s H vs Q E hr hsp => ?_
  obtain ⟨t, h, q⟩ := hbody A outer s H vs Q E hr hsp
  exact ⟨t, h.nox, q⟩
theorem FunC.plain {x qual : Str} {st : Stmt} {f c : Addr} {fd : FuncData} (F : FunC K x qual st f fd c) : Fun K x qual st f fd := by
  obtain ⟨⟨oc, od, kV, doc, pm, an, ct, osl, e, lk, hcd⟩, kp⟩ := F
  exact ⟨⟨oc, od, kV, doc, pm, an, .ref c, ct, osl, e, lk, hcd⟩, kp⟩
theorem funC_mk {x qual : Str} {st : Stmt} {f c : Addr} {oc : Value} {od an : Option Addr} {osl : Array (Option Value)} {kV doc pm ct : Value} (l : K.lookup f = some ⟨oc, od, .func (PySem.W.fnOf x qual (defArgs st) (defBody st) (defScope st) .none kV doc pm an (.ref c) ct), osl⟩)
    (cc : PySem.W.codeIn K (.ref c) qual = true) (k : PySem.W.keepIn K (.ref f) = true) : FunC K x qual st f (PySem.W.fnOf x qual (defArgs st) (defBody st) (defScope st) .none kV doc pm an (.ref c) ct) c := ⟨⟨oc, od, kV, doc, pm, an, ct, osl, rfl, l, cc⟩, k⟩
end
/-! rides by pairs -/
abbrev Rw (H : Hp) (kvs : List (Key × V)) (xs : List V) (ds : List Rd) : Prop := Paired (RdAt H kvs) xs ds
theorem paired_len {α β : Type} {R : α → β → Prop} : ∀ {xs : List α} {ys : List β}, Paired R xs ys → xs.length = ys.length
  | _, _, .nil => rfl
  | _, _, .cons _ t => by rw [List.length_cons, List.length_cons, paired_len t]
theorem paired_mono {α β : Type} {R S : α → β → Prop} (h : ∀ a b, R a b → S a b) : ∀ {xs : List α} {ys : List β}, Paired R xs ys → Paired S xs ys
  | _, _, .nil => .nil
  | _, _, .cons r t => .cons (h _ _ r) (paired_mono h t)
theorem paired_snoc {α β : Type} {R : α → β → Prop} {x : α} {y : β} (hr : R x y) : ∀ {xs : List α} {ys : List β}, Paired R xs ys → Paired R (xs ++ [x]) (ys ++ [y])
  | _, _, .nil => .cons hr .nil
  | _, _, .cons r t => .cons r (paired_snoc hr t)
theorem paired_rev {α β : Type} {R : α → β → Prop} : ∀ {xs : List α} {ys : List β}, Paired R xs ys → Paired R xs.reverse ys.reverse
  | _, _, .nil => .nil
  | _, _, .cons r t => by rw [List.reverse_cons, List.reverse_cons]; exact paired_snoc r (paired_rev t)
theorem paired_at {α β : Type} {R : α → β → Prop} : ∀ {xs : List α} {ys : List β} {i : Nat} {x : α}, Paired R xs ys → xs[i]? = some x → ∃ y, ys[i]? = some y ∧ R x y := paired_get
theorem paired_at2 {α β : Type} {R : α → β → Prop} {xs : List α} {ys : List β} {i : Nat} {x : α} {y : β} (h : Paired R xs ys) (hx : xs[i]? = some x) (hy : ys[i]? = some y) : R x y := by
  obtain ⟨z, e, r⟩ := paired_get h hx
  rw [hy] at e
  cases e
  exact r
theorem kout_rides {H : Hp} {kvs : List (Key × V)} {xs out : List V} {ds : List Rd} (h : Rw H kvs xs ds) (ko : KOut false (ds.map (·.l)) xs out) : ∃ ds' : List Rd, Rw H kvs out ds' ∧ ds'.Perm ds ∧ ds'.Pairwise (fun a b => a.l ≤ b.l) := by
  obtain ⟨ps, pm, rfl, pw⟩ := ko
  have z : Paired (fun (d : Rd) (p : Int × V) => p.1 = d.l ∧ RdAt H kvs p.2 d) ds ((ds.map (·.l)).zip xs) := by
    clear pm pw
    induction h with
    | nil => exact .nil
    | cons r t ih => exact .cons ⟨rfl, r⟩ ih
  obtain ⟨ds', h1, h2⟩ := perm_lift pm z
  refine ⟨ds', ?_, h2, ?_⟩
  · clear h2 z pw pm
    induction h1 with
    | nil => exact .nil
    | cons r t ih => exact .cons r.2 ih
  · clear h2 z pm
    induction h1 with
    | nil => exact .nil
    | @cons d p l1 l2 r t ih =>
      rw [List.pairwise_cons] at pw ⊢
      refine ⟨fun e he => ?_, ih pw.2⟩
      obtain ⟨i, hi⟩ := List.mem_iff_getElem?.mp he
      obtain ⟨q, hq, r'⟩ := paired_get t hi
      have := pw.1 q (List.mem_of_getElem? hq)
      rw [← r.1, ← r'.1]
      simpa using this
/-! one dict may change -/
def Sx (p : Addr) (H H' : Hp) : Prop := ∀ b u, b ≠ p → H b = some u → H' b = some u
theorem Sx.refl {p : Addr} {H : Hp} : Sx p H H := fun _ _ _ h => h
theorem Sx.put {p : Addr} {H H' : Hp} (s : Sx p H H') (o : HO) : Sx p H (upd H' p o) := fun b u n e => (upd_ne n).trans (s b u n e)
theorem TabOk.sx {p : Addr} {H H' : Hp} (s : Sx p H H') {kvs : List (Key × V)} (h : H p = some (.dK kvs)) {P : Addr} {pos : Pos} {lq : Str} (t : TabOk H P pos lq) : TabOk H' P pos lq := by
  obtain ⟨ps, e, ht, q⟩ := t
  refine ⟨ps, s _ _ (ne_of e h fun z => nomatch z) e, ht, ?_⟩
  rcases q with q | ⟨c', q, h'⟩
  · exact .inl q
  · exact .inr ⟨c', q, s _ _ (ne_of h' h fun z => nomatch z) h'⟩
theorem SaT.sx {p : Addr} {H0 H H' : Hp} (t : SaT H0 H) (s : Sx p H H') (n : H0 p = none) : SaT H0 H' := ⟨fun b u e k => s _ _ (ne_of_none e n) (t.keep b u e k), fun b ps e => by
  obtain ⟨m, q⟩ := t.tbl b ps e
  exact ⟨m, s _ _ (ne_of_none e n) q⟩⟩
theorem RdAt.sx {p : Addr} {H H' : Hp} (s : Sx p H H') {kv : List (Key × V)} (h : H p = some (.dK kv)) {kvs : List (Key × V)} {x : V} {d : Rd} (r : RdAt H kvs x d) : RdAt H' kvs x d := by
  obtain ⟨q, e, g, v⟩ := r
  exact ⟨q, e, s _ _ (ne_of g h fun z => nomatch z) g, v⟩
theorem RdAt.saT {H H' : Hp} (s : SaT H H') {kvs : List (Key × V)} {x : V} {d : Rd} (r : RdAt H kvs x d) : RdAt H' kvs x d := by
  obtain ⟨q, e, g, v⟩ := r
  exact ⟨q, e, s.keep _ _ g rfl, v⟩
/-! promises of soonest -/
def spReady : Sp := fun vs H Q _ => ∃ (p : Addr) (ps : List (Str × Int)) (x : Str) (m : Int), vs = [.ref p, .str x, .int m] ∧ H p = some (.dK (toDK ps)) ∧ Q (.bl (rdy ps x m)) H
def lpS : Pos := ⟨5, 65, 5, 90⟩
def lqS : Str := (Str.ofString "soonest" ++ Str.ofString ".<locals>.") ++ "<lambda>"
def spSoon (K : PySem.W.Frag) (Pt : Addr) : Sp := fun vs H Q _ => ∃ (pr ps : Addr) (xs : List V) (kvs : List (Key × V)) (ds : List Rd) (ns : List Str) (st : Str) (si : Int), vs = [.ref pr, .ref ps, .str st, .int si] ∧ H pr = some (.lst xs) ∧ H ps = some (.dK kvs) ∧ Rw H kvs xs ds ∧ xs.length < 64 ∧ Good (spn kvs) ds ∧ ns.length ≤ 5 ∧ st ∈ ns ∧ (∀ d ∈ ds, d.b ∈ ns) ∧ TabOk H Pt lpS lqS ∧
  ∀ (r : Addr) (out : List (Str × Int)) (qs : List Addr) (H' : Hp), SaT H H' → TabOk H' Pt lpS lqS → H r = none → out.Pairwise (fun a b => a.1.cps.toList < b.1.cps.toList) → H' r = some (.lst (qs.map V.ref)) → qs.length = out.length → (∀ (i : Nat) q (o : Str × Int), qs[i]? = some q → out[i]? = some o → H' q = some (.tup [.str o.1, .int o.2])) →
    (∀ x m, (x, m) ∈ out ↔ Least (spn kvs) ds st si x m) → Q (.ref r) H'
theorem Soon.small {sp : Str → Int} {rds pre : List Rd} {st : Str} {si : Int} {ps : List (Str × Int)} (S : Soon sp rds pre st si ps) {ns : List Str} (h1 : st ∈ ns) (h2 : ∀ d ∈ rds, d.b ∈ ns) : ps.length ≤ ns.length := by
  have := S.nd.length_le_of_subset (l₂ := ns) fun x hx => by
    obtain ⟨⟨k, m⟩, hp, rfl⟩ := List.mem_map.mp hx
    rcases S.sound k m ((mem_lookup S.nd).mp hp) with ⟨e, _⟩ | ⟨e, r, eb, _⟩
    · show k ∈ ns
      rw [e]; exact h1
    · show k ∈ ns
      rw [← eb]; exact h2 _ r.mem
  rw [List.length_map] at this
  exact this
theorem Reach.congr {sp : Str → Int} {as bs : List Rd} {st : Str} {si : Int} (h : ∀ d, d ∈ as → d ∈ bs) {d : Rd} (r : Reach sp as st si d) : Reach sp bs st si d := by
  induction r with
  | fst m e l => exact .fst (h _ m) e l
  | nxt r m g ih => exact .nxt ih (h _ m) g
theorem Least.congr {sp : Str → Int} {as bs : List Rd} {st : Str} {si : Int} (h : ∀ d, d ∈ as ↔ d ∈ bs) {x : Str} {m : Int} : Least sp as st si x m → Least sp bs st si x m := by
  rintro (q | ⟨a, ⟨e, r, eb, em⟩, c⟩)
  · exact .inl q
  · exact .inr ⟨a, ⟨e, r.congr fun d => (h d).mp, eb, em⟩, fun e r eb => c e (r.congr fun d => (h d).mpr) eb⟩
theorem valV_spn {kvs : List (Key × V)} {b : Str} {z : Int} (h : valV kvs (Sum.inr b : Key) = some (.int z)) : spn kvs b = z := by unfold spn; rw [h]
end X2

set_option maxHeartbeats 4000000
namespace X2
open PySem PySem.Spec PyProof.Rows L2
/-! rows of rides gone through -/
def LastAt (H : Hp) (kvs : List (Key × V)) (rp : Addr) (N : Nat) (x : V) (d : Rd) : Prop := ∃ q ws y, x = .ref q ∧ q ≠ rp ∧ H q = some (.lst (ws ++ [y])) ∧ RdAt H kvs y d ∧ ws.length ≤ N
theorem LastAt.mono {H H' : Hp} (s : Same H H') {kvs : List (Key × V)} {rp : Addr} {N M : Nat} (h : N ≤ M) {x : V} {d : Rd} (l : LastAt H kvs rp N x d) : LastAt H' kvs rp M x d := by
  obtain ⟨q, ws, y, e, n, hq, r, hl⟩ := l
  exact ⟨q, ws, y, e, n, s _ _ hq, r.mono s, by omega⟩
theorem LastAt.upd {H : Hp} {kvs : List (Key × V)} {rp : Addr} {N : Nat} {x : V} {d : Rd} {zs : List V} {o : HO} (hr : H rp = some (.lst zs)) (l : LastAt H kvs rp N x d) : LastAt (upd H rp o) kvs rp N x d := by
  obtain ⟨q, ws, y, e, n, hq, ⟨p, ey, g, v⟩, hl⟩ := l
  exact ⟨q, ws, y, e, n, (upd_ne n).trans hq, ⟨p, ey, (upd_ne (ne_of g hr fun z => nomatch z)).trans g, v⟩, hl⟩
abbrev LastsAt (H : Hp) (kvs : List (Key × V)) (rp : Addr) (N : Nat) (xs : List V) (ds : List Rd) : Prop := Paired (LastAt H kvs rp N) xs ds
def potS (rds l : List Rd) : Nat := (l.map (pot rds)).sum
theorem potS_snoc {rds l : List Rd} {d : Rd} : potS rds (l ++ [d]) = potS rds l + pot rds d := by unfold potS; rw [List.map_append, List.sum_append]; simp
theorem potS_app {rds l m : List Rd} : potS rds (l ++ m) = potS rds l + potS rds m := by unfold potS; rw [List.map_append, List.sum_append]
theorem potS_len {rds : List Rd} : ∀ (l : List Rd), l.length ≤ potS rds l
  | [] => Nat.zero_le _
  | d :: l => by
    have := potS_len (rds := rds) l
    have := fct_pos (rank rds d + 1)
    show l.length + 1 ≤ pot rds d + potS rds l
    unfold pot
    omega
theorem potS_le {rds : List Rd} (h : rds.length ≤ 9) : ∀ {l : List Rd}, (∀ d ∈ l, d ∈ rds) → potS rds l ≤ l.length * 362880
  | [], _ => Nat.zero_le _
  | d :: l, m => by
    have := potS_le h (l := l) fun e he => m e (List.mem_cons_of_mem _ he)
    have := pot_le (m d (List.mem_cons_self ..)) h
    show pot rds d + potS rds l ≤ (l.length + 1) * 362880
    omega
structure Ways (sp : Str → Int) (rds es : List Rd) (st : Str) (si : Int) (n : Nat) : Prop where
  le : n ≤ es.length
  reach : ∀ e ∈ es, Reach sp rds st si e
  fst : ∀ d ∈ rds, d.a = st → si ≤ d.l → d ∈ es
  nxt : ∀ i, i < n → ∀ e, es[i]? = some e → ∀ d ∈ rds, hg sp e d = true → d ∈ es
theorem Ways.all {sp : Str → Int} {rds es : List Rd} {st : Str} {si : Int} (W : Ways sp rds es st si es.length) {d : Rd} (r : Reach sp rds st si d) : d ∈ es := by
  induction r with
  | fst m e h => exact W.fst _ m e h
  | nxt r m h ih =>
    obtain ⟨i, hi⟩ := List.mem_iff_getElem?.mp ih
    exact W.nxt i (List.getElem?_eq_some_iff.mp hi).1 _ hi _ m h
def WayW (H : Hp) (kvs : List (Key × V)) (rds : List Rd) (pr ps : Addr) (st go : Str) (si : Int) (rp : Addr) (m : Nat) (σ : L2.St) (H3 : Hp) : Prop :=
  ∃ (n : Nat) (rows : List V) (es : List Rd) (u8 : Option V), σ = [some (.ref pr), some (.ref ps), some (.str st), some (.str go), some (.int si), some (.ref rp), some (.int n), none, u8] ∧ Same H H3 ∧ H3 rp = some (.lst rows) ∧ LastsAt H3 kvs rp n rows es ∧ m = potS rds (es.drop n) ∧ n + m ≤ 3265920 ∧ Ways (spn kvs) rds es st si n
def spWays (K : PySem.W.Frag) : Sp := fun vs H Q _ => ∃ (pr ps : Addr) (xs : List V) (kvs : List (Key × V)) (rds : List Rd) (st go : Str) (si : Int), vs = [.ref pr, .ref ps, .str st, .str go, .int si] ∧ H pr = some (.lst xs) ∧ H ps = some (.dK kvs) ∧ Rw H kvs xs rds ∧ xs.length ≤ 9 ∧ Good (spn kvs) rds ∧
  ∀ (r : Addr) (rows : List V) (H' : Hp), Same H H' → H r = none → H' r = some (.lst rows) → rows.length ≤ 4000000 → (∀ x ∈ rows, (∃ q, x = .ref q ∧ q ≠ r ∧ H' q = some (.lst [])) ∨ ∃ d N, LastAt H' kvs r N x d ∧ Reach (spn kvs) rds st si d ∧ d.b = go) → (∀ d, Reach (spn kvs) rds st si d → d.b = go → ∃ x ∈ rows, ∃ N, LastAt H' kvs r N x d) → Q (.ref r) H'
end X2

set_option maxHeartbeats 4000000
namespace X2
open PySem PySem.Spec PyProof.Rows L2
/-! names unlike one another -/
def mark (f : Int) (n : Str) : Option Nat := if f = 0 then n.cps.toList.head? else n.cps.toList.getLast?
theorem cps_app (x y : Str) : (x ++ y).cps.toList = x.cps.toList ++ y.cps.toList := by
  show (x.cps ++ y.cps).toList = _
  exact Array.toList_append
theorem mark0 {c : Nat} {r : Str} : mark 0 (⟨#[c]⟩ ++ r) = some c := by
  unfold mark
  rw [if_pos rfl, cps_app]
  rfl
theorem mark1 {c : Nat} {r : Str} : mark 1 (r ++ ⟨#[c]⟩) = some c := by
  unfold mark
  rw [if_neg (by decide), cps_app]
  show (r.cps.toList ++ [c]).getLast? = some c
  simp
theorem two_mark {f : Int} (h0 : 0 ≤ f) (h1 : f < 2) {c : Nat} {rest : Str} : ∃ nm : Str, atI [V.str (⟨#[c]⟩ ++ rest), V.str (rest ++ ⟨#[c]⟩)] f = some (.str nm) ∧ mark f nm = some c := by
  have : f = 0 ∨ f = 1 := by omega
  rcases this with rfl | rfl
  · exact ⟨_, rfl, mark0⟩
  · exact ⟨_, rfl, mark1⟩
theorem pickC {xs : List Nat} {i : Int} (h0 : 0 ≤ i) (h1 : i < xs.length) : ∃ v, atI xs i = some v ∧ xs[i.toNat]? = some v := by
  obtain ⟨k, rfl⟩ := Int.eq_ofNat_of_zero_le h0
  have hk : k < xs.length := by omega
  exact ⟨xs[k], atI_nat (List.getElem?_eq_getElem hk), List.getElem?_eq_getElem hk⟩
theorem abc_nd : abc.cps.toList.Nodup := by decide +kernel
def okZ (z : Int) : Prop := z = 1 ∨ z = 3 ∨ z = 5 ∨ z = 7 ∨ z = 9 ∨ z = 11
theorem names_nd {ns : List Str} {f z d1 : Int} (hz : okZ z) (h5 : ns.length ≤ 5) (h : ∀ (t : Nat) x, ns[t]? = some x → mark f x = abc.cps.toList[((((0 : Int) + (t : Int)) * z + d1) % 26).toNat]?) : ns.Nodup := by
  refine List.pairwise_iff_getElem.mpr fun i j hi hj hij e => ?_
  have a := h i _ (List.getElem?_eq_getElem hi)
  have b := h j _ (List.getElem?_eq_getElem hj)
  rw [e, b] at a
  have l1 := Int.emod_nonneg (((0 : Int) + (i : Int)) * z + d1) (show (26 : Int) ≠ 0 by decide)
  have l2 := Int.emod_lt_of_pos (((0 : Int) + (i : Int)) * z + d1) (show (0 : Int) < 26 by decide)
  have l3 := Int.emod_nonneg (((0 : Int) + (j : Int)) * z + d1) (show (26 : Int) ≠ 0 by decide)
  have l4 := Int.emod_lt_of_pos (((0 : Int) + (j : Int)) * z + d1) (show (0 : Int) < 26 by decide)
  have q := (List.getElem?_inj (i := (((0 + (j : Int)) * z + d1) % 26).toNat) (by rw [abc_len]; omega) abc_nd).mp a
  rcases hz with rfl | rfl | rfl | rfl | rfl | rfl <;> omega
def spNames2 : Sp := fun vs H Q _ => ∃ (d : Addr) (ds : List Int) (m : Nat), vs = [.ref d, .int m] ∧ H d = some (.lst (ds.map V.int)) ∧ Bd ds ∧ ds.length = 20 ∧ m ≤ 5 ∧
  ∀ (r : Addr) (ns : List Str) (H' : Hp), Same H H' → H r = none → H' r = some (.lst (ns.map V.str)) → ns.length = m → ns.Nodup → Q (.ref r) H'
/-- the law's world, with all that is true of it -/
structure Wd (H : Hp) (pn ps pr : Addr) (base : Int) (ns : List Str) (kvs : List (Key × V)) (xs : List V) (rds : List Rd) : Prop where
  hn : H pn = some (.lst (ns.map V.str))
  hs : H ps = some (.dK kvs)
  hr : H pr = some (.lst xs)
  np : pn ≠ pr
  nd : (kvs.map (·.1)).Nodup
  iv : ∀ p ∈ kvs, ∃ i, p.2 = V.int i
  nn : ns.Nodup
  n2 : 2 ≤ ns.length
  n5 : ns.length ≤ 5
  le : xs.length ≤ 9
  rd : Rw H kvs xs rds
  ok : ∀ d ∈ rds, d.a ∈ ns ∧ d.b ∈ ns ∧ d.l < d.c
  sp : ∀ x ∈ ns, ∃ z, valV kvs (Sum.inr x : Key) = some (.int z) ∧ 0 ≤ z
theorem Wd.mono {H H' : Hp} {pn ps pr : Addr} {base : Int} {ns : List Str} {kvs : List (Key × V)} {xs : List V} {rds : List Rd} (W : Wd H pn ps pr base ns kvs xs rds) (s : Same H H') : Wd H' pn ps pr base ns kvs xs rds :=
  ⟨s _ _ W.hn, s _ _ W.hs, s _ _ W.hr, W.np, W.nd, W.iv, W.nn, W.n2, W.n5, W.le, paired_mono (fun _ _ r => r.mono s) W.rd, W.ok, W.sp⟩
theorem Wd.good {H : Hp} {pn ps pr : Addr} {base : Int} {ns : List Str} {kvs : List (Key × V)} {xs : List V} {rds : List Rd} (W : Wd H pn ps pr base ns kvs xs rds) : Good (spn kvs) rds :=
  ⟨fun d hd => (W.ok d hd).2.2, fun d hd => by
    obtain ⟨z, e, h⟩ := W.sp _ (W.ok d hd).2.1
    rw [valV_spn e]
    exact h⟩
theorem Wd.more {H : Hp} {pn ps pr q : Addr} {base : Int} {ns : List Str} {kvs : List (Key × V)} {xs : List V} {rds : List Rd} {n : Int} {a b : Str} {l c : Int} (W : Wd H pn ps pr base ns kvs xs rds) (hq : RideAt H q n a b l c) (ha : a ∈ ns) (hb : b ∈ ns) (hlc : l < c) (hl : xs.length ≤ 8) :
    Wd (upd H pr (.lst (xs ++ [.ref q]))) pn ps pr base ns kvs (xs ++ [.ref q]) (rds ++ [⟨n, a, b, l, c⟩]) := by
  have kind : ∀ {b : Addr} {o : HO}, H b = some o → (∀ xs, o ≠ .lst xs) → b ≠ pr := fun h n => ne_of h W.hr (n _)
  obtain ⟨z, hz, _⟩ := W.sp b hb
  refine ⟨(upd_ne W.np).trans W.hn, (upd_ne (kind W.hs fun _ z => nomatch z)).trans W.hs, upd_same, W.np, W.nd, W.iv, W.nn, W.n2, W.n5, by rw [List.length_append, List.length_singleton]; omega, ?_, fun d hd => ?_, W.sp⟩
  · refine paired_snoc ⟨q, rfl, (upd_ne (kind hq fun _ z => nomatch z)).trans hq, ?va⟩ (paired_mono (fun x d r => ?vb) W.rd)
    case va =>
      show valV kvs (Sum.inr b : Key) = some (.int (spn kvs b))
      rw [valV_spn hz]; exact hz
    case vb =>
      obtain ⟨p, e, g, v⟩ := r
      exact ⟨p, e, (upd_ne (kind g fun _ z => nomatch z)).trans g, v⟩
  · rcases List.mem_append.mp hd with h | h
    · exact W.ok d h
    · rw [List.mem_singleton.mp h]; exact ⟨ha, hb, hlc⟩
theorem place_at2 {ns : List Str} {i : Int} (h0 : 0 ≤ i) (h1 : i < (((ns.map V.str).length : Nat) : Int)) : ∃ x, atI (ns.map V.str) i = some (.str x) ∧ x ∈ ns := by
  obtain ⟨t, rfl⟩ := Int.eq_ofNat_of_zero_le h0
  rw [List.length_map] at h1
  have ht : t < ns.length := by omega
  exact ⟨ns[t], atI_nat (by rw [List.getElem?_map, List.getElem?_eq_getElem ht]; rfl), List.getElem_mem ht⟩
def spWorld2 (K : PySem.W.Frag) : Sp := fun vs H Q _ => ∃ (a : Addr) (is : List Int) (j : Int), vs = [.ref a, .int j, .int 9] ∧ SqL K H a (is.map V.int) ∧ is.length ≤ 63 ∧ 0 ≤ j ∧ j ≤ 500 ∧
  ∀ (p pn ps pr : Addr) (base : Int) (ns : List Str) (kvs : List (Key × V)) (xs : List V) (rds : List Rd) (H' : Hp), Same H H' → H p = none → H pn = none → H ps = none → H pr = none → H' p = some (.tup [.ref pn, .ref ps, .ref pr, .int base]) → Wd H' pn ps pr base ns kvs xs rds → Q (.ref p) H'
def spTrip (K : PySem.W.Frag) : Sp := fun vs H Q _ => ∃ (a : Addr) (is : List Int) (j : Int), vs = [.ref a, .int j, .int 9] ∧ SqL K H a (is.map V.int) ∧ is.length ≤ 63 ∧ 0 ≤ j ∧ j ≤ 400 ∧
  ∀ (p pn ps pr : Addr) (base : Int) (ns : List Str) (kvs : List (Key × V)) (xs : List V) (rds : List Rd) (st go : Str) (si : Int) (H' : Hp), Same H H' → H p = none → H pn = none → H ps = none → H pr = none → H' p = some (.tup [.ref pn, .ref ps, .ref pr, .str st, .str go, .int si]) → Wd H' pn ps pr base ns kvs xs rds → st ∈ ns → go ∈ ns → Q (.ref p) H'
end X2

set_option maxHeartbeats 4000000
namespace X2
open PySem PySem.Spec PyProof.Rows L2
theorem Rep.saT {H H' : Hp} (s : SaT H H') {v : V} {d : Dt} (r : Rep H v d) : Rep H' v d := by
  induction r with
  | non => exact .non
  | bl b => exact .bl b
  | int i => exact .int i
  | str x => exact .str x
  | tup e l r ih => exact .tup (s.keep _ _ e rfl) l ih
  | lst e l r ih => exact .lst (s.keep _ _ e rfl) l ih
def pairD (o : Str × Int) : Dt := .tup [.str o.1, .int o.2]
/-- a list of pairs as the heap bears it -/
structure PrsAt (H : Hp) (r : Addr) (out : List (Str × Int)) (qs : List Addr) : Prop where
  hr : H r = some (.lst (qs.map V.ref))
  len : qs.length = out.length
  at' : ∀ (i : Nat) q (o : Str × Int), qs[i]? = some q → out[i]? = some o → H q = some (.tup [.str o.1, .int o.2])
theorem PrsAt.mono {H H' : Hp} (s : Same H H') {r : Addr} {out : List (Str × Int)} {qs : List Addr} (p : PrsAt H r out qs) : PrsAt H' r out qs := ⟨s _ _ p.hr, p.len, fun i q o h1 h2 => s _ _ (p.at' i q o h1 h2)⟩
theorem PrsAt.saT {H H' : Hp} (s : SaT H H') {r : Addr} {out : List (Str × Int)} {qs : List Addr} (p : PrsAt H r out qs) : PrsAt H' r out qs := ⟨s.keep _ _ p.hr rfl, p.len, fun i q o h1 h2 => s.keep _ _ (p.at' i q o h1 h2) rfl⟩
theorem rep_pr {H : Hp} {p : Addr} {o : Str × Int} (h : H p = some (.tup [.str o.1, .int o.2])) : Rep H (.ref p) (pairD o) := by
  refine .tup h rfl fun i x d hx hd => ?_
  match i, hx, hd with
  | 0, hx, hd => cases hx; cases hd; exact .str _
  | 1, hx, hd => cases hx; cases hd; exact .int _
  | i + 2, hx, hd => cases hx
theorem PrsAt.rep {H : Hp} {r : Addr} {out : List (Str × Int)} {qs : List Addr} (p : PrsAt H r out qs) : Rep H (.ref r) (.lst (out.map pairD)) := by
  refine .lst p.hr (by rw [List.length_map, List.length_map]; exact p.len) fun i x d hx hd => ?_
  rw [List.getElem?_map] at hx hd
  cases e1 : qs[i]? with
  | none => rw [e1] at hx; cases hx
  | some q =>
    cases e2 : out[i]? with
    | none => rw [e2] at hd; cases hd
    | some o =>
      rw [e1] at hx; rw [e2] at hd
      cases hx; cases hd
      exact rep_pr (p.at' i q o e1 e2)
theorem dp_prs {m : Nat} {out : List (Str × Int)} (h : out.length ≤ 1000) : Dp (m + 3) (.lst (out.map pairD)) := by
  refine .lst (by rw [List.length_map]; omega) fun d hd => ?_
  obtain ⟨o, _, rfl⟩ := List.mem_map.mp hd
  refine .tup (by simp) fun d m => ?_
  simp only [List.mem_cons, List.not_mem_nil, or_false] at m
  rcases m with rfl | rfl
  · exact .str _ _
  · exact .int _ _
theorem PrsAt.snoc {H : Hp} {r q : Addr} {out : List (Str × Int)} {qs : List Addr} {o : Str × Int} (p : PrsAt H r out qs) (h : H q = some (.tup [.str o.1, .int o.2])) : PrsAt (upd H r (.lst (qs.map V.ref ++ [.ref q]))) r (out ++ [o]) (qs ++ [q]) := by
  have kind : ∀ {b : Addr} {ws : List V}, H b = some (.tup ws) → b ≠ r := fun h => ne_of h p.hr fun z => nomatch z
  refine ⟨by rw [upd_same, List.map_append]; rfl, by rw [List.length_append, List.length_append, p.len]; rfl, fun i q' o' h1 h2 => ?_⟩
  by_cases hi : i < qs.length
  · rw [List.getElem?_append_left hi] at h1
    rw [List.getElem?_append_left (by rw [← p.len]; exact hi)] at h2
    have g := p.at' i q' o' h1 h2
    exact (upd_ne (kind g)).trans g
  · have e : i = qs.length := by
      have := (List.getElem?_eq_some_iff.mp h1).1
      rw [List.length_append, List.length_singleton] at this
      omega
    subst e
    rw [List.getElem?_append_right (Nat.le_refl _), Nat.sub_self] at h1
    rw [p.len, List.getElem?_append_right (Nat.le_refl _), Nat.sub_self] at h2
    cases h1; cases h2
    exact (upd_ne (kind h)).trans h
theorem LastAt.uniq {H : Hp} {kvs : List (Key × V)} {rp : Addr} {N M : Nat} {x : V} {d e : Rd} (a : LastAt H kvs rp N x d) (b : LastAt H kvs rp M x e) : d = e := by
  obtain ⟨q, ws, y, e1, n, hq, ⟨p, ey, g, v⟩, hl⟩ := a
  obtain ⟨q', ws', y', e1', n', hq', ⟨p', ey', g', v'⟩, hl'⟩ := b
  subst e1
  cases e1'
  rw [hq] at hq'
  have q1 : ws ++ [y] = ws' ++ [y'] := by injection hq' with z; injection z
  have q2 : y = y' := by
    have := congrArg List.getLast? q1
    simpa using this
  rw [ey, ey'] at q2
  cases q2
  have g2 := (show H p = _ from g)
  rw [show H p = _ from g'] at g2
  cases d
  cases e
  cases g2
  rfl
theorem names_lt {ns out : List Str} (hn : ns.Nodup) (p : out.Perm ns) (h : out.Pairwise (fun a b => ¬ ltS b a)) : out.Pairwise (fun a b => a.cps.toList < b.cps.toList) := by
  have nd : out.Nodup := p.nodup_iff.mpr hn
  refine List.Pairwise.imp₂ (R := fun a b => ¬ ltS b a) (S := fun a b => a ≠ b) (fun a b h1 h2 => ?_) h nd
  rcases List.le_iff_lt_or_eq.mp (List.not_lt.mp h1) with q | q
  · exact q
  · exact absurd (str_ext q) h2
theorem rw_plain {H : Hp} {kvs : List (Key × V)} {xs : List V} {ds : List Rd} (h : Rw H kvs xs ds) : ∀ x ∈ xs, plainV x = true := by
  intro x hx
  obtain ⟨i, hi⟩ := List.mem_iff_getElem?.mp hx
  obtain ⟨d, _, q, rfl, _⟩ := paired_at h hi
  rfl
def spLawT (K : PySem.W.Frag) (Pt : Addr) (lp : Pos) (lq : Str) : Sp := fun vs H Q _ => ∃ (a : Addr) (ns : List Int), vs = [.ref a] ∧ SqL K H a (ns.map V.int) ∧ ns.length ≤ 63 ∧ TabOk H Pt lp lq ∧ ∀ H', Q (.bl true) H'
/-- what is due of the places looked at so far -/
structure DueTo (P : Str → Int → Prop) (seen : List Str) (dl : List (Str × Int)) : Prop where
  pw : dl.Pairwise (fun a b => a.1.cps.toList < b.1.cps.toList)
  sub : ∀ o ∈ dl, o.1 ∈ seen
  iff : ∀ x m, x ∈ seen → ((x, m) ∈ dl ↔ P x m)
theorem DueTo.skip {P : Str → Int → Prop} {seen : List Str} {dl : List (Str × Int)} {x : Str} (D : DueTo P seen dl) (nx : x ∉ seen) (h : ∀ m, ¬ P x m) : DueTo P (seen ++ [x]) dl :=
  ⟨D.pw, fun o ho => List.mem_append_left _ (D.sub o ho), fun y m hy => by
    rcases List.mem_append.mp hy with q | q
    · exact D.iff y m q
    · rw [List.mem_singleton.mp q]
      exact ⟨fun z => absurd (D.sub _ z) nx, fun z => absurd z (h m)⟩⟩
theorem DueTo.add {P : Str → Int → Prop} {seen : List Str} {dl : List (Str × Int)} {x : Str} {m : Int} (D : DueTo P seen dl) (nx : x ∉ seen) (hlt : ∀ y ∈ seen, y.cps.toList < x.cps.toList) (h : ∀ n, P x n ↔ n = m) : DueTo P (seen ++ [x]) (dl ++ [(x, m)]) := by
  refine ⟨List.pairwise_append.mpr ⟨D.pw, List.pairwise_singleton _ _, fun a ha b hb => ?_⟩, fun o ho => ?_, fun y n hy => ?_⟩
  · rw [List.mem_singleton.mp hb]
    exact hlt _ (D.sub a ha)
  · rcases List.mem_append.mp ho with q | q
    · exact List.mem_append_left _ (D.sub o q)
    · rw [List.mem_singleton.mp q]
      exact List.mem_append_right _ (List.mem_singleton.mpr rfl)
  · by_cases e : y = x
    · subst e
      rw [h n, List.mem_append]
      constructor
      · rintro (q | q)
        · exact absurd (D.sub _ q) nx
        · cases List.mem_singleton.mp q; rfl
      · intro q
        exact .inr (List.mem_singleton.mpr (by rw [q]))
    · have hs : y ∈ seen := by
        rcases List.mem_append.mp hy with q | q
        · exact q
        · exact absurd (List.mem_singleton.mp q) e
      rw [← D.iff y n hs, List.mem_append]
      constructor
      · rintro (q | q)
        · exact q
        · exact absurd (congrArg Prod.fst (List.mem_singleton.mp q)) e
      · exact .inl
theorem least_st {sp : Str → Int} {rds : List Rd} {st : Str} {si : Int} (n : Int) : Least sp rds st si st n ↔ n = si := ⟨fun h => h.uniq (.inl ⟨rfl, rfl⟩), fun h => .inl ⟨rfl, h⟩⟩
theorem least_no {sp : Str → Int} {rds : List Rd} {st : Str} {si : Int} {x : Str} (ne : x ≠ st) (cpl : ∀ e, ¬ (Reach sp rds st si e ∧ e.b = x)) (m : Int) : ¬ Least sp rds st si x m := by
  rintro (⟨a, _⟩ | ⟨_, ⟨e, r, eb, _⟩, _⟩)
  · exact ne a
  · exact cpl e ⟨r, eb⟩
theorem least_min {sp : Str → Int} {rds : List Rd} {st : Str} {si : Int} {x : Str} {cs : List Int} {M : Int} (ne : x ≠ st) (snd : ∀ v ∈ cs, ∃ e, Reach sp rds st si e ∧ e.b = x ∧ v = e.c + sp x) (cpl : ∀ e, Reach sp rds st si e → e.b = x → e.c + sp x ∈ cs) (hM : M ∈ cs) (hm : ∀ a ∈ cs, M ≤ a) (n : Int) : Least sp rds st si x n ↔ n = M := by
  have l : Least sp rds st si x M := .inr ⟨ne, snd M hM, fun e r eb => hm _ (cpl e r eb)⟩
  exact ⟨fun h => h.uniq l, fun h => by rw [h]; exact l⟩
def tTruK (K : PySem.W.Frag) (ta : TE) : TT := fun σ H Q => ta σ H fun x H' => ∃ k, TruV K x H' k ∧ Q k H'
theorem pt_truthN {X : Cx} {a : Expr} {ta : TE} (K : PySem.W.Frag) (h : X.K = K) (ha : PE X a ta) (he : ∀ whole, isTrue a X.env whole = (do let v ← whole; standAt a.pos; holding [v] (truthy v))) : PT X a (tTruK K ta) := pt_truthK K h ha he
def hdChk (vs : Array Value) (c P : Addr) : Bool := (match (vs[11]? : Option Value) with | some (.ref P') => P' == P | _ => false) &&
      (match vs.getD 18 .none with | .str _ _ => true | _ => false) && (match vs.getD 7 .none with | .int _ _ => true | _ => false) &&
      (match vs.getD 9 .none with | .bool _ => true | _ => false) && (match vs.getD 10 .none with | .int _ _ => true | _ => false) && c != P
theorem codeHd_mk {K : PySem.W.Frag} {c P : Addr} {dct : Option Addr} {vs : Array Value} {sl : Array (Option Value)} (h : K.lookup c = some ⟨.type "code", dct, .fields vs, sl⟩) (e : hdChk vs c P = true) : PySem.W.codeHdIn K c P = true := by
  unfold PySem.W.codeHdIn
  rw [h]
  exact e
end X2

set_option maxHeartbeats 4000000
namespace X2
open PySem PySem.Spec PyProof.Rows L2
theorem bt_set : bootBuiltins "set" = some (.type "set") := by decide +kernel
/-- str(text) -/
theorem call_strS {X : Cx} : CallR X (.type "str") (fun xs H Q => ∃ x, xs = [.str x] ∧ Q (.str x) H) := by
  intro pins s σ H xs us Q I r h
  obtain ⟨x, rfl, q⟩ := h
  obtain ⟨u, rfl, rx⟩ := vals1 r
  obtain ⟨t, rfl⟩ := rx
  exact PySem.P.str_of_str ⟨.str x, H, I, ⟨t, rfl⟩, q⟩
section
variable {prog : Program} {w : World} {A : Around} {R : Result → Shared → Prop} {I : Addr} {fp wr : List Addr} {G : Array GenState → Array GenState → Prop} {n : Nat} {P : Nat → Value → Prop} {St : Nat → Shared → Prop}
/-- texts unlike one another, put into a set one by one -/
theorem set_texts (W : WalksS prog w A.in1 I fp wr G n P St) (S : Addr) (hSf : S ∉ fp) (ts : List Str) (hn : ts.length = n) (nd : ts.Nodup) (hval : ∀ i v, P i v → ∃ x t, ts[i]? = some x ∧ v = .str x t) (hb : n + 1 < scanBound) :
    ∀ (k i : Nat) (s : Shared), n - i = k → i ≤ n → St i s → s.heap.SetOf (strKind prog w) S (fun k' => (ts.take i).any (· == k')) i →
      (∀ s', Moved (S :: wr) G s s' → s'.heap.SetOf (strKind prog w) S (fun k' => (ts.take n).any (· == k')) n → R (.ok (.ret .none)) s') →
      codeAny (model prog w) A (.builtin "set.update.loop" ⟨[.ref S, .ref I], []⟩) R s := by
  have hSw : S ∉ wr := fun h => hSf (W.sub _ h)
  have up : ∀ b ∈ wr, b ∈ S :: wr := fun b hb => List.mem_cons_of_mem _ hb
  intro k
  induction k with
  | zero =>
    intro i s hk hi hst hS hR
    have e : i = n := by omega
    subst e
    refine codeAny_builtin F.entry_set_update_loop ?_
    rw [Around.under_plainId F.plain_set_update_loop _]
    show wpAny _ A.in1 (pyNext (.ref I) >>= _) _ _ s
    refine wpAny_bind (W.done s _ _ hst fun s' hm => ?_)
    show wpAny _ A.in1 (ret Value.none) _ _ s'
    refine wpAny_pure (hR s' (hm.mono up) ?_)
    obtain ⟨o, es, ep, t, ho, rest⟩ := hS
    exact ⟨o, es, ep, t, hm.heap S _ hSw ho, rest⟩
  | succ k ih =>
    intro i s hk hi hst hS hR
    have lt : i < n := by omega
    refine codeAny_builtin F.entry_set_update_loop ?_
    rw [Around.under_plainId F.plain_set_update_loop _]
    show wpAny _ A.in1 (pyNext (.ref I) >>= _) _ _ s
    refine wpAny_bind (W.item i s _ _ lt hst fun v s' hP hst' hm => ?_)
    obtain ⟨x, t, hx, rfl⟩ := hval i v hP
    have hS' : s'.heap.SetOf (strKind prog w) S (fun k' => (ts.take i).any (· == k')) i := by
      obtain ⟨o, es, ep, tb, ho, rest⟩ := hS
      exact ⟨o, es, ep, tb, hm.heap S _ hSw ho, rest⟩
    have new : (ts.take i).any (· == x) = false := by
      rw [Bool.eq_false_iff]
      intro z
      obtain ⟨y, hy, e⟩ := List.any_eq_true.mp z
      have e' : y = x := by simpa using e
      subst e'
      obtain ⟨j, hj⟩ := List.mem_iff_getElem?.mp hy
      rw [List.getElem?_take] at hj
      split at hj
      · rename_i hji
        have := (List.getElem?_inj (by omega) nd).mp (hj.trans hx.symm)
        omega
      · cases hj
    show wpAny _ A.in1 (holding [Value.str x t] (setAdd S (.str x t)) >>= _) _ _ s'
    refine wpAny_bind (wpAny_holding ?_)
    unfold setAdd
    refine wpAny_holding ?_
    refine wpAny_bind ((strKind prog w).pyHash (k := x) (strKind_is _ _ _ _) ?_)
    refine wpAny_setAddHashed_of (knd := strKind prog w) (s := { s' with toks := s'.toks + 1 }) (strKind_is _ _ _ _) rfl hS' (by omega) fun h' hsb hS2 => ?_
    have hSi : h'.SetOf (strKind prog w) S (fun k' => (ts.take (i + 1)).any (· == k')) (i + 1) :=
      SetOf_congr hS2 (fun k' => by
        rw [take_snoc hx, List.any_append]
        by_cases e : k' = x
        · subst e; simp
        · have e1 : ¬ x = k' := fun z => e z.symm
          simp [e, e1]) (by simp only [new]; simp)
    refine wpAny_pure ⟨plainId_quiet F.plain_set_update_loop _, ih (i + 1) _ (by omega) lt (W.frame _ s' _ _ hst' (Nat.le_succ _) fun b hb o e => ?_) hSi fun s'' hm'' hS'' => ?_⟩
    · rw [hsb.2 b (fun h : b = S => hSf (by rw [← h]; exact hb))]; exact e
    · refine hR s'' (Moved.trans W.gtrans ((hm.mono up).then_heap (Nat.le_succ _) fun b o hb e => ?_) hm'') hS''
      rw [hsb.2 b (fun h : b = S => hb (by rw [h]; exact List.mem_cons_self))]; exact e
end
section
variable {prog : Program} {w : World} {A : Around} {E : Value → Shared → Prop} {s : Shared}
set_option maxHeartbeats 8000000 in
theorem set_of_texts {l : Addr} {items : Array Value} {ts : List Str} {Q : Value → Shared → Prop} (hh : A.handled = none) (hl : s.heap.IsList l items) (hi : ∀ (i : Nat) v, items[i]? = some v → ∃ x t, ts[i]? = some x ∧ v = .str x t) (hn : ts.length = items.size) (nd : ts.Nodup) (hb : items.size + 1 < scanBound)
    (h : ∀ (h' : Heap) (tk : Nat), h'.SetOf (strKind prog w) s.heap.objs.size (fun k' => (ts.take items.size).any (· == k')) items.size → (∀ b o, b < s.heap.objs.size → s.heap.get? b = some o → h'.get? b = some o) → Q (.ref s.heap.objs.size) { s with heap := h', toks := tk }) :
    wpAny (model prog w) A (call (.type "set") [.ref l]) Q E s := by
  obtain ⟨c, tl, hmro⟩ := PySem.F.called_set.mro
  have hmade := PySem.F.called_set.made
  have hsub := PySem.F.called_set.sub
  refine wpAny_call (codeAny_of_tree ?_)
  show wpAny _ _ (callAny (.type "set") _) _ _ _
  refine wpAny_pure ⟨Code.quiet_builtin _ (by decide +kernel), codeAny_builtin PySem.F.entry_type_call ?_⟩
  rw [Around.under_plain (weight_type_call_type "set" [.ref l] []) rfl]
  have h1 := PySem.F.called_set.notType
  have h2 := PySem.F.called_set.canCreate
  have hct := PySem.F.typeCall_set_1 (.ref l)
  repeat (any_goals (first | assumption | wp_step))
  let fresh (led : Bool) : Obj := { cls := .type "set", dict := none, data := .set #[] 0 (.fresh 0 0 led) }
  refine codeAny_mono (code_set_new_1 (.ref l) (E := E) (Q₁ := fun obj s₁ => ∃ led : Bool, obj = .ref s.heap.objs.size ∧ s₁ = { s with heap := s.heap.push { cls := .type "set", dict := none, data := .set #[] 0 (.fresh 0 0 led) } }) fun led => ⟨led, rfl, rfl⟩) fun r s₁ hr => ?_
  cases r with
  | error e => exact hr
  | ok fl =>
    cases fl with
    | ret obj =>
      obtain ⟨led, rfl, rfl⟩ := hr
      have hS : (s.heap.push { cls := .type "set", dict := none, data := .set #[] 0 (.fresh 0 0 led) }).get? s.heap.objs.size = some { cls := .type "set", dict := none, data := .set #[] 0 (.fresh 0 0 led) } := Heap.get?_push_size _ rfl
      have hT : Shared.TypeIs { s with heap := s.heap.push { cls := .type "set", dict := none, data := .set #[] 0 (.fresh 0 0 led) } } (.ref s.heap.objs.size) "set" := ⟨_, hS, rfl⟩
      have hli := PySem.F.called_set.init.lookup
      have hbi := PySem.F.called_set.init.bind (.ref s.heap.objs.size)
      repeat (any_goals (first | assumption | wp_step))
      refine codeAny_mono (codeAny_call_builtin (R := wants (fun r s₂ => r = .none ∧ ∃ h' tk, s₂ = { s with heap := h', toks := tk } ∧
          h'.SetOf (strKind prog w) s.heap.objs.size (fun k' => (ts.take items.size).any (· == k')) items.size ∧ (∀ b o, b < s.heap.objs.size → s.heap.get? b = some o → h'.get? b = some o)) E) PySem.F.called_set.init.plain PySem.F.entry_set_init (check_set_init_1 hT ?_)) fun r₂ s₂ hr₂ => ?_
      · obtain ⟨⟨ocls, odict, odata, oslots⟩, hol, hcl, nl, hdl⟩ := hl
        simp only at hcl hdl
        subst hcl; subst hdl
        have hol' : (s.heap.push { cls := .type "set", dict := none, data := .set #[] 0 (.fresh 0 0 led) }).get? l = some { cls := .type "list", dict := odict, data := .seq items nl, slots := oslots } := Heap.get?_push_of_some _ hol
        have hsls := PySem.F.sub_list_set
        have hslf := PySem.F.sub_list_frozenset
        have hne : (Value.type "list" == Value.type "dict") = false := by decide
        have hl1 : (s.heap.push { cls := .type "set", dict := none, data := .set #[] 0 (.fresh 0 0 led) }).IsList l items := ⟨_, hol', rfl, nl, rfl⟩
        unfold Builtin.«set.__init__» noKeywords Builtin.Frozenset.updateFrom
        generalize hPI : pyIter = PI
        wp_walk
        subst hPI
        refine wpAny_pyIter_list hl1 (wpAny_bind (wpAny_runValue ?_))
        have hlS : l < s.heap.objs.size := Heap.lt_size hol
        have z3 : A.in1.in1.in1.handled = none := by simp [hh]
        have neI : l ≠ (s.heap.push { cls := .type "set", dict := none, data := .set #[] 0 (.fresh 0 0 led) }).objs.size := by
          rw [Heap.size_push]; exact Nat.ne_of_lt (Nat.lt_succ_of_lt hlS)
        have nSf : s.heap.objs.size ∉ [(s.heap.push { cls := .type "set", dict := none, data := .set #[] 0 (.fresh 0 0 led) }).objs.size, l] := by
          rw [Heap.size_push]; simp only [List.mem_cons, List.mem_singleton, List.not_mem_nil, or_false, not_or]
          exact ⟨Nat.ne_of_lt (Nat.lt_succ_self _), Nat.ne_of_gt hlS⟩
        refine set_texts ((Walks.list z3 _ l neI items).toS) s.heap.objs.size nSf ts hn nd hi hb (items.size - 0) 0 _ (by omega) (Nat.zero_le _) ⟨⟨_, Heap.get?_push_size _ rfl, rfl, rfl⟩, (hl1.push _)⟩ ?hS0 ?hR
        case hS0 =>
          have hget : ((s.heap.push { cls := .type "set", dict := none, data := .set #[] 0 (.fresh 0 0 led) }).push { cls := .type "list_iterator", data := .fields #[.ref l, .int 0 0] }).get? s.heap.objs.size = some { cls := .type "set", dict := none, data := .set #[] 0 (.fresh 0 0 led) } := Heap.get?_push_of_some _ hS
          exact SetOf_congr ((setObjOf_fresh (knd := strKind prog w) led).setOf hget (by unfold scanBound; omega)) (fun _ => rfl) rfl
        case hR =>
          intro s' hm hS'
          obtain ⟨h', g', d', tk', os'⟩ := s'
          have eg : g' = s.gens := hm.gens
          have ed : d' = s.drawn := hm.drawn
          have eo : os' = s.os := hm.os
          subst eg; subst ed; subst eo
          show wpAny _ _ _ _ _ _
          refine wpAny_pure ?_
          show wpAny _ _ (ret Value.none) _ _ _
          refine wpAny_pure ⟨rfl, h', tk', rfl, hS', fun b o hb e => ?_⟩
          have hb2 : b ≠ (s.heap.push { cls := .type "set", dict := none, data := .set #[] 0 (.fresh 0 0 led) }).objs.size := by
            rw [Heap.size_push]; exact Nat.ne_of_lt (Nat.lt_succ_of_lt hb)
          exact hm.heap b o (by simp only [List.mem_cons, List.mem_singleton, List.not_mem_nil, or_false, not_or]; exact ⟨Nat.ne_of_lt hb, hb2⟩) (Heap.get?_push_of_some _ (Heap.get?_push_of_some _ e))
      · cases r₂ with
        | error e => exact hr₂
        | ok fl₂ =>
          cases fl₂ with
          | ret r =>
            obtain ⟨rfl, h', tk, rfl, hS', hk'⟩ := hr₂
            repeat (any_goals (first | assumption | wp_step))
            exact h _ _ hS' hk'
          | _ => exact hr₂.elim
    | _ => exact hr.elim
end
def SetAt (p : Addr) (n : Nat) : HO := .ext (fun h => ∃ o es ep t, h.get? p = some o ∧ o.ExactSet ∧ o.data = .set es ep t ∧ t.fits es.size = true ∧ es.size = n)
theorem call_setS {X : Cx} (hcm : X.calm = true) : CallR X (.type "set") (fun xs H Q => ∃ (p : Addr) (ns : List Str), xs = [.ref p] ∧ SqL X.K H p (ns.map V.str) ∧ ns.length < 64 ∧ ns.Nodup ∧ ∀ v, H v = none → Q (.ref v) (upd H v (SetAt v ns.length))) := by
  intro pins s σ H xs us Q I r h
  obtain ⟨p, ns, rfl, hp, h64, nd, q⟩ := h
  obtain ⟨u, rfl, ru⟩ := vals1 r
  cases (show u = Value.ref p from ru)
  obtain ⟨its, rv, pl, hz⟩ := I.list hp
  have lr : its.length = ns.length := by rw [← rv.length, List.length_map]
  have sa := strs_are rv
  refine set_of_texts (ts := ns) (I.ok.hd hcm) pl.isList (fun i v hv => ?_) (by rw [List.size_toArray, lr]) nd (by rw [List.size_toArray, lr]; unfold scanBound; omega) fun h' tk hS keep => ?_
  · rw [List.getElem?_toArray] at hv
    clear pl rv hz hp q lr nd h64
    induction sa generalizing i with
    | nil => simp at hv
    | cons x t hr ih =>
      cases i with
      | zero => simp at hv; exact ⟨x, t, rfl, hv.symm⟩
      | succ i => simp only [List.getElem?_cons_succ] at hv ⊢; exact ih i hv
  · refine ⟨.ref s.heap.objs.size, _, I.laid (t' := tk) (a := s.heap.objs.size) (o := SetAt s.heap.objs.size ns.length) (fun b o e => keep b o (Heap.lt_size e) e) (Nat.le_refl _) ?_, rfl, q _ (I.hok.fresh (Nat.le_refl _))⟩
    obtain ⟨o, es, ep, t, ho, hex, hd, _, _, _, hf, hn⟩ := hS
    refine ⟨⟨o, es, ep, t, ho, hex, hd, hf, by rw [hn, List.size_toArray, lr]⟩, ⟨o, ho⟩, fun h1 h2 ⟨o, es, ep, t, e1, e2⟩ k => ⟨o, es, ep, t, k _ e1, e2⟩⟩
theorem call_lenSet {X : Cx} : CallR X (.builtin "len") (fun xs H Q => ∃ (p : Addr) (n : Nat), xs = [.ref p] ∧ H p = some (SetAt p n) ∧ n < 64 ∧ Q (.int n) H) := by
  intro pins s σ H xs us Q I r h
  obtain ⟨p, n, rfl, hp, h64, q⟩ := h
  obtain ⟨u, rfl, ru⟩ := vals1 r
  cases (show u = Value.ref p from ru)
  obtain ⟨⟨o, es, ep, t, ho, hex, hd, hf, hn⟩, _, _⟩ := I.hok p _ hp
  refine call_len_set ho hex hd hf (by rw [hn]; omega) ?_
  exact ⟨.int n, H, I.tok _, ⟨s.toks + 1, by rw [hn]⟩, q⟩
end X2

set_option maxHeartbeats 4000000
namespace X2
open PySem PySem.Spec PyProof.Rows L2
/-- a list != [] -/
theorem op_neE {X : Cx} (hu : X.A.units < cLine) : OpR X (compareOp .NotEq) (fun x y H Q => ∃ a b xs, x = .ref a ∧ y = .ref b ∧ SqL X.K H a xs ∧ SqL X.K H b [] ∧ Q (.bl (!xs.isEmpty)) H) := by
  intro pins s σ H x y v u Q I rx ry h
  obtain ⟨a, b, xs, rfl, rfl, ha, hb, q⟩ := h
  cases xs with
  | nil => exact op_neL hu pins s σ H _ _ v u Q I rx ry ⟨a, b, [], rfl, rfl, ha, hb, (fun _ h => nomatch h), q⟩
  | cons x0 xs =>
    cases (show v = Value.ref a from rx)
    cases (show u = Value.ref b from ry)
    obtain ⟨us, ru, pu, _⟩ := I.list ha
    obtain ⟨vs, rv, pv, _⟩ := I.list hb
    have lu := ru.length
    have lv := rv.length
    have el : (us.toArray.size != vs.toArray.size) = true := by
      simp only [List.size_toArray]
      rw [← lu, ← lv]
      rfl
    exact SeqAt.RcNeAt.lists_lengths pu.isList pv.isList el hu X.prog X.w X.xe _ ⟨.bl true, H, I, rfl, q⟩
theorem inV_str {x : Str} : ∀ {ns : List Str}, inV (V.str x) (ns.map V.str) = decide (x ∈ ns)
  | [] => by simp [inV]
  | y :: ns => by
    have ih := inV_str (x := x) (ns := ns)
    unfold inV at ih ⊢
    rw [List.map_cons, List.any_cons, ih]
    show (y == x || decide (x ∈ ns)) = _
    by_cases e : y = x
    · subst e; simp
    · have e' : ¬ x = y := fun z => e z.symm
      simp [e, e']
theorem flat_strs : ∀ (ns : List Str), (ns.map V.str).all flatV = true
  | [] => rfl
  | y :: ns => by rw [List.map_cons, List.all_cons, flat_strs ns]; rfl
theorem TabOk.updL {H : Hp} {r : Addr} {xs ys : List V} (h : H r = some (.lst xs)) {P : Addr} {pos : Pos} {lq : Str} (t : TabOk H P pos lq) : TabOk (upd H r (.lst ys)) P pos lq := by
  obtain ⟨tp, e, ht, q⟩ := t
  refine ⟨tp, (upd_ne (ne_of e h fun z => nomatch z)).trans e, ht, ?_⟩
  rcases q with q | ⟨c', q, h'⟩
  · exact .inl q
  · exact .inr ⟨c', q, (upd_ne (ne_of h' h fun z => nomatch z)).trans h'⟩
theorem Wd.saT {H H' : Hp} {pn ps pr : Addr} {base : Int} {ns : List Str} {kvs : List (Key × V)} {xs : List V} {rds : List Rd} (W : Wd H pn ps pr base ns kvs xs rds) (s : SaT H H') : Wd H' pn ps pr base ns kvs xs rds :=
  ⟨s.keep _ _ W.hn rfl, s.keep _ _ W.hs rfl, s.keep _ _ W.hr rfl, W.np, W.nd, W.iv, W.nn, W.n2, W.n5, W.le, paired_mono (fun _ _ r => r.saT s) W.rd, W.ok, W.sp⟩
theorem min_ex : ∀ {l : List Int}, l ≠ [] → ∃ m ∈ l, ∀ a ∈ l, m ≤ a
  | [], h => absurd rfl h
  | [x], _ => ⟨x, by simp, by simp⟩
  | x :: y :: l, _ => by
    obtain ⟨m, hm, hl⟩ := min_ex (l := y :: l) (by simp)
    by_cases h : x ≤ m
    · refine ⟨x, by simp, fun a ha => ?_⟩
      rcases List.mem_cons.mp ha with q | q
      · rw [q]; exact Int.le_refl _
      · exact Int.le_trans h (hl a q)
    · refine ⟨m, List.mem_cons_of_mem _ hm, fun a ha => ?_⟩
      rcases List.mem_cons.mp ha with q | q
      · rw [q]; omega
      · exact hl a q
open Classical in
theorem least_ex {sp : Str → Int} {rds : List Rd} {st : Str} {si : Int} {x : Str} {d : Rd} (r : Reach sp rds st si d) (hb : d.b = x) : ∃ m, Least sp rds st si x m := by
  by_cases ne : x = st
  · exact ⟨si, .inl ⟨ne, rfl⟩⟩
  · let l := (rds.filter fun e => decide (Reach sp rds st si e ∧ e.b = x)).map fun e => e.c + sp x
    have ml : ∀ v, v ∈ l ↔ ∃ e, (Reach sp rds st si e ∧ e.b = x) ∧ v = e.c + sp x := fun v => by
      constructor
      · intro h
        obtain ⟨e, he, rfl⟩ := List.mem_map.mp h
        exact ⟨e, by simpa using (List.mem_filter.mp he).2, rfl⟩
      · rintro ⟨e, he, rfl⟩
        exact List.mem_map.mpr ⟨e, List.mem_filter.mpr ⟨he.1.mem, by simpa using he⟩, rfl⟩
    have nl : l ≠ [] := fun z => by
      have := (ml _).mpr ⟨d, ⟨r, hb⟩, rfl⟩
      rw [z] at this
      cases this
    obtain ⟨m, hm, le⟩ := min_ex nl
    obtain ⟨e, he, em⟩ := (ml m).mp hm
    exact ⟨m, .inr ⟨ne, ⟨e, he.1, he.2, em⟩, fun e r eb => le _ ((ml _).mpr ⟨e, ⟨r, eb⟩, rfl⟩)⟩⟩
theorem least_reach {sp : Str → Int} {rds : List Rd} {st : Str} {si : Int} {d : Rd} {m : Int} (h : Least sp rds st si d.a m) (hd : d ∈ rds) (hl : m ≤ d.l) : Reach sp rds st si d := by
  rcases h with ⟨a, b⟩ | ⟨_, ⟨e, r, eb, em⟩, _⟩
  · exact .fst hd a (by omega)
  · exact .nxt r hd (hg_iff.mpr ⟨eb, by rw [eb]; omega⟩)
theorem least_le {sp : Str → Int} {rds : List Rd} {st : Str} {si : Int} (G : Good sp rds) {d : Rd} (r : Reach sp rds st si d) {m : Int} (h : Least sp rds st si d.b m) : m ≤ d.c + sp d.b := by
  rcases h with ⟨a, b⟩ | ⟨_, _, c⟩
  · have := r.since G
    have := G.lc _ r.mem
    have := G.s0 _ r.mem
    omega
  · exact c d r rfl
theorem short5 {out : List (Str × Int)} {ns : List Str} (h : out.Pairwise (fun a b => a.1.cps.toList < b.1.cps.toList)) (hs : ∀ o ∈ out, o.1 ∈ ns) : out.length ≤ ns.length ∧ (out.map Prod.fst).Nodup := by
  have nd : (out.map Prod.fst).Nodup := by
    refine List.pairwise_map.mpr (h.imp fun {a b} q e => ?_)
    rw [e] at q
    exact List.lt_irrefl _ q
  have := nd.length_le_of_subset (l₂ := ns) fun x hx => by
    obtain ⟨o, ho, rfl⟩ := List.mem_map.mp hx
    exact hs o ho
  rw [List.length_map] at this
  exact ⟨this, nd⟩
/-- a paper: the least moments, in order -/
structure Paper (sp : Str → Int) (rds : List Rd) (st : Str) (si : Int) (ns : List Str) (out : List (Str × Int)) : Prop where
  pw : out.Pairwise (fun a b => a.1.cps.toList < b.1.cps.toList)
  iff : ∀ x m, (x, m) ∈ out ↔ Least sp rds st si x m
  hst : st ∈ ns
  hds : ∀ d ∈ rds, d.b ∈ ns
  n5 : ns.length ≤ 5
theorem Paper.in' {sp : Str → Int} {rds : List Rd} {st : Str} {si : Int} {ns : List Str} {out : List (Str × Int)} (p : Paper sp rds st si ns out) : ∀ o ∈ out, o.1 ∈ ns := by
  rintro ⟨x, m⟩ ho
  rcases (p.iff x m).mp ho with ⟨a, _⟩ | ⟨_, ⟨e, re, eb, _⟩, _⟩
  · show x ∈ ns; rw [a]; exact p.hst
  · show x ∈ ns; rw [← eb]; exact p.hds e re.mem
theorem Paper.len {sp : Str → Int} {rds : List Rd} {st : Str} {si : Int} {ns : List Str} {out : List (Str × Int)} (p : Paper sp rds st si ns out) : out.length ≤ 5 := Nat.le_trans (short5 p.pw p.in').1 p.n5
theorem Paper.nd {sp : Str → Int} {rds : List Rd} {st : Str} {si : Int} {ns : List Str} {out : List (Str × Int)} (p : Paper sp rds st si ns out) : (out.map Prod.fst).Nodup := (short5 p.pw p.in').2
theorem Paper.key {sp : Str → Int} {rds : List Rd} {st : Str} {si : Int} {ns : List Str} {out : List (Str × Int)} (p : Paper sp rds st si ns out) {x : Str} : x ∈ out.map Prod.fst ↔ ∃ m, Least sp rds st si x m := by
  constructor
  · intro h
    obtain ⟨⟨y, m⟩, ho, rfl⟩ := List.mem_map.mp h
    exact ⟨m, (p.iff _ _).mp ho⟩
  · rintro ⟨m, h⟩
    exact List.mem_map.mpr ⟨(x, m), (p.iff _ _).mpr h, rfl⟩
def spNoWay (K : PySem.W.Frag) (Pt : Addr) : Sp := fun vs H Q _ => ∃ (pr ps : Addr) (xs : List V) (kvs : List (Key × V)) (ds : List Rd) (ns : List Str) (st go : Str) (si : Int), vs = [.ref pr, .ref ps, .str st, .str go, .int si] ∧ H pr = some (.lst xs) ∧ H ps = some (.dK kvs) ∧ Rw H kvs xs ds ∧ xs.length < 64 ∧ Good (spn kvs) ds ∧ ns.length ≤ 5 ∧ st ∈ ns ∧ (∀ d ∈ ds, d.b ∈ ns) ∧ TabOk H Pt lpS lqS ∧
  ∀ (v : V) (H' : Hp), SaT H H' → TabOk H' Pt lpS lqS → (((∃ m, Least (spn kvs) ds st si go m) ∧ v = .non) ∨ (¬ (∃ m, Least (spn kvs) ds st si go m) ∧ ∃ (r : Addr) (out : List (Str × Int)) (qs : List Addr), v = .ref r ∧ H r = none ∧ PrsAt H' r out qs ∧ Paper (spn kvs) ds st si ns out)) → Q v H'
def spLBars : Sp := fun vs H Q _ => ∃ (pr ps pp : Addr) (xs : List V) (kvs : List (Key × V)) (ds : List Rd) (ns : List Str) (st go : Str) (si : Int) (out : List (Str × Int)) (qs : List Addr), vs = [.ref pr, .ref ps, .str st, .str go, .int si, .ref pp] ∧ H pr = some (.lst xs) ∧ H ps = some (.dK kvs) ∧ Rw H kvs xs ds ∧ Good (spn kvs) ds ∧ PrsAt H pp out qs ∧ Paper (spn kvs) ds st si ns out ∧ ¬ (∃ m, Least (spn kvs) ds st si go m) ∧
  ∀ H', Same H H' → Q (.bl true) H'
def spWays2 (K : PySem.W.Frag) : Sp := fun vs H Q _ => ∃ (pr ps : Addr) (xs : List V) (kvs : List (Key × V)) (rds : List Rd) (st go : Str) (si : Int), vs = [.ref pr, .ref ps, .str st, .str go, .int si] ∧ H pr = some (.lst xs) ∧ H ps = some (.dK kvs) ∧ Rw H kvs xs rds ∧ xs.length ≤ 9 ∧ Good (spn kvs) rds ∧
  ∀ (r : Addr) (rows : List V) (H' : Hp), Same H H' → H r = none → H' r = some (.lst rows) → rows.length ≤ 4000000 → (∀ x ∈ rows, (st = go ∧ ∃ q, x = .ref q ∧ q ≠ r ∧ H' q = some (.lst [])) ∨ ∃ d N, LastAt H' kvs r N x d ∧ Reach (spn kvs) rds st si d ∧ d.b = go) → (∀ d, Reach (spn kvs) rds st si d → d.b = go → ∃ x ∈ rows, ∃ N, LastAt H' kvs r N x d) → (st = go → rows ≠ []) → Q (.ref r) H'
theorem some_iff {sp : Str → Int} {rds : List Rd} {st go : Str} {si : Int} {rows : List V} {A B : V → Prop} (h1 : ∀ x ∈ rows, (st = go ∧ A x) ∨ ∃ d, Reach sp rds st si d ∧ d.b = go) (h2 : ∀ d, Reach sp rds st si d → d.b = go → ∃ x, x ∈ rows) (h3 : st = go → rows ≠ []) : (!rows.isEmpty) = true ↔ ∃ m, Least sp rds st si go m := by
  constructor
  · intro h
    cases rows with
    | nil => cases h
    | cons x r =>
      rcases h1 x (by simp) with ⟨e, _⟩ | ⟨d, r, eb⟩
      · exact ⟨si, .inl ⟨e.symm, rfl⟩⟩
      · exact least_ex r eb
  · rintro ⟨m, h⟩
    have ne : rows ≠ [] := by
      rcases h with ⟨a, _⟩ | ⟨_, ⟨e, re, eb, _⟩, _⟩
      · exact h3 a.symm
      · intro z
        obtain ⟨x, hx⟩ := h2 e re eb
        rw [z] at hx
        cases hx
    cases rows with
    | nil => exact absurd rfl ne
    | cons x r => rfl
theorem tallG {σ : L2.St} {H : Hp} {P N : Hp → Prop} (h : P H) : tAll σ H (fun b H5 => if b = true then P H5 else N H5) := by
  show if true = true then P H else N H
  rw [if_pos rfl]
  exact h
end X2

set_option maxHeartbeats 4000000
namespace X2
open PySem PySem.Spec PyProof.Rows L2
/-! a dict comprehension, as the list comprehension -/
section
variable {prog : Program} {w : World} {A : Around} {E : Value → Shared → Prop} {R : Result → Shared → Prop} {s : Shared}
theorem comp_loopD {kx vx tg iter : Expr} {ifs : List Expr} {scope : Scope} {pos : Pos} {it : Value} {D : Addr} {env : Env} (W : Nat → Shared → Prop)
    (turn : ∀ n s, W n s → wpAny (model prog w) A (pyNext it) (fun r s1 => match r with
      | none => R (.ok .next) s1
      | some v => wpAny (model prog w) A (letOwnedTupleGo tg it v) (fun _ s2 => wpAny (model prog w) A (assign tg env v) (fun _ s3 =>
          wpAny (model prog w) A (forIn ifs true fun c r => if r = true then do let ok ← isTrue c env (eval c env); pure (ForInStep.yield ok) else pure (ForInStep.yield r)) (fun ok s4 =>
            if ok = true then wpAny (model prog w) A (eval kx env) (fun kv s5 => wpAny (model prog w) A (eval vx env) (fun vv s6 =>
              wpAny (model prog w) A (dictSet D kv vv) (fun _ s7 => ∃ m, m < n ∧ W m s7) (fun _ _ => False) s6) (fun _ _ => False) s5) (fun _ _ => False) s4
            else ∃ m, m < n ∧ W m s4) (fun _ _ => False) s3) (fun _ _ => False) s2) (fun _ _ => False) s1) (fun _ _ => False) s)
    (n : Nat) (h : W n s) : codeAny (model prog w) A (.compLoop (.DictComp kx vx [⟨tg, iter, ifs, 0⟩] scope pos) 0 it (.ref D) env) R s := by
  have no : ∀ {α : Type} {t : Sem α} {Q : α → Shared → Prop} {E' : Value → Shared → Prop} {s : Shared}, wpAny (model prog w) A t Q (fun _ _ => False) s → wpAny (model prog w) A t Q E' s := fun q => wpAny_mono q (fun _ _ z => z) fun _ _ z => z.elim
  refine codeAny_loop rfl W (fun n s hW => ?_) n h
  show wpAny _ A ((compTurn (.DictComp kx vx [⟨tg, iter, ifs, 0⟩] scope pos) 0 it (.ref D) env).onRaise (fun x => do noteFrame x env; theTreesLotGoes x)) _ _ s
  refine wpAny_noted ?_
  rw [compTurn_dict]
  refine wpAny_bind (wpAny_standAt (wpAny_bind (no (wpAny_mono (turn n s hW) (fun r s1 h1 => ?_) fun _ _ z => z))))
  cases r with
  | none => exact wpAny_pure h1
  | some v =>
    refine wpAny_bind (no (wpAny_mono h1 (fun _ s2 h2 => ?_) fun _ _ z => z))
    refine wpAny_bind (no (wpAny_mono h2 (fun _ s3 h3 => ?_) fun _ _ z => z))
    refine wpAny_bind (no (wpAny_mono h3 (fun ok s4 h4 => ?_) fun _ _ z => z))
    cases ok with
    | true =>
      rw [if_pos rfl] at h4
      rw [if_pos rfl]
      exact wpAny_bind (wpAny_bind (no (wpAny_mono h4 (fun kv s5 h5 => wpAny_bind (wpAny_holding (no (wpAny_mono h5 (fun vv s6 h6 => wpAny_bind (wpAny_standAt (wpAny_holding (no (wpAny_mono h6 (fun _ s7 h7 => wpAny_pure ⟨rfl, h7⟩) fun _ _ z => z))))) fun _ _ z => z)))) fun _ _ z => z)))
    | false =>
      rw [if_neg (by decide)] at h4
      rw [if_neg (by decide)]
      exact wpAny_pure ⟨rfl, h4⟩
end
theorem dictSet_ok {X : Cx} {A : Around} {E : Value → Shared → Prop} {pins : List (Addr × Obj)} {σ : L2.St} {H : Hp} {s : Shared} {a : Addr} {kvs : List (Key × V)} {k : Key} {v : V} {u r : Value} {Q : Unit → Shared → Prop} (I : Inv X pins σ H s) (e : H a = some (.dK kvs)) (hl : kvs.length < sizeLine) (ry : RelV (kV k) u) (rv : RelV v r)
    (h : ∀ s', Inv X pins σ (upd H a (.dK (putK kvs k v))) s' → Q () s') : wpAny (model X.prog X.w) A (dictSet a u r) Q E s := by
  obtain ⟨z, hd, vs, rel, dd⟩ := dk_of I.hok e
  have hz : vs.length ≤ sizeLine := by rw [← rel.length]; exact z
  have hl' : (putK kvs k v).length ≤ sizeLine := by have := length_putK kvs k v; omega
  refine wpAny_dictSet_pairs (hsz := hz) (kV_is ry) dd fun h' dd' hs => h _ ?_
  have he : ∃ q, h'.get? a = some q := let ⟨q, _, _, hq, _⟩ := dd'; ⟨q, hq⟩
  exact d_write I (by rw [e]; exact True.intro) hs he (dk_new hl' hd (rel.put k rv) dd')
def tCompD (wi : TI) (g : TG) (tt : TT) (tk tv : TE) (T : List Str) (ix : List Nat) : TE := fun σ H Q => wi σ H fun J H1 => ∀ D, H1 D = none → ∃ W : Nat → Nat → L2.St → List (Key × V) → Hp → Prop, (∃ m, W 0 m (σC T ix σ) [] (upd H1 D (.dK []))) ∧
  ∀ i m σ' xs H2, W i m σ' xs H2 → H2 D = some (.dK xs) ∧ xs.length < sizeLine ∧ ((J.stop i H2 ∧ Q (.ref D) H2) ∨
    (J.go i H2 ∧ ∀ x H3, J.yld i H2 x H3 → g x σ' H3 fun σ2 H4 => tt σ2 H4 fun b H5 =>
      if b = true then tk σ2 H5 fun k H6 => tv σ2 H6 fun y H7 => ∃ kk : Key, k = kV kk ∧ H7 D = some (.dK xs) ∧ ∃ m', m' < m ∧ W (i + 1) m' σ2 (putK xs kk y) (upd H7 D (.dK (putK xs kk y))) else ∃ m', m' < m ∧ W (i + 1) m' σ2 xs H5))
theorem comp_anyD {X : Cx} {kx vx tg iter : Expr} {ifs : List Expr} {scope : Scope} {pos pos2 : Pos} {cl : List (Str × Addr)} {T caps : List Str} {ix : List Nat} {wi : TI} {g : TG} {tt : TT} {tk tv : TE}
    (O : CompOk X scope cl T caps ix) (hc : X.calm = true) (hi : PI X tg iter wi) (hg : ∀ C s H fp, PG (compCx X scope cl (T ++ caps) C s H fp) tg g) (ht : ∀ C s H fp, PTs (compCx X scope cl (T ++ caps) C s H fp) ifs tt)
    (hu : X.A.units + 1 < cLine) (hk : ∀ C s H fp, PE (compCx X scope cl (T ++ caps) C s H fp) kx tk) (hv : ∀ C s H fp, PE (compCx X scope cl (T ++ caps) C s H fp) vx tv) (hs : ∀ x, foldedSetIterable iter X.env x = pure x)
    {pins : List (Addr × Obj)} {s : Shared} {σ : L2.St} {H : Hp} {Q : VK} {use : Option (Value → Sem Unit)} {QQ : Value → Shared → Prop} (I : Inv X pins σ H s) (h : tCompD wi g tt tk tv T ix σ H Q)
    (fin : ∀ (D C : Addr) (H3 : Hp) (s4 : Shared) (m : Str → Option Value), Inv X pins σ H3 s4 → s4.heap.Ns C m → H3 C = none → C ≠ X.env.locals → X.s₀.heap.objs.size ≤ C → (∀ x c, X.env.cells.lookup x = some c → c ≠ C) → (∀ p ∈ X.pn ++ pins, p.1 ≠ C) → Q (.ref D) H3 → compPost (model X.prog X.w) X.A X.xe use QQ (.ref D) C (.ok .next) s4) :
    wpAny (model X.prog X.w) X.A (comprehension (.DictComp kx vx [⟨tg, iter, ifs, 0⟩] scope pos) scope X.env pos2 newDict false (eval iter X.env) use) QQ X.xe s := by
  refine wpAny_comprehension_free (use := use) rfl hs O.clos O.kind O.names (thn (hi pins s σ H _ I h) fun v s1 h1 => thn h1 fun itv s2 h2 => ?_)
  obtain ⟨it, fp, tn, J, H2, e, I2, T2, st2, f2, R2⟩ := h2
  subst e
  have hfp : ∀ b ∈ fp, FpOk X pins H2 b ∧ b < s2.heap.objs.size := fun b hb => ⟨f2 b hb, by obtain ⟨o, e, _⟩ := T2.obj _ _ st2 b hb; exact Heap.lt_size e⟩
  refine wpAny_newObj_type (wpAny_newFunctionEnv O.nocell (fun y hy => absurd hy (by simp)) (fun h₁ hns hsb => ?_) O.kind)
  dsimp only at hns hsb ⊢
  generalize hG : s2.heap.push { cls := .type "dict", dict := none, data := .dict #[] } = G at hns hsb ⊢
  have hCz : s2.heap.objs.size < G.objs.size := by rw [← hG, Heap.size_push]; exact Nat.lt_succ_self _
  have old : ∀ b o, s2.heap.get? b = some o → h₁.get? b = some o := fun b o e => by
    have lt := Heap.lt_size e
    exact hsb.extBut b o (Nat.ne_of_lt (Nat.lt_trans lt hCz)) (Heap.get?_push_of_some _ (hG ▸ Heap.get?_push_of_some _ e))
  have hD : h₁.get? s2.heap.objs.size = some { cls := .type "dict", dict := none, data := .dict #[] } := hsb.extBut _ _ (Nat.ne_of_lt hCz) (Heap.get?_push_of_some _ (hG ▸ Heap.get?_push_size _ rfl))
  have nD : H2 s2.heap.objs.size = none := I2.hok.fresh (Nat.le_refl _)
  have nC : H2 G.objs.size = none := I2.hok.fresh (Nat.le_of_lt hCz)
  obtain ⟨W, ⟨m0, w0⟩, turn⟩ := R2 s2.heap.objs.size nD
  have J1 : Inv X pins σ (upd H2 s2.heap.objs.size (.dK [])) { s2 with heap := h₁, toks := s2.toks + ([] : List (Str × Value)).length } :=
    I2.laid (t' := s2.toks + ([] : List (Str × Value)).length) old (Nat.le_refl _) (show ObjOk X.prog X.w _ h₁ _ (.dK []) from (dk_empty (H := upd H2 s2.heap.objs.size (.dK [])) s2.heap I2.big).stay (fun c v hc q => have q' : G.get? c = some v := hG ▸ q; hsb.extBut c v (Nat.ne_of_lt (Heap.lt_size q')) (Heap.get?_push_of_some _ q')) (fun c q => q) fun c xs q => q)
  have un : Un (frs X.stack) fp H2 (upd H2 s2.heap.objs.size (.dK [])) s2.heap h₁ := Un.laid old (Nat.le_refl _) nD
  have hCn : (upd H2 s2.heap.objs.size (.dK [])) G.objs.size = none := by rw [upd_ne (Nat.ne_of_lt hCz).symm]; exact nC
  have K1 := comp_enter (s := { s2 with heap := h₁, toks := s2.toks + ([] : List (Str × Value)).length }) O I2 J1 un rfl hns (Nat.le_of_lt hCz) hCn hfp
  have stat : ∀ {H' : Hp}, (∀ b ∈ fp, H' b = none) → ∀ b ∈ fp, FpOk (compCx X scope cl (T ++ caps) G.objs.size s2 H2 fp) [] H' b := fun hn b hb =>
    ⟨hn b hb, Nat.ne_of_lt (Nat.lt_trans (hfp b hb).2 hCz), K1.ok.exfs b hb, .inl hb, fun x c e => (K1.ok.exf b hb).2 x c e, fun p hp => absurd (show p ∈ ([] : List (Addr × Obj)) from hp) (by simp)⟩
  have start : ∃ (i : Nat) (σ' : L2.St) (xs : List (Key × V)) (H' : Hp), Inv (compCx X scope cl (T ++ caps) G.objs.size s2 H2 fp) [] σ' H' { s2 with heap := h₁, toks := s2.toks + ([] : List (Str × Value)).length } ∧ tn i h₁ ∧ (∀ b ∈ fp, H' b = none) ∧ W i m0 σ' xs H' :=
    ⟨0, _, [], _, K1, T2.keep _ _ _ st2 fun b _ o e => old b o e, fun b hb => by rw [upd_ne (Nat.ne_of_lt (hfp b hb).2)]; exact (f2 b hb).1, w0⟩
  have loop : codeAny (model X.prog X.w) X.A (.compLoop (.DictComp kx vx [⟨tg, iter, ifs, 0⟩] scope pos) 0 (.ref it) (.ref s2.heap.objs.size) (compEnvC scope cl G.objs.size X.env))
      (compPost (model X.prog X.w) X.A X.xe use QQ (.ref s2.heap.objs.size) G.objs.size) { s2 with heap := h₁, toks := s2.toks + ([] : List (Str × Value)).length } := by
    refine comp_loopD (fun n s' => ∃ (i : Nat) (σ' : L2.St) (xs : List (Key × V)) (H' : Hp), Inv (compCx X scope cl (T ++ caps) G.objs.size s2 H2 fp) [] σ' H' s' ∧ tn i s'.heap ∧ (∀ b ∈ fp, H' b = none) ∧ W i n σ' xs H') ?_ m0 start
    rintro n s3 ⟨i, σ3, xs, H3, I3, st3, fr3, w3⟩
    obtain ⟨hD3, hz3, tn3⟩ := turn i n σ3 xs H3 w3
    rcases tn3 with ⟨stop, qn⟩ | ⟨go, step⟩
    · refine thn (T2.done (compCx X scope cl (T ++ caps) G.objs.size s2 H2 fp) rfl rfl rfl hc i [] s3 σ3 H3 _ I3 (stat fr3) st3 stop) fun r s4 ⟨hr, I4⟩ => ?_
      subst hr
      obtain ⟨m, hm, _⟩ := I4.loc
      have B : Inv X pins σ H3 s4 := I2.call' I4.os I4.base I4.hok I4.bare fun b hb => ⟨(f2 b hb).2.2.2.1, (f2 b hb).2.1, (f2 b hb).2.2.2.2.1, (f2 b hb).2.2.2.2.2⟩
      refine fin s2.heap.objs.size G.objs.size H3 s4 m B hm I4.free ?_ (Nat.le_of_lt (Nat.lt_of_le_of_lt I2.sz hCz)) (fun x c e z => ?_) (fun p hp z => ?_) qn
      · exact (Nat.ne_of_lt (Nat.lt_trans I2.lt hCz)).symm
      · obtain ⟨v, q⟩ := I2.cell x c e
        exact absurd z (Nat.ne_of_lt (Nat.lt_trans q.lt hCz))
      · exact absurd z (Nat.ne_of_lt (Nat.lt_trans (Heap.lt_size (I2.pin p hp).1) hCz))
    · refine thn (T2.item (compCx X scope cl (T ++ caps) G.objs.size s2 H2 fp) rfl rfl rfl hc i [] s3 σ3 H3 _ I3 (stat fr3) st3 go) fun r s4 ⟨u, hr, h4⟩ => ?_
      subst hr
      refine thn h4 fun _ s5 ⟨x, H5, I5, r5, y5, st5, fr5⟩ => ?_
      have I5' := I5.pinned (stat fr5) (T2.obj _ _ st5)
      have back : ∀ {σ7 : L2.St} {H7 : Hp} {s7 : Shared}, Inv (compCx X scope cl (T ++ caps) G.objs.size s2 H2 fp) ([] ++ pinsAt fp s5.heap) σ7 H7 s7 → Inv (compCx X scope cl (T ++ caps) G.objs.size s2 H2 fp) [] σ7 H7 s7 ∧ tn (i + 1) s7.heap ∧ ∀ b ∈ fp, H7 b = none := fun {σ7 H7 s7} I7 => by
        refine ⟨I7.unpinned, T2.keep _ _ _ st5 fun b hb o e => (I7.pin (b, o) (List.mem_append_right _ (List.mem_append_right _ (mem_pinsAt hb e)))).1, fun b hb => ?_⟩
        obtain ⟨o, e, d⟩ := T2.obj _ _ st5 b hb
        exact (I7.pin (b, o) (List.mem_append_right _ (List.mem_append_right _ (mem_pinsAt hb e)))).2.1
      refine thn (hg G.objs.size s2 H2 fp _ s5 σ3 H5 x u _ I5' r5 (step x H5 y5)) fun _ s6 ⟨σ6, H6, I6, q6⟩ => ?_
      refine thn (ht G.objs.size s2 H2 fp _ s6 σ6 H6 _ I6 q6) fun ok s7 ⟨H7, I7, q7⟩ => ?_
      cases ok with
      | true =>
        rw [if_pos rfl] at q7
        rw [if_pos rfl]
        refine thn (hk G.objs.size s2 H2 fp _ s7 σ6 H7 _ I7 q7) fun kz s8 ⟨ky, H8, I8, rk, q8⟩ => ?_
        refine thn (hv G.objs.size s2 H2 fp _ s8 σ6 H8 _ I8 q8) fun z s9 ⟨y, H9, I9, ry, kk, ek, hD9, m', hm', w9⟩ => ?_
        subst ek
        refine dictSet_ok (X := compCx X scope cl (T ++ caps) G.objs.size s2 H2 fp) I9 hD9 hz3 rk ry fun s10 I10 => ?_
        obtain ⟨a1, a2, a3⟩ := back I10
        exact ⟨m', hm', i + 1, σ6, putK xs kk y, _, a1, a2, a3, w9⟩
      | false =>
        rw [if_neg (by decide)] at q7
        rw [if_neg (by decide)]
        obtain ⟨m', hm', w7⟩ := q7
        obtain ⟨a1, a2, a3⟩ := back I7
        exact ⟨m', hm', i + 1, σ6, xs, H7, a1, a2, a3, w7⟩
  exact codeAny_compStart_dict loop (T2.self _ 0 _ _ _ (T2.keep _ _ _ st2 fun b _ o e => old b o e) loop)

theorem ps_setCD {X : Cx} {kx vx tg iter : Expr} {ifs : List Expr} {scope : Scope} {pos spos py : Pos} {cl : List (Str × Addr)} {T caps : List Str} {ix : List Nat} {wi : TI} {g : TG} {tt : TT} {tk tv : TE} {i : Nat} {y : Str} (hN : X.N.Nodup) (hi' : X.N[i]? = some y) (hx : Loc X.env.scope y)
    (O : CompOk X scope cl T caps ix) (hc : X.calm = true) (hi : PI X tg iter wi) (hg : ∀ C s H fp, PG (compCx X scope cl (T ++ caps) C s H fp) tg g) (ht : ∀ C s H fp, PTs (compCx X scope cl (T ++ caps) C s H fp) ifs tt)
    (hu : X.A.units + 1 < cLine) (hk : ∀ C s H fp, PE (compCx X scope cl (T ++ caps) C s H fp) kx tk) (hv : ∀ C s H fp, PE (compCx X scope cl (T ++ caps) C s H fp) vx tv) (hs : ∀ x, foldedSetIterable iter X.env x = pure x := by intro _; rfl)
    (hsw : swapsWith (.DictComp kx vx [⟨tg, iter, ifs, 0⟩] scope pos) (some (.Name y py)) spos.line X.env = pure true := by rfl)
    (hf : X.fn y = true ∨ X.env.scope.names.lookup y = some .local := by first | exact .inl rfl | exact .inr rfl | assumption) :
    PS X (.Assign [.Name y py] (.DictComp kx vx [⟨tg, iter, ifs, 0⟩] scope pos) spos) (tAsg (tCompD wi g tt tk tv T ix) (gName i)) := by
  intro pins s σ H D I h
  rw [exec_Assign_Name_used _ _ _ _ hsw]
  refine wpAny_bind (wpAny_standAt (wpAny_bind ?_))
  show wpAny _ X.A (do let _ ← comprehension (.DictComp kx vx [⟨tg, iter, ifs, 0⟩] scope pos) scope X.env _ newDict false (eval iter X.env) (some (assign (.Name y py) X.env))) _ _ s
  refine wpAny_bind (wpAny_mono (comp_anyD (QQ := fun _ s' => SP X pins D .next s') O hc hi hg ht hu hk hv hs I h ?_) (fun _ s' hq => wpAny_pure (wpAny_pure hq)) fun _ _ e => e)
  intro A C H3 s4 m B hm nC cL cs cc cp q
  show wpAny _ _ (assign (.Name y py) X.env (.ref A)) _ _ _
  refine wpAny_assign_Name (store_ok2 B hN hi' hx (v := .ref A) rfl (fun s5 I5 hsb => ?_) hf)
  obtain ⟨a, sb, ha⟩ := hsb
  have ne : C ≠ a := by
    rcases ha with z | z
    · rw [z]; exact cL
    · exact (cc _ _ z).symm
  refine ⟨m, hm.sameBut sb ne, fun h' hs' => ?_⟩
  exact ⟨_, H3, I5.turned (t' := s5.toks) (it := C) (fun b o hb e => hs'.extBut b o hb e) nC cL (.inr cs) cc cp, q⟩
end X2

set_option maxHeartbeats 4000000
namespace X2
open PySem PySem.Spec PyProof.Rows L2
/-! a dict comprehension over a list without a test, by its invariant -/
def CWD (Pv : Nat → Addr → L2.St → List (Key × V) → Hp → Prop) (n i : Nat) (D : Addr) (σ : L2.St) (ys : List (Key × V)) (H : Hp) : Prop := ∃ m', m' < n - i ∧ (m' = n - (i + 1) ∧ i + 1 ≤ n ∧ Pv (i + 1) D σ ys H)
theorem CWD.of {Pv : Nat → Addr → L2.St → List (Key × V) → Hp → Prop} {n i : Nat} {D : Addr} {σ : L2.St} {ys : List (Key × V)} {H : Hp} (h : i < n) (p : Pv (i + 1) D σ ys H) : CWD Pv n i D σ ys H := ⟨n - (i + 1), by omega, rfl, h, p⟩
theorem comp_dict {K : PySem.W.Frag} {l : Addr} {xs : List V} {g : TG} {tk tv : TE} {σ0 : L2.St} {H1 : Hp} {QD : Addr → Hp → Prop} (Pv : Nat → Addr → L2.St → List (Key × V) → Hp → Prop)
    (h0 : ∀ D, H1 D = none → Pv 0 D σ0 [] (upd H1 D (.dK [])))
    (hl : ∀ i D σ ys H2, i ≤ xs.length → H1 D = none → Pv i D σ ys H2 → SqL K H2 l xs ∧ H2 D = some (.dK ys) ∧ ys.length < sizeLine)
    (hs : ∀ i x D σ ys H2, xs[i]? = some x → i < xs.length → H1 D = none → Pv i D σ ys H2 → g x σ H2 fun σ2 H4 => tAll σ2 H4 fun b H5 => if b = true then tk σ2 H5 fun k H6 => tv σ2 H6 fun y H7 => ∃ kk : Key, k = kV kk ∧ H7 D = some (.dK ys) ∧ CWD Pv xs.length i D σ2 (putK ys kk y) (upd H7 D (.dK (putK ys kk y))) else CWD Pv xs.length i D σ2 ys H5)
    (hd : ∀ D ys σ H2, H1 D = none → Pv xs.length D σ ys H2 → QD D H2) :
    ∀ D, H1 D = none → ∃ W : Nat → Nat → L2.St → List (Key × V) → Hp → Prop, (∃ m, W 0 m σ0 [] (upd H1 D (.dK []))) ∧
      ∀ i m σ' ys H2, W i m σ' ys H2 → H2 D = some (.dK ys) ∧ ys.length < sizeLine ∧ (((Itl K l).stop i H2 ∧ QD D H2) ∨
        ((Itl K l).go i H2 ∧ ∀ x H3, (Itl K l).yld i H2 x H3 → g x σ' H3 fun σ2 H4 => tAll σ2 H4 fun b H5 =>
          if b = true then tk σ2 H5 fun k H6 => tv σ2 H6 fun y H7 => ∃ kk : Key, k = kV kk ∧ H7 D = some (.dK ys) ∧ ∃ m', m' < m ∧ W (i + 1) m' σ2 (putK ys kk y) (upd H7 D (.dK (putK ys kk y))) else ∃ m', m' < m ∧ W (i + 1) m' σ2 ys H5)) := by
  intro D nD
  refine ⟨fun i m σ ys H => m = xs.length - i ∧ i ≤ xs.length ∧ Pv i D σ ys H, ⟨xs.length, by simp, Nat.zero_le _, h0 D nD⟩, ?_⟩
  rintro i m σ ys H2 ⟨rfl, hi, p⟩
  obtain ⟨q, hD, hz⟩ := hl i D σ ys H2 hi nD p
  refine ⟨hD, hz, ?_⟩
  by_cases hlt : i < xs.length
  · refine .inr ⟨⟨xs, xs[i], q, by simp [hlt]⟩, fun x H3 hy => ?_⟩
    obtain ⟨rfl, hy⟩ := hy
    exact hs i x D σ ys _ (hy xs q) hlt nD p
  · have e : i = xs.length := by omega
    subst e
    exact .inl ⟨⟨xs, q, Nat.le_refl _⟩, hd D ys σ H2 nD p⟩
/-! papers that hold -/
structure Bars (sp : Str → Int) (ds : List Rd) (st go : Str) (si : Int) (out : List (Str × Int)) : Prop where
  nd : (out.map Prod.fst).Nodup
  ng : go ∉ out.map Prod.fst
  st0 : rdy out st si = true
  cl : ∀ d ∈ ds, rdy out d.a d.l = true → rdy out d.b (d.c + sp d.b) = true
theorem rdy_up {ps : List (Str × Int)} {x : Str} {m n : Int} (h : rdy ps x m = true) (le : m ≤ n) : rdy ps x n = true := by
  obtain ⟨z, e, l⟩ := rdy_iff.mp h
  exact rdy_iff.mpr ⟨z, e, by omega⟩
theorem Bars.all {sp : Str → Int} {ds : List Rd} {st go : Str} {si : Int} {out : List (Str × Int)} (B : Bars sp ds st go si out) {d : Rd} (r : Reach sp ds st si d) : rdy out d.b (d.c + sp d.b) = true := by
  induction r with
  | fst m e h => exact B.cl _ m (by rw [e]; exact rdy_up B.st0 h)
  | nxt r m h ih =>
    obtain ⟨h1, h2⟩ := hg_iff.mp h
    exact B.cl _ m (by rw [← h1]; exact rdy_up ih h2)
theorem rdy_mem {ps : List (Str × Int)} {x : Str} {m : Int} (h : rdy ps x m = true) : x ∈ ps.map Prod.fst := by
  obtain ⟨z, e, _⟩ := rdy_iff.mp h
  have q : (ps.any fun p => decide (p.1 = x)) = true := by rw [any_lookup, e]; rfl
  obtain ⟨p, hp, e'⟩ := List.any_eq_true.mp q
  exact List.mem_map.mpr ⟨p, hp, by simpa using e'⟩
theorem Bars.none {sp : Str → Int} {ds : List Rd} {st go : Str} {si : Int} {out : List (Str × Int)} (B : Bars sp ds st go si out) : ¬ ∃ m, Least sp ds st si go m := by
  rintro ⟨m, ⟨a, _⟩ | ⟨_, ⟨e, r, eb, _⟩, _⟩⟩
  · exact B.ng (by rw [a]; exact rdy_mem B.st0)
  · exact B.ng (by rw [← eb]; exact rdy_mem (B.all r))
theorem Paper.bars {sp : Str → Int} {ds : List Rd} {st go : Str} {si : Int} {ns : List Str} {out : List (Str × Int)} (G : Good sp ds) (p : Paper sp ds st si ns out) (ng : ¬ ∃ m, Least sp ds st si go m) : Bars sp ds st go si out := by
  have look : ∀ x m, out.lookup x = some m ↔ Least sp ds st si x m := fun x m => by rw [← mem_lookup p.nd]; exact p.iff x m
  refine ⟨p.nd, fun z => ng (p.key.mp z), rdy_iff.mpr ⟨si, (look _ _).mpr (.inl ⟨rfl, rfl⟩), Int.le_refl _⟩, fun d hd h => ?_⟩
  obtain ⟨z, e, le⟩ := rdy_iff.mp h
  have r := least_reach ((look _ _).mp e) hd le
  obtain ⟨m, lm⟩ := least_ex r rfl
  exact rdy_iff.mpr ⟨m, (look _ _).mpr lm, least_le G r lm⟩
/-! the dict made of the pairs -/
structure Made (l acc : List (Str × Int)) : Prop where
  nd : (acc.map Prod.fst).Nodup
  key : ∀ x ∈ acc.map Prod.fst, x ∈ l.map Prod.fst
  all : (l.map Prod.fst).Nodup → acc = l
theorem Made.nil : Made [] [] := ⟨List.nodup_nil, (fun _ h => nomatch h), fun _ => rfl⟩
theorem Made.snoc {l acc : List (Str × Int)} {o : Str × Int} (M : Made l acc) : Made (l ++ [o]) (putS acc o.1 o.2) := by
  refine ⟨keys_put M.nd, fun x hx => ?_, fun hn => ?_⟩
  · rw [List.map_append, List.mem_append]
    obtain ⟨⟨k, v⟩, hp, rfl⟩ := List.mem_map.mp hx
    have q := (mem_lookup (keys_put M.nd)).mp hp
    rw [lookup_put] at q
    by_cases e : k = o.1
    · exact .inr (by simp [e])
    · rw [if_neg e] at q
      exact .inl (M.key k (List.mem_map.mpr ⟨(k, v), (mem_lookup M.nd).mpr q, rfl⟩))
  · rw [List.map_append, List.nodup_append] at hn
    have e := M.all hn.1
    subst e
    unfold putS
    rw [if_neg]
    intro z
    obtain ⟨p, hp, e'⟩ := List.any_eq_true.mp z
    have e2 : p.1 = o.1 := by simpa using e'
    exact hn.2.2 p.1 (List.mem_map.mpr ⟨p, hp, rfl⟩) o.1 (by simp) e2
theorem dup_short : ∀ {l : List Str}, ¬ l.Nodup → ∃ m : List Str, (∀ x ∈ l, x ∈ m) ∧ m.length < l.length
  | [], h => absurd List.nodup_nil h
  | a :: l, h => by
    by_cases ha : a ∈ l
    · exact ⟨l, fun x hx => by
        rcases List.mem_cons.mp hx with q | q
        · rw [q]; exact ha
        · exact q, Nat.lt_succ_self _⟩
    · have hl : ¬ l.Nodup := fun z => h (List.nodup_cons.mpr ⟨ha, z⟩)
      obtain ⟨m, h1, h2⟩ := dup_short hl
      refine ⟨a :: m, fun x hx => ?_, by simp; exact h2⟩
      rcases List.mem_cons.mp hx with q | q
      · rw [q]; exact List.mem_cons_self ..
      · exact List.mem_cons_of_mem _ (h1 x q)
theorem Made.short {l acc : List (Str × Int)} (M : Made l acc) (h : ¬ (l.map Prod.fst).Nodup) : acc.length < l.length := by
  obtain ⟨m, h1, h2⟩ := dup_short h
  have := M.nd.length_le_of_subset (l₂ := m) fun x hx => h1 x (M.key x hx)
  rw [List.length_map] at this h2
  omega
def spBars (K : PySem.W.Frag) : Sp := fun vs H Q _ => ∃ (pr ps pp : Addr) (xs : List V) (kvs : List (Key × V)) (ds : List Rd) (st go : Str) (si : Int) (out : List (Str × Int)) (qs : List Addr), vs = [.ref pr, .ref ps, .str st, .str go, .int si, .ref pp] ∧ H pr = some (.lst xs) ∧ H ps = some (.dK kvs) ∧ Rw H kvs xs ds ∧ PrsAt H pp out qs ∧ out.length ≤ 100 ∧
  ∀ (b : Bool) (H' : Hp), Same H H' → (b = true ↔ Bars (spn kvs) ds st go si out) → Q (.bl b) H'
theorem Made.len {l acc : List (Str × Int)} (M : Made l acc) : acc.length ≤ l.length := by
  have := M.nd.length_le_of_subset (l₂ := l.map Prod.fst) M.key
  rw [List.length_map, List.length_map] at this
  exact this
theorem look_key {out : List (Str × Int)} {x : Str} : (valV (toDK out) (Sum.inr x : Key)).isSome = decide (x ∈ out.map Prod.fst) := by
  rw [valV_toDK, Option.isSome_map, ← any_lookup, Bool.eq_iff_iff, decide_eq_true_iff, List.any_eq_true]
  constructor
  · rintro ⟨p, hp, e⟩
    exact List.mem_map.mpr ⟨p, hp, by simpa using e⟩
  · intro h
    obtain ⟨p, hp, e⟩ := List.mem_map.mp h
    exact ⟨p, hp, by simpa using e⟩
end X2

set_option maxHeartbeats 4000000
namespace X2
open PySem PySem.Spec PyProof.Rows L2
/-! a set of texts that may repeat -/
def ddStep (acc : List Str) (x : Str) : List Str := if x ∈ acc then acc else acc ++ [x]
def dd (l : List Str) : List Str := l.foldl ddStep []
theorem dd_snoc (l : List Str) (x : Str) : dd (l ++ [x]) = ddStep (dd l) x := by unfold dd; rw [List.foldl_append]; rfl
structure DdOk (l m : List Str) : Prop where
  nd : m.Nodup
  sub : ∀ x ∈ m, x ∈ l
  all : l.Nodup → m = l
  le : m.length ≤ l.length
theorem DdOk.snoc {l m : List Str} {x : Str} (h : DdOk l m) : DdOk (l ++ [x]) (ddStep m x) := by
  unfold ddStep
  by_cases e : x ∈ m
  · rw [if_pos e]
    refine ⟨h.nd, fun y hy => List.mem_append_left _ (h.sub y hy), fun hn => ?_, by have := h.le; simp; omega⟩
    rw [List.nodup_append] at hn
    exact absurd rfl (hn.2.2 x (h.sub x e) x (by simp))
  · rw [if_neg e]
    refine ⟨?_, fun y hy => ?_, fun hn => ?_, by have := h.le; simp; omega⟩
    · rw [List.nodup_append]
      refine ⟨h.nd, by simp, fun a ha b hb => ?_⟩
      rw [List.mem_singleton.mp hb]
      exact fun z => e (z ▸ ha)
    · rcases List.mem_append.mp hy with q | q
      · exact List.mem_append_left _ (h.sub y q)
      · exact List.mem_append_right _ q
    · rw [List.nodup_append] at hn
      rw [h.all hn.1]
theorem ddOk (l : List Str) : DdOk l (dd l) := by
  have : ∀ n, DdOk (l.take n) (dd (l.take n)) := fun n => by
    induction n with
    | zero => rw [List.take_zero]; exact ⟨List.nodup_nil, (fun _ h => nomatch h), fun _ => rfl, Nat.le_refl _⟩
    | succ n ih =>
      cases e : l[n]? with
      | none =>
        have : l.take (n + 1) = l.take n := by rw [List.take_succ, e]; simp
        rw [this]; exact ih
      | some x => rw [take_snoc e, dd_snoc]; exact ih.snoc
  have q := this l.length
  rw [List.take_length] at q
  exact q
theorem dd_len {l : List Str} : (dd l).length = l.length ↔ l.Nodup := by
  have h := ddOk l
  constructor
  · intro e
    by_cases n : l.Nodup
    · exact n
    · obtain ⟨m, h1, h2⟩ := dup_short n
      have := h.nd.length_le_of_subset (l₂ := m) fun x hx => h1 x (h.sub x hx)
      omega
  · intro n; rw [h.all n]
section
variable {prog : Program} {w : World} {A : Around} {R : Result → Shared → Prop} {I : Addr} {fp wr : List Addr} {G : Array GenState → Array GenState → Prop} {n : Nat} {P : Nat → Value → Prop} {St : Nat → Shared → Prop}
theorem set_texts2 (W : WalksS prog w A.in1 I fp wr G n P St) (S : Addr) (hSf : S ∉ fp) (ts : List Str) (hn : ts.length = n) (hval : ∀ i v, P i v → ∃ x t, ts[i]? = some x ∧ v = .str x t) (hb : n + 1 < scanBound) :
    ∀ (k i : Nat) (s : Shared), n - i = k → i ≤ n → St i s → s.heap.SetOf (strKind prog w) S (fun k' => (dd (ts.take i)).any (· == k')) (dd (ts.take i)).length →
      (∀ s', Moved (S :: wr) G s s' → s'.heap.SetOf (strKind prog w) S (fun k' => (dd (ts.take n)).any (· == k')) (dd (ts.take n)).length → R (.ok (.ret .none)) s') →
      codeAny (model prog w) A (.builtin "set.update.loop" ⟨[.ref S, .ref I], []⟩) R s := by
  have hSw : S ∉ wr := fun h => hSf (W.sub _ h)
  have up : ∀ b ∈ wr, b ∈ S :: wr := fun b hb => List.mem_cons_of_mem _ hb
  intro k
  induction k with
  | zero =>
    intro i s hk hi hst hS hR
    have e : i = n := by omega
    subst e
    refine codeAny_builtin F.entry_set_update_loop ?_
    rw [Around.under_plainId F.plain_set_update_loop _]
    show wpAny _ A.in1 (pyNext (.ref I) >>= _) _ _ s
    refine wpAny_bind (W.done s _ _ hst fun s' hm => ?_)
    show wpAny _ A.in1 (ret Value.none) _ _ s'
    refine wpAny_pure (hR s' (hm.mono up) ?_)
    obtain ⟨o, es, ep, t, ho, rest⟩ := hS
    exact ⟨o, es, ep, t, hm.heap S _ hSw ho, rest⟩
  | succ k ih =>
    intro i s hk hi hst hS hR
    have lt : i < n := by omega
    refine codeAny_builtin F.entry_set_update_loop ?_
    rw [Around.under_plainId F.plain_set_update_loop _]
    show wpAny _ A.in1 (pyNext (.ref I) >>= _) _ _ s
    refine wpAny_bind (W.item i s _ _ lt hst fun v s' hP hst' hm => ?_)
    obtain ⟨x, t, hx, rfl⟩ := hval i v hP
    have hS' : s'.heap.SetOf (strKind prog w) S (fun k' => (dd (ts.take i)).any (· == k')) (dd (ts.take i)).length := by
      obtain ⟨o, es, ep, tb, ho, rest⟩ := hS
      exact ⟨o, es, ep, tb, hm.heap S _ hSw ho, rest⟩
    have room : (dd (ts.take i)).length ≤ i := by
      have := (ddOk (ts.take i)).le
      rw [List.length_take] at this
      omega
    show wpAny _ A.in1 (holding [Value.str x t] (setAdd S (.str x t)) >>= _) _ _ s'
    refine wpAny_bind (wpAny_holding ?_)
    unfold setAdd
    refine wpAny_holding ?_
    refine wpAny_bind ((strKind prog w).pyHash (k := x) (strKind_is _ _ _ _) ?_)
    refine wpAny_setAddHashed_of (knd := strKind prog w) (s := { s' with toks := s'.toks + 1 }) (strKind_is _ _ _ _) rfl hS' (by omega) fun h' hsb hS2 => ?_
    have hSi : h'.SetOf (strKind prog w) S (fun k' => (dd (ts.take (i + 1))).any (· == k')) (dd (ts.take (i + 1))).length :=
      SetOf_congr hS2 (fun k' => by
        rw [take_snoc hx, dd_snoc]
        unfold ddStep
        by_cases m : x ∈ dd (ts.take i)
        · rw [if_pos m]
          by_cases e : k' = x
          · subst e
            have : ((dd (ts.take i)).any (· == k')) = true := List.any_eq_true.mpr ⟨k', m, by simp⟩
            simp [this]
          · simp [e]
        · rw [if_neg m, List.any_append]
          by_cases e : k' = x
          · subst e; simp
          · have e1 : ¬ x = k' := fun z => e z.symm
            simp [e, e1]) (by
        rw [take_snoc hx, dd_snoc]
        unfold ddStep
        by_cases m : x ∈ dd (ts.take i)
        · have : ((dd (ts.take i)).any (· == x)) = true := List.any_eq_true.mpr ⟨x, m, by simp⟩
          rw [if_pos m]
          simp [this]
        · have : ((dd (ts.take i)).any (· == x)) = false := by
            rw [Bool.eq_false_iff]
            intro z
            obtain ⟨y, hy, e⟩ := List.any_eq_true.mp z
            have e' : y = x := by simpa using e
            exact m (e' ▸ hy)
          rw [if_neg m]
          simp [this])
    refine wpAny_pure ⟨plainId_quiet F.plain_set_update_loop _, ih (i + 1) _ (by omega) lt (W.frame _ s' _ _ hst' (Nat.le_succ _) fun b hb o e => ?_) hSi fun s'' hm'' hS'' => ?_⟩
    · rw [hsb.2 b (fun h : b = S => hSf (by rw [← h]; exact hb))]; exact e
    · refine hR s'' (Moved.trans W.gtrans ((hm.mono up).then_heap (Nat.le_succ _) fun b o hb e => ?_) hm'') hS''
      rw [hsb.2 b (fun h : b = S => hb (by rw [h]; exact List.mem_cons_self))]; exact e
end
section
variable {prog : Program} {w : World} {A : Around} {E : Value → Shared → Prop} {s : Shared}
set_option maxHeartbeats 8000000 in
theorem set_of_texts2 {l : Addr} {items : Array Value} {ts : List Str} {Q : Value → Shared → Prop} (hh : A.handled = none) (hl : s.heap.IsList l items) (hi : ∀ (i : Nat) v, items[i]? = some v → ∃ x t, ts[i]? = some x ∧ v = .str x t) (hn : ts.length = items.size) (hb : items.size + 1 < scanBound)
    (h : ∀ (h' : Heap) (tk : Nat), h'.SetOf (strKind prog w) s.heap.objs.size (fun k' => (dd (ts.take items.size)).any (· == k')) (dd (ts.take items.size)).length → (∀ b o, b < s.heap.objs.size → s.heap.get? b = some o → h'.get? b = some o) → Q (.ref s.heap.objs.size) { s with heap := h', toks := tk }) :
    wpAny (model prog w) A (call (.type "set") [.ref l]) Q E s := by
  obtain ⟨c, tl, hmro⟩ := PySem.F.called_set.mro
  have hmade := PySem.F.called_set.made
  have hsub := PySem.F.called_set.sub
  refine wpAny_call (codeAny_of_tree ?_)
  show wpAny _ _ (callAny (.type "set") _) _ _ _
  refine wpAny_pure ⟨Code.quiet_builtin _ (by decide +kernel), codeAny_builtin PySem.F.entry_type_call ?_⟩
  rw [Around.under_plain (weight_type_call_type "set" [.ref l] []) rfl]
  have h1 := PySem.F.called_set.notType
  have h2 := PySem.F.called_set.canCreate
  have hct := PySem.F.typeCall_set_1 (.ref l)
  repeat (any_goals (first | assumption | wp_step))
  let fresh (led : Bool) : Obj := { cls := .type "set", dict := none, data := .set #[] 0 (.fresh 0 0 led) }
  refine codeAny_mono (code_set_new_1 (.ref l) (E := E) (Q₁ := fun obj s₁ => ∃ led : Bool, obj = .ref s.heap.objs.size ∧ s₁ = { s with heap := s.heap.push { cls := .type "set", dict := none, data := .set #[] 0 (.fresh 0 0 led) } }) fun led => ⟨led, rfl, rfl⟩) fun r s₁ hr => ?_
  cases r with
  | error e => exact hr
  | ok fl =>
    cases fl with
    | ret obj =>
      obtain ⟨led, rfl, rfl⟩ := hr
      have hS : (s.heap.push { cls := .type "set", dict := none, data := .set #[] 0 (.fresh 0 0 led) }).get? s.heap.objs.size = some { cls := .type "set", dict := none, data := .set #[] 0 (.fresh 0 0 led) } := Heap.get?_push_size _ rfl
      have hT : Shared.TypeIs { s with heap := s.heap.push { cls := .type "set", dict := none, data := .set #[] 0 (.fresh 0 0 led) } } (.ref s.heap.objs.size) "set" := ⟨_, hS, rfl⟩
      have hli := PySem.F.called_set.init.lookup
      have hbi := PySem.F.called_set.init.bind (.ref s.heap.objs.size)
      repeat (any_goals (first | assumption | wp_step))
      refine codeAny_mono (codeAny_call_builtin (R := wants (fun r s₂ => r = .none ∧ ∃ h' tk, s₂ = { s with heap := h', toks := tk } ∧
          h'.SetOf (strKind prog w) s.heap.objs.size (fun k' => (dd (ts.take items.size)).any (· == k')) (dd (ts.take items.size)).length ∧ (∀ b o, b < s.heap.objs.size → s.heap.get? b = some o → h'.get? b = some o)) E) PySem.F.called_set.init.plain PySem.F.entry_set_init (check_set_init_1 hT ?_)) fun r₂ s₂ hr₂ => ?_
      · obtain ⟨⟨ocls, odict, odata, oslots⟩, hol, hcl, nl, hdl⟩ := hl
        simp only at hcl hdl
        subst hcl; subst hdl
        have hol' : (s.heap.push { cls := .type "set", dict := none, data := .set #[] 0 (.fresh 0 0 led) }).get? l = some { cls := .type "list", dict := odict, data := .seq items nl, slots := oslots } := Heap.get?_push_of_some _ hol
        have hsls := PySem.F.sub_list_set
        have hslf := PySem.F.sub_list_frozenset
        have hne : (Value.type "list" == Value.type "dict") = false := by decide
        have hl1 : (s.heap.push { cls := .type "set", dict := none, data := .set #[] 0 (.fresh 0 0 led) }).IsList l items := ⟨_, hol', rfl, nl, rfl⟩
        unfold Builtin.«set.__init__» noKeywords Builtin.Frozenset.updateFrom
        generalize hPI : pyIter = PI
        wp_walk
        subst hPI
        refine wpAny_pyIter_list hl1 (wpAny_bind (wpAny_runValue ?_))
        have hlS : l < s.heap.objs.size := Heap.lt_size hol
        have z3 : A.in1.in1.in1.handled = none := by simp [hh]
        have neI : l ≠ (s.heap.push { cls := .type "set", dict := none, data := .set #[] 0 (.fresh 0 0 led) }).objs.size := by
          rw [Heap.size_push]; exact Nat.ne_of_lt (Nat.lt_succ_of_lt hlS)
        have nSf : s.heap.objs.size ∉ [(s.heap.push { cls := .type "set", dict := none, data := .set #[] 0 (.fresh 0 0 led) }).objs.size, l] := by
          rw [Heap.size_push]; simp only [List.mem_cons, List.mem_singleton, List.not_mem_nil, or_false, not_or]
          exact ⟨Nat.ne_of_lt (Nat.lt_succ_self _), Nat.ne_of_gt hlS⟩
        refine set_texts2 ((Walks.list z3 _ l neI items).toS) s.heap.objs.size nSf ts hn hi hb (items.size - 0) 0 _ (by omega) (Nat.zero_le _) ⟨⟨_, Heap.get?_push_size _ rfl, rfl, rfl⟩, (hl1.push _)⟩ ?hS0 ?hR
        case hS0 =>
          have hget : ((s.heap.push { cls := .type "set", dict := none, data := .set #[] 0 (.fresh 0 0 led) }).push { cls := .type "list_iterator", data := .fields #[.ref l, .int 0 0] }).get? s.heap.objs.size = some { cls := .type "set", dict := none, data := .set #[] 0 (.fresh 0 0 led) } := Heap.get?_push_of_some _ hS
          exact SetOf_congr ((setObjOf_fresh (knd := strKind prog w) led).setOf hget (by unfold scanBound; omega)) (fun _ => rfl) rfl
        case hR =>
          intro s' hm hS'
          obtain ⟨h', g', d', tk', os'⟩ := s'
          have eg : g' = s.gens := hm.gens
          have ed : d' = s.drawn := hm.drawn
          have eo : os' = s.os := hm.os
          subst eg; subst ed; subst eo
          show wpAny _ _ _ _ _ _
          refine wpAny_pure ?_
          show wpAny _ _ (ret Value.none) _ _ _
          refine wpAny_pure ⟨rfl, h', tk', rfl, hS', fun b o hb e => ?_⟩
          have hb2 : b ≠ (s.heap.push { cls := .type "set", dict := none, data := .set #[] 0 (.fresh 0 0 led) }).objs.size := by
            rw [Heap.size_push]; exact Nat.ne_of_lt (Nat.lt_succ_of_lt hb)
          exact hm.heap b o (by simp only [List.mem_cons, List.mem_singleton, List.not_mem_nil, or_false, not_or]; exact ⟨Nat.ne_of_lt hb, hb2⟩) (Heap.get?_push_of_some _ (Heap.get?_push_of_some _ e))
      · cases r₂ with
        | error e => exact hr₂
        | ok fl₂ =>
          cases fl₂ with
          | ret r =>
            obtain ⟨rfl, h', tk, rfl, hS', hk'⟩ := hr₂
            repeat (any_goals (first | assumption | wp_step))
            exact h _ _ hS' hk'
          | _ => exact hr₂.elim
    | _ => exact hr.elim
end
theorem call_setS2 {X : Cx} (hcm : X.calm = true) : CallR X (.type "set") (fun xs H Q => ∃ (p : Addr) (ns : List Str), xs = [.ref p] ∧ SqL X.K H p (ns.map V.str) ∧ ns.length < 64 ∧ ∀ v, H v = none → Q (.ref v) (upd H v (SetAt v (dd ns).length))) := by
  intro pins s σ H xs us Q I r h
  obtain ⟨p, ns, rfl, hp, h64, q⟩ := h
  obtain ⟨u, rfl, ru⟩ := vals1 r
  cases (show u = Value.ref p from ru)
  obtain ⟨its, rv, pl, hz⟩ := I.list hp
  have lr : its.length = ns.length := by rw [← rv.length, List.length_map]
  have sa := strs_are rv
  refine set_of_texts2 (ts := ns) (I.ok.hd hcm) pl.isList (fun i v hv => ?_) (by rw [List.size_toArray, lr]) (by rw [List.size_toArray, lr]; unfold scanBound; omega) fun h' tk hS keep => ?_
  · rw [List.getElem?_toArray] at hv
    clear pl rv hz hp q lr h64
    induction sa generalizing i with
    | nil => simp at hv
    | cons x t hr ih =>
      cases i with
      | zero => simp at hv; exact ⟨x, t, rfl, hv.symm⟩
      | succ i => simp only [List.getElem?_cons_succ] at hv ⊢; exact ih i hv
  · refine ⟨.ref s.heap.objs.size, _, I.laid (t' := tk) (a := s.heap.objs.size) (o := SetAt s.heap.objs.size (dd ns).length) (fun b o e => keep b o (Heap.lt_size e) e) (Nat.le_refl _) ?_, rfl, q _ (I.hok.fresh (Nat.le_refl _))⟩
    obtain ⟨o, es, ep, t, ho, hex, hd, _, _, _, hf, hn⟩ := hS
    refine ⟨⟨o, es, ep, t, ho, hex, hd, hf, by rw [hn, List.size_toArray, lr, List.take_length]⟩, ⟨o, ho⟩, fun h1 h2 ⟨o, es, ep, t, e1, e2⟩ k => ⟨o, es, ep, t, k _ e1, e2⟩⟩
end X2

set_option maxHeartbeats 4000000
namespace X2
open PySem PySem.Spec PyProof.Rows L2
def spLBars2 : Sp := fun vs H Q _ => ∃ (pr ps pp : Addr) (xs : List V) (kvs : List (Key × V)) (ds : List Rd) (st go : Str) (si : Int) (out : List (Str × Int)) (qs : List Addr), vs = [.ref pr, .ref ps, .str st, .str go, .int si, .ref pp] ∧ H pr = some (.lst xs) ∧ H ps = some (.dK kvs) ∧ Rw H kvs xs ds ∧ PrsAt H pp out qs ∧ out.length ≤ 60 ∧
  ∀ (b : Bool) (H' : Hp), Same H H' → (b = true ↔ Bars (spn kvs) ds st go si out) → Q (.bl b) H'
theorem rdy_of {out : List (Str × Int)} (nd : (out.map Prod.fst).Nodup) {x : Str} {m n : Int} (h : (x, m) ∈ out) : rdy out x n = decide (m ≤ n) := by
  unfold rdy
  rw [(mem_lookup nd).mp h]
theorem rdy_no {out : List (Str × Int)} (nd : (out.map Prod.fst).Nodup) {x : Str} {n : Int} (h : ∀ m, (x, m) ∉ out) : rdy out x n = false := by
  unfold rdy
  cases e : out.lookup x with
  | none => rfl
  | some m => exact absurd ((mem_lookup nd).mpr e) (h m)
end X2

set_option maxHeartbeats 4000000
namespace X2
open PySem PySem.Spec PyProof.Rows L2
/-! == of lists whose items are known to be equal in this world (dicts among them) -/
def EqP (prog : Program) (w : World) (A : Around) (s : Shared) (y x : Value) : Prop := ∀ (E : Value → Shared → Prop) (Q : Bool → Shared → Prop), Q true s → wpAny (model prog w) A (eqBool y x) Q E s
theorem EqP.of {prog : Program} {w : World} {A : Around} {s : Shared} {y x : Value} (h : SeqAt.EqAt A s y x true) : EqP prog w A s y x := fun E Q q => h prog w E Q q
open AutoSeq1 (wpAny_loadPart') in
open MeetsSeq MeetsSeq2 MeetsSeq3 SeqRoads2 in
theorem eqLoopP {prog : Program} {w : World} (l b : Addr) (items items2 : Array Value) (n n2 : Nat) (hsz : items.size = items2.size) (k : Nat) :
    ∀ i : Nat, items.size - i = k → MeetsIn prog w (Builtin.«list.__eq__.loop» ⟨[.ref l, .ref b, rawInt i, rawInt 2], []⟩)
      (fun A R s => s.heap.get? l = some { cls := .type "list", data := .seq items n } ∧ s.heap.get? b = some { cls := .type "list", data := .seq items2 n2 } ∧
        (∀ j (h1 : j < items.size) (h2 : j < items2.size), EqP prog w A.in1 s items[j] items2[j]) ∧ R (.ok (.ret (.bool true))) s) := by
  induction k with
  | zero =>
    intro i hk A R s h
    obtain ⟨hp, g, d, tk, os⟩ := s; obtain ⟨hl, hb, he, h⟩ := h
    wp_walk using wpAny_loadPart' hl, wpAny_loadPart' hb
    have z1 : items[((i : Nat) : Int).toNat]? = none := by simp; omega
    have z2 : items2[((i : Nat) : Int).toNat]? = none := by simp; omega
    rw [z1, z2]
    wp_walk using wpAny_loadPart' hl, wpAny_loadPart' hb
    show R (.ok (.ret (.bool (items.size == items2.size)))) _
    rw [hsz]
    simpa using h
  | succ k ih =>
    intro i hk A R s h
    obtain ⟨hp, g, d, tk, os⟩ := s; obtain ⟨hl, hb, he, h⟩ := h
    wp_walk using wpAny_loadPart' hl, wpAny_loadPart' hb
    have a1 : i < items.size := by omega
    have a2 : i < items2.size := by omega
    have z1 : items[((i : Nat) : Int).toNat]? = some items[i] := by simp [a1]
    have z2 : items2[((i : Nat) : Int).toNat]? = some items2[i] := by simp [a2]
    have hc : ((i : Int) + 1) = ((i + 1 : Nat) : Int) := by push_cast; rfl
    rw [z1, z2]
    refine wpAny_bind (he i a1 a2 _ _ ?_)
    wp_walk
    rw [hc]
    refine ⟨plainId_quiet plain_eq_loop _, codeAny_builtin entry_eq_loop ?_⟩
    rw [Around.under_plainId plain_eq_loop _]
    exact ih (i + 1) (by omega) A R _ ⟨hl, hb, he, h⟩
open AutoSeq1 (wpAny_loadPart') in
open MeetsSeq MeetsSeq2 MeetsSeq3 SeqRoads2 in
theorem listEqP {prog : Program} {w : World} (l b : Addr) (items items2 : Array Value) (n n2 : Nat) (hsz : items.size = items2.size) :
    MeetsIn prog w (Builtin.«list.__eq__» ⟨[.ref l, .ref b], []⟩)
      (fun A R s => s.heap.get? l = some { cls := .type "list", data := .seq items n } ∧ s.heap.get? b = some { cls := .type "list", data := .seq items2 n2 } ∧
        (∀ j (h1 : j < items.size) (h2 : j < items2.size), EqP prog w A.in1 s items[j] items2[j]) ∧ R (.ok (.ret (.bool true))) s) := by
  intro A R s h
  obtain ⟨hp, g, d, tk, os⟩ := s; obtain ⟨hl, hb, he, h⟩ := h
  have f3 := AutoSeq1.sub_list_list
  have hne : ¬ (items.size != items2.size) = true := by simp [hsz]
  wp_walk using wpAny_loadPart' hl, wpAny_loadPart' hb
  refine ⟨plainId_quiet plain_eq_loop _, codeAny_builtin entry_eq_loop ?_⟩
  rw [Around.under_plainId plain_eq_loop _]
  exact eqLoopP l b items items2 n n2 hsz _ 0 rfl A R _ ⟨hl, hb, he, h⟩
/-- [list, dict, list] == [list, dict, list], part by part -/
theorem op_eqH {X : Cx} (hu : X.A.units + 1 < cLine) : OpR X (compareOp .Eq) (fun x y H Q => ∃ (a b l1 l2 d1 d2 p1 p2 : Addr) (xs ys : List V) (kvs : List (Key × V)), x = .ref a ∧ y = .ref b ∧ H a = some (.lst [.ref l1, .ref d1, .ref p1]) ∧ H b = some (.lst [.ref l2, .ref d2, .ref p2]) ∧ H l1 = some (.lst xs) ∧ H l2 = some (.lst xs) ∧ H d1 = some (.dK kvs) ∧ H d2 = some (.dK kvs) ∧ H p1 = some (.lst ys) ∧ H p2 = some (.lst ys) ∧
    l1 ≠ l2 ∧ d1 ≠ d2 ∧ p1 ≠ p2 ∧ (∀ x ∈ xs, plainV x = true) ∧ (∀ x ∈ ys, plainV x = true) ∧ (kvs.map (·.1)).Nodup ∧ (∀ p ∈ kvs, ∃ i, p.2 = V.int i) ∧ Q (.bl true) H) := by
  intro pins s σ H x y v u Q I rx ry h
  obtain ⟨a, b, l1, l2, d1, d2, p1, p2, xs, ys, kvs, rfl, rfl, ha, hb, h1, h2, h3, h4, h5, h6, n1, n2, n3, px, py, nd, iv, q⟩ := h
  cases (show v = Value.ref a from rx)
  cases (show u = Value.ref b from ry)
  obtain ⟨_, ia, na, ra, _, ea⟩ := I.lstM ha
  obtain ⟨_, ib, nb, rb, _, eb⟩ := I.lstM hb
  have lists : ∀ {l m : Addr} {zs : List V}, l ≠ m → H l = some (.lst zs) → H m = some (.lst zs) → (∀ x ∈ zs, plainV x = true) → SeqAt.EqAt X.A.in1 s (.ref l) (.ref m) true := fun {l m zs} ne hl hm hp => by
    obtain ⟨us, ru, pu, _⟩ := I.list (SqL.of hl)
    obtain ⟨vs, rv, pv, _⟩ := I.list (SqL.of hm)
    have el : us.toArray.size = vs.toArray.size := by simp only [List.size_toArray]; rw [← ru.length, ← rv.length]
    have := SeqAt.RcAt.lists (A := X.A.in1) (e := fun _ => true) pu.isList pv.isList el (by simpa using hu) (eqAt_lists hp ru rv)
    rw [all_true] at this
    exact SeqAt.EqAt.of_refs ne this
  have dicts : EqP X.prog X.w X.A.in1 s (.ref d1) (.ref d2) := fun E Q' q' => by
    obtain ⟨_, na', va, ra', da⟩ := dk_of I.hok h3
    obtain ⟨_, nb', vb, rb', db⟩ := dk_of I.hok h4
    have el : va.length = vb.length := by rw [← ra'.length, ← rb'.length]
    unfold eqBool
    refine wpAny_holding (wpAny_ite_split (fun hab => absurd (by have := eq_of_beq hab; injection this) n2) (fun _ => wpAny_bind ?_))
    refine PySem.W.keq_eq na' nb' da db (by simpa using hu) (fun _ => hits_all rb' nd iv ra' fun p hp => hp) ?_
    have e : (va.length == vb.length && true) = true := by rw [el]; simp
    rw [e]
    exact wpAny_truthy_bool q'
  cases ra with
  | cons r1 t1 =>
  cases t1 with
  | cons r2 t2 =>
  cases t2 with
  | cons r3 t3 =>
  cases t3
  cases rb with
  | cons s1 w1 =>
  cases w1 with
  | cons s2 w2 =>
  cases w2 with
  | cons s3 w3 =>
  cases w3
  cases r1; cases r2; cases r3; cases s1; cases s2; cases s3
  refine wpAny_richCompare_same_room (op := .Eq) ⟨_, ea, rfl⟩ ⟨_, eb, rfl⟩ PySem.F.slot_list_eq (call_meetsIn PySem.F.slot_list_eq ⟨_, ea, rfl⟩ PySem.F.entry_list_eq (PySem.F.args_list_eq_2 _ _) (listEqP a b #[.ref l1, .ref d1, .ref p1] #[.ref l2, .ref d2, .ref p2] _ _ rfl) ⟨ea, eb, fun j k1 k2 => ?_, ?_⟩) (by omega)
  · have k1' : j < 3 := k1
    match j, k1' with
    | 0, _ => exact .of (lists n1 h1 h2 px)
    | 1, _ => exact dicts
    | 2, _ => exact .of (lists n3 h5 h6 py)
  · exact ⟨(fun z => nomatch z), .bl true, H, I, rfl, q⟩
theorem small1000' {n : Nat} (h : n ≤ 1001) : n < sizeLine := Nat.lt_of_le_of_lt h (by decide)
theorem mt_insert {X : Cx} : MtM X "list.insert" (fun x vs H Q => ∃ (l : Addr) (xs : List V) (i : Nat) (k : Int) (y : V), x = .ref l ∧ vs = [.int k, y] ∧ k = (i : Int) ∧ H l = some (.lst xs) ∧ i ≤ xs.length ∧ xs.length ≤ 1000 ∧ Q .non (upd H l (.lst (xs.take i ++ [y] ++ xs.drop i)))) := by
  intro pins s σ H x vs v us Q I rx rv h
  obtain ⟨l, xs, i, k, y, rfl, rfl, ek, hH, hi, hz, q⟩ := h
  cases rx
  obtain ⟨u1, u2, rfl, r1, r2⟩ := vals2 rv
  obtain ⟨t, rfl⟩ := r1
  obtain ⟨z, its, n, r, hl, e⟩ := I.lstM hH
  have fits : ¬ (!Builtin.List.listFitsIndex k) = true := by
    unfold Builtin.List.listFitsIndex
    simp
    omega
  have hsz : its.toArray.size ≤ sizeLine := by rw [List.size_toArray, ← hl]; exact z
  have M := AutoSeq1.list_insert_list_int_val_1 l its.toArray n k t u2 fits hsz
  refine call_meets PySem.F.slot_list_insert ⟨_, e, rfl⟩ PySem.F.entry_list_insert (PySem.F.args_list_insert_3 _ _ _) M (And.intro e ?_)
  refine ⟨.non, _, I.lset (its' := its.take i ++ [u2] ++ its.drop i) (ys := xs.take i ++ [y] ++ xs.drop i) hH e ?_ ?_ ?_, rfl, q⟩
  · have hi' : i ≤ its.length := by omega
    apply Array.toList_inj.mp
    have e1 : ¬ (k < 0) := by omega
    have e2 : k.toNat = i := by omega
    simp [e1, e2, hi', Nat.min_eq_left hi']
    exact List.take_of_length_le (by rw [List.length_drop]; exact Nat.le_refl _)
  · have tk : ∀ {as : List V} {bs : List Value}, Vals as bs → ∀ j, Vals (as.take j) (bs.take j) ∧ Vals (as.drop j) (bs.drop j) := by
      intro as bs hr
      induction hr with
      | nil => intro j; simp; exact .nil
      | cons a b ih =>
        intro j
        cases j with
        | zero => exact ⟨.nil, .cons a b⟩
        | succ j => exact ⟨.cons a (ih j).1, (ih j).2⟩
    exact ((tk r i).1.append (.cons r2 .nil)).append (tk r i).2
  · refine Nat.le_of_lt (small1000' ?_)
    rw [List.length_append, List.length_append, List.length_take, List.length_drop, List.length_singleton]
    omega
/-- a pair of a text and a number -/
def PV (H : Hp) (x : V) : Prop := ∃ q s i, x = .ref q ∧ H q = some (.tup [.str s, .int i])
theorem PV.mono {H H' : Hp} (s : Same H H') {x : V} (h : PV H x) : PV H' x := by
  obtain ⟨q, t, i, e, g⟩ := h
  exact ⟨q, t, i, e, s _ _ g⟩
theorem PV.updL {H : Hp} {r : Addr} {xs ys : List V} (hr : H r = some (.lst xs)) {x : V} (h : PV H x) : PV (upd H r (.lst ys)) x := by
  obtain ⟨q, t, i, e, g⟩ := h
  exact ⟨q, t, i, e, (upd_ne (ne_of g hr fun z => nomatch z)).trans g⟩
theorem prs_of {H : Hp} {r : Addr} {xs : List V} (hr : H r = some (.lst xs)) (h : ∀ x ∈ xs, PV H x) : ∃ out qs, PrsAt H r out qs ∧ xs = qs.map V.ref := by
  have : ∃ (out : List (Str × Int)) (qs : List Addr), xs = qs.map V.ref ∧ qs.length = out.length ∧ ∀ (i : Nat) q (o : Str × Int), qs[i]? = some q → out[i]? = some o → H q = some (.tup [.str o.1, .int o.2]) := by
    clear hr
    induction xs with
    | nil => exact ⟨[], [], rfl, rfl, fun i q o h => by simp at h⟩
    | cons x xs ih =>
      obtain ⟨out, qs, e1, e2, e3⟩ := ih fun y hy => h y (List.mem_cons_of_mem _ hy)
      obtain ⟨q, t, i, rfl, g⟩ := h x (List.mem_cons_self ..)
      refine ⟨(t, i) :: out, q :: qs, by rw [e1]; rfl, by simp [e2], fun j q' o h1 h2 => ?_⟩
      cases j with
      | zero => cases h1; cases h2; exact g
      | succ j => exact e3 j q' o (by simpa using h1) (by simpa using h2)
  obtain ⟨out, qs, e1, e2, e3⟩ := this
  exact ⟨out, qs, ⟨by rw [← e1]; exact hr, e2, e3⟩, e1⟩
theorem PrsAt.all {H : Hp} {r : Addr} {out : List (Str × Int)} {qs : List Addr} (p : PrsAt H r out qs) : ∀ x ∈ qs.map V.ref, PV H x := by
  intro x hx
  obtain ⟨q, hq, rfl⟩ := List.mem_map.mp hx
  obtain ⟨i, hi⟩ := List.mem_iff_getElem?.mp hq
  have hl : i < out.length := by rw [← p.len]; exact (List.getElem?_eq_some_iff.mp hi).1
  exact ⟨q, _, _, rfl, p.at' i q _ hi (List.getElem?_eq_getElem hl)⟩
def spBent : Sp := fun vs H Q _ => ∃ (p d nm : Addr) (xs : List V) (ds : List Int) (ns : List Str), vs = [.ref p, .ref d, .ref nm] ∧ H p = some (.lst xs) ∧ (∀ x ∈ xs, PV H x) ∧ xs.length ≤ 40 ∧ H d = some (.lst (ds.map V.int)) ∧ Bd ds ∧ ds.length = 3 ∧ H nm = some (.lst (ns.map V.str)) ∧ 0 < ns.length ∧
  ∀ (r : Addr) (ys : List V) (H' : Hp), Same H H' → H r = none → H' r = some (.lst ys) → (∀ x ∈ ys, PV H' x) → ys.length ≤ xs.length + 2 → Q (.ref r) H'
end X2

set_option maxHeartbeats 4000000
namespace X2
open PySem PySem.Spec PyProof.Rows L2
def BSt (H : Hp) (p d nm : Addr) (L : Nat) (C : Int → Nat → Nat → Prop) (σ : L2.St) (H2 : Hp) : Prop := ∃ (md : Addr) (zs : List V) (at_ : Nat) (wy : Int) (u6 u7 : Option V), σ = [some (.ref p), some (.ref d), some (.ref nm), some (.ref md), some (.int at_), some (.int wy), u6, u7] ∧ Same H H2 ∧ H md = none ∧ H2 md = some (.lst zs) ∧ (∀ x ∈ zs, PV H2 x) ∧ zs.length ≤ L ∧ C wy at_ zs.length
def BSi (H : Hp) (p d nm : Addr) (L : Nat) (C : Int → Nat → Nat → Prop) (σ : L2.St) (H2 : Hp) : Prop := ∃ (md : Addr) (zs : List V) (at_ : Nat) (wy : Int) (s6 : Str) (i7 : Int), σ = [some (.ref p), some (.ref d), some (.ref nm), some (.ref md), some (.int at_), some (.int wy), some (.str s6), some (.int i7)] ∧ Same H H2 ∧ H md = none ∧ H2 md = some (.lst zs) ∧ (∀ x ∈ zs, PV H2 x) ∧ zs.length ≤ L ∧ C wy at_ zs.length
abbrev cAt : Int → Nat → Nat → Prop := fun _ a n => a ≤ n
abbrev cAny : Int → Nat → Nat → Prop := fun _ _ _ => True
abbrev cIn : Int → Nat → Nat → Prop := fun w a n => w ≠ 2 → a < n
theorem BSi.out {H : Hp} {p d nm : Addr} {L : Nat} {C : Int → Nat → Nat → Prop} {σ : L2.St} {H2 : Hp} (b : BSi H p d nm L C σ H2) : BSt H p d nm L cAny σ H2 := by
  obtain ⟨md, zs, a, w, s6, i7, rfl, s2, n, h, pv, l, c⟩ := b
  exact ⟨md, zs, a, w, _, _, rfl, s2, n, h, pv, l, trivial⟩
theorem ins_mem {zs : List V} {i : Nat} {x y : V} (h : x ∈ zs.take i ++ [y] ++ zs.drop i) : x = y ∨ x ∈ zs := by
  rcases List.mem_append.mp h with h | h
  · rcases List.mem_append.mp h with h | h
    · exact .inr (List.mem_of_mem_take h)
    · exact .inl (List.mem_singleton.mp h)
  · exact .inr (List.mem_of_mem_drop h)
theorem ins_len {zs : List V} {i : Nat} {y : V} (h : i ≤ zs.length) : (zs.take i ++ [y] ++ zs.drop i).length = zs.length + 1 := by
  rw [List.length_append, List.length_append, List.length_take, List.length_drop, List.length_singleton]
  omega
theorem ixN_nat {n i : Nat} (h : i < n) : ixN n (i : Int) = some i := by
  unfold ixN
  rw [if_pos (by omega), if_pos (by omega)]
  rfl
end X2
namespace X2
open PySem PySem.Spec PyProof.Rows L2
theorem cut3 (ds : List Int) (j : Nat) (hj : 4 + 3 * j ≤ ds.length) : cutV (ds.map V.int) (some (1 + 3 * (0 + (j : Int)))) (some (4 + 3 * (0 + (j : Int)))) = ((ds.drop (1 + 3 * j)).take 3).map V.int := by
  unfold cutV
  have hl : (ds.map V.int).length = ds.length := List.length_map _
  have e0 : HT.sIx (ds.map V.int).length 0 (some (1 + 3 * (0 + (j : Int)))) = 1 + 3 * j := by
    unfold HT.sIx
    have hn : ¬ (1 + 3 * (0 + (j : Int)) < 0) := by omega
    simp only [hn, if_false]
    omega
  have e1 : HT.sIx (ds.map V.int).length (ds.map V.int).length (some (4 + 3 * (0 + (j : Int)))) = 4 + 3 * j := by
    unfold HT.sIx
    have hn : ¬ (4 + 3 * (0 + (j : Int)) < 0) := by omega
    simp only [hn, if_false]
    omega
  rw [e0, e1, show 4 + 3 * j - (1 + 3 * j) = 3 by omega, List.map_take, List.map_drop]
theorem Bd.sub {ds es : List Int} (h : Bd ds) (s : ∀ x ∈ es, x ∈ ds) : Bd es := fun x hx => h x (s x hx)
theorem rdy_nil (x : Str) (m : Int) : rdy [] x m = false := rfl
end X2

namespace My
open PySem L2 X2
def top (i : Nat) : Stmt := PySem.Challenge.pw_wayhold_k09_papers_looked_at.main.body.getD i (.Pass ⟨0, 0, 0, 0⟩)
abbrev s_soonest : Stmt := top 2
abbrev s_no_way : Stmt := top 3
abbrev s_bars : Stmt := top 4
abbrev s_ready_by : Stmt := top 5
abbrev s_Ldraws : Stmt := top 7
abbrev s_Lsame : Stmt := top 8
abbrev s_Lnames : Stmt := top 9
abbrev s_Lworld : Stmt := top 10
abbrev s_Ltrip : Stmt := top 11
abbrev s_Lbars : Stmt := top 12
abbrev s_Lbent : Stmt := top 13
abbrev s_law : Stmt := top 14
structure Txt (K : PySem.W.Frag) (mg : Str → Option Value) (f_soonest f_no_way f_bars f_ready_by f_Ldraws f_Lsame f_Lnames f_Lworld f_Ltrip f_Lbars f_Lbent f_law : Addr) : Prop where
  b_sorted : mg "sorted" = none
  b_len : mg "len" = none
  b_isinstance : mg "isinstance" = none
  b_tuple : mg "tuple" = none
  b_list : mg "list" = none
  b_range : mg "range" = none
  b_bool : mg "bool" = none
  b_int : mg "int" = none
  b_str : mg "str" = none
  b_set : mg "set" = none
  b_dict : mg "dict" = none
  c_LEAVES : ∃ t, mg "LEAVES" = some (Value.int 3 t)
  m_soonest : mg "soonest" = some (.ref f_soonest)
  k_soonest : PySem.W.keepIn K (.ref f_soonest) = true
  m_no_way : mg "no_way" = some (.ref f_no_way)
  k_no_way : PySem.W.keepIn K (.ref f_no_way) = true
  m_bars : mg "bars" = some (.ref f_bars)
  k_bars : PySem.W.keepIn K (.ref f_bars) = true
  m_ready_by : mg "ready_by" = some (.ref f_ready_by)
  k_ready_by : PySem.W.keepIn K (.ref f_ready_by) = true
  m_Ldraws : mg "_law_draws" = some (.ref f_Ldraws)
  k_Ldraws : PySem.W.keepIn K (.ref f_Ldraws) = true
  m_Lsame : mg "_law_same" = some (.ref f_Lsame)
  k_Lsame : PySem.W.keepIn K (.ref f_Lsame) = true
  m_Lnames : mg "_law_names" = some (.ref f_Lnames)
  k_Lnames : PySem.W.keepIn K (.ref f_Lnames) = true
  m_Lworld : mg "_law_world" = some (.ref f_Lworld)
  k_Lworld : PySem.W.keepIn K (.ref f_Lworld) = true
  m_Ltrip : mg "_law_trip" = some (.ref f_Ltrip)
  k_Ltrip : PySem.W.keepIn K (.ref f_Ltrip) = true
  m_Lbars : mg "_law_bars" = some (.ref f_Lbars)
  k_Lbars : PySem.W.keepIn K (.ref f_Lbars) = true
  m_Lbent : mg "_law_bent" = some (.ref f_Lbent)
  k_Lbent : PySem.W.keepIn K (.ref f_Lbent) = true
  m_law : mg "law" = some (.ref f_law)
  k_law : PySem.W.keepIn K (.ref f_law) = true
section
variable {P : Program} {w : World} {K : PySem.W.Frag} {mg : Str → Option Value} {base : Heap} {f_soonest f_no_way f_bars f_ready_by f_Ldraws f_Lsame f_Lnames f_Lworld f_Ltrip f_Lbars f_Lbent f_law : Addr} {fd_soonest fd_no_way fd_bars fd_ready_by fd_Ldraws fd_Lsame fd_Lnames fd_Lworld fd_Ltrip fd_Lbars fd_Lbent fd_law : FuncData} {Pt : Addr}
theorem sc_soonest : FnScope ["rides", "spans", "start", "since", "ready", "number", "begins", "ends", "leaves", "comes", "moment"] ["rides", "spans", "start", "since"] (defScope s_soonest) := ⟨rfl, rfl, rfl, by decide +kernel, rfl, by decide +kernel, by decide +kernel⟩
set_option maxHeartbeats 4000000 in
theorem ok_soonest  (T : Txt K mg f_soonest f_no_way f_bars f_ready_by f_Ldraws f_Lsame f_Lnames f_Lworld f_Ltrip f_Lbars f_Lbent f_law) {c : Addr} (F : FunC K "soonest" "soonest" s_soonest f_soonest fd_soonest c) (hc : PySem.W.codeHdIn K c Pt = true) (BM : Bm base mg) (Gready_by : FnOk P w K mg base CX0 1 f_ready_by fd_ready_by ["moments", "place", "moment"] spReady) (Bready_by : Binds K fd_ready_by ["moments", "place", "moment"] []) : FnOk P w K mg base CX0 2 f_soonest fd_soonest ["rides", "spans", "start", "since"] (spSoon K Pt) := by
  obtain ⟨t_LEAVES, e_LEAVES⟩ := T.c_LEAVES
  refine F.ok sc_soonest (fun vs H Q E h => ?_) (fun A outer s H vs Q E hr h => ?_)
  · obtain ⟨pr, ps, xs, kvs, ds, ns, st, si, rfl, _⟩ := h
    rfl
  obtain ⟨pr, ps, xs, kvs, ds, ns, st, si, rfl, hpr, hps, rw_, l64, G, n5, hst, hds, tab, k⟩ := h
  have hu := hu_of hr
  refine ⟨_,
    (pss_cons (ps_set (i := 4) sc_soonest.nd rfl (by first | exact Or.inl rfl | exact Or.inr rfl) (pe_disp (pps_cons (pv 2) (pv 3) pps_nil) rfl rfl (by intro z; cases z) (by show 1 ≤ 15; decide)))
    (pss_cons (ps_for PassesOwn.never rfl (pi_list (pe_sortL (ix := 3) hr rfl T.b_sorted (pv 0) rfl hc BM e_LEAVES)) (pg_tup rfl (pgs_cons (pg_name (i := 5) sc_soonest.nd rfl (by first | exact Or.inl rfl | exact Or.inr rfl)) (pgs_cons (pg_name (i := 6) sc_soonest.nd rfl (by first | exact Or.inl rfl | exact Or.inr rfl)) (pgs_cons (pg_name (i := 7) sc_soonest.nd rfl (by first | exact Or.inl rfl | exact Or.inr rfl)) (pgs_cons (pg_name (i := 8) sc_soonest.nd rfl (by first | exact Or.inl rfl | exact Or.inr rfl)) (pgs_cons (pg_name (i := 9) sc_soonest.nd rfl (by first | exact Or.inl rfl | exact Or.inr rfl)) pgs_nil))))))
    (pss_one (ps_if (pt_val (pe_call Gready_by hr rfl T.m_ready_by T.k_ready_by Bready_by .nil pass0 (pa_cons (pv 4) (pa_cons (pv 6) (pa_cons (pv 8) pa_nil)))))
    (pss_cons (ps_set (i := 10) sc_soonest.nd rfl (by first | exact Or.inl rfl | exact Or.inr rfl) (pe_op op_add (pv 9) (pe_dget hu (pv 1) (pv 7) (fun _ _ => rfl))))
    (pss_one (ps_if (pt_not (pt_val (pe_call Gready_by hr rfl T.m_ready_by T.k_ready_by Bready_by .nil pass0 (pa_cons (pv 4) (pa_cons (pv 7) (pa_cons (pv 10) pa_nil))))))
    (pss_one (ps_dput hu (pv 4) (pv 7) (pv 10) rfl))
    pss_nil)))
    pss_nil)))
    (pss_one (ps_ret (pe_callB (call_sortedItems rfl) rfl T.b_sorted bt_sorted (pa_cons (pe_bm0 PySem.F.plainAttrs_dict PySem.F.slot_dict_items PySem.F.type_dict_items mt_items (pv 4)) pa_nil)))))), ?_⟩
  intro pd npd
  refine ⟨_, rfl, _, rfl, upd_same, [((Sum.inr st : Key), V.int si)], rfl, (by show 1 ≤ 15; decide), ?_⟩
  have e0 : upd (upd H pd (.dK [])) pd (.dK (mergeK [] [((Sum.inr st : Key), V.int si)])) = upd H pd (.dK (toDK [(st, si)])) := by
    funext b
    by_cases hb : b = pd
    · subst hb; rw [upd_same, upd_same]; rfl
    · rw [upd_ne hb, upd_ne hb, upd_ne hb]
  rw [e0]
  have t1 := same_new npd (.dK (toDK [(st, si)]))
  have lds : (ds.map (·.l)).length = xs.length := by rw [List.length_map, paired_len rw_]
  refine ⟨_, rfl, pr, xs, ds.map (·.l), rfl, SqL.of (t1 _ _ hpr), l64, lds, ?items, tab.mono t1, ?_⟩
  case items =>
    intro i x kk hx hk
    obtain ⟨d, hd, q, e, g, _⟩ := paired_at rw_ hx
    rw [List.getElem?_map, hd] at hk
    cases hk
    exact ⟨q, _, e, t1 _ _ g, rfl⟩
  intro D out H2 s2 tab2 nD hD ko
  obtain ⟨ds', rw', pm, pw⟩ := kout_rides (paired_mono (fun _ _ r => r.mono t1) rw_) ko
  have rw2 : Rw H2 kvs out ds' := paired_mono (fun _ _ r => r.saT s2) rw'
  have hpd2 : H2 pd = some (.dK (toDK [(st, si)])) := s2.keep _ _ upd_same rfl
  have hps2 : H2 ps = some (.dK kvs) := s2.keep _ _ (t1 _ _ hps) rfl
  have nps : ps ≠ pd := ne_of_none hps npd
  have nDp : D ≠ pd := ne_of hD hpd2 fun z => nomatch z
  have S02 : SaT H H2 := (SaT.of t1).trans s2
  have pmem : ∀ d, d ∈ ds' ↔ d ∈ ds := fun d => pm.mem_iff
  refine ⟨D, rfl, ⟨_, SqL.of hD⟩, for_list (xs := out) (fun i σ H3 => ∃ (ms : List (Str × Int)) (u1 u2 u3 u4 u5 u6 : Option V), σ = [some (.ref pr), some (.ref ps), some (.str st), some (.int si), some (.ref pd), u1, u2, u3, u4, u5, u6] ∧ H3 pd = some (.dK (toDK ms)) ∧ Sx pd H2 H3 ∧ Soon (spn kvs) ds (ds'.take i) st si ms) ⟨[(st, si)], _, _, _, _, _, _, rfl, hpd2, Sx.refl, by rw [List.take_zero]; exact Soon.nil⟩ ?_ ?_ ?_⟩
  · rintro i σ H3 hi ⟨ms, u1, u2, u3, u4, u5, u6, rfl, hp3, sx, S⟩
    exact SqL.of (sx _ _ nDp hD)
  · rintro i x σ H3 hx ⟨ms, u1, u2, u3, u4, u5, u6, rfl, hp3, sx, S⟩
    obtain ⟨d, hd, r⟩ := paired_at rw2 hx
    obtain ⟨q, rfl, g, v⟩ := r.sx sx hpd2
    have md : d ∈ ds := (pmem d).mp (List.mem_of_getElem? hd)
    have et : ds'.take (i + 1) = ds'.take i ++ [d] := take_snoc hd
    have before : ∀ e ∈ ds'.take i, e.l ≤ d.l := fun e he => by
      obtain ⟨j, hj⟩ := List.mem_iff_getElem?.mp he
      rw [List.getElem?_take] at hj
      split at hj
      · rename_i hji
        obtain ⟨hj1, rfl⟩ := List.getElem?_eq_some_iff.mp hj
        obtain ⟨hd1, rfl⟩ := List.getElem?_eq_some_iff.mp hd
        exact List.pairwise_iff_getElem.mp pw j i hj1 hd1 hji
      · cases hj
    have len5 : ms.length ≤ 5 := Nat.le_trans (S.small hst hds) n5
    refine ⟨q, _, rfl, SqT.of g, rfl, _, _, rfl, _, _, rfl, _, _, rfl, _, _, rfl, _, _, rfl, rfl, ?_⟩
    refine ⟨_, rfl, _, rfl, _, rfl, pd, ms, _, _, rfl, hp3, _, rfl, ?_⟩
    cases h1 : rdy ms d.a d.l with
    | false =>
      refine iteN (by decide) ⟨ms, _, _, _, _, _, _, rfl, hp3, sx, ?_⟩
      rw [et]
      exact S.skip fun z => absurd z (by rw [h1]; decide)
    | true =>
      refine iteP rfl ?_
      refine ⟨_, rfl, _, rfl, _, rfl, ps, _, rfl, v ▸ DGet.k (k := Sum.inr d.b) (sx _ _ nps hps2), _, _, rfl, rfl, ?_⟩
      refine ⟨_, rfl, _, rfl, _, rfl, pd, ms, _, _, rfl, hp3, _, rfl, ?_⟩
      cases h2 : rdy ms d.b (d.c + spn kvs d.b) with
      | true =>
        refine iteN (by decide) ⟨ms, _, _, _, _, _, _, rfl, hp3, sx, ?_⟩
        rw [et]
        exact S.skip fun _ => h2
      | false =>
        refine iteP rfl ⟨_, rfl, _, rfl, _, rfl, pd, _, rfl, DPut.k (k := Sum.inr d.b) hp3 (small1000 (by rw [toDK, List.length_map]; omega)), ?_⟩
        rw [putK_toDK]
        refine ⟨_, _, _, _, _, _, _, rfl, upd_same, sx.put _, ?_⟩
        rw [et]
        exact S.step G md before h1 h2
  · rintro σ H3 ⟨ms, u1, u2, u3, u4, u5, u6, rfl, hp3, sx, S⟩
    have ef : ds'.take out.length = ds' := by rw [paired_len rw2, List.take_length]
    rw [ef] at S
    have len5 : ms.length ≤ 5 := Nat.le_trans (S.small hst hds) n5
    refine ⟨_, rfl, .inr (.inr (.inl ⟨rfl, .inl ⟨_, hp3⟩⟩)), pd, _, rfl, rfl, hp3, fun v nv => ?_⟩
    have tv := same_new nv (ViewAt v pd)
    refine ⟨v, pd, ms, rfl, upd_same, tv _ _ hp3, len5, fun l o qs H4 s4 nl opm opw hl lq its => ?_⟩
    have S3 : SaT H H3 := S02.sx sx npd
    have S4 : SaT H H4 := (S3.trans (SaT.of tv)).trans (SaT.of s4)
    have tab4 := ((tab2.sx sx hpd2).mono tv).mono s4
    exact k l o qs H4 S4 tab4 ((S3.trans (SaT.of tv)).free nl) opw hl lq its fun x m => by rw [opm.mem_iff]; exact S.least G fun d hd => (pmem d).mpr hd
theorem sc_no_way : FnScope ["rides", "spans", "start", "goal", "since", "paper"] ["rides", "spans", "start", "goal", "since"] (defScope s_no_way) := ⟨rfl, rfl, rfl, by decide +kernel, rfl, by decide +kernel, by decide +kernel⟩
set_option maxHeartbeats 4000000 in
theorem ok_no_way  (T : Txt K mg f_soonest f_no_way f_bars f_ready_by f_Ldraws f_Lsame f_Lnames f_Lworld f_Ltrip f_Lbars f_Lbent f_law) (F : Fun K "no_way" "no_way" s_no_way f_no_way fd_no_way) (Gsoonest : FnOk P w K mg base CX0 2 f_soonest fd_soonest ["rides", "spans", "start", "since"] (spSoon K Pt)) (Bsoonest : Binds K fd_soonest ["rides", "spans", "start", "since"] []) : FnOk P w K mg base CX0 3 f_no_way fd_no_way ["rides", "spans", "start", "goal", "since"] (spNoWay K Pt) := by
  refine F.ok sc_no_way (fun vs H Q E h => ?_) (fun cdv A outer s H vs Q E hr h => ?_)
  · obtain ⟨pr, ps, xs, kvs, ds, ns, st, go, si, rfl, _⟩ := h
    rfl
  obtain ⟨pr, ps, xs, kvs, ds, ns, st, go, si, rfl, hpr, hps, rw_, l64, G, n5, hst, hds, tab, k⟩ := h
  have hu := hu_of hr
  refine ⟨_,
    (pss_cons (ps_set (i := 5) sc_no_way.nd rfl (by first | exact Or.inl rfl | exact Or.inr rfl) (pe_call Gsoonest hr rfl T.m_soonest T.k_soonest Bsoonest .nil pass0 (pa_cons (pv 0) (pa_cons (pv 1) (pa_cons (pv 2) (pa_cons (pv 4) pa_nil))))))
    (pss_cons (ps_if (pt_cmpR op_in_seq (pv 3) (pe_comp (T := ["place", "moment"]) (caps := []) (ix := []) (compOk rfl (by rfl) (by decide +kernel) (by decide +kernel) rfl (by intro x hx; repeat (first | (rcases List.mem_cons.mp hx with rfl | hx; · exact ⟨rfl, rfl, rfl⟩) | exact absurd hx (List.not_mem_nil))) (by rfl) (by intro x hx; repeat (first | (rcases List.mem_cons.mp hx with rfl | hx; · rfl) | exact absurd hx (List.not_mem_nil)))) rfl (pi_list (pv 5)) (fun _ _ _ _ => (pg_tupK (n := 2) K rfl rfl (pgs_cons (pg_name (i := 0) (by show (["place", "moment"] : List Str).Nodup; decide +kernel) rfl (by first | exact Or.inl rfl | exact Or.inr rfl)) (pgs_cons (pg_name (i := 1) (by show (["place", "moment"] : List Str).Nodup; decide +kernel) rfl (by first | exact Or.inl rfl | exact Or.inr rfl)) pgs_nil)))) (fun _ _ _ _ => pts_nil) (fun _ _ _ _ => (pv 0))) rfl)
    (pss_one (ps_ret pe_non))
    pss_nil)
    (pss_one (ps_ret (pv 5))))), ?_⟩
  refine ⟨_, rfl, _, rfl, _, rfl, _, rfl, pr, ps, xs, kvs, ds, ns, st, si, rfl, hpr, hps, rw_, l64, G, n5, hst, hds, tab, fun r out qs H1 s1 tab1 nr opw hr1 lq its lst => ?_⟩
  have PO : PrsAt H1 r out qs := ⟨hr1, lq, its⟩
  have PP : Paper (spn kvs) ds st si ns out := ⟨opw, lst, hst, hds, n5⟩
  have l5 := PP.len
  refine ⟨_, rfl, _, rfl, r, rfl, ⟨_, SqL.of hr1⟩, comp_list (xs := qs.map V.ref) (fun i D2 σ' ys H2 => ∃ (v1 v2 : Option V), σ' = [v1, v2] ∧ ys = (((out.map Prod.fst).take i).map V.str) ∧ H2 D2 = some (.lst ys) ∧ Same H1 H2) (fun D2 nD2 => ⟨none, none, rfl, rfl, upd_same, same_new nD2 _⟩) ?_ ?_ ?_⟩
  · rintro i D2 σ' ys H2 hi nD2 ⟨v1, v2, rfl, rfl, hD, s2⟩
    exact ⟨SqL.of (s2 _ _ hr1), hD, small1000 (by rw [List.length_map, List.length_take, List.length_map]; omega)⟩
  · rintro i x D2 σ' ys H2 hx hlt nD2 ⟨v1, v2, rfl, rfl, hD, s2⟩
    rw [List.getElem?_map] at hx
    cases hq : qs[i]? with
    | none => rw [hq] at hx; cases hx
    | some q =>
    rw [hq] at hx
    cases hx
    have hil : i < out.length := by rw [← lq]; exact (List.getElem?_eq_some_iff.mp hq).1
    have ho : out[i]? = some out[i] := List.getElem?_eq_getElem hil
    have g := s2 _ _ (its i q _ hq ho)
    have et : (out.map Prod.fst).take (i + 1) = (out.map Prod.fst).take i ++ [out[i].1] := take_snoc (by rw [List.getElem?_map, ho]; rfl)
    refine ⟨q, _, rfl, SqT.of g, rfl, _, _, rfl, _, _, rfl, rfl, ?_⟩
    refine tallG ?_
    refine ⟨_, rfl, hD, CW.of hlt ⟨_, _, rfl, ?_, upd_same, s2.put nD2 _⟩⟩
    rw [et, List.map_append]
    rfl
  · rintro D2 ys σ' H2 nD2 ⟨v1, v2, rfl, rfl, hD, s2⟩
    have ef : (out.map Prod.fst).take (qs.map V.ref).length = out.map Prod.fst := by
      rw [List.length_map, lq]
      have : out.length = (out.map Prod.fst).length := (List.length_map _).symm
      rw [this, List.take_length]
    rw [ef] at hD
    refine ⟨D2, _, rfl, .inl (SqL.of hD), rfl, flat_strs _, ?_⟩
    have S2 := s1.trans (SaT.of s2)
    have tab2 := tab1.mono s2
    have ei : (if false = true then !inV (V.str go) ((out.map Prod.fst).map V.str) else inV (V.str go) ((out.map Prod.fst).map V.str)) = decide (go ∈ out.map Prod.fst) := by
      rw [if_neg (by decide), inV_str]
    rw [ei]
    refine ⟨_, rfl, ?_⟩
    by_cases hg' : go ∈ out.map Prod.fst
    · exact iteP (decide_eq_true hg') (k .non H2 S2 tab2 (.inl ⟨PP.key.mp hg', rfl⟩))
    · exact iteN (by rw [decide_eq_true_iff]; exact hg') ⟨_, rfl, k (.ref r) H2 S2 tab2 (.inr ⟨fun z => hg' (PP.key.mpr z), r, out, qs, rfl, nr, PO.mono s2, PP⟩)⟩
theorem sc_bars : FnScope ["rides", "spans", "start", "goal", "since", "paper", "moments", "number", "begins", "ends", "leaves", "comes"] ["rides", "spans", "start", "goal", "since", "paper"] (defScope s_bars) := ⟨rfl, rfl, rfl, by decide +kernel, rfl, by decide +kernel, by decide +kernel⟩
set_option maxHeartbeats 4000000 in
theorem ok_bars  (T : Txt K mg f_soonest f_no_way f_bars f_ready_by f_Ldraws f_Lsame f_Lnames f_Lworld f_Ltrip f_Lbars f_Lbent f_law) (F : Fun K "bars" "bars" s_bars f_bars fd_bars) (Gready_by : FnOk P w K mg base CX0 1 f_ready_by fd_ready_by ["moments", "place", "moment"] spReady) (Bready_by : Binds K fd_ready_by ["moments", "place", "moment"] []) : FnOk P w K mg base CX0 2 f_bars fd_bars ["rides", "spans", "start", "goal", "since", "paper"] (spBars K) := by
  refine F.ok sc_bars (fun vs H Q E h => ?_) (fun cdv A outer s H vs Q E hr h => ?_)
  · obtain ⟨pr, ps, pp, xs, kvs, ds, st, go, si, out, qs, rfl, _⟩ := h
    rfl
  obtain ⟨pr, ps, pp, xs, kvs, ds, st, go, si, out, qs, rfl, hpr, hps, rw_, PO, l100, k⟩ := h
  have hu := hu_of hr
  refine ⟨_,
    (pss_cons (ps_setCD (i := 6) sc_bars.nd rfl (by first | exact Or.inl rfl | exact Or.inr rfl) (T := ["place", "moment"]) (caps := []) (ix := []) (compOk rfl (by rfl) (by decide +kernel) (by decide +kernel) rfl (by intro x hx; repeat (first | (rcases List.mem_cons.mp hx with rfl | hx; · exact ⟨rfl, rfl, rfl⟩) | exact absurd hx (List.not_mem_nil))) (by rfl) (by intro x hx; repeat (first | (rcases List.mem_cons.mp hx with rfl | hx; · rfl) | exact absurd hx (List.not_mem_nil)))) rfl (pi_list (pv 5)) (fun _ _ _ _ => (pg_tupK (n := 2) K rfl rfl (pgs_cons (pg_name (i := 0) (by show (["place", "moment"] : List Str).Nodup; decide +kernel) rfl (by first | exact Or.inl rfl | exact Or.inr rfl)) (pgs_cons (pg_name (i := 1) (by show (["place", "moment"] : List Str).Nodup; decide +kernel) rfl (by first | exact Or.inl rfl | exact Or.inr rfl)) pgs_nil)))) (fun _ _ _ _ => pts_nil) hu (fun _ _ _ _ => (pv 0)) (fun _ _ _ _ => (pv 1)))
    (pss_cons (ps_if (pt_cmpR op_lt (pe_callB call_lenD rfl T.b_len bt_len (pa_cons (pv 6) pa_nil)) (pe_callB call_len_seq rfl T.b_len bt_len (pa_cons (pv 5) pa_nil)) (nomark _))
    (pss_one (ps_ret pe_bl))
    pss_nil)
    (pss_cons (ps_if (PW.pt (pw_or (pt_cmp (pc_din hu (pv 3) (pv 6))) (pw_or1 (pt_not (pt_val (pe_call Gready_by hr rfl T.m_ready_by T.k_ready_by Bready_by .nil pass0 (pa_cons (pv 6) (pa_cons (pv 2) (pa_cons (pv 4) pa_nil)))))))))
    (pss_one (ps_ret pe_bl))
    pss_nil)
    (pss_cons (ps_for PassesOwn.never rfl (pi_list (pv 0)) (pg_tup rfl (pgs_cons (pg_name (i := 7) sc_bars.nd rfl (by first | exact Or.inl rfl | exact Or.inr rfl)) (pgs_cons (pg_name (i := 8) sc_bars.nd rfl (by first | exact Or.inl rfl | exact Or.inr rfl)) (pgs_cons (pg_name (i := 9) sc_bars.nd rfl (by first | exact Or.inl rfl | exact Or.inr rfl)) (pgs_cons (pg_name (i := 10) sc_bars.nd rfl (by first | exact Or.inl rfl | exact Or.inr rfl)) (pgs_cons (pg_name (i := 11) sc_bars.nd rfl (by first | exact Or.inl rfl | exact Or.inr rfl)) pgs_nil))))))
    (pss_one (ps_if (PW.pt (pw_and (pt_val (pe_call Gready_by hr rfl T.m_ready_by T.k_ready_by Bready_by .nil pass0 (pa_cons (pv 6) (pa_cons (pv 8) (pa_cons (pv 10) pa_nil))))) (pw_and1 (pt_not (pt_val (pe_call Gready_by hr rfl T.m_ready_by T.k_ready_by Bready_by .nil pass0 (pa_cons (pv 6) (pa_cons (pv 9) (pa_cons (pe_op op_add (pv 11) (pe_dget hu (pv 1) (pv 9) (fun _ _ => rfl))) pa_nil)))))))))
    (pss_one (ps_ret pe_bl))
    pss_nil)))
    (pss_one (ps_ret pe_bl)))))), ?_⟩
  have lq := PO.len
  refine ⟨_, rfl, pp, rfl, ⟨_, SqL.of PO.hr⟩, comp_dict (xs := qs.map V.ref) (fun i D2 σ' ys H2 => ∃ (v1 v2 : Option V) (acc : List (Str × Int)), σ' = [v1, v2] ∧ ys = toDK acc ∧ H2 D2 = some (.dK ys) ∧ Same H H2 ∧ Made (out.take i) acc) (fun D2 nD2 => ⟨none, none, [], rfl, rfl, upd_same, same_new nD2 _, by rw [List.take_zero]; exact Made.nil⟩) ?_ ?_ ?_⟩
  · rintro i D2 σ' ys H2 hi nD2 ⟨v1, v2, acc, rfl, rfl, hD, s2, M⟩
    have ml := M.len
    exact ⟨SqL.of (s2 _ _ PO.hr), hD, small1000 (by rw [toDK, List.length_map]; rw [List.length_take] at ml; omega)⟩
  · rintro i x D2 σ' ys H2 hx hlt nD2 ⟨v1, v2, acc, rfl, rfl, hD, s2, M⟩
    rw [List.getElem?_map] at hx
    cases hq : qs[i]? with
    | none => rw [hq] at hx; cases hx
    | some q =>
    rw [hq] at hx
    cases hx
    have hil : i < out.length := by rw [← lq]; exact (List.getElem?_eq_some_iff.mp hq).1
    have ho : out[i]? = some out[i] := List.getElem?_eq_getElem hil
    have g := s2 _ _ (PO.at' i q _ hq ho)
    refine ⟨q, _, rfl, SqT.of g, rfl, _, _, rfl, _, _, rfl, rfl, ?_⟩
    refine tallG ?_
    refine ⟨_, rfl, _, rfl, Sum.inr out[i].1, rfl, hD, CWD.of hlt ⟨_, _, putS acc out[i].1 out[i].2, rfl, putK_toDK _ _ _, upd_same, s2.put nD2 _, ?_⟩⟩
    rw [take_snoc ho]
    exact M.snoc
  · rintro D2 ys σ' H2 nD2 ⟨v1, v2, acc, rfl, rfl, hD, s2, M⟩
    have ef : out.take (qs.map V.ref).length = out := by rw [List.length_map, lq, List.take_length]
    rw [ef] at M
    refine ⟨_, rfl, D2, _, rfl, hD, _, rfl, pp, _, rfl, .inl (SqL.of (s2 _ _ PO.hr)), _, _, rfl, rfl, _, rfl, ?_⟩
    by_cases nd : (out.map Prod.fst).Nodup
    · have ea := M.all nd
      subst ea
      refine iteN (by rw [decide_eq_true_iff, toDK, List.length_map, List.length_map, lq]; exact Int.lt_irrefl _) ?_
      refine ⟨_, rfl, _, rfl, D2, _, rfl, DGet.k (k := Sum.inr go) hD, _, rfl, ?_⟩
      rw [look_key]
      by_cases hg' : go ∈ acc.map Prod.fst
      · exact iteP (decide_eq_true hg') (k false H2 s2 ⟨(fun z => nomatch z), fun B => absurd hg' B.ng⟩)
      · refine iteN (by rw [decide_eq_true_iff]; exact hg') ?_
        refine ⟨_, rfl, _, rfl, _, rfl, D2, acc, _, _, rfl, hD, _, rfl, ?_⟩
        cases h0 : rdy acc st si with
        | false => exact iteP rfl (k false H2 s2 ⟨(fun z => nomatch z), fun B => absurd B.st0 (by rw [h0]; decide)⟩)
        | true =>
          refine iteN (by decide) ?_
          refine ⟨_, rfl, pr, rfl, ⟨_, SqL.of (s2 _ _ hpr)⟩, for_list (xs := xs) (fun j σ H3 => ∃ (u1 u2 u3 u4 u5 : Option V), σ = [some (.ref pr), some (.ref ps), some (.str st), some (.str go), some (.int si), some (.ref pp), some (.ref D2), u1, u2, u3, u4, u5] ∧ H3 = H2 ∧ ∀ jj, jj < j → ∀ d, ds[jj]? = some d → rdy acc d.a d.l = true → rdy acc d.b (d.c + spn kvs d.b) = true) ⟨_, _, _, _, _, rfl, rfl, fun jj h => absurd h (Nat.not_lt_zero _)⟩ ?_ ?_ ?_⟩
          · rintro j σ H3 hj ⟨u1, u2, u3, u4, u5, rfl, rfl, cl⟩
            exact SqL.of (s2 _ _ hpr)
          · rintro j x σ H3 hx ⟨u1, u2, u3, u4, u5, rfl, rfl, cl⟩
            obtain ⟨d, hd, rdx⟩ := paired_at rw_ hx
            have md : d ∈ ds := List.mem_of_getElem? hd
            obtain ⟨q, rfl, g, v⟩ := rdx.mono s2
            have next : (rdy acc d.a d.l = true → rdy acc d.b (d.c + spn kvs d.b) = true) → ∀ jj, jj < j + 1 → ∀ d, ds[jj]? = some d → rdy acc d.a d.l = true → rdy acc d.b (d.c + spn kvs d.b) = true := fun h jj hjj d' hd' => by
              by_cases e : jj = j
              · subst e
                rw [hd] at hd'
                cases hd'
                exact h
              · exact cl jj (by omega) d' hd'
            refine ⟨q, _, rfl, SqT.of g, rfl, _, _, rfl, _, _, rfl, _, _, rfl, _, _, rfl, _, _, rfl, rfl, ?_⟩
            refine ⟨_, rfl, _, rfl, _, rfl, D2, acc, _, _, rfl, hD, _, rfl, ?_⟩
            cases h1 : rdy acc d.a d.l with
            | false => exact iteN (by decide) ⟨_, _, _, _, _, rfl, rfl, next fun z => absurd z (by rw [h1]; decide)⟩
            | true =>
              refine iteP rfl ?_
              refine ⟨_, rfl, _, rfl, _, rfl, _, rfl, _, rfl, ps, _, rfl, v ▸ DGet.k (k := Sum.inr d.b) (s2 _ _ hps), _, _, rfl, rfl, D2, acc, _, _, rfl, hD, _, rfl, ?_⟩
              cases h2 : rdy acc d.b (d.c + spn kvs d.b) with
              | false => exact iteP rfl (k false H3 s2 ⟨(fun z => nomatch z), fun B => absurd (B.cl d md h1) (by rw [h2]; decide)⟩)
              | true => exact iteN (by decide) ⟨_, _, _, _, _, rfl, rfl, next fun _ => h2⟩
          · rintro σ H3 ⟨u1, u2, u3, u4, u5, rfl, rfl, cl⟩
            refine k true H3 s2 ⟨fun _ => ⟨nd, hg', h0, fun d hd => ?_⟩, fun _ => rfl⟩
            obtain ⟨j, hj⟩ := List.mem_iff_getElem?.mp hd
            exact cl j (by rw [paired_len rw_]; exact (List.getElem?_eq_some_iff.mp hj).1) d hj
    · have sh := M.short nd
      exact iteP (by rw [decide_eq_true_iff, toDK, List.length_map, List.length_map, lq]; omega) (k false H2 s2 ⟨(fun z => nomatch z), fun B => absurd B.nd nd⟩)
theorem sc_ready_by : FnScope ["moments", "place", "moment"] ["moments", "place", "moment"] (defScope s_ready_by) := ⟨rfl, rfl, rfl, by decide +kernel, rfl, by decide +kernel, by decide +kernel⟩
set_option maxHeartbeats 4000000 in
theorem ok_ready_by  (T : Txt K mg f_soonest f_no_way f_bars f_ready_by f_Ldraws f_Lsame f_Lnames f_Lworld f_Ltrip f_Lbars f_Lbent f_law) (F : Fun K "ready_by" "ready_by" s_ready_by f_ready_by fd_ready_by) : FnOk P w K mg base CX0 1 f_ready_by fd_ready_by ["moments", "place", "moment"] spReady := by
  refine F.ok sc_ready_by (fun vs H Q E h => ?_) (fun cdv A outer s H vs Q E hr h => ?_)
  · obtain ⟨p, ps, x, m, rfl, _⟩ := h
    rfl
  obtain ⟨p, ps, x, m, rfl, hp, k⟩ := h
  have hu := hu_of hr
  refine ⟨_,
    (pss_one (ps_ret (pe_and (pe_cmp (pc_din hu (pv 1) (pv 0)) rfl) (pe_one (pe_cmpR op_le (pe_dget hu (pv 0) (pv 1) (fun _ _ => rfl)) (pv 2) (nomark _)))))), ?_⟩
  refine ⟨_, rfl, _, rfl, p, _, rfl, DGet.k (k := Sum.inr x) hp, ?_⟩
  cases e : ps.lookup x with
  | none =>
    have e1 : valV (toDK ps) (Sum.inr x : Key) = none := by rw [valV_toDK, e]; rfl
    rw [e1]
    refine ⟨_, rfl, ?_⟩
    refine iteN (by decide) ?_
    have : rdy ps x m = false := by unfold rdy; rw [e]
    rw [this] at k
    exact k
  | some z =>
    have e1 : valV (toDK ps) (Sum.inr x : Key) = some (.int z) := by rw [valV_toDK, e]; rfl
    rw [e1]
    refine ⟨_, rfl, ?_⟩
    refine iteP rfl ?_
    have : rdy ps x m = decide (z ≤ m) := by unfold rdy; rw [e]
    rw [this] at k
    exact ⟨_, rfl, _, rfl, p, _, rfl, e1 ▸ DGet.k (k := Sum.inr x) hp, _, rfl, _, _, rfl, rfl, k⟩
theorem sc_Ldraws : FnScope ["_law_script", "_law_at", "_law_many", "_law_cell", "_law_seed", "_law_row", "_law_mark"] ["_law_script", "_law_at", "_law_many"] (defScope s_Ldraws) := ⟨rfl, rfl, rfl, by decide +kernel, rfl, by decide +kernel, by decide +kernel⟩
set_option maxHeartbeats 4000000 in
theorem ok_Ldraws  (T : Txt K mg f_soonest f_no_way f_bars f_ready_by f_Ldraws f_Lsame f_Lnames f_Lworld f_Ltrip f_Lbars f_Lbent f_law) (F : Fun K "_law_draws" "_law_draws" s_Ldraws f_Ldraws fd_Ldraws) : FnOk P w K mg base CX0 1 f_Ldraws fd_Ldraws ["_law_script", "_law_at", "_law_many"] (spDraws K) := by
  refine F.ok sc_Ldraws (fun vs H Q E h => ?_) (fun cdv A outer s H vs Q E hr h => ?_)
  · obtain ⟨a, ns, j, m, rfl, _⟩ := h
    rfl
  obtain ⟨a, ns, j, m, rfl, hS, h63, j0, j1, m1, k⟩ := h
  refine ⟨_,
    (pss_cons (ps_set (i := 3) sc_Ldraws.nd rfl (by first | exact Or.inl rfl | exact Or.inr rfl) (pe_op op_add (pe_op op_mul pe_int (pv 1)) pe_int))
    (pss_cons (ps_if (pt_cmpR op_lt (pv 1) (pe_callB call_len_seq rfl T.b_len bt_len (pa_cons (pv 0) pa_nil)) (nomark _))
    (pss_one (ps_set (i := 3) sc_Ldraws.nd rfl (by first | exact Or.inl rfl | exact Or.inr rfl) (pe_ix ix_list (pv 0) (pv 1) (fun _ _ => rfl))))
    (pss_one (ps_if (pt_cmpR op_gt (pe_callB call_len_seq rfl T.b_len bt_len (pa_cons (pv 0) pa_nil)) pe_int (nomark _))
    (pss_one (ps_set (i := 3) sc_Ldraws.nd rfl (by first | exact Or.inl rfl | exact Or.inr rfl) (pe_op op_add (pe_op op_add (pe_op op_mod (pe_ix ix_list (pv 0) (pe_op op_mod (pv 1) (pe_callB call_len_seq rfl T.b_len bt_len (pa_cons (pv 0) pa_nil))) (fun _ _ => rfl)) pe_int) (pe_op op_mul (pe_op op_mul (pv 1) (pv 1)) pe_int)) pe_int)))
    pss_nil)))
    (pss_cut (R := fun D σ H1 => ∃ c : Int, σ = [some (.ref a), some (.int j), some (.int m), some (.int c), none, none, none] ∧ H1 = H ∧ D.rt = Q) (pss_cons (ps_set (i := 4) sc_Ldraws.nd rfl (by first | exact Or.inl rfl | exact Or.inr rfl) (pe_op op_add (pe_op op_add (pe_op op_mod (pv 3) pe_int) (pe_op op_mul pe_int (pv 1))) pe_int))
    (pss_cons (ps_set (i := 5) sc_Ldraws.nd rfl (by first | exact Or.inl rfl | exact Or.inr rfl) (pe_lst pa_nil))
    (pss_cons (ps_if (pt_cmpR op_ge (pv 3) (pe_op op_pow pe_int pe_int) (nomark _))
    (pss_one (ps_while PassesOwn.never (PW.pt (pw_and (pt_cmpR op_gt (pv 3) pe_int (nomark _)) (pw_and1 (pt_cmpR op_lt (pe_callB call_len_seq rfl T.b_len bt_len (pa_cons (pv 5) pa_nil)) (pv 2) (nomark _)))))
    (pss_cons (ps_expr (pe_bm PySem.F.plainAttrs_list PySem.F.slot_list_append PySem.F.type_list_append mt_append (pv 5) (pa_cons (pe_op op_mod (pv 3) pe_int) pa_nil)))
    (pss_one (ps_set (i := 3) sc_Ldraws.nd rfl (by first | exact Or.inl rfl | exact Or.inr rfl) (pe_op op_fdiv (pv 3) pe_int))))))
    pss_nil)
    (pss_cut (R := fun D σ H1 => ∃ (c sd : Int) (r : Addr) (ds : List Int) (mk : Option V), σ = [some (.ref a), some (.int j), some (.int m), some (.int c), some (.int sd), some (.ref r), mk] ∧ H r = none ∧ H1 r = some (.lst (ds.map V.int)) ∧ Same H H1 ∧ Bd ds ∧ ds.length ≤ m ∧ D.rt = Q) (pss_cons (ps_while PassesOwn.never (pt_cmpR op_lt (pe_callB call_len_seq rfl T.b_len bt_len (pa_cons (pv 5) pa_nil)) (pv 2) (nomark _))
    (pss_cons (ps_set (i := 6) sc_Ldraws.nd rfl (by first | exact Or.inl rfl | exact Or.inr rfl) (pe_op op_add (pe_callB call_len_seq rfl T.b_len bt_len (pa_cons (pv 5) pa_nil)) pe_int))
    (pss_cons (ps_set (i := 4) sc_Ldraws.nd rfl (by first | exact Or.inl rfl | exact Or.inr rfl) (pe_op op_mod (pe_op op_add (pe_op op_add (pe_op op_mul (pv 4) pe_int) (pe_op op_mul (pe_op op_mul (pv 6) (pv 6)) pe_int)) pe_int) pe_int))
    (pss_one (ps_expr (pe_bm PySem.F.plainAttrs_list PySem.F.slot_list_append PySem.F.type_list_append mt_append (pv 5) (pa_cons (pe_op op_mod (pe_op op_mod (pe_op op_mul (pe_op op_mod (pv 4) pe_int) (pe_op op_add (pe_op op_mod (pe_op op_fdiv (pv 4) pe_int) pe_int) pe_int)) pe_int) pe_int) pa_nil)))))))
    (pss_one (ps_ret (pv 5)))) ?c2)))) ?c1))), ?_⟩
  case c1 =>
    rintro D σ H1 ⟨c, rfl, rfl, hD⟩
    refine ⟨_, rfl, _, _, rfl, rfl, (by show (0 : Int) < 999983; decide), _, rfl, _, _, rfl, rfl, .inl ⟨by decide, by decide⟩, _, _, rfl, rfl, _, _, rfl, rfl, ?_⟩
    refine ⟨(by show 0 ≤ sizeLine; decide), fun r nr => ?_⟩
    refine ⟨_, rfl, _, _, rfl, rfl, ⟨by decide, by decide, by decide⟩, _, _, rfl, rfl, _, rfl, ?_⟩
    have s1 : Same H1 (upd H1 r (.lst [])) := same_new nr _
    refine ite2 (fun _ => ?_) (fun _ => ?_)
    · refine ⟨fun n σ H2 => ∃ (c sd : Int) (ds : List Int), n + ds.length = m ∧ σ = [some (.ref a), some (.int j), some (.int m), some (.int c), some (.int sd), some (.ref r), none] ∧ H2 r = some (.lst (ds.map V.int)) ∧ Same H1 H2 ∧ Bd ds, ⟨m, c, _, [], by simp, rfl, upd_same, s1, Bd.nil⟩, ?_⟩
      rintro n σ H2 ⟨c2, sd2, ds, hn, rfl, hr2, s2, hb⟩
      refine ⟨_, rfl, _, _, rfl, rfl, _, rfl, ?_⟩
      refine ite2 (fun _ => ?_) (fun _ => ?_)
      · refine ⟨_, rfl, _, _, rfl, .inl (SqL.of hr2), _, rfl, _, _, rfl, rfl, _, rfl, ?_⟩
        refine ite2 (fun hc => ?_) (fun _ => ?_)
        · have hc' := of_decide_eq_true hc
          rw [List.length_map] at hc'
          refine ⟨fun σ' H' => ∃ (c sd : Int) (ds : List Int), (n - 1) + ds.length = m ∧ σ' = [some (.ref a), some (.int j), some (.int m), some (.int c), some (.int sd), some (.ref r), none] ∧ H' r = some (.lst (ds.map V.int)) ∧ Same H1 H' ∧ Bd ds, fun σ' H' q => ⟨n - 1, by omega, q⟩, ?_⟩
          refine ⟨_, rfl, .inl ⟨rfl, _, SqL.of hr2⟩, _, rfl, _, _, rfl, rfl, (by show (0 : Int) < 1013; decide), r, _, _, rfl, rfl, hr2, small1000 (by rw [List.length_map]; omega), ?_⟩
          refine ⟨_, rfl, _, _, rfl, rfl, ⟨by decide, by decide⟩, ?_⟩
          refine ⟨_, _, ds ++ [c2 % 1013], by rw [List.length_append, List.length_singleton]; omega, rfl, ?_, s2.put nr _, hb.snoc (Int.emod_nonneg _ (by decide)) (Int.emod_lt_of_pos _ (by decide))⟩
          rw [upd_same, List.map_append]
          rfl
        · exact ⟨c2, sd2, r, ds, none, rfl, nr, hr2, s2, hb, by omega, hD⟩
      · refine iteF ?_
        exact ⟨c2, sd2, r, ds, none, rfl, nr, hr2, s2, hb, by omega, hD⟩
    · exact ⟨c, _, r, [], none, rfl, nr, upd_same, s1, Bd.nil, Nat.zero_le _, hD⟩
  case c2 =>
    rintro D σ H1 ⟨c, sd, r, ds, mk, rfl, nr, hr1, s1, hb, hl, hD⟩
    refine ⟨fun n σ H2 => ∃ (sd : Int) (ds : List Int) (mk : Option V), n + ds.length = m ∧ σ = [some (.ref a), some (.int j), some (.int m), some (.int c), some (.int sd), some (.ref r), mk] ∧ H2 r = some (.lst (ds.map V.int)) ∧ Same H H2 ∧ Bd ds, ⟨m - ds.length, sd, ds, mk, by omega, rfl, hr1, s1, hb⟩, ?_⟩
    rintro n σ H2 ⟨sd2, ds2, mk2, hn, rfl, hr2, s2, hb2⟩
    refine ⟨_, rfl, _, _, rfl, .inl (SqL.of hr2), _, rfl, _, _, rfl, rfl, _, rfl, ?_⟩
    refine ite2 (fun hc => ?_) (fun hc => ?_)
    · have hc' := of_decide_eq_true hc
      rw [List.length_map] at hc'
      refine ⟨fun σ' H' => ∃ (sd : Int) (ds : List Int) (mk : Option V), (n - 1) + ds.length = m ∧ σ' = [some (.ref a), some (.int j), some (.int m), some (.int c), some (.int sd), some (.ref r), mk] ∧ H' r = some (.lst (ds.map V.int)) ∧ Same H H' ∧ Bd ds, fun σ' H' q => ⟨n - 1, by omega, q⟩, ?_⟩
      refine ⟨_, rfl, _, _, rfl, .inl (SqL.of hr2), _, _, rfl, rfl, ?_⟩
      have el : (((ds2.map V.int).length : Nat) : Int) = (ds2.length : Int) := by rw [List.length_map]
      rw [el]
      refine ⟨_, rfl, _, _, rfl, rfl, .inr ⟨by decide, by decide⟩, _, rfl, _, rfl, _, _, rfl, rfl, .inl ⟨by omega, by omega⟩, _, _, rfl, rfl, .inr ⟨by decide, by decide⟩, _, _, rfl, rfl, _, _, rfl, rfl, _, _, rfl, rfl, (by show (0 : Int) < 2147483647; decide), ?_⟩
      let sd3 : Int := (sd2 * 48271 + ((ds2.length : Int) + 1) * ((ds2.length : Int) + 1) * 6133 + 17) % 2147483647
      refine ⟨_, rfl, .inl ⟨rfl, _, SqL.of hr2⟩, _, rfl, _, _, rfl, rfl, (by show (0 : Int) < 65521; decide), _, rfl, _, _, rfl, rfl, ⟨by decide, by decide⟩, _, _, rfl, rfl, (by show (0 : Int) < 32749; decide), _, _, rfl, rfl, _, _, rfl, rfl, .inl ⟨?m1, ?m2⟩, _, _, rfl, rfl, (by show (0 : Int) < 1000003; decide), _, _, rfl, rfl, (by show (0 : Int) < 1013; decide), r, _, _, rfl, rfl, hr2, small1000 (by rw [List.length_map]; omega), ?_⟩
      case m1 => exact Int.lt_of_lt_of_le (by decide) (Int.emod_nonneg _ (by decide))
      case m2 => exact Int.lt_trans (Int.emod_lt_of_pos _ (by decide)) (by decide)
      refine ⟨_, ds2 ++ [sd3 % 65521 * (sd3 / 65521 % 32749 + 1) % 1000003 % 1013], _, by rw [List.length_append, List.length_singleton]; omega, rfl, ?_, s2.put nr _, hb2.snoc (Int.emod_nonneg _ (by decide)) (Int.emod_lt_of_pos _ (by decide))⟩
      rw [upd_same, List.map_append]
      rfl
    · have hc' := of_decide_eq_false (Bool.eq_false_iff.mpr hc)
      rw [List.length_map] at hc'
      refine ⟨_, rfl, ?_⟩
      rw [hD]
      exact k r ds2 H2 s2 nr hr2 (by omega) hb2
  have hl : (ns.map V.int).length = ns.length := List.length_map _
  refine ⟨_, rfl, _, _, rfl, rfl, .inl ⟨by decide, by decide⟩, _, _, rfl, rfl, ?_⟩
  refine ⟨_, rfl, _, rfl, _, _, rfl, .inl hS, _, _, rfl, rfl, _, rfl, ?_⟩
  refine ite2 (fun hc => ?_) (fun hc => ?_)
  · have hc' := of_decide_eq_true hc
    rw [hl] at hc'
    obtain ⟨z, hz, _⟩ := pickI (xs := ns.map V.int) (i := j) (by rw [List.all_map]; exact List.all_eq_true.mpr fun _ _ => rfl) j0 (by omega)
    exact ⟨_, rfl, _, rfl, _, _, _, _, rfl, rfl, hS, hz, z, rfl, rfl, rfl⟩
  · refine ⟨_, rfl, _, _, rfl, .inl hS, _, _, rfl, rfl, _, rfl, ?_⟩
    refine ite2 (fun hc2 => ?_) (fun _ => ?_)
    · have hc2' := of_decide_eq_true hc2
      rw [hl] at hc2'
      obtain ⟨z, hz, _⟩ := pickI (xs := ns.map V.int) (i := j % (ns.length : Int)) (by rw [List.all_map]; exact List.all_eq_true.mpr fun _ _ => rfl) (Int.emod_nonneg _ (by omega)) (by rw [hl]; exact Int.emod_lt_of_pos _ (by omega))
      rw [← hl] at hz
      exact ⟨_, rfl, _, rfl, _, rfl, _, _, rfl, .inl hS, _, _, rfl, rfl, (by rw [hl]; exact hc2'), _, _, _, _, rfl, rfl, hS, hz, _, _, rfl, rfl, (by show (0 : Int) < 999983; decide), _, rfl, _, rfl, _, _, rfl, rfl, .inl ⟨by omega, by omega⟩, _, _, rfl, rfl, .inr ⟨by decide, by decide⟩, _, _, rfl, rfl, _, _, rfl, rfl, _, rfl, rfl, rfl⟩
    · exact ⟨_, rfl, rfl, rfl⟩
theorem sc_Lsame : FnScope ["_law_found", "_law_due", "_law_k"] ["_law_found", "_law_due"] (defScope s_Lsame) := ⟨rfl, rfl, rfl, by decide +kernel, rfl, by decide +kernel, by decide +kernel⟩
set_option maxHeartbeats 4000000 in
theorem ok_Lsame {n : Nat} (T : Txt K mg f_soonest f_no_way f_bars f_ready_by f_Ldraws f_Lsame f_Lnames f_Lworld f_Ltrip f_Lbars f_Lbent f_law) (F : Fun K "_law_same" "_law_same" s_Lsame f_Lsame fd_Lsame) (GLsame : FnOk P w K mg base CX0 n f_Lsame fd_Lsame ["_law_found", "_law_due"] (spSame n)) (BLsame : Binds K fd_Lsame ["_law_found", "_law_due"] []) : FnOk P w K mg base CX0 (n + 1) f_Lsame fd_Lsame ["_law_found", "_law_due"] (spSame (n + 1)) := by
  refine F.ok sc_Lsame (fun vs H Q E h => ?_) (fun cdv A outer s H vs Q E hr h => ?_)
  · obtain ⟨x, y, d, e, rfl, _⟩ := h
    rfl
  obtain ⟨x, y, d, e, rfl, rx, ry, dp, k⟩ := h
  refine ⟨_,
    (pss_cons (ps_if (pt_val (pe_callB call_isi2 rfl T.b_isinstance bt_isinstance (pa_cons (pv 1) (pa_cons (pe_tup (pa_cons (pe_bltn (v := .ty "tuple") rfl T.b_tuple bt_tuple rfl) (pa_cons (pe_bltn (v := .ty "list") rfl T.b_list bt_list rfl) pa_nil))) pa_nil))))
    (pss_cons (ps_if (PW.pt (pw_or (pt_cmpR op_ne (pe_callB call_isi1 rfl T.b_isinstance bt_isinstance (pa_cons (pv 1) (pa_cons (pe_bltn (v := .ty "tuple") rfl T.b_tuple bt_tuple rfl) pa_nil))) (pe_callB call_isi1 rfl T.b_isinstance bt_isinstance (pa_cons (pv 0) (pa_cons (pe_bltn (v := .ty "tuple") rfl T.b_tuple bt_tuple rfl) pa_nil))) (nomark _)) (pw_or1 (pt_cmpR op_ne (pe_callB call_isi1 rfl T.b_isinstance bt_isinstance (pa_cons (pv 1) (pa_cons (pe_bltn (v := .ty "list") rfl T.b_list bt_list rfl) pa_nil))) (pe_callB call_isi1 rfl T.b_isinstance bt_isinstance (pa_cons (pv 0) (pa_cons (pe_bltn (v := .ty "list") rfl T.b_list bt_list rfl) pa_nil))) (nomark _)))))
    (pss_one (ps_ret pe_bl))
    pss_nil)
    (pss_cons (ps_if (pt_cmpR op_ne (pe_callB call_len_seq rfl T.b_len bt_len (pa_cons (pv 0) pa_nil)) (pe_callB call_len_seq rfl T.b_len bt_len (pa_cons (pv 1) pa_nil)) (nomark _))
    (pss_one (ps_ret pe_bl))
    pss_nil)
    (pss_cons (ps_for PassesOwn.never rfl (pi_range1 rfl T.b_range (pa_cons (pe_callB call_len_seq rfl T.b_len bt_len (pa_cons (pv 1) pa_nil)) pa_nil)) (pg_name (i := 2) sc_Lsame.nd rfl (by first | exact Or.inl rfl | exact Or.inr rfl))
    (pss_one (ps_if (pt_not (pt_val (pe_call GLsame hr rfl T.m_Lsame T.k_Lsame BLsame .nil pass0 (pa_cons (pe_ix (ix_list.or ix_tup) (pv 0) (pv 2) (fun _ _ => rfl)) (pa_cons (pe_ix (ix_list.or ix_tup) (pv 1) (pv 2) (fun _ _ => rfl)) pa_nil)))))
    (pss_one (ps_ret pe_bl))
    pss_nil)))
    (pss_one (ps_ret pe_bl)))))
    pss_nil)
    (pss_cons (ps_if (pt_cmpR op_isN (pv 1) pe_non (nomark _))
    (pss_one (ps_ret (pe_cmpR op_isN (pv 0) pe_non (nomark _))))
    pss_nil)
    (pss_cons (ps_if (PW.pt (pw_or (pt_val (pe_callB call_isi1 rfl T.b_isinstance bt_isinstance (pa_cons (pv 1) (pa_cons (pe_bltn (v := .ty "bool") rfl T.b_bool bt_bool rfl) pa_nil)))) (pw_or1 (pt_val (pe_callB call_isi1 rfl T.b_isinstance bt_isinstance (pa_cons (pv 0) (pa_cons (pe_bltn (v := .ty "bool") rfl T.b_bool bt_bool rfl) pa_nil)))))))
    (pss_one (ps_ret (pe_and (pe_callB call_isi1 rfl T.b_isinstance bt_isinstance (pa_cons (pv 1) (pa_cons (pe_bltn (v := .ty "bool") rfl T.b_bool bt_bool rfl) pa_nil))) (pe_and (pe_callB call_isi1 rfl T.b_isinstance bt_isinstance (pa_cons (pv 0) (pa_cons (pe_bltn (v := .ty "bool") rfl T.b_bool bt_bool rfl) pa_nil))) (pe_one (pe_cmpR op_eq (pv 0) (pv 1) (nomark _)))))))
    pss_nil)
    (pss_cons (ps_if (pt_val (pe_callB call_isi1 rfl T.b_isinstance bt_isinstance (pa_cons (pv 1) (pa_cons (pe_bltn (v := .ty "int") rfl T.b_int bt_int rfl) pa_nil))))
    (pss_one (ps_ret (pe_and (pe_callB call_isi1 rfl T.b_isinstance bt_isinstance (pa_cons (pv 0) (pa_cons (pe_bltn (v := .ty "int") rfl T.b_int bt_int rfl) pa_nil))) (pe_one (pe_cmpR op_eq (pv 0) (pv 1) (nomark _))))))
    pss_nil)
    (pss_one (ps_ret (pe_and (pe_callB call_isi1 rfl T.b_isinstance bt_isinstance (pa_cons (pv 0) (pa_cons (pe_bltn (v := .ty "str") rfl T.b_str bt_str rfl) pa_nil))) (pe_one (pe_cmpR op_eq (pv 0) (pv 1) (nomark _)))))))))), ?_⟩
  refine ⟨_, rfl, (by show 2 ≤ sizeLine; decide), fun p hp => ?_⟩
  have s1 : Same H (upd H p (.tup [.ty "tuple", .ty "list"])) := same_new hp _
  have rx1 := rx.mono s1
  have ry1 := ry.mono s1
  have k1 := fun b H' hb s => k b H' hb (s1.trans s)
  refine ⟨_, p, _, _, _, _, rfl, upd_same, ry1.ty, kd_tl e, _, rfl, ?_⟩
  revert rx1 ry1 k1
  generalize upd H p (.tup [.ty "tuple", .ty "list"]) = H1
  intro rx1 ry1 k1
  clear k rx ry s1 hp p
  refine ite2 (fun c => ?_) (fun c => ?_)
  · refine ⟨_, rfl, _, _, _, _, rfl, ry1.ty, kd_tuple e, _, rfl, _, _, _, _, rfl, rx1.ty, kd_tuple d, rfl, _, rfl, ?_⟩
    refine ite2 (fun c1 => ?_) (fun c1 => ?_)
    · refine iteT ?_
      refine k1 false _ ⟨(fun z => nomatch z), fun z => ?_⟩ (Same.refl _)
      subst z
      simp at c1
    refine ⟨_, rfl, _, _, _, _, rfl, ry1.ty, kd_list e, _, rfl, _, _, _, _, rfl, rx1.ty, kd_list d, rfl, _, rfl, ?_⟩
    refine ite2 (fun c2 => ?_) (fun c2 => ?_)
    · refine k1 false _ ⟨(fun z => nomatch z), fun z => ?_⟩ (Same.refl _)
      subst z
      simp at c2
    have c1' : isTup e = isTup d := by simpa using c1
    have c2' : isLst e = isLst d := by simpa using c2
    -- both are tuples, or both are lists
    have both : ∃ (a b : Addr) (xs ys : List V) (ds es : List Dt) (n' : Nat), x = .ref a ∧ y = .ref b ∧ (SqL K H1 a xs ∨ SqT K H1 a xs) ∧ (SqL K H1 b ys ∨ SqT K H1 b ys) ∧ ((H1 a = some (.lst xs) ∧ H1 b = some (.lst ys)) ∨ (H1 a = some (.tup xs) ∧ H1 b = some (.tup ys))) ∧ xs.length = ds.length ∧ ys.length = es.length ∧ es.length ≤ 100000 ∧ (∀ d ∈ es, Dp n d) ∧
        (∀ (i : Nat) x d, xs[i]? = some x → ds[i]? = some d → Rep H1 x d) ∧ (∀ (i : Nat) x d, ys[i]? = some x → es[i]? = some d → Rep H1 x d) ∧ (d = e ↔ ds = es) := by
      cases ry1 with
      | non => cases c
      | bl b => cases c
      | int i => cases c
      | str s => cases c
      | @tup b ys es ey ly ry =>
        cases rx1 with
        | @tup a xs ds ex lx rx =>
          cases dp with
          | tup l h => exact ⟨a, b, xs, ys, ds, es, 0, rfl, rfl, .inr (SqT.of ex), .inr (SqT.of ey), .inr ⟨ex, ey⟩, lx, ly, l, h, rx, ry, by constructor <;> intro z <;> cases z <;> rfl⟩
        | _ => cases c1'
      | @lst b ys es ey ly ry =>
        cases rx1 with
        | @lst a xs ds ex lx rx =>
          cases dp with
          | lst l h => exact ⟨a, b, xs, ys, ds, es, 0, rfl, rfl, .inl (SqL.of ex), .inl (SqL.of ey), .inl ⟨ex, ey⟩, lx, ly, l, h, rx, ry, by constructor <;> intro z <;> cases z <;> rfl⟩
        | _ => cases c2'
    clear c c1 c2 c1' c2' rx1 ry1 dp
    obtain ⟨a, b, xs, ys, ds, es, _, rfl, rfl, qa, qb, qab, lx, ly, le, dp, rx, ry, hde⟩ := both
    refine ⟨_, rfl, a, xs, rfl, qa, _, rfl, b, ys, rfl, qb, rfl, _, rfl, ?_⟩
    refine ite2 (fun c => ?_) (fun c => ?_)
    · refine k1 false _ ⟨(fun z => nomatch z), fun z => ?_⟩ (Same.refl _)
      have z' := hde.mp z
      subst z'
      rw [lx, ly] at c
      simp at c
    have cl : ds.length = es.length := by
      have q : V.int (xs.length : Int) = V.int (ys.length : Int) := by simpa using c
      injection q with q
      omega
    refine ⟨_, rfl, b, ys, rfl, qb, _, rfl, by omega, by omega, for_range (n := ((ys.length : Nat) : Int).toNat) (fun i σ H2 => ∃ kv, σ = [some (.ref a), some (.ref b), kv] ∧ Same H1 H2 ∧ ∀ j < i, ds[j]? = es[j]?) ⟨none, rfl, Same.refl _, fun j h => absurd h (Nat.not_lt_zero _)⟩ ?_ ?_⟩
    · rintro i σ H2 hi0 ⟨kv, rfl, s2, eqs⟩
      have hi : i < es.length := by omega
      have hid : i < ds.length := by omega
      obtain ⟨u, hu⟩ : ∃ u, xs[i]? = some u := ⟨_, List.getElem?_eq_getElem (by omega)⟩
      obtain ⟨v, hv⟩ : ∃ v, ys[i]? = some v := ⟨_, List.getElem?_eq_getElem (by omega)⟩
      have du : ds[i]? = some ds[i] := List.getElem?_eq_getElem hid
      have dv : es[i]? = some es[i] := List.getElem?_eq_getElem hi
      have hr1 := (rx i _ _ hu du).mono s2
      have hr2 := (ry i _ _ hv dv).mono s2
      have hz : (0 : Int) + (i : Int) = ((i : Nat) : Int) := by omega
      have tail : ∀ (b' : Bool) (H' : Hp), (b' = true ↔ ds[i] = es[i]) → Same H2 H' → Same H1 H' := fun _ _ _ q => s2.trans q
      have dpi : Dp n es[i] := dp _ (List.getElem_mem hi)
      have fin : ∀ (D : Ends) (b' : Bool) (H' : Hp), (∀ v H, D.rt v H ↔ True ∧ D.rt v H) → True := fun _ _ _ _ => trivial
      rcases qab with ⟨ea, eb⟩ | ⟨ea, eb⟩
      · refine ⟨_, rfl, _, rfl, .inl ⟨a, xs, _, u, rfl, rfl, SqL.of (s2 _ _ ea), by rw [hz]; exact atI_nat hu, _, rfl, _, rfl, .inl ⟨b, ys, _, v, rfl, rfl, SqL.of (s2 _ _ eb), by rw [hz]; exact atI_nat hv, ?_⟩⟩⟩
        refine ⟨u, v, _, _, rfl, hr1, hr2, dpi, fun b' H' hb s3 => ⟨b', rfl, ?_⟩⟩
        cases b' with
        | false =>
          refine iteT (k1 false _ ⟨(fun z => nomatch z), fun z => ?_⟩ (s2.trans s3))
          have z' := hde.mp z
          subst z'
          exact absurd (hb.mpr rfl) (by decide)
        | true =>
          refine iteF ⟨_, rfl, s2.trans s3, fun j hj => ?_⟩
          rcases Nat.lt_succ_iff_lt_or_eq.mp hj with h | h
          · exact eqs j h
          · subst h
            rw [du, dv, hb.mp rfl]
      · refine ⟨_, rfl, _, rfl, .inr ⟨a, xs, _, u, rfl, rfl, SqT.of (s2 _ _ ea), by rw [hz]; exact atI_nat hu, _, rfl, _, rfl, .inr ⟨b, ys, _, v, rfl, rfl, SqT.of (s2 _ _ eb), by rw [hz]; exact atI_nat hv, ?_⟩⟩⟩
        refine ⟨u, v, _, _, rfl, hr1, hr2, dpi, fun b' H' hb s3 => ⟨b', rfl, ?_⟩⟩
        cases b' with
        | false =>
          refine iteT (k1 false _ ⟨(fun z => nomatch z), fun z => ?_⟩ (s2.trans s3))
          have z' := hde.mp z
          subst z'
          exact absurd (hb.mpr rfl) (by decide)
        | true =>
          refine iteF ⟨_, rfl, s2.trans s3, fun j hj => ?_⟩
          rcases Nat.lt_succ_iff_lt_or_eq.mp hj with h | h
          · exact eqs j h
          · subst h
            rw [du, dv, hb.mp rfl]
    · rintro σ H2 ⟨kv, rfl, s2, eqs⟩
      refine k1 true _ ⟨fun _ => hde.mpr ?_, fun _ => rfl⟩ s2
      apply List.ext_getElem?
      intro j
      by_cases hj : j < es.length
      · exact eqs j (by omega)
      · rw [List.getElem?_eq_none (by omega), List.getElem?_eq_none (by omega)]
  · -- not a tuple, not a list
    refine ⟨_, rfl, rfl, _, rfl, ?_⟩
    refine ite2 (fun c1 => ?_) (fun c1 => ?_)
    · have c1' : y = .non := by simpa using c1
      subst c1'
      cases ry1
      refine ⟨_, rfl, rfl, k1 _ _ ⟨fun z => ?_, fun z => ?_⟩ (Same.refl _)⟩
      · have z' : x = .non := by simpa using z
        subst z'
        cases rx1
        rfl
      · subst z
        cases rx1
        rfl
    have c1' : ¬ y = .non := by simpa using c1
    have ty := rx1.ty (K := K)
    have no : ∀ {d e : Dt}, (d = e → False) → (false = true ↔ d = e) := fun h => ⟨(fun z => nomatch z), fun z => (h z).elim⟩
    cases ry1 with
    | non => exact absurd rfl c1'
    | tup _ _ _ => exact absurd rfl c
    | lst _ _ _ => exact absurd rfl c
    | bl be =>
      refine ⟨_, rfl, _, _, _, _, rfl, .bl be, kd_bool (.bl be), _, rfl, iteT (iteT ?_)⟩
      refine ⟨_, rfl, _, _, _, _, rfl, .bl be, kd_bool (.bl be), _, rfl, iteT ⟨_, rfl, _, _, _, _, rfl, ty, kd_bool d, _, rfl, ?_⟩⟩
      cases rx1 with
      | bl bd =>
        refine iteT ⟨_, rfl, _, rfl, rfl, k1 _ _ ⟨fun z => ?_, fun z => ?_⟩ (Same.refl _)⟩
        · have z' := of_decide_eq_true z
          injection z' with z'
          rw [z']
        · cases z
          exact decide_eq_true rfl
      | _ => exact iteF (k1 false _ (no fun z => nomatch z) (Same.refl _))
    | int ie =>
      refine ⟨_, rfl, _, _, _, _, rfl, .int ie, kd_bool (.int ie), _, rfl, iteF ⟨_, rfl, _, _, _, _, rfl, ty, kd_bool d, _, rfl, ?_⟩⟩
      cases rx1 with
      | bl bd => exact iteT ⟨_, rfl, _, _, _, _, rfl, .int ie, kd_bool (.int ie), _, rfl, iteF (k1 false _ (no fun z => nomatch z) (Same.refl _))⟩
      | int id =>
        refine iteF ⟨_, rfl, _, _, _, _, rfl, .int ie, kd_int (.int ie), _, rfl, iteT ⟨_, rfl, _, _, _, _, rfl, ty, kd_int _, _, rfl, iteT ⟨_, rfl, _, rfl, rfl, k1 _ _ ⟨fun z => ?_, fun z => ?_⟩ (Same.refl _)⟩⟩⟩
        · have z' := of_decide_eq_true z
          injection z' with z'
          rw [z']
        · cases z
          exact decide_eq_true rfl
      | _ => exact iteF ⟨_, rfl, _, _, _, _, rfl, .int ie, kd_int (.int ie), _, rfl, iteT ⟨_, rfl, _, _, _, _, rfl, ty, kd_int _, _, rfl, iteF (k1 false _ (no fun z => nomatch z) (Same.refl _))⟩⟩
    | str se =>
      refine ⟨_, rfl, _, _, _, _, rfl, .str se, kd_bool (.str se), _, rfl, iteF ⟨_, rfl, _, _, _, _, rfl, ty, kd_bool d, _, rfl, ?_⟩⟩
      cases rx1 with
      | bl bd => exact iteT ⟨_, rfl, _, _, _, _, rfl, .str se, kd_bool (.str se), _, rfl, iteF (k1 false _ (no fun z => nomatch z) (Same.refl _))⟩
      | str sd =>
        refine iteF ⟨_, rfl, _, _, _, _, rfl, .str se, kd_int (.str se), _, rfl, iteF ⟨_, rfl, _, _, _, _, rfl, ty, kd_str _, _, rfl, iteT ⟨_, rfl, _, rfl, rfl, k1 _ _ ⟨fun z => ?_, fun z => ?_⟩ (Same.refl _)⟩⟩⟩
        · have z' := of_decide_eq_true z
          injection z' with z'
          rw [z']
        · cases z
          exact decide_eq_true rfl
      | _ => exact iteF ⟨_, rfl, _, _, _, _, rfl, .str se, kd_int (.str se), _, rfl, iteF ⟨_, rfl, _, _, _, _, rfl, ty, kd_str _, _, rfl, iteF (k1 false _ (no fun z => nomatch z) (Same.refl _))⟩⟩
theorem sc_Lnames : FnScope ["_law_d", "_law_many", "_law_letters", "_law_names_here", "_law_k", "_law_own", "_law_rest"] ["_law_d", "_law_many"] (defScope s_Lnames) := ⟨rfl, rfl, rfl, by decide +kernel, rfl, by decide +kernel, by decide +kernel⟩
set_option maxHeartbeats 4000000 in
theorem ok_Lnames  (T : Txt K mg f_soonest f_no_way f_bars f_ready_by f_Ldraws f_Lsame f_Lnames f_Lworld f_Ltrip f_Lbars f_Lbent f_law) (F : Fun K "_law_names" "_law_names" s_Lnames f_Lnames fd_Lnames) : FnOk P w K mg base CX0 1 f_Lnames fd_Lnames ["_law_d", "_law_many"] spNames2 := by
  refine F.ok sc_Lnames (fun vs H Q E h => ?_) (fun cdv A outer s H vs Q E hr h => ?_)
  · obtain ⟨d, ds, m, rfl, _⟩ := h
    rfl
  obtain ⟨d, ds, m, rfl, hd, hb, hl, hm, k⟩ := h
  refine ⟨_,
    (pss_cons (ps_set (i := 2) sc_Lnames.nd rfl (by first | exact Or.inl rfl | exact Or.inr rfl) pe_str)
    (pss_cons (ps_set (i := 3) sc_Lnames.nd rfl (by first | exact Or.inl rfl | exact Or.inr rfl) (pe_lst pa_nil))
    (pss_cons (ps_for PassesOwn.never rfl (pi_range1 rfl T.b_range (pa_cons (pv 1) pa_nil)) (pg_name (i := 4) sc_Lnames.nd rfl (by first | exact Or.inl rfl | exact Or.inr rfl))
    (pss_cons (ps_set (i := 5) sc_Lnames.nd rfl (by first | exact Or.inl rfl | exact Or.inr rfl) (pe_ix ix_str (pv 2) (pe_op op_mod (pe_op op_add (pe_op op_mul (pv 4) (pe_ix ix_list (pe_lst (pa_cons pe_int (pa_cons pe_int (pa_cons pe_int (pa_cons pe_int (pa_cons pe_int (pa_cons pe_int pa_nil))))))) (pe_op op_mod (pe_ix ix_list (pv 0) pe_int (fun _ _ => rfl)) pe_int) (fun _ _ => rfl))) (pe_ix ix_list (pv 0) pe_int (fun _ _ => rfl))) pe_int) (fun _ _ => rfl)))
    (pss_cons (ps_set (i := 6) sc_Lnames.nd rfl (by first | exact Or.inl rfl | exact Or.inr rfl) (pe_bm PySem.F.plainAttrs_str PySem.F.slot_str_join PySem.F.type_str_join mt_join pe_str (pa_cons (pe_comp (T := ["_law_j"]) (caps := ["_law_d", "_law_letters"]) (ix := [0, 2]) (compOk rfl (by rfl) (by decide +kernel) (by decide +kernel) rfl (by intro x hx; repeat (first | (rcases List.mem_cons.mp hx with rfl | hx; · exact ⟨rfl, rfl, rfl⟩) | exact absurd hx (List.not_mem_nil))) (by rfl) (by intro x hx; repeat (first | (rcases List.mem_cons.mp hx with rfl | hx; · rfl) | exact absurd hx (List.not_mem_nil)))) rfl (pi_range1 rfl T.b_range (pa_cons (pe_op op_mod (pe_ix ix_list (pv 0) (pe_op op_add pe_int (pv 4)) (fun _ _ => rfl)) pe_int) pa_nil)) (fun _ _ _ _ => (pg_name (i := 0) (by show (["_law_j", "_law_d", "_law_letters"] : List Str).Nodup; decide +kernel) rfl (by first | exact Or.inl rfl | exact Or.inr rfl))) (fun _ _ _ _ => pts_nil) (fun _ _ _ _ => (pe_ix ix_str (pe_op op_add_str (pv 2) pe_str) (pe_op op_mod (pe_op op_add (pe_ix (ix_listK K rfl) (pv 1) pe_int (fun _ _ => rfl)) (pe_op op_mul (pv 0) (pe_ix (ix_listK K rfl) (pv 1) pe_int (fun _ _ => rfl)))) pe_int) (fun _ _ => rfl)))) pa_nil)))
    (pss_one (ps_expr (pe_bm PySem.F.plainAttrs_list PySem.F.slot_list_append PySem.F.type_list_append mt_append (pv 3) (pa_cons (pe_ix ix_list (pe_lst (pa_cons (pe_op op_add_str (pv 5) (pv 6)) (pa_cons (pe_op op_add_str (pv 6) (pv 5)) pa_nil))) (pe_op op_mod (pe_op op_fdiv (pe_ix ix_list (pv 0) pe_int (fun _ _ => rfl)) pe_int) pe_int) (fun _ _ => rfl)) pa_nil)))))))
    (pss_one (ps_ret (pv 3)))))), ?_⟩
  obtain ⟨d0, h0, _, _⟩ := hb.at (i := 0) (by omega)
  obtain ⟨d1, h1, _, _⟩ := hb.at (i := 1) (by omega)
  obtain ⟨d2, h2, _, _⟩ := hb.at (i := 2) (by omega)
  obtain ⟨d3, h3, _, _⟩ := hb.at (i := 3) (by omega)
  obtain ⟨z, hz, mz⟩ := pickI (xs := [.int 1, .int 3, .int 5, .int 7, .int 9, .int 11]) (i := d0 % 6) rfl (Int.emod_nonneg _ (by decide)) (Int.emod_lt_of_pos _ (by decide))
  have oz : okZ z := by
    simp only [List.mem_cons, List.not_mem_nil, or_false, V.int.injEq] at mz
    exact mz
  refine ⟨(by show 0 ≤ sizeLine; decide), fun r nr => ?_⟩
  refine ⟨_, rfl, _, rfl, by omega, by omega, for_range (n := (m : Int).toNat) (fun i σ H2 => ∃ (ns : List Str) (kv ow re : Option V), σ = [some (.ref d), some (.int m), some (.str abc), some (.ref r), kv, ow, re] ∧ H2 r = some (.lst (ns.map V.str)) ∧ Same H H2 ∧ ns.length = i ∧ ∀ (t : Nat) x, ns[t]? = some x → mark (d0 / 6 % 2) x = abc.cps.toList[((((0 : Int) + (t : Int)) * z + d1) % 26).toNat]?) ⟨[], none, none, none, rfl, upd_same, same_new nr _, rfl, fun t x h => by simp at h⟩ ?_ ?_⟩
  · rintro i σ H2 hi ⟨ns, kv, ow, re, rfl, hr2, s2, hni, mks⟩
    have hd2 := s2 _ _ hd
    refine ⟨_, rfl, _, rfl, (by show 6 ≤ sizeLine; decide), fun p hp => ?_⟩
    have s3 := s2.new hp (.lst [.int 1, .int 3, .int 5, .int 7, .int 9, .int 11])
    have hr3 := same_new hp (.lst [.int 1, .int 3, .int 5, .int 7, .int 9, .int 11]) _ _ hr2
    have hd3 := s3 _ _ hd
    obtain ⟨c, hc, hck⟩ := pickC (xs := abc.cps.toList) (i := (((0 : Int) + (i : Int)) * z + d1) % 26) (Int.emod_nonneg _ (by decide)) (by rw [abc_len]; exact Int.emod_lt_of_pos _ (by decide))
    refine ⟨_, rfl, _, _, _, _, rfl, rfl, SqL.of hd3, h0, _, _, rfl, rfl, (by show (0 : Int) < 6; decide), _, _, _, _, rfl, rfl, SqL.of upd_same, hz, _, _, rfl, rfl, .inl ⟨by omega, by omega⟩, _, rfl, _, _, _, _, rfl, rfl, SqL.of hd3, h1, _, _, rfl, rfl, _, _, rfl, rfl, (by show (0 : Int) < 26; decide), _, _, c, rfl, rfl, lenL0, hc, ?_⟩
    have tot : ∃ dk, atI (ds.map V.int) (4 + (0 + (i : Int))) = some (.int dk) ∧ 0 ≤ dk ∧ dk < 1013 := by
      have e : (4 : Int) + (0 + (i : Int)) = ((4 + i : Nat) : Int) := by omega
      rw [e]
      exact hb.at (by omega)
    obtain ⟨dk, hk, _, _⟩ := tot
    -- rest
    refine ⟨rfl, ?_⟩
    refine ⟨_, rfl, _, rfl, _, _, rfl, rfl, _, _, _, _, rfl, rfl, SqL.of hd3, hk, _, _, rfl, rfl, (by show (0 : Int) < 12; decide), _, rfl, by omega, by omega, fun D hD => ?_⟩
    have s4 := s3.new hD (.lst [])
    have hr4 := same_new hD (.lst []) _ _ hr3
    have nDr : r ≠ D := ne_of_none hr3 hD
    refine ⟨fun j mm σ' xs H4 => mm = (dk % 12).toNat - j ∧ j ≤ (dk % 12).toNat ∧ ∃ (v : Option V) (ts : List Str), σ' = [v, some (.ref d), some (.str abc)] ∧ xs = ts.map V.str ∧ ts.length = j ∧ (∀ t ∈ ts, t.length = 1) ∧ H4 D = some (.lst xs) ∧ H4 r = some (.lst (ns.map V.str)) ∧ Same H H4, ⟨_, rfl, Nat.zero_le _, none, [], rfl, rfl, rfl, (fun _ h => nomatch h), upd_same, hr4, s4⟩, ?_⟩
    rintro j mm σ' xs H4 ⟨rfl, hj, v, ts, rfl, rfl, lt, one, hD4, hr5, s5⟩
    refine ⟨hD4, small1000 (by rw [List.length_map]; omega), ?_⟩
    have hd5 := s5 _ _ hd
    by_cases hlt : j < (dk % 12).toNat
    · refine .inr ⟨hlt, ?_⟩
      rintro x H5 ⟨rfl, rfl⟩
      obtain ⟨c2, hc2⟩ := pickG (xs := abc9.cps.toList) (i := (d2 + ((0 : Int) + (j : Int)) * d3) % 36) (Int.emod_nonneg _ (by decide)) (by rw [abc9_len]; exact Int.emod_lt_of_pos _ (by decide))
      refine allG ?_
      refine ⟨_, rfl, _, _, rfl, rfl, lenL, ?_⟩
      refine ⟨_, rfl, _, _, _, _, rfl, rfl, SqL.of hd5, h2, _, rfl, _, rfl, _, _, _, _, rfl, rfl, SqL.of hd5, h3, _, _, rfl, rfl, .inl ⟨by omega, by omega⟩, _, _, rfl, rfl, _, _, rfl, rfl, (by show (0 : Int) < 36; decide), _, _, c2, rfl, rfl, lenL9, hc2, ?_⟩
      refine ⟨hD4, _, ?_, rfl, hlt, _, ts ++ [⟨#[c2]⟩], rfl, by rw [List.map_append]; rfl, by rw [List.length_append, lt]; rfl, fun t ht => ?_, upd_same, (upd_ne nDr).trans hr5, s5.put (s3.free hD) _⟩
      · omega
      · rcases List.mem_append.mp ht with z | z
        · exact one t z
        · rw [List.mem_singleton.mp z]
          exact len_one c2
    · refine .inl ⟨Nat.le_of_not_lt hlt, ?_⟩
      have jl := join_len one
      refine ⟨_, D, ts, rfl, rfl, hD4, join_ok one (by omega), ?_⟩
      generalize Txt.join ("" : Str) ts = rest at jl ⊢
      refine ⟨_, rfl, .inl ⟨rfl, _, SqL.of hr5⟩, ?_⟩
      refine ⟨_, rfl, _, rfl, _, _, rfl, rfl, (by rw [len_one, jl]; exact small (by omega)), ?_⟩
      refine ⟨_, rfl, _, rfl, _, _, rfl, rfl, (by rw [len_one, jl]; exact small (by omega)), ?_⟩
      refine ⟨(by show 2 ≤ sizeLine; decide), fun p5 hp5 => ?_⟩
      have hr6 := same_new hp5 (.lst [.str (⟨#[c]⟩ ++ rest), .str (rest ++ ⟨#[c]⟩)]) _ _ hr5
      have s6 := s5.new hp5 (.lst [.str (⟨#[c]⟩ ++ rest), .str (rest ++ ⟨#[c]⟩)])
      have hd6 := s6 _ _ hd
      obtain ⟨nm, hnm, hmk⟩ := two_mark (f := d0 / 6 % 2) (Int.emod_nonneg _ (by decide)) (Int.emod_lt_of_pos _ (by decide)) (c := c) (rest := rest)
      refine ⟨_, rfl, _, _, _, _, rfl, rfl, SqL.of hd6, h0, _, _, rfl, rfl, ⟨by decide, by decide⟩, _, _, rfl, rfl, (by show (0 : Int) < 2; decide), _, _, _, _, rfl, rfl, SqL.of upd_same, hnm, ?_⟩
      refine ⟨r, _, _, rfl, rfl, hr6, small1000 (by rw [List.length_map]; omega), ?_⟩
      refine ⟨ns ++ [nm], _, _, _, rfl, ?_, s6.put nr _, by rw [List.length_append, hni]; rfl, fun t x ht => ?_⟩
      · rw [upd_same, List.map_append]
        rfl
      · by_cases hti : t < ns.length
        · rw [List.getElem?_append_left hti] at ht
          exact mks t x ht
        · have te : t = ns.length := by
            have := (List.getElem?_eq_some_iff.mp ht).1
            rw [List.length_append, List.length_singleton] at this
            omega
          subst te
          rw [List.getElem?_append_right (Nat.le_refl _), Nat.sub_self] at ht
          cases ht
          rw [hmk, hni]
          exact hck.symm
  · rintro σ H2 ⟨ns, kv, ow, re, rfl, hr2, s2, hni, mks⟩
    exact ⟨_, rfl, k r ns H2 s2 nr hr2 (by omega) (names_nd oz (by omega) mks)⟩
theorem sc_Lworld : FnScope ["_law_script", "_law_at", "_law_most", "_law_d", "_law_names_here", "_law_base", "_law_spans", "_law_rides", "_law_k", "_law_number", "_law_e", "_law_start", "_law_goal", "_law_leaves"] ["_law_script", "_law_at", "_law_most"] (defScope s_Lworld) := ⟨rfl, rfl, rfl, by decide +kernel, rfl, by decide +kernel, by decide +kernel⟩
set_option maxHeartbeats 4000000 in
theorem ok_Lworld  (T : Txt K mg f_soonest f_no_way f_bars f_ready_by f_Ldraws f_Lsame f_Lnames f_Lworld f_Ltrip f_Lbars f_Lbent f_law) (F : Fun K "_law_world" "_law_world" s_Lworld f_Lworld fd_Lworld) (GLdraws : FnOk P w K mg base CX0 1 f_Ldraws fd_Ldraws ["_law_script", "_law_at", "_law_many"] (spDraws K)) (BLdraws : Binds K fd_Ldraws ["_law_script", "_law_at", "_law_many"] []) (GLnames : FnOk P w K mg base CX0 1 f_Lnames fd_Lnames ["_law_d", "_law_many"] spNames2) (BLnames : Binds K fd_Lnames ["_law_d", "_law_many"] []) : FnOk P w K mg base CX0 2 f_Lworld fd_Lworld ["_law_script", "_law_at", "_law_most"] (spWorld2 K) := by
  refine F.ok sc_Lworld (fun vs H Q E h => ?_) (fun cdv A outer s H vs Q E hr h => ?_)
  · obtain ⟨a, ins, j, rfl, _⟩ := h
    rfl
  obtain ⟨a, ins, j, rfl, hS, h63, j0, j1, k⟩ := h
  have hu := hu_of hr
  refine ⟨_,
    (pss_cons (ps_set (i := 3) sc_Lworld.nd rfl (by first | exact Or.inl rfl | exact Or.inr rfl) (pe_call GLdraws hr rfl T.m_Ldraws T.k_Ldraws BLdraws .nil pass0 (pa_cons (pv 0) (pa_cons (pv 1) (pa_cons pe_int pa_nil)))))
    (pss_cons (ps_set (i := 4) sc_Lworld.nd rfl (by first | exact Or.inl rfl | exact Or.inr rfl) (pe_call GLnames hr rfl T.m_Lnames T.k_Lnames BLnames .nil pass0 (pa_cons (pv 3) (pa_cons (pe_op op_add pe_int (pe_op op_mod (pe_ix ix_list (pv 3) pe_int (fun _ _ => rfl)) pe_int)) pa_nil))))
    (pss_cons (ps_set (i := 5) sc_Lworld.nd rfl (by first | exact Or.inl rfl | exact Or.inr rfl) (pe_ix ix_list (pe_lst (pa_cons pe_int (pa_cons pe_int (pa_cons (pe_op op_add (pe_op op_pow pe_int pe_int) (pe_ix ix_list (pv 3) pe_int (fun _ _ => rfl))) (pa_cons (pe_op op_sub pe_int (pe_op op_pow pe_int pe_int)) pa_nil))))) (pe_op op_mod (pe_ix ix_list (pv 3) pe_int (fun _ _ => rfl)) pe_int) (fun _ _ => rfl)))
    (pss_cut (R := fun D σ H2 => ∃ (rd pn : Addr) (ds : List Int) (ns : List Str) (base : Int), σ = [some (.ref a), some (.int j), some (.int 9), some (.ref rd), some (.ref pn), some (.int base), none, none, none, none, none, none, none, none] ∧ Same H H2 ∧ H rd = none ∧ H pn = none ∧ H2 rd = some (.lst (ds.map V.int)) ∧ H2 pn = some (.lst (ns.map V.str)) ∧ ds.length = 20 ∧ Bd ds ∧ ns.Nodup ∧ 2 ≤ ns.length ∧ ns.length ≤ 5 ∧ D.rt = Q) (pss_cons (ps_set (i := 6) sc_Lworld.nd rfl (by first | exact Or.inl rfl | exact Or.inr rfl) pe_dnewK)
    (pss_cons (ps_set (i := 7) sc_Lworld.nd rfl (by first | exact Or.inl rfl | exact Or.inr rfl) (pe_lst pa_nil))
    (pss_cons (ps_for PassesOwn.never rfl (pi_range1 rfl T.b_range (pa_cons (pe_callB call_len_seq rfl T.b_len bt_len (pa_cons (pv 4) pa_nil)) pa_nil)) (pg_name (i := 8) sc_Lworld.nd rfl (by first | exact Or.inl rfl | exact Or.inr rfl))
    (pss_one (ps_dput hu (pv 6) (pe_ix ix_list (pv 4) (pv 8) (fun _ _ => rfl)) (pe_ix ix_list (pe_lst (pa_cons pe_int (pa_cons pe_int (pa_cons pe_int (pa_cons pe_int (pa_cons (pe_op op_pow pe_int pe_int) pa_nil)))))) (pe_op op_mod (pe_ix ix_list (pe_call GLdraws hr rfl T.m_Ldraws T.k_Ldraws BLdraws .nil pass0 (pa_cons (pv 0) (pa_cons (pe_op op_add (pv 1) pe_int) (pa_cons pe_int pa_nil)))) (pv 8) (fun _ _ => rfl)) (pe_ix ix_list (pe_lst (pa_cons pe_int (pa_cons pe_int (pa_cons pe_int pa_nil)))) (pe_op op_mod (pe_ix ix_list (pv 3) pe_int (fun _ _ => rfl)) pe_int) (fun _ _ => rfl))) (fun _ _ => rfl)) rfl)))
    (pss_cut (R := fun D σ H2 => ∃ (rd pn ps pr : Addr) (ds : List Int) (ns : List Str) (base : Int) (kvs : List (Key × V)) (kv : Option V), σ = [some (.ref a), some (.int j), some (.int 9), some (.ref rd), some (.ref pn), some (.int base), some (.ref ps), some (.ref pr), kv, none, none, none, none, none] ∧ Same H H2 ∧ H rd = none ∧ H pn = none ∧ H ps = none ∧ H pr = none ∧ H2 rd = some (.lst (ds.map V.int)) ∧ H2 pn = some (.lst (ns.map V.str)) ∧ H2 ps = some (.dK kvs) ∧ H2 pr = some (.lst []) ∧ (rd ≠ pr ∧ pn ≠ pr) ∧ ds.length = 20 ∧ Bd ds ∧ ns.Nodup ∧ 2 ≤ ns.length ∧ ns.length ≤ 5 ∧ (kvs.map (·.1)).Nodup ∧ (∀ p ∈ kvs, ∃ i, p.2 = V.int i) ∧ (∀ (t : Nat) x, ns[t]? = some x → ∃ z, valV kvs (Sum.inr x : Key) = some (.int z) ∧ 0 ≤ z) ∧ D.rt = Q) (pss_cons (ps_set (i := 9) sc_Lworld.nd rfl (by first | exact Or.inl rfl | exact Or.inr rfl) (pe_op op_mod (pe_ix ix_list (pv 3) pe_int (fun _ _ => rfl)) pe_int))
    (pss_cons (ps_for PassesOwn.never rfl (pi_range1 rfl T.b_range (pa_cons (pe_op op_mod (pe_ix ix_list (pe_call GLdraws hr rfl T.m_Ldraws T.k_Ldraws BLdraws .nil pass0 (pa_cons (pv 0) (pa_cons (pe_op op_add (pv 1) pe_int) (pa_cons pe_int pa_nil)))) pe_int (fun _ _ => rfl)) (pe_op op_add (pv 2) pe_int)) pa_nil)) (pg_name (i := 8) sc_Lworld.nd rfl (by first | exact Or.inl rfl | exact Or.inr rfl))
    (pss_cons (ps_set (i := 10) sc_Lworld.nd rfl (by first | exact Or.inl rfl | exact Or.inr rfl) (pe_call GLdraws hr rfl T.m_Ldraws T.k_Ldraws BLdraws .nil pass0 (pa_cons (pv 0) (pa_cons (pe_op op_add (pe_op op_add (pv 1) pe_int) (pv 8)) (pa_cons pe_int pa_nil)))))
    (pss_cons (ps_set (i := 11) sc_Lworld.nd rfl (by first | exact Or.inl rfl | exact Or.inr rfl) (pe_op op_mod (pe_ix ix_list (pv 10) pe_int (fun _ _ => rfl)) (pe_callB call_len_seq rfl T.b_len bt_len (pa_cons (pv 4) pa_nil))))
    (pss_cons (ps_set (i := 12) sc_Lworld.nd rfl (by first | exact Or.inl rfl | exact Or.inr rfl) (pe_op op_mod (pe_op op_add (pe_op op_add (pv 11) pe_int) (pe_op op_mod (pe_ix ix_list (pv 10) pe_int (fun _ _ => rfl)) (pe_op op_sub (pe_callB call_len_seq rfl T.b_len bt_len (pa_cons (pv 4) pa_nil)) pe_int))) (pe_callB call_len_seq rfl T.b_len bt_len (pa_cons (pv 4) pa_nil))))
    (pss_cons (ps_set (i := 13) sc_Lworld.nd rfl (by first | exact Or.inl rfl | exact Or.inr rfl) (pe_op op_add (pv 5) (pe_op op_mod (pe_ix ix_list (pv 10) pe_int (fun _ _ => rfl)) pe_int)))
    (pss_cons (ps_expr (pe_bm PySem.F.plainAttrs_list PySem.F.slot_list_append PySem.F.type_list_append mt_append (pv 7) (pa_cons (pe_tup (pa_cons (pv 9) (pa_cons (pe_ix ix_list (pv 4) (pv 11) (fun _ _ => rfl)) (pa_cons (pe_ix ix_list (pv 4) (pv 12) (fun _ _ => rfl)) (pa_cons (pv 13) (pa_cons (pe_op op_add (pe_op op_add (pv 13) pe_int) (pe_op op_mod (pe_ix ix_list (pv 10) pe_int (fun _ _ => rfl)) pe_int)) pa_nil)))))) pa_nil)))
    (pss_one (ps_aug (i := 9) sc_Lworld.nd rfl (by first | exact Or.inl rfl | exact Or.inr rfl) (pe_op op_add pe_int (pe_op op_mod (pe_ix ix_list (pv 10) pe_int (fun _ _ => rfl)) pe_int)) ip_add))))))))
    (pss_cut (R := fun D σ H2 => ∃ (rd pn ps pr : Addr) (ds : List Int) (ns : List Str) (base : Int) (kvs : List (Key × V)) (rs : List V) (rds : List Rd) (u1 u2 u3 u4 u5 u6 : Option V), σ = [some (.ref a), some (.int j), some (.int 9), some (.ref rd), some (.ref pn), some (.int base), some (.ref ps), some (.ref pr), u1, u2, u3, u4, u5, u6] ∧ Same H H2 ∧ H pn = none ∧ H ps = none ∧ H pr = none ∧ H2 rd = some (.lst (ds.map V.int)) ∧ ds.length = 20 ∧ Bd ds ∧ Wd H2 pn ps pr base ns kvs rs rds ∧ D.rt = Q) (pss_cons (ps_if (pt_cmpR op_eq (pe_op op_mod (pe_ix ix_list (pv 3) pe_int (fun _ _ => rfl)) pe_int) pe_int (nomark _))
    (pss_one (ps_set (i := 7) sc_Lworld.nd rfl (by first | exact Or.inl rfl | exact Or.inr rfl) (pe_rev (pv 7) (pe_un un_neg pe_int) (fun o i => sub_rev _ _ _ _ o i))))
    pss_nil)
    (pss_cut (R := fun D σ H2 => ∃ (rd pn ps pr : Addr) (ns : List Str) (base : Int) (kvs : List (Key × V)) (rs : List V) (rds : List Rd) (u1 u2 u3 u4 u5 u6 : Option V), σ = [some (.ref a), some (.int j), some (.int 9), some (.ref rd), some (.ref pn), some (.int base), some (.ref ps), some (.ref pr), u1, u2, u3, u4, u5, u6] ∧ Same H H2 ∧ H pn = none ∧ H ps = none ∧ H pr = none ∧ Wd H2 pn ps pr base ns kvs rs rds ∧ D.rt = Q) (pss_one (ps_ret (pe_tup (pa_cons (pv 4) (pa_cons (pv 6) (pa_cons (pv 7) (pa_cons (pv 5) pa_nil))))))) ?c4)) ?c3))) ?c2)))) ?c1)))), ?_⟩
  case c4 =>
    rintro D σ H2 ⟨rd, pn, ps, pr, ns, base, kvs, rs, rds, u1, u2, u3, u4, u5, u6, rfl, s2, npn, nps, npr, W, hD⟩
    refine ⟨_, rfl, _, rfl, _, rfl, _, rfl, (by show 4 ≤ sizeLine; decide), fun p hp => ?_⟩
    rw [hD]
    exact k p pn ps pr base ns kvs rs rds _ (s2.new hp _) (s2.free hp) npn nps npr upd_same (W.mono (same_new hp _))
  case c3 =>
    rintro D σ H2 ⟨rd, pn, ps, pr, ds, ns, base, kvs, rs, rds, u1, u2, u3, u4, u5, u6, rfl, s2, npn, nps, npr, hd2, lds, hb, W, hD⟩
    obtain ⟨d15, h15, _, _⟩ := hb.at (i := 15) (by omega)
    refine ⟨_, rfl, _, _, _, _, rfl, rfl, SqL.of hd2, h15, _, _, rfl, rfl, (by show (0 : Int) < 2; decide), rfl, _, rfl, ?_⟩
    refine ite2 (fun _ => ?_) (fun _ => ?_)
    · refine ⟨_, rfl, 1, rfl, rfl, pr, rs, rfl, SqL.of W.hr, fun p hp => ?_⟩
      have W2 := W.mono (same_new hp (.lst rs.reverse))
      refine ⟨rd, pn, ps, p, ns, base, kvs, rs.reverse, rds.reverse, u1, u2, u3, u4, u5, u6, rfl, s2.new hp _, npn, nps, s2.free hp, ⟨W2.hn, W2.hs, upd_same, ne_of_none W.hn hp, W2.nd, W2.iv, W2.nn, W2.n2, W2.n5, by rw [List.length_reverse]; exact W2.le, paired_rev W2.rd, fun d hd => W2.ok d (List.mem_reverse.mp hd), W2.sp⟩, hD⟩
    · exact ⟨rd, pn, ps, pr, ns, base, kvs, rs, rds, u1, u2, u3, u4, u5, u6, rfl, s2, npn, nps, npr, W, hD⟩
  case c2 =>
    rintro D σ H2 ⟨rd, pn, ps, pr, ds, ns, base, kvs, kv, rfl, s2, nrd, npn, nps, npr, hd2, hn2, hs2, hr2, nes, lds, hb, nnd, ln1, ln2, nd, iv, vals, hD⟩
    obtain ⟨d19, h19, _, _⟩ := hb.at (i := 19) (by omega)
    have lm : (ns.map V.str).length = ns.length := List.length_map _
    refine ⟨_, rfl, _, _, _, _, rfl, rfl, SqL.of hd2, h19, _, _, rfl, rfl, (by show (0 : Int) < 3; decide), ?_⟩
    refine ⟨_, rfl, _, rfl, _, _, rfl, rfl, a, ins, j + 2, 1, rfl, s2.seq hS, h63, by omega, by omega, by decide, fun r3 es H3 s3 n3 hr3 l3 b3 => ?_⟩
    obtain ⟨e0, g0, _, _⟩ := b3.at (i := 0) (by omega)
    refine ⟨_, _, _, _, rfl, rfl, SqL.of hr3, g0, _, rfl, _, _, rfl, rfl, _, _, rfl, rfl, (by show (0 : Int) < 9 + 1; decide), _, rfl, by omega, by omega, ?_⟩
    refine for_range (n := (e0 % (9 + 1)).toNat) (fun i σ H4 => ∃ (rs : List V) (rds : List Rd) (num : Int) (u1 u3 u4 u5 u6 : Option V), σ = [some (.ref a), some (.int j), some (.int 9), some (.ref rd), some (.ref pn), some (.int base), some (.ref ps), some (.ref pr), u1, some (.int num), u3, u4, u5, u6] ∧ Same H H4 ∧ H4 rd = some (.lst (ds.map V.int)) ∧ rs.length = i ∧ Wd H4 pn ps pr base ns kvs rs rds) ⟨[], [], _, _, _, _, _, _, rfl, s2.trans s3, s3 _ _ hd2, rfl, s3 _ _ hn2, s3 _ _ hs2, s3 _ _ hr2, nes.2, nd, iv, nnd, ln1, ln2, by decide, .nil, (fun _ h => nomatch h), fun x hx => by
      obtain ⟨t, ht⟩ := List.mem_iff_getElem?.mp hx
      exact vals t x ht⟩ ?_ ?_
    · rintro i σ H4 hi ⟨rs, rds, num, u1, u3, u4, u5, u6, rfl, s4, hd4, lrs, W⟩
      refine ⟨_, rfl, _, rfl, _, _, rfl, rfl, _, rfl, _, _, rfl, rfl, a, ins, j + 3 + (0 + (i : Int)), 6, rfl, s4.seq hS, h63, by omega, by omega, by decide, fun r5 fs H5 s5 n5 hr5 l5 b5 => ?_⟩
      have W5 := W.mono s5
      obtain ⟨f0, g0, _, _⟩ := b5.at (i := 0) (by omega)
      obtain ⟨f1, g1, _, _⟩ := b5.at (i := 1) (by omega)
      obtain ⟨f2, g2, _, _⟩ := b5.at (i := 2) (by omega)
      obtain ⟨f3, g3, _, _⟩ := b5.at (i := 3) (by omega)
      obtain ⟨f4, g4, _, _⟩ := b5.at (i := 4) (by omega)
      have p1 : (0 : Int) < (((ns.map V.str).length : Nat) : Int) := by rw [lm]; omega
      have p2 : (0 : Int) < (((ns.map V.str).length : Nat) : Int) - 1 := by rw [lm]; omega
      refine ⟨_, rfl, _, _, _, _, rfl, rfl, SqL.of hr5, g0, _, rfl, _, _, rfl, .inl (SqL.of W5.hn), _, _, rfl, rfl, p1, ?_⟩
      refine ⟨_, rfl, _, _, rfl, rfl, _, rfl, _, _, _, _, rfl, rfl, SqL.of hr5, g1, _, rfl, _, _, rfl, .inl (SqL.of W5.hn), _, _, rfl, rfl, _, _, rfl, rfl, p2, _, _, rfl, rfl, _, rfl, _, _, rfl, .inl (SqL.of W5.hn), _, _, rfl, rfl, p1, ?_⟩
      refine ⟨_, rfl, _, rfl, _, _, _, _, rfl, rfl, SqL.of hr5, g2, _, _, rfl, rfl, (by show (0 : Int) < 24; decide), _, _, rfl, rfl, ?_⟩
      obtain ⟨xa, ha, hza⟩ := place_at2 (ns := ns) (Int.emod_nonneg f0 (Int.ne_of_gt p1)) (Int.emod_lt_of_pos f0 p1)
      obtain ⟨xb, hb', hzb⟩ := place_at2 (ns := ns) (Int.emod_nonneg (f0 % (((ns.map V.str).length : Nat) : Int) + 1 + f1 % ((((ns.map V.str).length : Nat) : Int) - 1)) (Int.ne_of_gt p1)) (Int.emod_lt_of_pos _ p1)
      refine ⟨_, rfl, .inl ⟨rfl, _, SqL.of W5.hr⟩, ?_⟩
      refine ⟨_, rfl, _, rfl, _, rfl, _, _, _, _, rfl, rfl, SqL.of W5.hn, ha, _, rfl, _, rfl, _, _, _, _, rfl, rfl, SqL.of W5.hn, hb', _, rfl, _, rfl, _, _, rfl, rfl, _, rfl, _, _, _, _, rfl, rfl, SqL.of hr5, g3, _, _, rfl, rfl, (by show (0 : Int) < 6; decide), _, _, rfl, rfl, (by show 5 ≤ sizeLine; decide), fun q hq => ?_⟩
      have W6 := W5.mono (same_new hq (.tup [.int num, .str xa, .str xb, .int (base + f2 % 24), .int (base + f2 % 24 + 1 + f3 % 6)]))
      have s6 := (s4.trans s5).new hq (.tup [.int num, .str xa, .str xb, .int (base + f2 % 24), .int (base + f2 % 24 + 1 + f3 % 6)])
      refine ⟨pr, rs, _, rfl, rfl, W6.hr, small1000 (by omega), ?_⟩
      have ner : r5 ≠ pr := (ne_of_none W.hr n5).symm
      have hr6 := same_new hq (.tup [.int num, .str xa, .str xb, .int (base + f2 % 24), .int (base + f2 % 24 + 1 + f3 % 6)]) _ _ hr5
      refine ⟨_, rfl, _, rfl, _, _, _, _, rfl, rfl, SqL.of ((upd_ne ner).trans hr6), g4, _, _, rfl, rfl, (by show (0 : Int) < 3; decide), _, _, rfl, rfl, _, _, rfl, rfl, ?_⟩
      refine ⟨rs ++ [.ref q], _, _, _, _, _, _, _, rfl, s6.put npr _, (upd_ne nes.1).trans (same_new hq _ _ _ (s5 _ _ hd4)), by rw [List.length_append, lrs]; rfl, W6.more (show RideAt _ q _ _ _ _ _ from upd_same) hza hzb (by omega) (by omega)⟩
    · rintro σ H4 ⟨rs, rds, num, u1, u3, u4, u5, u6, rfl, s4, hd4, lrs, W⟩
      exact ⟨rd, pn, ps, pr, ds, ns, base, kvs, rs, rds, _, _, _, _, _, _, rfl, s4, npn, nps, npr, hd4, lds, hb, W, hD⟩
  case c1 =>
    rintro D σ H2 ⟨rd, pn, ds, ns, base, rfl, s2, nrd, npn, hd2, hn2, lds, hb, nnd, ln1, ln2, hD⟩
    obtain ⟨d19, h19, _, _⟩ := hb.at (i := 19) (by omega)
    have lm : (ns.map V.str).length = ns.length := List.length_map _
    intro ps hps
    refine ⟨(by show 0 ≤ sizeLine; decide), fun pr hpr => ?_⟩
    have s3 := (s2.new hps (.dK [])).new hpr (.lst [])
    have q1 := same_new hps (.dK [])
    have q2 := same_new hpr (.lst [])
    have e1 : rd ≠ pr := ne_of_none (q1 _ _ hd2) hpr
    have e2 : pn ≠ pr := ne_of_none (q1 _ _ hn2) hpr
    refine ⟨_, rfl, pn, _, rfl, .inl (SqL.of (q2 _ _ (q1 _ _ hn2))), _, rfl, by omega, by omega, ?_⟩
    refine for_range (n := (((ns.map V.str).length : Nat) : Int).toNat) (fun i σ H3 => ∃ (kvs : List (Key × V)) (kv : Option V), σ = [some (.ref a), some (.int j), some (.int 9), some (.ref rd), some (.ref pn), some (.int base), some (.ref ps), some (.ref pr), kv, none, none, none, none, none] ∧ Same H H3 ∧ H3 rd = some (.lst (ds.map V.int)) ∧ H3 pn = some (.lst (ns.map V.str)) ∧ H3 ps = some (.dK kvs) ∧ H3 pr = some (.lst []) ∧ (kvs.map (·.1)).Nodup ∧ (∀ p ∈ kvs, ∃ i, p.2 = V.int i) ∧ kvs.length ≤ i ∧ ∀ (t : Nat) x, t < i → ns[t]? = some x → ∃ z, valV kvs (Sum.inr x : Key) = some (.int z) ∧ 0 ≤ z) ⟨[], none, rfl, s3, q2 _ _ (q1 _ _ hd2), q2 _ _ (q1 _ _ hn2), q2 _ _ upd_same, upd_same, List.nodup_nil, (fun _ h => nomatch h), Nat.le_refl _, fun t x h => absurd h (Nat.not_lt_zero _)⟩ ?_ ?_
    · rintro i σ H3 hi0 ⟨kvs, kv, rfl, s3, hd3, hn3, hs3, hr3, nd, iv, lk, vals⟩
      have hi : i < ns.length := by omega
      refine ⟨_, _, rfl, rfl, ⟨by decide, by decide, by decide⟩, ⟨(by show 5 ≤ sizeLine; decide), fun p hp => ?_⟩⟩
      have t1 := same_new hp (.lst [.int 0, .int 1, .int 2, .int 5, .int (10 ^ (9 : Int).toNat)])
      refine ⟨_, rfl, _, rfl, _, _, rfl, rfl, a, ins, j + 1, 8, rfl, (s3.trans t1).seq hS, h63, by omega, by omega, by decide, fun r5 fs H5 s5 n5 hr5 l5 b5 => ?_⟩
      obtain ⟨fi, gi, _, _⟩ := b5.at (i := i) (by omega)
      have ez : (0 : Int) + (i : Int) = ((i : Nat) : Int) := by omega
      refine ⟨_, rfl, _, _, _, _, rfl, rfl, SqL.of hr5, (by rw [ez]; exact gi), ⟨(by show 3 ≤ sizeLine; decide), fun p2 hp2 => ?_⟩⟩
      have t2 := same_new hp2 (.lst [.int 3, .int 4, .int 5])
      have t3 := (t1.trans s5).trans t2
      obtain ⟨w', hw, mw⟩ := pickI (xs := [.int 3, .int 4, .int 5]) (i := d19 % 3) rfl (Int.emod_nonneg _ (by decide)) (Int.emod_lt_of_pos _ (by decide))
      have bw : 3 ≤ w' ∧ w' ≤ 5 := by
        simp only [List.mem_cons, List.not_mem_nil, or_false, V.int.injEq] at mw
        omega
      have b0 := Int.emod_nonneg fi (show w' ≠ 0 by omega)
      have b1 := Int.emod_lt_of_pos fi (show 0 < w' by omega)
      obtain ⟨z, hz, mz⟩ := pickI (xs := [.int 0, .int 1, .int 2, .int 5, .int (10 ^ (9 : Int).toNat)]) (i := fi % w') rfl b0 (by show fi % w' < 5; omega)
      refine ⟨_, rfl, _, _, _, _, rfl, rfl, SqL.of (t3 _ _ hd3), h19, _, _, rfl, rfl, (by show (0 : Int) < 3; decide), _, _, _, _, rfl, rfl, SqL.of upd_same, hw, _, _, rfl, rfl, (by show 0 < w'; omega), _, _, _, _, rfl, rfl, SqL.of (t2 _ _ (s5 _ _ upd_same)), hz, ?_⟩
      have hx : ns[i]? = some ns[i] := List.getElem?_eq_getElem hi
      refine ⟨_, rfl, _, rfl, _, rfl, _, _, _, _, rfl, rfl, SqL.of (t3 _ _ hn3), (by rw [ez]; exact atI_nat (by rw [List.getElem?_map, hx]; rfl)), ps, _, rfl, DPut.k (k := Sum.inr ns[i]) (t3 _ _ hs3) (small1000 (by omega)), ?_⟩
      have k1 : rd ≠ ps := ne_of hd3 hs3 (fun z => nomatch z)
      have k2 : pn ≠ ps := ne_of hn3 hs3 (fun z => nomatch z)
      have k3 : pr ≠ ps := ne_of hr3 hs3 (fun z => nomatch z)
      refine ⟨putK kvs (Sum.inr ns[i]) (.int z), _, rfl, (s3.trans t3).put (s2.free hps) _, (upd_ne k1).trans (t3 _ _ hd3), (upd_ne k2).trans (t3 _ _ hn3), upd_same, (upd_ne k3).trans (t3 _ _ hr3), nd_put _ _ nd, iv_put _ _ iv, Nat.le_trans (length_putK _ _ _) (by omega), fun t x ht hx' => ?_⟩
      rw [valV_put]
      split
      · refine ⟨z, rfl, ?_⟩
        simp only [List.mem_cons, List.not_mem_nil, or_false, V.int.injEq] at mz
        rcases mz with h | h | h | h | h
        · omega
        · omega
        · omega
        · omega
        · rw [h]; decide
      · rename_i ne
        rcases Nat.lt_succ_iff_lt_or_eq.mp ht with q | q
        · exact vals t x q hx'
        · subst q
          rw [hx] at hx'
          cases hx'
          exact absurd rfl ne
    · rintro σ H3 ⟨kvs, kv, rfl, s3, hd3, hn3, hs3, hr3, nd, iv, lk, vals⟩
      refine ⟨rd, pn, ps, pr, ds, ns, base, kvs, kv, rfl, s3, nrd, npn, s2.free hps, (s2.new hps _).free hpr, hd3, hn3, hs3, hr3, ⟨e1, e2⟩, lds, hb, nnd, ln1, ln2, nd, iv, fun t x hx => vals t x ?_ hx, hD⟩
      have := (List.getElem?_eq_some_iff.mp hx).1
      omega
  refine ⟨_, rfl, _, rfl, a, ins, j, 20, rfl, hS, h63, j0, by omega, by decide, fun rd ds H1 s1 n1 hd1 l1 b1 => ?_⟩
  obtain ⟨d16, h16, _, _⟩ := b1.at (i := 16) (by omega)
  obtain ⟨d17, h17, _, _⟩ := b1.at (i := 17) (by omega)
  obtain ⟨d18, h18, _, _⟩ := b1.at (i := 18) (by omega)
  obtain ⟨nn, hnn⟩ : ∃ nn : Nat, 2 + d16 % 4 = (nn : Int) := ⟨(2 + d16 % 4).toNat, by omega⟩
  refine ⟨_, rfl, _, rfl, _, _, _, _, rfl, rfl, SqL.of hd1, h16, _, _, rfl, rfl, (by show (0 : Int) < 4; decide), _, _, rfl, rfl, rd, ds, nn, (by show [V.ref rd, V.int (2 + d16 % 4)] = _; rw [hnn]), hd1, b1, l1, by omega, fun pn ns H2 s2 npn hn2 lns nnd => ?_⟩
  have hd2 := s2 _ _ hd1
  refine ⟨_, _, rfl, rfl, ⟨by decide, by decide, by decide⟩, _, rfl, _, _, _, _, rfl, rfl, SqL.of hd2, h17, _, _, rfl, rfl, ?_⟩
  refine ⟨_, _, rfl, rfl, ⟨by decide, by decide, by decide⟩, _, _, rfl, rfl, ⟨(by show 4 ≤ sizeLine; decide), fun p hp => ?_⟩⟩
  have t1 := same_new hp (.lst [.int 0, .int 0, .int (10 ^ (20 : Int).toNat + d17), .int (0 - 10 ^ (40 : Int).toNat)])
  obtain ⟨base, hbase, _⟩ := pickI (xs := [.int 0, .int 0, .int (10 ^ (20 : Int).toNat + d17), .int (0 - 10 ^ (40 : Int).toNat)]) (i := d18 % 4) rfl (Int.emod_nonneg _ (by decide)) (Int.emod_lt_of_pos _ (by decide))
  refine ⟨_, rfl, _, _, _, _, rfl, rfl, SqL.of (t1 _ _ hd2), h18, _, _, rfl, rfl, (by show (0 : Int) < 4; decide), _, _, _, _, rfl, rfl, SqL.of upd_same, hbase, ?_⟩
  exact ⟨rd, pn, ds, ns, base, rfl, (s1.trans s2).trans t1, n1, s1.free npn, t1 _ _ hd2, t1 _ _ hn2, l1, b1, nnd, by omega, by omega, rfl⟩
theorem sc_Ltrip : FnScope ["_law_script", "_law_at", "_law_most", "_law_d", "_law_start", "_law_goal", "_law_since", "_law_names_here", "_law_spans", "_law_rides", "_law_base"] ["_law_script", "_law_at", "_law_most"] (defScope s_Ltrip) := ⟨rfl, rfl, rfl, by decide +kernel, rfl, by decide +kernel, by decide +kernel⟩
set_option maxHeartbeats 4000000 in
theorem ok_Ltrip  (T : Txt K mg f_soonest f_no_way f_bars f_ready_by f_Ldraws f_Lsame f_Lnames f_Lworld f_Ltrip f_Lbars f_Lbent f_law) (F : Fun K "_law_trip" "_law_trip" s_Ltrip f_Ltrip fd_Ltrip) (GLworld : FnOk P w K mg base CX0 2 f_Lworld fd_Lworld ["_law_script", "_law_at", "_law_most"] (spWorld2 K)) (BLworld : Binds K fd_Lworld ["_law_script", "_law_at", "_law_most"] []) (GLdraws : FnOk P w K mg base CX0 1 f_Ldraws fd_Ldraws ["_law_script", "_law_at", "_law_many"] (spDraws K)) (BLdraws : Binds K fd_Ldraws ["_law_script", "_law_at", "_law_many"] []) : FnOk P w K mg base CX0 3 f_Ltrip fd_Ltrip ["_law_script", "_law_at", "_law_most"] (spTrip K) := by
  refine F.ok sc_Ltrip (fun vs H Q E h => ?_) (fun cdv A outer s H vs Q E hr h => ?_)
  · obtain ⟨a, ins, j, rfl, _⟩ := h
    rfl
  obtain ⟨a, ins, j, rfl, hS, h63, j0, j1, k⟩ := h
  have hu := hu_of hr
  refine ⟨_,
    (pss_cons (ps_asg (pe_call GLworld hr rfl T.m_Lworld T.k_Lworld BLworld .nil pass0 (pa_cons (pv 0) (pa_cons (pv 1) (pa_cons (pv 2) pa_nil)))) (pg_tup rfl (pgs_cons (pg_name (i := 7) sc_Ltrip.nd rfl (by first | exact Or.inl rfl | exact Or.inr rfl)) (pgs_cons (pg_name (i := 8) sc_Ltrip.nd rfl (by first | exact Or.inl rfl | exact Or.inr rfl)) (pgs_cons (pg_name (i := 9) sc_Ltrip.nd rfl (by first | exact Or.inl rfl | exact Or.inr rfl)) (pgs_cons (pg_name (i := 10) sc_Ltrip.nd rfl (by first | exact Or.inl rfl | exact Or.inr rfl)) pgs_nil))))))
    (pss_cons (ps_set (i := 3) sc_Ltrip.nd rfl (by first | exact Or.inl rfl | exact Or.inr rfl) (pe_call GLdraws (hr.mono (by decide)) rfl T.m_Ldraws T.k_Ldraws BLdraws .nil pass0 (pa_cons (pv 0) (pa_cons (pe_op op_add (pv 1) pe_int) (pa_cons pe_int pa_nil)))))
    (pss_cons (ps_set (i := 4) sc_Ltrip.nd rfl (by first | exact Or.inl rfl | exact Or.inr rfl) (pe_ix ix_list (pv 7) (pe_op op_mod (pe_ix ix_list (pv 3) pe_int (fun _ _ => rfl)) (pe_callB call_len_seq rfl T.b_len bt_len (pa_cons (pv 7) pa_nil))) (fun _ _ => rfl)))
    (pss_cons (ps_set (i := 5) sc_Ltrip.nd rfl (by first | exact Or.inl rfl | exact Or.inr rfl) (pe_ix ix_list (pv 7) (pe_op op_mod (pe_ix ix_list (pv 3) pe_int (fun _ _ => rfl)) (pe_callB call_len_seq rfl T.b_len bt_len (pa_cons (pv 7) pa_nil))) (fun _ _ => rfl)))
    (pss_cons (ps_set (i := 6) sc_Ltrip.nd rfl (by first | exact Or.inl rfl | exact Or.inr rfl) (pe_op op_add (pv 10) (pe_ix ix_list (pe_lst (pa_cons pe_int (pa_cons (pe_op op_mod (pe_ix ix_list (pv 3) pe_int (fun _ _ => rfl)) pe_int) (pa_cons (pe_op op_sub pe_int pe_int) (pa_cons (pe_op op_mod (pe_ix ix_list (pv 3) pe_int (fun _ _ => rfl)) pe_int) pa_nil))))) (pe_op op_mod (pe_ix ix_list (pv 3) pe_int (fun _ _ => rfl)) pe_int) (fun _ _ => rfl))))
    (pss_one (ps_ret (pe_tup (pa_cons (pv 7) (pa_cons (pv 8) (pa_cons (pv 9) (pa_cons (pv 4) (pa_cons (pv 5) (pa_cons (pv 6) pa_nil)))))))))))))), ?_⟩
  refine ⟨_, rfl, _, rfl, _, rfl, a, ins, j, rfl, hS, h63, j0, by omega, fun p pn ps pr base ns kvs xs rds H1 s1 np npn nps npr hp W => ?_⟩
  refine ⟨p, _, rfl, SqT.of hp, rfl, _, _, rfl, _, _, rfl, _, _, rfl, _, _, rfl, rfl, ?_⟩
  refine ⟨_, rfl, _, rfl, _, _, rfl, rfl, a, ins, j + 13, 8, rfl, s1.seq hS, h63, by omega, by omega, by decide, fun rd ds H2 s2 nrd hd2 ld bd => ?_⟩
  have W2 := W.mono s2
  obtain ⟨d0, h0, _, _⟩ := bd.at (i := 0) (by omega)
  obtain ⟨d1, h1, _, _⟩ := bd.at (i := 1) (by omega)
  obtain ⟨d2, h2, _, _⟩ := bd.at (i := 2) (by omega)
  obtain ⟨d3, h3, _, _⟩ := bd.at (i := 3) (by omega)
  have lm : (ns.map V.str).length = ns.length := List.length_map _
  have n2 := W.n2
  have p1 : (0 : Int) < (((ns.map V.str).length : Nat) : Int) := by rw [lm]; omega
  obtain ⟨xa, ha, ma⟩ := place_at2 (ns := ns) (Int.emod_nonneg d0 (Int.ne_of_gt p1)) (Int.emod_lt_of_pos d0 p1)
  obtain ⟨xb, hb, mb⟩ := place_at2 (ns := ns) (Int.emod_nonneg d1 (Int.ne_of_gt p1)) (Int.emod_lt_of_pos d1 p1)
  refine ⟨_, rfl, _, rfl, _, _, _, _, rfl, rfl, SqL.of hd2, h0, _, rfl, _, _, rfl, .inl (SqL.of W2.hn), _, _, rfl, rfl, p1, _, _, _, _, rfl, rfl, SqL.of W2.hn, ha, ?_⟩
  refine ⟨_, rfl, _, rfl, _, _, _, _, rfl, rfl, SqL.of hd2, h1, _, rfl, _, _, rfl, .inl (SqL.of W2.hn), _, _, rfl, rfl, p1, _, _, _, _, rfl, rfl, SqL.of W2.hn, hb, ?_⟩
  refine ⟨_, rfl, _, rfl, _, _, _, _, rfl, rfl, SqL.of hd2, h2, _, _, rfl, rfl, (by show (0 : Int) < 12; decide), _, _, rfl, rfl, _, rfl, _, _, _, _, rfl, rfl, SqL.of hd2, h2, _, _, rfl, rfl, (by show (0 : Int) < 30; decide), (by show 4 ≤ sizeLine; decide), fun p4 hp4 => ?_⟩
  have t1 := same_new hp4 (.lst [.int 0, .int (d2 % 12), .int (0 - 50), .int (d2 % 30)])
  obtain ⟨w, hw, _⟩ := pickI (xs := [.int 0, .int (d2 % 12), .int (0 - 50), .int (d2 % 30)]) (i := d3 % 4) rfl (Int.emod_nonneg _ (by decide)) (Int.emod_lt_of_pos _ (by decide))
  refine ⟨_, rfl, _, _, _, _, rfl, rfl, SqL.of (t1 _ _ hd2), h3, _, _, rfl, rfl, (by show (0 : Int) < 4; decide), _, _, _, _, rfl, rfl, SqL.of upd_same, hw, _, _, rfl, rfl, ?_⟩
  refine ⟨_, rfl, _, rfl, _, rfl, _, rfl, _, rfl, _, rfl, (by show 6 ≤ sizeLine; decide), fun q hq => ?_⟩
  have t2 := same_new hq (.tup [.ref pn, .ref ps, .ref pr, .str xa, .str xb, .int (base + w)])
  have s12 := (s1.trans s2).trans t1
  exact k q pn ps pr base ns kvs xs rds xa xb (base + w) _ (s12.trans t2) (s12.free hq) npn nps npr upd_same ((W2.mono t1).mono t2) ma mb
theorem sc_Lbars : FnScope ["_law_rides", "_law_spans", "_law_start", "_law_goal", "_law_since", "_law_paper", "_law_sites", "_law_place", "_law_moment", "_law_ride", "_law_due"] ["_law_rides", "_law_spans", "_law_start", "_law_goal", "_law_since", "_law_paper"] (defScope s_Lbars) := ⟨rfl, rfl, rfl, by decide +kernel, rfl, by decide +kernel, by decide +kernel⟩
set_option maxHeartbeats 4000000 in
theorem ok_Lbars  (T : Txt K mg f_soonest f_no_way f_bars f_ready_by f_Ldraws f_Lsame f_Lnames f_Lworld f_Ltrip f_Lbars f_Lbent f_law) (F : Fun K "_law_bars" "_law_bars" s_Lbars f_Lbars fd_Lbars) : FnOk P w K mg base CX0 1 f_Lbars fd_Lbars ["_law_rides", "_law_spans", "_law_start", "_law_goal", "_law_since", "_law_paper"] spLBars2 := by
  refine F.ok sc_Lbars (fun vs H Q E h => ?_) (fun cdv A outer s H vs Q E hr h => ?_)
  · obtain ⟨pr, ps, pp, xs, kvs, ds, st, go, si, out, qs, rfl, _⟩ := h
    rfl
  obtain ⟨pr, ps, pp, xs, kvs, ds, st, go, si, out, qs, rfl, hpr, hps, rw_, PO, l60, k⟩ := h
  have hu := hu_of hr
  refine ⟨_,
    (pss_cons (ps_setC (i := 6) sc_Lbars.nd rfl (by first | exact Or.inl rfl | exact Or.inr rfl) (T := ["_law_place", "_law_moment"]) (caps := []) (ix := []) (compOk rfl (by rfl) (by decide +kernel) (by decide +kernel) rfl (by intro x hx; repeat (first | (rcases List.mem_cons.mp hx with rfl | hx; · exact ⟨rfl, rfl, rfl⟩) | exact absurd hx (List.not_mem_nil))) (by rfl) (by intro x hx; repeat (first | (rcases List.mem_cons.mp hx with rfl | hx; · rfl) | exact absurd hx (List.not_mem_nil)))) rfl (pi_list (pv 5)) (fun _ _ _ _ => (pg_tupK (n := 2) K rfl rfl (pgs_cons (pg_name (i := 0) (by show (["_law_place", "_law_moment"] : List Str).Nodup; decide +kernel) rfl (by first | exact Or.inl rfl | exact Or.inr rfl)) (pgs_cons (pg_name (i := 1) (by show (["_law_place", "_law_moment"] : List Str).Nodup; decide +kernel) rfl (by first | exact Or.inl rfl | exact Or.inr rfl)) pgs_nil)))) (fun _ _ _ _ => pts_nil) (fun _ _ _ _ => (pv 0)))
    (pss_cons (ps_if (PW.pt (pw_or (pt_cmpR op_ne (pe_callB call_lenSet rfl T.b_len bt_len (pa_cons (pe_callTy (call_setS2 rfl) rfl T.b_set bt_set (pa_cons (pv 6) pa_nil)) pa_nil)) (pe_callB call_len_seq rfl T.b_len bt_len (pa_cons (pv 6) pa_nil)) (nomark _)) (pw_or (pt_cmpR op_in_seq (pv 3) (pv 6) rfl) (pw_or1 (pt_cmpR op_notIn_seq (pv 2) (pv 6) rfl)))))
    (pss_one (ps_ret pe_bl))
    pss_nil)
    (pss_cons (ps_for PassesOwn.never rfl (pi_list (pv 5)) (pg_tup rfl (pgs_cons (pg_name (i := 7) sc_Lbars.nd rfl (by first | exact Or.inl rfl | exact Or.inr rfl)) (pgs_cons (pg_name (i := 8) sc_Lbars.nd rfl (by first | exact Or.inl rfl | exact Or.inr rfl)) pgs_nil)))
    (pss_cons (ps_if (PW.pt (pw_and (pt_cmpR op_eq (pv 7) (pv 2) (nomark _)) (pw_and1 (pt_cmpR op_gt (pv 8) (pv 4) (nomark _)))))
    (pss_one (ps_ret pe_bl))
    pss_nil)
    (pss_cut (R := fun D σ H2 => ∃ (pD : Addr) (pl : Str) (mo : Int) (u9 u10 : Option V), σ = [some (.ref pr), some (.ref ps), some (.str st), some (.str go), some (.int si), some (.ref pp), some (.ref pD), some (.str pl), some (.int mo), u9, u10] ∧ Same H H2 ∧ (pl, mo) ∈ out ∧ (out.map Prod.fst).Nodup ∧ D.rt = Q ∧ ∀ (u9 u10 : Option V) (H5 : Hp), Same H H5 → (∀ d ∈ ds, d.a = pl → mo ≤ d.l → rdy out d.b (d.c + spn kvs d.b) = true) → D.nx [some (.ref pr), some (.ref ps), some (.str st), some (.str go), some (.int si), some (.ref pp), some (.ref pD), some (.str pl), some (.int mo), u9, u10] H5) (pss_one (ps_for PassesOwn.never rfl (pi_list (pv 0)) (pg_name (i := 9) sc_Lbars.nd rfl (by first | exact Or.inl rfl | exact Or.inr rfl))
    (pss_one (ps_if (PW.pt (pw_and (pt_cmpR op_eq (pe_ix ix_tup (pv 9) pe_int (fun _ _ => rfl)) (pv 7) (nomark _)) (pw_and1 (pt_cmpR op_le (pv 8) (pe_ix ix_tup (pv 9) pe_int (fun _ _ => rfl)) (nomark _)))))
    (pss_cons (ps_setC (i := 10) sc_Lbars.nd rfl (by first | exact Or.inl rfl | exact Or.inr rfl) (T := ["_law_there", "_law_ready"]) (caps := ["_law_ride"]) (ix := [9]) (compOk rfl (by rfl) (by decide +kernel) (by decide +kernel) rfl (by intro x hx; repeat (first | (rcases List.mem_cons.mp hx with rfl | hx; · exact ⟨rfl, rfl, rfl⟩) | exact absurd hx (List.not_mem_nil))) (by rfl) (by intro x hx; repeat (first | (rcases List.mem_cons.mp hx with rfl | hx; · rfl) | exact absurd hx (List.not_mem_nil)))) rfl (pi_list (pv 5)) (fun _ _ _ _ => (pg_tupK (n := 2) K rfl rfl (pgs_cons (pg_name (i := 0) (by show (["_law_there", "_law_ready", "_law_ride"] : List Str).Nodup; decide +kernel) rfl (by first | exact Or.inl rfl | exact Or.inr rfl)) (pgs_cons (pg_name (i := 1) (by show (["_law_there", "_law_ready", "_law_ride"] : List Str).Nodup; decide +kernel) rfl (by first | exact Or.inl rfl | exact Or.inr rfl)) pgs_nil)))) (fun _ _ _ _ => (pts_one (pt_cmpR op_eq (pv 0) (pe_ix (ix_tupK K rfl) (pv 2) pe_int (fun _ _ => rfl)) (nomark _)))) (fun _ _ _ _ => (pv 1)))
    (pss_one (ps_if (PW.pt (pw_or (pt_not (pt_truth (pv 10) (fun _ => rfl))) (pw_or1 (pt_cmpR op_gt (pe_ix ix_list (pv 10) pe_int (fun _ _ => rfl)) (pe_op op_add (pe_ix ix_tup (pv 9) pe_int (fun _ _ => rfl)) (pe_dget hu (pv 1) (pe_ix ix_tup (pv 9) pe_int (fun _ _ => rfl)) (fun _ _ => rfl))) (nomark _)))))
    (pss_one (ps_ret pe_bl))
    pss_nil)))
    pss_nil)))) ?c1)))
    (pss_one (ps_ret pe_bl))))), ?_⟩
  case c1 =>
    rintro D σ H2 ⟨pD, pl, mo, u9, u10, rfl, s2, me, nd, hD, fin⟩
    have lq := PO.len
    have kf : ∀ H5, Same H H5 → ¬ Bars (spn kvs) ds st go si out → D.rt (.bl false) H5 := fun H5 s5 nb => by
      rw [hD]
      exact k false H5 s5 ⟨(fun z => nomatch z), fun B => absurd B nb⟩
    refine ⟨_, rfl, pr, rfl, ⟨_, SqL.of (s2 _ _ hpr)⟩, for_list (xs := xs) (fun j σ H3 => ∃ (u9 u10 : Option V), σ = [some (.ref pr), some (.ref ps), some (.str st), some (.str go), some (.int si), some (.ref pp), some (.ref pD), some (.str pl), some (.int mo), u9, u10] ∧ Same H H3 ∧ (∀ jj, jj < j → ∀ d, ds[jj]? = some d → d.a = pl → mo ≤ d.l → rdy out d.b (d.c + spn kvs d.b) = true)) ⟨_, _, rfl, s2, fun jj h => absurd h (Nat.not_lt_zero _)⟩ ?_ ?_ ?_⟩
    · rintro j σ H3 hj ⟨u9, u10, rfl, s3, cl⟩
      exact SqL.of (s3 _ _ hpr)
    · rintro j x σ H3 hx ⟨u9, u10, rfl, s3, cl⟩
      obtain ⟨d, hd, rdx⟩ := paired_at rw_ hx
      have md : d ∈ ds := List.mem_of_getElem? hd
      obtain ⟨q, rfl, g, v⟩ := rdx.mono s3
      have next : (d.a = pl → mo ≤ d.l → rdy out d.b (d.c + spn kvs d.b) = true) → (∀ jj, jj < (j + 1) → ∀ d, ds[jj]? = some d → d.a = pl → mo ≤ d.l → rdy out d.b (d.c + spn kvs d.b) = true) := fun h jj hjj d' hd' => by
        by_cases e : jj = j
        · subst e
          rw [hd] at hd'
          cases hd'
          exact h
        · exact cl jj (by omega) d' hd'
      refine ⟨_, rfl, _, _, _, _, rfl, rfl, SqT.of g, rfl, _, rfl, rfl, _, rfl, ?_⟩
      by_cases ha : d.a = pl
      · refine iteP (decide_eq_true (congrArg V.str ha)) ⟨_, rfl, _, rfl, _, _, _, _, rfl, rfl, SqT.of g, rfl, _, _, rfl, rfl, _, rfl, ?_⟩
        by_cases hl : mo ≤ d.l
        · refine iteP (decide_eq_true hl) ?_
          have ra : rdy out d.a d.l = true := by rw [ha, rdy_of nd me]; exact decide_eq_true hl
          refine ⟨_, rfl, pp, rfl, ⟨_, SqL.of (s3 _ _ PO.hr)⟩, comp_list (xs := qs.map V.ref) (fun i D2 σ' ys H4 => ∃ (v1 v2 : Option V) (cs : List Int), σ' = [v1, v2, some (.ref q)] ∧ ys = cs.map V.int ∧ H4 D2 = some (.lst ys) ∧ Same H3 H4 ∧ cs.length ≤ i ∧ (∀ c ∈ cs, (d.b, c) ∈ out) ∧ ∀ (kk : Nat) (o : Str × Int), kk < i → out[kk]? = some o → o.1 = d.b → o.2 ∈ cs) (fun D2 nD2 => ⟨none, none, [], rfl, rfl, upd_same, same_new nD2 _, Nat.le_refl _, (fun _ h => nomatch h), fun kk o h => absurd h (Nat.not_lt_zero _)⟩) ?_ ?_ ?_⟩
          · rintro i D2 σ' ys H4 hi nD2 ⟨v1, v2, cs, rfl, rfl, hD', s4, lc, snd, cpl⟩
            rw [List.length_map] at hi
            exact ⟨SqL.of (s4 _ _ (s3 _ _ PO.hr)), hD', small1000 (by rw [List.length_map]; omega)⟩
          · rintro i y D2 σ' ys H4 hy hlt nD2 ⟨v1, v2, cs, rfl, rfl, hD', s4, lc, snd, cpl⟩
            rw [List.getElem?_map] at hy
            cases hq : qs[i]? with
            | none => rw [hq] at hy; cases hy
            | some q2 =>
            rw [hq] at hy
            cases hy
            have hil : i < out.length := by rw [← lq]; exact (List.getElem?_eq_some_iff.mp hq).1
            have ho : out[i]? = some out[i] := List.getElem?_eq_getElem hil
            have g2 := s4 _ _ (s3 _ _ (PO.at' i q2 _ hq ho))
            refine ⟨q2, _, rfl, SqT.of g2, rfl, _, _, rfl, _, _, rfl, rfl, ?_⟩
            refine ⟨_, rfl, _, rfl, _, _, _, _, rfl, rfl, SqT.of (s4 _ _ g), rfl, rfl, _, rfl, ?_⟩
            by_cases hb : out[i].1 = d.b
            · refine iteP (decide_eq_true (congrArg V.str hb)) ⟨_, rfl, hD', CW.of hlt ⟨_, _, cs ++ [out[i].2], rfl, by rw [List.map_append]; rfl, upd_same, s4.put nD2 _, by rw [List.length_append, List.length_singleton]; omega, fun c hc => ?_, fun kk o hk hok hob => ?_⟩⟩
              · rcases List.mem_append.mp hc with z | z
                · exact snd c z
                · rw [List.mem_singleton.mp z, ← hb]
                  exact List.getElem_mem hil
              · by_cases e : kk = i
                · subst e
                  rw [ho] at hok
                  cases hok
                  exact List.mem_append_right _ (List.mem_singleton.mpr rfl)
                · exact List.mem_append_left _ (cpl kk o (by omega) hok hob)
            · refine iteN (by rw [decide_eq_true_iff]; exact fun z => hb (V.str.inj z)) (CW.of hlt ⟨_, _, cs, rfl, rfl, hD', s4, by omega, snd, fun kk o hk hok hob => ?_⟩)
              by_cases e : kk = i
              · subst e
                rw [ho] at hok
                cases hok
                exact absurd hob hb
              · exact cpl kk o (by omega) hok hob
          · rintro D2 ys σ' H4 nD2 ⟨v1, v2, cs, rfl, rfl, hD', s4, lc, snd, cpl⟩
            have cpl2 : ∀ m, (d.b, m) ∈ out → m ∈ cs := fun m hm => by
              obtain ⟨kk, hkk⟩ := List.mem_iff_getElem?.mp hm
              exact cpl kk _ (by rw [List.length_map, lq]; exact (List.getElem?_eq_some_iff.mp hkk).1) hkk rfl
            have s34 := s3.trans s4
            cases cs with
            | nil =>
              have nb : ¬ Bars (spn kvs) ds st go si out := fun B => absurd (B.cl d md ra) (by rw [rdy_no nd fun m hm => nomatch cpl2 m hm]; decide)
              exact ⟨_, rfl, false, .inl ⟨_, SqL.of hD', rfl⟩, iteP rfl (iteP rfl (kf _ s34 nb))⟩
            | cons c0 cs' =>
              have e0 : rdy out d.b (d.c + spn kvs d.b) = decide (c0 ≤ d.c + spn kvs d.b) := rdy_of nd (snd c0 (by simp))
              refine ⟨_, rfl, true, .inl ⟨_, SqL.of hD', rfl⟩, iteF ?_⟩
              refine ⟨_, rfl, _, _, _, _, rfl, rfl, SqL.of hD', (show atI (List.map V.int (c0 :: cs')) 0 = some (V.int c0) from atI_nat (j := 0) rfl), _, rfl, _, _, _, _, rfl, rfl, SqT.of (s4 _ _ g), rfl, _, rfl, _, rfl, _, _, _, _, rfl, rfl, SqT.of (s4 _ _ g), rfl, ps, _, rfl, v ▸ DGet.k (k := Sum.inr d.b) (s34 _ _ hps), _, _, rfl, rfl, _, _, rfl, rfl, _, rfl, ?_⟩
              by_cases hc : d.c + spn kvs d.b < c0
              · have nb : ¬ Bars (spn kvs) ds st go si out := fun B => absurd (B.cl d md ra) (by rw [e0, decide_eq_true_iff]; omega)
                exact iteP (decide_eq_true hc) (kf _ s34 nb)
              · exact iteN (by rw [decide_eq_true_iff]; exact hc) ⟨_, _, rfl, s34, next fun _ _ => by rw [e0]; exact decide_eq_true (by omega)⟩
        · exact iteN (by rw [decide_eq_true_iff]; exact hl) ⟨_, _, rfl, s3, next fun _ z => absurd z hl⟩
      · exact iteN (by rw [decide_eq_true_iff]; exact fun z => ha (V.str.inj z)) ⟨_, _, rfl, s3, next fun z => absurd z ha⟩
    · rintro σ H3 ⟨u9, u10, rfl, s3, cl⟩
      refine fin u9 u10 H3 s3 fun d hd => ?_
      obtain ⟨j, hj⟩ := List.mem_iff_getElem?.mp hd
      exact cl j (by rw [paired_len rw_]; exact (List.getElem?_eq_some_iff.mp hj).1) d hj
  have kf : ∀ H5, Same H H5 → ¬ Bars (spn kvs) ds st go si out → Q (.bl false) H5 := fun H5 s5 nb => k false H5 s5 ⟨(fun z => nomatch z), fun B => absurd B nb⟩
  have lq := PO.len
  refine ⟨_, rfl, pp, rfl, ⟨_, SqL.of PO.hr⟩, comp_list (xs := qs.map V.ref) (fun i D2 σ' ys H2 => ∃ (v1 v2 : Option V), σ' = [v1, v2] ∧ ys = (((out.map Prod.fst).take i).map V.str) ∧ H2 D2 = some (.lst ys) ∧ Same H H2) (fun D2 nD2 => ⟨none, none, rfl, rfl, upd_same, same_new nD2 _⟩) ?_ ?_ ?_⟩
  · rintro i D2 σ' ys H2 hi nD2 ⟨v1, v2, rfl, rfl, hD, s2⟩
    exact ⟨SqL.of (s2 _ _ PO.hr), hD, small1000 (by rw [List.length_map, List.length_take, List.length_map]; omega)⟩
  · rintro i x D2 σ' ys H2 hx hlt nD2 ⟨v1, v2, rfl, rfl, hD, s2⟩
    rw [List.getElem?_map] at hx
    cases hq : qs[i]? with
    | none => rw [hq] at hx; cases hx
    | some q =>
    rw [hq] at hx
    cases hx
    have hil : i < out.length := by rw [← lq]; exact (List.getElem?_eq_some_iff.mp hq).1
    have ho : out[i]? = some out[i] := List.getElem?_eq_getElem hil
    have g := s2 _ _ (PO.at' i q _ hq ho)
    have et : (out.map Prod.fst).take (i + 1) = (out.map Prod.fst).take i ++ [out[i].1] := take_snoc (by rw [List.getElem?_map, ho]; rfl)
    refine ⟨q, _, rfl, SqT.of g, rfl, _, _, rfl, _, _, rfl, rfl, ?_⟩
    refine tallG ?_
    refine ⟨_, rfl, hD, CW.of hlt ⟨_, _, rfl, ?_, upd_same, s2.put nD2 _⟩⟩
    rw [et, List.map_append]
    rfl
  · rintro D2 ys σ' H2 nD2 ⟨v1, v2, rfl, rfl, hD, s2⟩
    have ef : (out.map Prod.fst).take (qs.map V.ref).length = out.map Prod.fst := by
      rw [List.length_map, lq]
      have : out.length = (out.map Prod.fst).length := (List.length_map _).symm
      rw [this, List.take_length]
    rw [ef] at hD
    have lm : (out.map Prod.fst).length = out.length := List.length_map _
    refine ⟨_, rfl, D2, _, rfl, SqL.of hD, by omega, fun v nv => ?_⟩
    have tv := same_new nv (SetAt v (dd (out.map Prod.fst)).length)
    have ddl := (ddOk (out.map Prod.fst)).le
    have hD' := tv _ _ hD
    refine ⟨v, _, rfl, upd_same, by omega, _, rfl, D2, _, rfl, .inl (SqL.of hD'), rfl, _, rfl, ?_⟩
    have s3 := s2.trans tv
    by_cases nd : (out.map Prod.fst).Nodup
    case neg =>
      have e1 : (!decide (V.int (((dd (out.map Prod.fst)).length : Nat) : Int) = V.int ((((out.map Prod.fst).map V.str).length : Nat) : Int))) = true := by
        rw [List.length_map (f := V.str)]
        have : ¬ (dd (out.map Prod.fst)).length = (out.map Prod.fst).length := fun z => nd (dd_len.mp z)
        simp only [V.int.injEq, Bool.not_eq_true', decide_eq_false_iff_not]
        omega
      exact iteP e1 (iteP rfl (kf _ s3 fun B => nd B.nd))
    have e1 : (!decide (V.int (((dd (out.map Prod.fst)).length : Nat) : Int) = V.int ((((out.map Prod.fst).map V.str).length : Nat) : Int))) = false := by
      rw [List.length_map (f := V.str), dd_len.mpr nd]
      simp
    refine iteN (by rw [e1]; decide) ?_
    refine ⟨_, rfl, _, rfl, D2, _, rfl, .inl (SqL.of hD'), rfl, flat_strs _, _, rfl, ?_⟩
    have e2 : (if false = true then !inV (V.str go) ((out.map Prod.fst).map V.str) else inV (V.str go) ((out.map Prod.fst).map V.str)) = decide (go ∈ out.map Prod.fst) := by
      rw [if_neg (by decide), inV_str]
    rw [e2]
    by_cases hgo : go ∈ out.map Prod.fst
    case pos => exact iteP (decide_eq_true hgo) (iteP rfl (kf _ s3 fun B => B.ng hgo))
    refine iteN (by rw [decide_eq_true_iff]; exact hgo) ?_
    refine ⟨_, rfl, _, rfl, D2, _, rfl, .inl (SqL.of hD'), rfl, flat_strs _, _, rfl, ?_⟩
    have e3 : (if true = true then !inV (V.str st) ((out.map Prod.fst).map V.str) else inV (V.str st) ((out.map Prod.fst).map V.str)) = !decide (st ∈ out.map Prod.fst) := by
      rw [if_pos rfl, inV_str]
    rw [e3]
    by_cases hst : st ∈ out.map Prod.fst
    case neg => exact iteP (by rw [decide_eq_false hst]; rfl) (kf _ s3 fun B => hst (rdy_mem B.st0))
    refine iteN (by rw [decide_eq_true hst]; decide) ?_
    refine ⟨_, rfl, pp, rfl, ⟨_, SqL.of (s3 _ _ PO.hr)⟩, for_list (xs := qs.map V.ref) (fun i σ H3 => ∃ (u7 u8 u9 u10 : Option V), σ = [some (.ref pr), some (.ref ps), some (.str st), some (.str go), some (.int si), some (.ref pp), some (.ref D2), u7, u8, u9, u10] ∧ Same H H3 ∧ (∀ kk, kk < i → ∀ o, out[kk]? = some o → (o.1 = st → o.2 ≤ si) ∧ ∀ d ∈ ds, d.a = o.1 → o.2 ≤ d.l → rdy out d.b (d.c + spn kvs d.b) = true)) ⟨_, _, _, _, rfl, s3, fun kk h => absurd h (Nat.not_lt_zero _)⟩ ?_ ?_ ?_⟩
    · rintro i σ H3 hi ⟨u7, u8, u9, u10, rfl, s4, okk⟩
      exact SqL.of (s4 _ _ PO.hr)
    · rintro i x σ H3 hx ⟨u7, u8, u9, u10, rfl, s4, okk⟩
      rw [List.getElem?_map] at hx
      cases hq : qs[i]? with
      | none => rw [hq] at hx; cases hx
      | some q =>
      rw [hq] at hx
      cases hx
      have hil : i < out.length := by rw [← lq]; exact (List.getElem?_eq_some_iff.mp hq).1
      have ho : out[i]? = some out[i] := List.getElem?_eq_getElem hil
      have g := s4 _ _ (PO.at' i q _ hq ho)
      have mo : (out[i].1, out[i].2) ∈ out := List.getElem_mem hil
      have next : (out[i].1 = st → out[i].2 ≤ si) → (∀ d ∈ ds, d.a = out[i].1 → out[i].2 ≤ d.l → rdy out d.b (d.c + spn kvs d.b) = true) → (∀ kk, kk < (i + 1) → ∀ o, out[kk]? = some o → (o.1 = st → o.2 ≤ si) ∧ ∀ d ∈ ds, d.a = o.1 → o.2 ≤ d.l → rdy out d.b (d.c + spn kvs d.b) = true) := fun h1 h2 kk hkk o hok => by
        by_cases e : kk = i
        · subst e
          rw [ho] at hok
          cases hok
          exact ⟨h1, h2⟩
        · exact okk kk (by omega) o hok
      refine ⟨q, _, rfl, SqT.of g, rfl, _, _, rfl, _, _, rfl, rfl, ?_⟩
      refine ⟨_, rfl, _, rfl, rfl, _, rfl, ?_⟩
      by_cases hs : out[i].1 = st
      · refine iteP (decide_eq_true (congrArg V.str hs)) ⟨_, rfl, _, rfl, _, _, rfl, rfl, _, rfl, ?_⟩
        by_cases hl : si < out[i].2
        · refine iteP (decide_eq_true hl) (kf _ s4 fun B => absurd B.st0 ?_)
          rw [← hs, rdy_of nd mo, decide_eq_true_iff]
          omega
        · exact iteN (by rw [decide_eq_true_iff]; exact hl) ⟨D2, out[i].1, out[i].2, _, _, rfl, s4, mo, nd, rfl, fun u9 u10 H5 s5 h2 => ⟨_, _, _, _, rfl, s5, next (fun _ => by omega) h2⟩⟩
      · exact iteN (by rw [decide_eq_true_iff]; exact fun z => hs (V.str.inj z)) ⟨D2, out[i].1, out[i].2, _, _, rfl, s4, mo, nd, rfl, fun u9 u10 H5 s5 h2 => ⟨_, _, _, _, rfl, s5, next (fun z => absurd z hs) h2⟩⟩
    · rintro σ H3 ⟨u7, u8, u9, u10, rfl, s4, okk⟩
      have okm : ∀ x m, (x, m) ∈ out → (x = st → m ≤ si) ∧ ∀ d ∈ ds, d.a = x → m ≤ d.l → rdy out d.b (d.c + spn kvs d.b) = true := fun x m hm => by
        obtain ⟨kk, hkk⟩ := List.mem_iff_getElem?.mp hm
        exact okk kk (by rw [List.length_map, lq]; exact (List.getElem?_eq_some_iff.mp hkk).1) _ hkk
      refine k true H3 s4 ⟨fun _ => ⟨nd, hgo, ?_, fun d hd hra => ?_⟩, fun _ => rfl⟩
      · obtain ⟨⟨x, m⟩, hm, e⟩ := List.mem_map.mp hst
        have e' : x = st := e
        subst e'
        rw [rdy_of nd hm]
        exact decide_eq_true ((okm _ _ hm).1 rfl)
      · obtain ⟨z, e, lz⟩ := rdy_iff.mp hra
        exact (okm _ _ ((mem_lookup nd).mpr e)).2 d hd rfl lz
theorem sc_Lbent : FnScope ["_law_paper", "_law_d", "_law_names_here", "_law_made", "_law_at", "_law_way", "_law_place", "_law_moment"] ["_law_paper", "_law_d", "_law_names_here"] (defScope s_Lbent) := ⟨rfl, rfl, rfl, by decide +kernel, rfl, by decide +kernel, by decide +kernel⟩
set_option maxHeartbeats 4000000 in
theorem ok_Lbent  (T : Txt K mg f_soonest f_no_way f_bars f_ready_by f_Ldraws f_Lsame f_Lnames f_Lworld f_Ltrip f_Lbars f_Lbent f_law) (F : Fun K "_law_bent" "_law_bent" s_Lbent f_Lbent fd_Lbent) : FnOk P w K mg base CX0 1 f_Lbent fd_Lbent ["_law_paper", "_law_d", "_law_names_here"] spBent := by
  refine F.ok sc_Lbent (fun vs H Q E h => ?_) (fun cdv A outer s H vs Q E hr h => ?_)
  · obtain ⟨p, d, nm, xs, ds, ns, rfl, _⟩ := h
    rfl
  obtain ⟨p, d, nm, xs, ds, ns, rfl, hp, pvs, l40, hd, hb, l3, hnm, n0, k⟩ := h
  have hu := hu_of hr
  have draw : ∀ {i : Nat}, i < 3 → ∃ x, atI (ds.map V.int) (i : Int) = some (.int x) ∧ 0 ≤ x ∧ x < 1013 := fun {i} h => hb.at (by omega)
  obtain ⟨d0, h0, _, _⟩ := draw (i := 0) (by decide)
  obtain ⟨d1, h1, _, _⟩ := draw (i := 1) (by decide)
  obtain ⟨d2, h2, _, _⟩ := draw (i := 2) (by decide)
  refine ⟨_,
    (pss_cons (ps_set (i := 3) sc_Lbent.nd rfl (by first | exact Or.inl rfl | exact Or.inr rfl) (pe_callTy call_list_of rfl T.b_list bt_list (pa_cons (pv 0) pa_nil)))
    (pss_cons (ps_set (i := 4) sc_Lbent.nd rfl (by first | exact Or.inl rfl | exact Or.inr rfl) (pe_op op_mod (pe_ix ix_list (pv 1) pe_int (fun _ _ => rfl)) (pe_op op_add (pe_callB call_len_seq rfl T.b_len bt_len (pa_cons (pv 3) pa_nil)) pe_int)))
    (pss_cons (ps_set (i := 5) sc_Lbent.nd rfl (by first | exact Or.inl rfl | exact Or.inr rfl) (pe_op op_mod (pe_ix ix_list (pv 1) pe_int (fun _ _ => rfl)) pe_int))
    (pss_cut (R := fun D σ H2 => BSt H p d nm xs.length cAt σ H2 ∧ D.rt = Q) (pss_cons (ps_if (pt_cmpR op_eq (pv 5) pe_int (nomark _))
    (pss_one (ps_expr (pe_bm PySem.F.plainAttrs_list PySem.F.slot_list_insert PySem.F.type_list_insert mt_insert (pv 3) (pa_cons (pv 4) (pa_cons (pe_tup (pa_cons (pe_ix ix_list (pv 2) (pe_op op_mod (pe_ix ix_list (pv 1) pe_int (fun _ _ => rfl)) (pe_callB call_len_seq rfl T.b_len bt_len (pa_cons (pv 2) pa_nil))) (fun _ _ => rfl)) (pa_cons pe_int pa_nil))) pa_nil)))))
    pss_nil)
    (pss_cut (R := fun D σ H2 => BSt H p d nm (xs.length + 1) cAt σ H2 ∧ D.rt = Q) (pss_cons (ps_if (PW.pt (pw_and (pt_cmpR op_eq (pv 5) pe_int (nomark _)) (pw_and1 (pt_truth (pv 3) (fun _ => rfl)))))
    (pss_one (ps_expr (pe_bm PySem.F.plainAttrs_list PySem.F.slot_list_insert PySem.F.type_list_insert mt_insert (pv 3) (pa_cons (pv 4) (pa_cons (pe_ix ix_list (pv 3) (pe_op op_mod (pe_ix ix_list (pv 1) pe_int (fun _ _ => rfl)) (pe_callB call_len_seq rfl T.b_len bt_len (pa_cons (pv 3) pa_nil))) (fun _ _ => rfl)) pa_nil)))))
    pss_nil)
    (pss_cut (R := fun D σ H2 => BSt H p d nm (xs.length + 2) cAt σ H2 ∧ D.rt = Q) (pss_cons (ps_if (pt_cmpR op_lt (pv 4) (pe_callB call_len_seq rfl T.b_len bt_len (pa_cons (pv 3) pa_nil)) (nomark _))
    (pss_cons (ps_asg (pe_ix ix_list (pv 3) (pv 4) (fun _ _ => rfl)) (pg_tup rfl (pgs_cons (pg_name (i := 6) sc_Lbent.nd rfl (by first | exact Or.inl rfl | exact Or.inr rfl)) (pgs_cons (pg_name (i := 7) sc_Lbent.nd rfl (by first | exact Or.inl rfl | exact Or.inr rfl)) pgs_nil))))
    (pss_cut (R := fun D σ H2 => BSi H p d nm (xs.length + 2) (fun _ a n => a < n) σ H2 ∧ ∀ σ2 H3, BSt H p d nm (xs.length + 2) cAny σ2 H3 → D.nx σ2 H3) (pss_cons (ps_if (pt_cmpR op_eq (pv 5) pe_int (nomark _))
    (pss_one (ps_expr (pe_bm PySem.F.plainAttrs_list PySem.F.slot_list_pop PySem.F.type_list_pop mt_popAt (pv 3) (pa_cons (pv 4) pa_nil))))
    pss_nil)
    (pss_cut (R := fun D σ H2 => BSi H p d nm (xs.length + 2) cIn σ H2 ∧ ∀ σ2 H3, BSt H p d nm (xs.length + 2) cAny σ2 H3 → D.nx σ2 H3) (pss_cons (ps_if (pt_cmpR op_eq (pv 5) pe_int (nomark _))
    (pss_one (ps_asg (pe_tup (pa_cons (pv 6) (pa_cons (pe_op op_sub (pe_op op_sub (pv 7) pe_int) (pe_op op_mod (pe_ix ix_list (pv 1) pe_int (fun _ _ => rfl)) pe_int)) pa_nil))) (pg_sub (pv 3) (pv 4) set_list)))
    pss_nil)
    (pss_cut (R := fun D σ H2 => BSi H p d nm (xs.length + 2) cIn σ H2 ∧ ∀ σ2 H3, BSt H p d nm (xs.length + 2) cAny σ2 H3 → D.nx σ2 H3) (pss_cons (ps_if (pt_cmpR op_eq (pv 5) pe_int (nomark _))
    (pss_one (ps_asg (pe_tup (pa_cons (pv 6) (pa_cons (pe_op op_add (pe_op op_add (pv 7) pe_int) (pe_op op_mod (pe_ix ix_list (pv 1) pe_int (fun _ _ => rfl)) pe_int)) pa_nil))) (pg_sub (pv 3) (pv 4) set_list)))
    pss_nil)
    (pss_cut (R := fun D σ H2 => BSi H p d nm (xs.length + 2) cIn σ H2 ∧ ∀ σ2 H3, BSt H p d nm (xs.length + 2) cAny σ2 H3 → D.nx σ2 H3) (pss_one (ps_if (pt_cmpR op_eq (pv 5) pe_int (nomark _))
    (pss_one (ps_asg (pe_tup (pa_cons (pv 6) (pa_cons (pe_ix ix_list (pe_lst (pa_cons (pe_op op_sub pe_int (pe_op op_pow pe_int pe_int)) (pa_cons (pe_op op_pow pe_int pe_int) pa_nil))) (pe_op op_mod (pe_ix ix_list (pv 1) pe_int (fun _ _ => rfl)) pe_int) (fun _ _ => rfl)) pa_nil))) (pg_sub (pv 3) (pv 4) set_list)))
    pss_nil)) ?c8)) ?c7)) ?c6)) ?c5))
    pss_nil)
    (pss_cut (R := fun D σ H2 => BSt H p d nm (xs.length + 2) cAny σ H2 ∧ D.rt = Q) (pss_cons (ps_if (pt_cmpR op_eq (pv 5) pe_int (nomark _))
    (pss_one (ps_set (i := 3) sc_Lbent.nd rfl (by first | exact Or.inl rfl | exact Or.inr rfl) (pe_rev (pv 3) (pe_un un_neg pe_int) (fun o i => sub_rev _ _ _ _ o i))))
    pss_nil)
    (pss_one (ps_ret (pv 3)))) ?c4)) ?c3)) ?c2)) ?c1)))), ?_⟩
  case c4 =>
    rintro D σ H2 ⟨⟨md, zs, at_, wy, u6, u7, rfl, s2, nmd, hmd, pv_, lz, _⟩, hD⟩
    refine ⟨_, rfl, rfl, _, rfl, ?_⟩
    refine ite2 (fun _ => ?_) (fun _ => ?_)
    · refine ⟨_, rfl, 1, rfl, rfl, md, zs, rfl, SqL.of hmd, fun r nr => ?_⟩
      have t := same_new nr (.lst zs.reverse)
      refine ⟨_, rfl, ?_⟩
      rw [hD]
      exact k r zs.reverse _ (s2.trans t) (s2.free nr) upd_same (fun x hx => (pv_ x (List.mem_reverse.mp hx)).mono t) (by rw [List.length_reverse]; omega)
    · refine ⟨_, rfl, ?_⟩
      rw [hD]
      exact k md zs _ s2 nmd hmd pv_ (by omega)
  case c8 =>
    rintro D σ H2 ⟨⟨md, zs, at_, wy, s6, i7, rfl, s2, nmd, hmd, pv_, lz, cc⟩, fin⟩
    refine ⟨_, rfl, rfl, _, rfl, ?_⟩
    by_cases hw : wy = 5
    · refine iteP (decide_eq_true (by rw [hw])) ⟨_, rfl, _, _, rfl, rfl, ⟨by decide, by decide, by decide⟩, _, _, rfl, rfl, _, _, rfl, rfl, ⟨by decide, by decide, by decide⟩, (by show 2 ≤ sizeLine; decide), fun p5 np5 => ?_⟩
      have t5 := same_new np5 (.lst [.int (0 - 10 ^ (45 : Int).toNat), .int (10 ^ (45 : Int).toNat)])
      obtain ⟨z, hz, _⟩ := pickI (xs := [.int (0 - 10 ^ (45 : Int).toNat), .int (10 ^ (45 : Int).toNat)]) (i := d2 % 2) rfl (Int.emod_nonneg _ (by decide)) (Int.emod_lt_of_pos _ (by decide))
      refine ⟨_, rfl, _, _, _, _, rfl, rfl, SqL.of (t5 _ _ (s2 _ _ hd)), h2, _, _, rfl, rfl, (by show (0 : Int) < 2; decide), _, _, _, _, rfl, rfl, SqL.of upd_same, hz, (by show 2 ≤ sizeLine; decide), fun t nt => ?_⟩
      have t6 := t5.trans (same_new nt (.tup [.str s6, .int z]))
      refine ⟨_, rfl, _, rfl, md, zs, _, at_, rfl, rfl, t6 _ _ hmd, ixN_nat (cc (by omega)), fin _ _ ⟨md, zs.set at_ (.ref t), at_, wy, _, _, rfl, (s2.trans t6).put nmd _, nmd, upd_same, fun x hx => ?_, by rw [List.length_set]; exact lz, trivial⟩⟩
      rcases List.mem_or_eq_of_mem_set hx with q | q
      · exact ((pv_ x q).mono t6).updL (t6 _ _ hmd)
      · rw [q]
        exact PV.updL (t6 _ _ hmd) ⟨t, s6, z, rfl, upd_same⟩
    · exact iteN (by rw [decide_eq_true_iff]; exact fun z => hw (V.int.inj z)) (fin _ _ ⟨md, zs, at_, wy, _, _, rfl, s2, nmd, hmd, pv_, lz, trivial⟩)
  case c7 =>
    rintro D σ H2 ⟨⟨md, zs, at_, wy, s6, i7, rfl, s2, nmd, hmd, pv_, lz, cc⟩, fin⟩
    refine ⟨_, rfl, rfl, _, rfl, ?_⟩
    by_cases hw : wy = 4
    · refine iteP (decide_eq_true (by rw [hw])) ⟨_, rfl, _, rfl, _, _, rfl, rfl, _, rfl, _, _, _, _, rfl, rfl, SqL.of (s2 _ _ hd), h2, _, _, rfl, rfl, (by show (0 : Int) < 4; decide), _, _, rfl, rfl, (by show 2 ≤ sizeLine; decide), fun t nt => ?_⟩
      have t6 := same_new nt (.tup [.str s6, .int (i7 + 1 + d2 % 4)])
      refine ⟨_, rfl, _, rfl, md, zs, _, at_, rfl, rfl, t6 _ _ hmd, ixN_nat (cc (by omega)), ⟨md, zs.set at_ (.ref t), at_, wy, s6, i7, rfl, (s2.trans t6).put nmd _, nmd, upd_same, fun x hx => ?_, by rw [List.length_set]; exact lz, fun h => by rw [List.length_set]; exact cc h⟩, fin⟩
      rcases List.mem_or_eq_of_mem_set hx with q | q
      · exact ((pv_ x q).mono t6).updL (t6 _ _ hmd)
      · rw [q]
        exact PV.updL (t6 _ _ hmd) ⟨t, s6, _, rfl, upd_same⟩
    · exact iteN (by rw [decide_eq_true_iff]; exact fun z => hw (V.int.inj z)) ⟨⟨md, zs, at_, wy, s6, i7, rfl, s2, nmd, hmd, pv_, lz, cc⟩, fin⟩
  case c6 =>
    rintro D σ H2 ⟨⟨md, zs, at_, wy, s6, i7, rfl, s2, nmd, hmd, pv_, lz, cc⟩, fin⟩
    refine ⟨_, rfl, rfl, _, rfl, ?_⟩
    by_cases hw : wy = 3
    · refine iteP (decide_eq_true (by rw [hw])) ⟨_, rfl, _, rfl, _, _, rfl, rfl, _, rfl, _, _, _, _, rfl, rfl, SqL.of (s2 _ _ hd), h2, _, _, rfl, rfl, (by show (0 : Int) < 4; decide), _, _, rfl, rfl, (by show 2 ≤ sizeLine; decide), fun t nt => ?_⟩
      have t6 := same_new nt (.tup [.str s6, .int (i7 - 1 - d2 % 4)])
      refine ⟨_, rfl, _, rfl, md, zs, _, at_, rfl, rfl, t6 _ _ hmd, ixN_nat (cc (by omega)), ⟨md, zs.set at_ (.ref t), at_, wy, s6, i7, rfl, (s2.trans t6).put nmd _, nmd, upd_same, fun x hx => ?_, by rw [List.length_set]; exact lz, fun h => by rw [List.length_set]; exact cc h⟩, fin⟩
      rcases List.mem_or_eq_of_mem_set hx with q | q
      · exact ((pv_ x q).mono t6).updL (t6 _ _ hmd)
      · rw [q]
        exact PV.updL (t6 _ _ hmd) ⟨t, s6, _, rfl, upd_same⟩
    · exact iteN (by rw [decide_eq_true_iff]; exact fun z => hw (V.int.inj z)) ⟨⟨md, zs, at_, wy, s6, i7, rfl, s2, nmd, hmd, pv_, lz, cc⟩, fin⟩
  case c5 =>
    rintro D σ H2 ⟨⟨md, zs, at_, wy, s6, i7, rfl, s2, nmd, hmd, pv_, lz, cc⟩, fin⟩
    refine ⟨_, rfl, rfl, _, rfl, ?_⟩
    by_cases hw : wy = 2
    · have hy : zs[at_]? = some zs[at_] := List.getElem?_eq_getElem cc
      refine iteP (decide_eq_true (by rw [hw])) ⟨_, rfl, .inl ⟨rfl, _, SqL.of hmd⟩, _, rfl, md, zs, _, at_, _, rfl, rfl, hmd, by omega, by omega, (ixN_seq (ixN_nat cc)).1, hy, ⟨md, zs.eraseIdx at_, at_, wy, s6, i7, rfl, s2.put nmd _, nmd, upd_same, fun x hx => ?_, ?_, fun h => absurd hw h⟩, fin⟩
      · exact (pv_ x (List.mem_of_mem_eraseIdx hx)).updL hmd
      · have := List.length_eraseIdx_le zs at_
        omega
    · exact iteN (by rw [decide_eq_true_iff]; exact fun z => hw (V.int.inj z)) ⟨⟨md, zs, at_, wy, s6, i7, rfl, s2, nmd, hmd, pv_, lz, fun _ => cc⟩, fin⟩
  case c3 =>
    rintro D σ H2 ⟨⟨md, zs, at_, wy, u6, u7, rfl, s2, nmd, hmd, pv_, lz, cc⟩, hD⟩
    refine ⟨_, rfl, _, rfl, md, _, rfl, .inl (SqL.of hmd), _, _, rfl, rfl, _, rfl, ?_⟩
    refine ite2 (fun c => ?_) (fun c => ?_)
    · have lt : at_ < zs.length := by have := of_decide_eq_true c; omega
      have hy : zs[at_]? = some zs[at_] := List.getElem?_eq_getElem lt
      obtain ⟨q, s6, i7, eq, g⟩ := pv_ _ (List.getElem_mem lt)
      refine ⟨_, rfl, _, rfl, _, _, _, _, rfl, rfl, SqL.of hmd, (by rw [atI_nat hy, eq]), q, _, rfl, SqT.of g, rfl, _, _, rfl, _, _, rfl, rfl, ?_⟩
      exact ⟨⟨md, zs, at_, wy, s6, i7, rfl, s2, nmd, hmd, pv_, lz, lt⟩, fun σ' H' b => ⟨b, hD⟩⟩
    · exact ⟨⟨md, zs, at_, wy, u6, u7, rfl, s2, nmd, hmd, pv_, lz, trivial⟩, hD⟩
  case c2 =>
    rintro D σ H2 ⟨⟨md, zs, at_, wy, u6, u7, rfl, s2, nmd, hmd, pv_, lz, cc⟩, hD⟩
    have skip : (BSt H p d nm (xs.length + 2) cAt [some (.ref p), some (.ref d), some (.ref nm), some (.ref md), some (.int at_), some (.int wy), u6, u7] H2 ∧ D.rt = Q) := ⟨⟨md, zs, at_, wy, u6, u7, rfl, s2, nmd, hmd, pv_, by omega, cc⟩, hD⟩
    refine ⟨_, rfl, rfl, _, rfl, ?_⟩
    refine ite2 (fun _ => ?_) (fun _ => iteN (by decide) skip)
    refine ⟨_, rfl, _, .inl ⟨_, SqL.of hmd, rfl⟩, ?_⟩
    refine ite2 (fun c => ?_) (fun _ => skip)
    have ne : 0 < zs.length := by
      cases zs with
      | nil => cases c
      | cons y r => simp
    have n0 : (0 : Int) < ((zs.length : Nat) : Int) := by omega
    obtain ⟨y, hy, my⟩ := pick (xs := zs) (i := d2 % ((zs.length : Nat) : Int)) (Int.emod_nonneg _ (by omega)) (Int.emod_lt_of_pos _ n0)
    refine ⟨_, rfl, .inl ⟨rfl, _, SqL.of hmd⟩, _, rfl, _, rfl, _, rfl, _, _, _, _, rfl, rfl, SqL.of (s2 _ _ hd), h2, _, rfl, md, _, rfl, .inl (SqL.of hmd), _, _, rfl, rfl, n0, _, _, _, _, rfl, rfl, SqL.of hmd, hy, md, zs, at_, _, _, rfl, rfl, rfl, hmd, cc, by omega, ⟨md, _, at_, wy, _, _, rfl, s2.put nmd _, nmd, upd_same, fun x hx => ?_, ?_, ?_⟩, hD⟩
    · rcases ins_mem hx with q | q
      · rw [q]; exact (pv_ y my).updL hmd
      · exact (pv_ x q).updL hmd
    · rw [ins_len cc]; omega
    · show at_ ≤ _
      rw [ins_len cc]; omega
  case c1 =>
    rintro D σ H2 ⟨⟨md, zs, at_, wy, u6, u7, rfl, s2, nmd, hmd, pv_, lz, cc⟩, hD⟩
    refine ⟨_, rfl, rfl, _, rfl, ?_⟩
    refine ite2 (fun _ => ?_) (fun _ => ⟨⟨md, zs, at_, wy, u6, u7, rfl, s2, nmd, hmd, pv_, by omega, cc⟩, hD⟩)
    have p1 : (0 : Int) < (((ns.map V.str).length : Nat) : Int) := by rw [List.length_map]; omega
    obtain ⟨xa, ha, _⟩ := place_at2 (ns := ns) (Int.emod_nonneg d2 (Int.ne_of_gt p1)) (Int.emod_lt_of_pos d2 p1)
    refine ⟨_, rfl, .inl ⟨rfl, _, SqL.of hmd⟩, _, rfl, _, rfl, _, rfl, _, _, _, _, rfl, rfl, SqL.of (s2 _ _ hd), h2, _, rfl, nm, _, rfl, .inl (SqL.of (s2 _ _ hnm)), _, _, rfl, rfl, p1, _, _, _, _, rfl, rfl, SqL.of (s2 _ _ hnm), ha, (by show 2 ≤ sizeLine; decide), fun t nt => ?_⟩
    have t6 := same_new nt (.tup [.str xa, .int 0])
    refine ⟨md, zs, at_, _, _, rfl, rfl, rfl, t6 _ _ hmd, cc, by omega, ⟨md, _, at_, wy, _, _, rfl, (s2.trans t6).put nmd _, nmd, upd_same, fun x hx => ?_, ?_, ?_⟩, hD⟩
    · rcases ins_mem hx with q | q
      · rw [q]; exact PV.updL (t6 _ _ hmd) ⟨t, xa, 0, rfl, upd_same⟩
      · exact ((pv_ x q).mono t6).updL (t6 _ _ hmd)
    · rw [ins_len cc]; omega
    · show at_ ≤ _
      rw [ins_len cc]; omega
  refine ⟨_, rfl, p, _, rfl, .inl (SqL.of hp), fun md nmd => ?_⟩
  have t1 := same_new nmd (.lst xs)
  have pos : (0 : Int) < ((xs.length : Nat) : Int) + 1 := by omega
  refine ⟨_, rfl, _, _, _, _, rfl, rfl, SqL.of (t1 _ _ hd), h0, _, rfl, md, _, rfl, .inl (SqL.of upd_same), _, _, rfl, rfl, _, _, rfl, rfl, pos, ?_⟩
  refine ⟨_, rfl, _, _, _, _, rfl, rfl, SqL.of (t1 _ _ hd), h1, _, _, rfl, rfl, (by show (0 : Int) < 7; decide), ?_⟩
  have b0 := Int.emod_nonneg d0 (Int.ne_of_gt pos)
  have b1 := Int.emod_lt_of_pos d0 pos
  obtain ⟨at_, hat⟩ : ∃ n : Nat, d0 % (((xs.length : Nat) : Int) + 1) = (n : Int) := ⟨(d0 % (((xs.length : Nat) : Int) + 1)).toNat, by omega⟩
  refine ⟨⟨md, xs, at_, d1 % 7, none, none, ?_, t1, nmd, upd_same, fun x hx => (pvs x hx).mono t1, Nat.le_refl _, ?_⟩, rfl⟩
  · rw [← hat]; rfl
  · show at_ ≤ xs.length
    omega
theorem sc_law : FnScope ["_law_script", "_law_d", "_law_paper", "_law_k", "_law_handed", "_law_due", "_law_names_here", "_law_spans", "_law_rides", "_law_start", "_law_goal", "_law_since"] ["_law_script"] (defScope s_law) := ⟨rfl, rfl, rfl, by decide +kernel, rfl, by decide +kernel, by decide +kernel⟩
set_option maxHeartbeats 4000000 in
theorem ok_law  (T : Txt K mg f_soonest f_no_way f_bars f_ready_by f_Ldraws f_Lsame f_Lnames f_Lworld f_Ltrip f_Lbars f_Lbent f_law) (F : Fun K "law" "law" s_law f_law fd_law) (GLtrip : FnOk P w K mg base CX0 3 f_Ltrip fd_Ltrip ["_law_script", "_law_at", "_law_most"] (spTrip K)) (BLtrip : Binds K fd_Ltrip ["_law_script", "_law_at", "_law_most"] []) (GLdraws : FnOk P w K mg base CX0 1 f_Ldraws fd_Ldraws ["_law_script", "_law_at", "_law_many"] (spDraws K)) (BLdraws : Binds K fd_Ldraws ["_law_script", "_law_at", "_law_many"] []) (Gsoonest : FnOk P w K mg base CX0 2 f_soonest fd_soonest ["rides", "spans", "start", "since"] (spSoon K Pt)) (Bsoonest : Binds K fd_soonest ["rides", "spans", "start", "since"] []) (Gno_way : FnOk P w K mg base CX0 3 f_no_way fd_no_way ["rides", "spans", "start", "goal", "since"] (spNoWay K Pt)) (Bno_way : Binds K fd_no_way ["rides", "spans", "start", "goal", "since"] []) (GLbent : FnOk P w K mg base CX0 1 f_Lbent fd_Lbent ["_law_paper", "_law_d", "_law_names_here"] spBent) (BLbent : Binds K fd_Lbent ["_law_paper", "_law_d", "_law_names_here"] []) (GLbars : FnOk P w K mg base CX0 1 f_Lbars fd_Lbars ["_law_rides", "_law_spans", "_law_start", "_law_goal", "_law_since", "_law_paper"] spLBars2) (BLbars : Binds K fd_Lbars ["_law_rides", "_law_spans", "_law_start", "_law_goal", "_law_since", "_law_paper"] []) (GLsame : FnOk P w K mg base CX0 3 f_Lsame fd_Lsame ["_law_found", "_law_due"] (spSame 3)) (BLsame : Binds K fd_Lsame ["_law_found", "_law_due"] []) (Gbars : FnOk P w K mg base CX0 2 f_bars fd_bars ["rides", "spans", "start", "goal", "since", "paper"] (spBars K)) (Bbars : Binds K fd_bars ["rides", "spans", "start", "goal", "since", "paper"] []) : FnOk P w K mg base CX0 4 f_law fd_law ["_law_script"] (spLawT K Pt lpS lqS) := by
  refine F.ok sc_law (fun vs H Q E h => ?_) (fun cdv A outer s H vs Q E hr h => ?_)
  · obtain ⟨a, ns, rfl, _⟩ := h
    rfl
  obtain ⟨a, ins, rfl, hS, h63, tab, k⟩ := h
  have hu := hu_of hr
  refine ⟨_,
    (pss_cons (ps_asg (pe_call GLtrip (hr.mono (by decide)) rfl T.m_Ltrip T.k_Ltrip BLtrip .nil pass0 (pa_cons (pv 0) (pa_cons pe_int (pa_cons pe_int pa_nil)))) (pg_tup rfl (pgs_cons (pg_name (i := 6) sc_law.nd rfl (by first | exact Or.inl rfl | exact Or.inr rfl)) (pgs_cons (pg_name (i := 7) sc_law.nd rfl (by first | exact Or.inl rfl | exact Or.inr rfl)) (pgs_cons (pg_name (i := 8) sc_law.nd rfl (by first | exact Or.inl rfl | exact Or.inr rfl)) (pgs_cons (pg_name (i := 9) sc_law.nd rfl (by first | exact Or.inl rfl | exact Or.inr rfl)) (pgs_cons (pg_name (i := 10) sc_law.nd rfl (by first | exact Or.inl rfl | exact Or.inr rfl)) (pgs_cons (pg_name (i := 11) sc_law.nd rfl (by first | exact Or.inl rfl | exact Or.inr rfl)) pgs_nil))))))))
    (pss_cons (ps_set (i := 1) sc_law.nd rfl (by first | exact Or.inl rfl | exact Or.inr rfl) (pe_call GLdraws (hr.mono (by decide)) rfl T.m_Ldraws T.k_Ldraws BLdraws .nil pass0 (pa_cons (pv 0) (pa_cons pe_int (pa_cons pe_int pa_nil)))))
    (pss_cons (ps_set (i := 2) sc_law.nd rfl (by first | exact Or.inl rfl | exact Or.inr rfl) (pe_orT (pe_call Gno_way (hr.mono (by decide)) rfl T.m_no_way T.k_no_way Bno_way .nil pass0 (pa_cons (pv 8) (pa_cons (pv 7) (pa_cons (pv 9) (pa_cons (pv 10) (pa_cons (pv 11) pa_nil)))))) (pe_one (pe_comp (T := ["_law_pair"]) (caps := []) (ix := []) (compOk rfl (by rfl) (by decide +kernel) (by decide +kernel) rfl (by intro x hx; repeat (first | (rcases List.mem_cons.mp hx with rfl | hx; · exact ⟨rfl, rfl, rfl⟩) | exact absurd hx (List.not_mem_nil))) (by rfl) (by intro x hx; repeat (first | (rcases List.mem_cons.mp hx with rfl | hx; · rfl) | exact absurd hx (List.not_mem_nil)))) rfl (pi_list (pe_call Gsoonest (hr.mono (by decide)) rfl T.m_soonest T.k_soonest Bsoonest .nil pass0 (pa_cons (pv 8) (pa_cons (pv 7) (pa_cons (pv 9) (pa_cons (pv 11) pa_nil)))))) (fun _ _ _ _ => (pg_name (i := 0) (by show (["_law_pair"] : List Str).Nodup; decide +kernel) rfl (by first | exact Or.inl rfl | exact Or.inr rfl))) (fun _ _ _ _ => pts_nil) (fun _ _ _ _ => (pv 0))))))
    (pss_cut (R := fun D σ H2 => ∃ (rd pp pn ps pr : Addr) (base : Int) (ns : List Str) (kvs : List (Key × V)) (xs : List V) (rds : List Rd) (st go : Str) (si : Int) (zs : List V) (ds : List Int), σ = [some (.ref a), some (.ref rd), some (.ref pp), none, none, none, some (.ref pn), some (.ref ps), some (.ref pr), some (.str st), some (.str go), some (.int si)] ∧ Wd H2 pn ps pr base ns kvs xs rds ∧ H2 rd = some (.lst (ds.map V.int)) ∧ Bd ds ∧ ds.length = 14 ∧ H2 pp = some (.lst zs) ∧ (∀ x ∈ zs, PV H2 x) ∧ zs.length ≤ 10 ∧ D.rt = Q) (pss_cons (ps_for PassesOwn.never rfl (pi_range1 rfl T.b_range (pa_cons (pe_op op_mod (pe_ix ix_list (pv 1) pe_int (fun _ _ => rfl)) pe_int) pa_nil)) (pg_name (i := 3) sc_law.nd rfl (by first | exact Or.inl rfl | exact Or.inr rfl))
    (pss_one (ps_set (i := 2) sc_law.nd rfl (by first | exact Or.inl rfl | exact Or.inr rfl) (pe_call GLbent (hr.mono (by decide)) rfl T.m_Lbent T.k_Lbent BLbent .nil pass0 (pa_cons (pv 2) (pa_cons (pe_slice sl_list (pv 1) (po_some (pe_op op_add pe_int (pe_op op_mul pe_int (pv 3)))) (po_some (pe_op op_add pe_int (pe_op op_mul pe_int (pv 3))))) (pa_cons (pe_op op_cat (pv 6) (pe_lst (pa_cons pe_str (pa_cons pe_str pa_nil)))) pa_nil)))))))
    (pss_cut (R := fun D σ H2 => ∃ (rd pp pn ps pr : Addr) (base : Int) (ns : List Str) (kvs : List (Key × V)) (xs : List V) (rds : List Rd) (st go : Str) (si : Int) (zs : List V) (ds : List Int) (u3 : Option V), σ = [some (.ref a), some (.ref rd), some (.ref pp), u3, none, none, some (.ref pn), some (.ref ps), some (.ref pr), some (.str st), some (.str go), some (.int si)] ∧ Wd H2 pn ps pr base ns kvs xs rds ∧ H2 rd = some (.lst (ds.map V.int)) ∧ Bd ds ∧ ds.length = 14 ∧ H2 pp = some (.lst zs) ∧ (∀ x ∈ zs, PV H2 x) ∧ zs.length ≤ 20 ∧ D.rt = Q) (pss_cons (ps_if (pt_cmpR op_eq (pe_op op_mod (pe_ix ix_list (pv 1) pe_int (fun _ _ => rfl)) pe_int) pe_int (nomark _))
    (pss_one (ps_setC (i := 2) sc_law.nd rfl (by first | exact Or.inl rfl | exact Or.inr rfl) (T := ["_law_pair"]) (caps := ["_law_goal"]) (ix := [10]) (compOk rfl (by rfl) (by decide +kernel) (by decide +kernel) rfl (by intro x hx; repeat (first | (rcases List.mem_cons.mp hx with rfl | hx; · exact ⟨rfl, rfl, rfl⟩) | exact absurd hx (List.not_mem_nil))) (by rfl) (by intro x hx; repeat (first | (rcases List.mem_cons.mp hx with rfl | hx; · rfl) | exact absurd hx (List.not_mem_nil)))) rfl (pi_list (pv 2)) (fun _ _ _ _ => (pg_name (i := 0) (by show (["_law_pair", "_law_goal"] : List Str).Nodup; decide +kernel) rfl (by first | exact Or.inl rfl | exact Or.inr rfl))) (fun _ _ _ _ => (pts_one (pt_cmpR op_ne (pe_ix (ix_tupK K rfl) (pv 0) pe_int (fun _ _ => rfl)) (pv 1) (nomark _)))) (fun _ _ _ _ => (pv 0))))
    pss_nil)
    (pss_cut (R := fun D σ H2 => ∃ (rd pp pn ps pr : Addr) (base : Int) (ns : List Str) (kvs : List (Key × V)) (xs : List V) (rds : List Rd) (st go : Str) (si : Int) (zs : List V) (u3 : Option V), σ = [some (.ref a), some (.ref rd), some (.ref pp), u3, none, none, some (.ref pn), some (.ref ps), some (.ref pr), some (.str st), some (.str go), some (.int si)] ∧ Wd H2 pn ps pr base ns kvs xs rds ∧ H2 pp = some (.lst zs) ∧ (∀ x ∈ zs, PV H2 x) ∧ zs.length ≤ 40 ∧ D.rt = Q) (pss_cons (ps_set (i := 4) sc_law.nd rfl (by first | exact Or.inl rfl | exact Or.inr rfl) (pe_lst (pa_cons (pe_callTy call_list_of rfl T.b_list bt_list (pa_cons (pv 8) pa_nil)) (pa_cons (pe_callTy call_dict_of rfl T.b_dict bt_dict (pa_cons (pv 7) pa_nil)) (pa_cons (pe_callTy call_list_of rfl T.b_list bt_list (pa_cons (pv 2) pa_nil)) pa_nil)))))
    (pss_cons (ps_set (i := 5) sc_law.nd rfl (by first | exact Or.inl rfl | exact Or.inr rfl) (pe_call GLbars (hr.mono (by decide)) rfl T.m_Lbars T.k_Lbars BLbars .nil pass0 (pa_cons (pv 8) (pa_cons (pv 7) (pa_cons (pv 9) (pa_cons (pv 10) (pa_cons (pv 11) (pa_cons (pv 2) pa_nil))))))))
    (pss_cons (ps_if (pt_not (pt_val (pe_call GLsame (hr.mono (by decide)) rfl T.m_Lsame T.k_Lsame BLsame .nil pass0 (pa_cons (pe_call Gbars (hr.mono (by decide)) rfl T.m_bars T.k_bars Bbars .nil pass0 (pa_cons (pe_ix ix_list (pv 4) pe_int (fun _ _ => rfl)) (pa_cons (pe_ix ix_list (pv 4) pe_int (fun _ _ => rfl)) (pa_cons (pv 9) (pa_cons (pv 10) (pa_cons (pv 11) (pa_cons (pe_ix ix_list (pv 4) pe_int (fun _ _ => rfl)) pa_nil))))))) (pa_cons (pv 5) pa_nil)))))
    (pss_one (ps_ret pe_bl))
    pss_nil)
    (pss_one (ps_ret (pe_and (pe_cmpR (op_eqH hu) (pv 4) (pe_lst (pa_cons (pv 8) (pa_cons (pv 7) (pa_cons (pv 2) pa_nil)))) (nomark _)) (pe_one (pe_call GLsame (hr.mono (by decide)) rfl T.m_Lsame T.k_Lsame BLsame .nil pass0 (pa_cons (pe_call Gbars (hr.mono (by decide)) rfl T.m_bars T.k_bars Bbars .nil pass0 (pa_cons (pv 8) (pa_cons (pv 7) (pa_cons (pv 9) (pa_cons (pv 10) (pa_cons (pv 11) (pa_cons (pe_lst pa_nil) pa_nil))))))) (pa_cons pe_bl pa_nil)))))))))) ?c3)) ?c2)) ?c1)))), ?_⟩
  case c3 =>
    rintro D σ H2 ⟨rd, pp, pn, ps, pr, base, ns, kvs, xs, rds, st, go, si, zs, u3, rfl, W, hpp, pvs, lz, hD⟩
    have wl := W.le
    refine ⟨_, rfl, pr, _, rfl, .inl (SqL.of W.hr), fun la nla => ?_⟩
    have q1 := same_new nla (.lst xs)
    refine ⟨_, rfl, ps, kvs, rfl, q1 _ _ W.hs, fun da nda => ?_⟩
    have q2 := same_new nda (.dK kvs)
    refine ⟨_, rfl, pp, _, rfl, .inl (SqL.of (q2 _ _ (q1 _ _ hpp))), fun pa npa => ?_⟩
    have q3 := same_new npa (.lst zs)
    refine ⟨(by show 3 ≤ sizeLine; decide), fun ha nha => ?_⟩
    have q4 := same_new nha (.lst [.ref la, .ref da, .ref pa])
    have q := ((q1.trans q2).trans q3).trans q4
    have hla := q4 _ _ (q3 _ _ (q2 _ _ (show (upd H2 la (.lst xs)) la = _ from upd_same)))
    have hda := q4 _ _ (q3 _ _ (show (upd (upd H2 la (.lst xs)) da (.dK kvs)) da = _ from upd_same))
    have hpa := q4 _ _ (show (upd (upd (upd H2 la (.lst xs)) da (.dK kvs)) pa (.lst zs)) pa = _ from upd_same)
    have hha : (upd (upd (upd (upd H2 la (.lst xs)) da (.dK kvs)) pa (.lst zs)) ha (.lst [.ref la, .ref da, .ref pa])) ha = _ := upd_same
    have nl : la ≠ pr := (ne_of_none W.hr nla).symm
    have nd' : da ≠ ps := (ne_of_none (q1 _ _ W.hs) nda).symm
    have npp : pa ≠ pp := (ne_of_none (q2 _ _ (q1 _ _ hpp)) npa).symm
    have W3 := W.mono q
    have hpp3 := q _ _ hpp
    obtain ⟨out, qs, PO, ez⟩ := prs_of hpp3 fun x hx => (pvs x hx).mono q
    have lo : out.length ≤ 60 := by
      rw [← PO.len]
      have : zs.length = qs.length := by rw [ez, List.length_map]
      omega
    revert hla hda hpa hha W3 hpp3 PO
    generalize upd (upd (upd (upd H2 la (.lst xs)) da (.dK kvs)) pa (.lst zs)) ha (.lst [.ref la, .ref da, .ref pa]) = H3
    intro hla hda hpa hha W3 hpp3 PO
    clear q4 q3 q2 q1 nha npa nda nla q
    refine ⟨_, rfl, _, rfl, _, rfl, _, rfl, _, rfl, _, rfl, pr, ps, pp, xs, kvs, rds, st, go, si, out, qs, rfl, W3.hr, W3.hs, W3.rd, PO, lo, fun b1 H4 s4 hb1 => ?_⟩
    have POa : PrsAt H4 pa out qs := ⟨by rw [s4 _ _ hpa, ez], PO.len, fun i q o x y => s4 _ _ (PO.at' i q o x y)⟩
    have W4 := W3.mono s4
    refine ⟨_, rfl, _, _, _, _, rfl, rfl, SqL.of (s4 _ _ hha), rfl, _, rfl, _, _, _, _, rfl, rfl, SqL.of (s4 _ _ hha), rfl, _, rfl, _, rfl, _, rfl, _, rfl, _, _, _, _, rfl, rfl, SqL.of (s4 _ _ hha), rfl, la, da, pa, xs, kvs, rds, st, go, si, out, qs, rfl, s4 _ _ hla, s4 _ _ hda, W4.rd, POa, by omega, fun b2 H5 s5 hb2 => ?_⟩
    have eb : b2 = b1 := Bool.eq_iff_iff.mpr (hb2.trans hb1.symm)
    subst eb
    refine ⟨_, rfl, .bl b2, .bl b2, .bl b2, .bl b2, rfl, .bl _, .bl _, .bl _ _, fun c H6 hc s6 => ⟨c, rfl, ?_⟩⟩
    obtain rfl := hc.mpr rfl
    refine iteF ?_
    have s36 := (s4.trans s5).trans s6
    have W6 := W3.mono s36
    refine ⟨_, rfl, _, rfl, _, rfl, _, rfl, (by show 3 ≤ sizeLine; decide), fun p np => ?_⟩
    have tp := same_new np (.lst [.ref pr, .ref ps, .ref pp])
    have s37 := s36.trans tp
    have W7 := W3.mono s37
    refine ⟨ha, p, la, pr, da, ps, pa, pp, xs, zs, kvs, rfl, rfl, s37 _ _ hha, upd_same, s37 _ _ hla, W7.hr, s37 _ _ hda, W7.hs, s37 _ _ hpa, s37 _ _ hpp3, nl, nd', npp, rw_plain W.rd, fun x hx => ?_, W.nd, W.iv, ?_⟩
    · obtain ⟨q, t, i, rfl, _⟩ := pvs x hx
      rfl
    refine ⟨true, rfl, iteP rfl ?_⟩
    refine ⟨_, rfl, _, rfl, _, rfl, _, rfl, _, rfl, (by show 0 ≤ sizeLine; decide), fun e ne => ?_⟩
    have te := same_new ne (.lst [])
    have W8 := W7.mono te
    refine ⟨pr, ps, e, xs, kvs, rds, st, go, si, [], [], rfl, W8.hr, W8.hs, W8.rd, ⟨upd_same, rfl, fun i q o h => by simp at h⟩, (by show 0 ≤ 100; decide), fun b H9 s9 hb => ?_⟩
    have ebf : b = false := by
      cases b with
      | false => rfl
      | true => exact absurd (hb.mp rfl).st0 (by rw [rdy_nil]; decide)
    subst ebf
    refine ⟨.bl false, .bl false, .bl false, .bl false, rfl, .bl _, .bl _, .bl _ _, fun c H10 hc s10 => ?_⟩
    obtain rfl := hc.mpr rfl
    rw [hD]
    exact k _
  case c2 =>
    rintro D σ H2 ⟨rd, pp, pn, ps, pr, base, ns, kvs, xs, rds, st, go, si, zs, ds, u3, rfl, W, hrd, bd, ld, hpp, pvs, lz, hD⟩
    obtain ⟨d13, h13, _, _⟩ := bd.at (i := 13) (by omega)
    refine ⟨_, rfl, _, _, _, _, rfl, rfl, SqL.of hrd, h13, _, _, rfl, rfl, (by show (0 : Int) < 4; decide), rfl, _, rfl, ?_⟩
    refine ite2 (fun _ => ?_) (fun _ => ⟨rd, pp, pn, ps, pr, base, ns, kvs, xs, rds, st, go, si, zs, u3, rfl, W, hpp, pvs, by omega, hD⟩)
    refine ⟨_, rfl, pp, rfl, ⟨_, SqL.of hpp⟩, comp_list (xs := zs) (fun i D2 σ' ys H3 => ∃ v : Option V, σ' = [v, some (.str go)] ∧ Same H2 H3 ∧ H3 D2 = some (.lst ys) ∧ ys.length ≤ i ∧ ∀ y ∈ ys, y ∈ zs) (fun D2 nD2 => ⟨none, rfl, same_new nD2 _, upd_same, Nat.le_refl _, (fun _ h => nomatch h)⟩) ?_ ?_ ?_⟩
    · rintro i D2 σ' ys H3 hi nD2 ⟨v, rfl, s3, hD3, ly, sub⟩
      exact ⟨SqL.of (s3 _ _ hpp), hD3, small1000 (by omega)⟩
    · rintro i x D2 σ' ys H3 hx hlt nD2 ⟨v, rfl, s3, hD3, ly, sub⟩
      obtain ⟨q, t, j, rfl, g⟩ := pvs x (List.mem_of_getElem? hx)
      refine ⟨_, rfl, _, _, _, _, rfl, rfl, SqT.of (s3 _ _ g), rfl, _, rfl, rfl, _, rfl, ?_⟩
      refine ite2 (fun _ => ?_) (fun _ => CW.of hlt ⟨_, rfl, s3, hD3, by omega, sub⟩)
      refine ⟨_, rfl, hD3, CW.of hlt ⟨_, rfl, s3.put nD2 _, upd_same, by rw [List.length_append, List.length_singleton]; omega, fun y hy => ?_⟩⟩
      rcases List.mem_append.mp hy with z | z
      · exact sub y z
      · rw [List.mem_singleton.mp z]; exact List.mem_of_getElem? hx
    · rintro D2 ys σ' H3 nD2 ⟨v, rfl, s3, hD3, ly, sub⟩
      exact ⟨rd, D2, pn, ps, pr, base, ns, kvs, xs, rds, st, go, si, ys, _, rfl, W.mono s3, hD3, fun x hx => (pvs x (sub x hx)).mono s3, by omega, hD⟩
  case c1 =>
    rintro D σ H2 ⟨rd, pp, pn, ps, pr, base, ns, kvs, xs, rds, st, go, si, zs, ds, rfl, W, hrd, bd, ld, hpp, pvs, lz, hD⟩
    obtain ⟨d0, h0, _, _⟩ := bd.at (i := 0) (by omega)
    have n5 := W.n5
    have n2 := W.n2
    have b4 := Int.emod_lt_of_pos d0 (show (0 : Int) < 4 by decide)
    refine ⟨_, rfl, _, _, _, _, rfl, rfl, SqL.of hrd, h0, _, _, rfl, rfl, (by show (0 : Int) < 4; decide), _, rfl, by omega, by omega, for_range (n := (d0 % 4).toNat) (fun i σ H3 => ∃ (pp : Addr) (zs : List V) (u3 : Option V), σ = [some (.ref a), some (.ref rd), some (.ref pp), u3, none, none, some (.ref pn), some (.ref ps), some (.ref pr), some (.str st), some (.str go), some (.int si)] ∧ Same H2 H3 ∧ H3 pp = some (.lst zs) ∧ (∀ x ∈ zs, PV H3 x) ∧ zs.length ≤ 10 + 2 * i) ⟨pp, zs, _, rfl, Same.refl _, hpp, pvs, by omega⟩ ?_ ?_⟩
    · rintro i σ H3 hi ⟨pp, zs, u3, rfl, s3, hpp, pvs, lz⟩
      have hi3 : i < 3 := by omega
      refine ⟨_, rfl, _, rfl, _, rfl, _, _, rfl, rfl, .inl ⟨by decide, by decide⟩, _, _, rfl, rfl, _, rfl, _, rfl, _, _, rfl, rfl, .inl ⟨by decide, by decide⟩, _, _, rfl, rfl, _, rfl, rd, _, rfl, SqL.of (s3 _ _ hrd), fun p1 np1 => ?_⟩
      rw [cut3 ds i (by omega)]
      have t1 := same_new np1 (.lst (((ds.drop (1 + 3 * i)).take 3).map V.int))
      refine ⟨_, rfl, (by show 2 ≤ sizeLine; decide), fun p2 np2 => ?_⟩
      have t2 := same_new np2 (.lst [.str "zz", .str "nowhere"])
      refine ⟨pn, p2, ns.map V.str, [.str "zz", .str "nowhere"], rfl, rfl, t2 _ _ (t1 _ _ (s3 _ _ W.hn)), upd_same, small (by rw [List.length_map]; show ns.length + 2 ≤ 1000; omega), fun p3 np3 => ?_⟩
      have t3 := same_new np3 (.lst (ns.map V.str ++ [.str "zz", .str "nowhere"]))
      have t13 := (t1.trans t2).trans t3
      refine ⟨pp, p1, p3, zs, (ds.drop (1 + 3 * i)).take 3, ns ++ ([Str.ofString "zz", Str.ofString "nowhere"] : List Str), rfl, t13 _ _ hpp, fun x hx => (pvs x hx).mono t13, by omega, t3 _ _ (t2 _ _ upd_same), bd.sub fun x hx => List.mem_of_mem_drop (List.mem_of_mem_take hx), ?_, ?_, ?_, fun r ys H6 s6 nr hr6 pv6 l6 => ?_⟩
      · rw [List.length_take, List.length_drop]; omega
      · rw [List.map_append]; exact upd_same
      · rw [List.length_append]; omega
      · exact ⟨r, ys, _, rfl, (s3.trans t13).trans s6, hr6, pv6, by omega⟩
    · rintro σ H3 ⟨pp, zs, u3, rfl, s3, hpp, pvs, lz⟩
      exact ⟨rd, pp, pn, ps, pr, base, ns, kvs, xs, rds, st, go, si, zs, ds, _, rfl, W.mono s3, s3 _ _ hrd, bd, ld, hpp, pvs, by omega, hD⟩
  refine ⟨_, rfl, a, ins, 0, rfl, hS, h63, by decide, by decide, fun p0 pn ps pr base ns kvs xs rds st go si H1 s1 np npn nps npr hp0 W hst hgo => ?_⟩
  refine ⟨p0, _, rfl, SqT.of hp0, rfl, _, _, rfl, _, _, rfl, _, _, rfl, _, _, rfl, _, _, rfl, _, _, rfl, rfl, ?_⟩
  have G := W.good
  have hds : ∀ d ∈ rds, d.b ∈ ns := fun d hd => (W.ok d hd).2.1
  have wl := W.le
  refine ⟨_, rfl, a, ins, 22, 14, rfl, s1.seq hS, h63, by decide, by decide, by decide, fun rd ds H2 s2 nrd hd2 ld bd => ?_⟩
  have W2 := W.mono s2
  refine ⟨_, rfl, _, rfl, _, rfl, _, rfl, _, rfl, pr, ps, xs, kvs, rds, ns, st, go, si, rfl, W2.hr, W2.hs, W2.rd, by omega, G, W.n5, hst, hds, (tab.mono s1).mono s2, fun v H3 s3 tab3 res => ?_⟩
  have W3 := W2.saT s3
  have hd3 := s3.keep _ _ hd2 rfl
  rcases res with ⟨ex, rfl⟩ | ⟨nex, r, out, qs, rfl, nr', PO, PP⟩
  · refine ⟨false, rfl, iteN (by decide) ?_⟩
    refine ⟨_, rfl, _, rfl, _, rfl, _, rfl, pr, ps, xs, kvs, rds, ns, st, si, rfl, W3.hr, W3.hs, W3.rd, by omega, G, W.n5, hst, hds, tab3, fun r out qs H4 s4 tab4 nr opw hr4 lq its lst => ?_⟩
    have PO : PrsAt H4 r out qs := ⟨hr4, lq, its⟩
    have PP : Paper (spn kvs) rds st si ns out := ⟨opw, lst, hst, hds, W.n5⟩
    have l5 := PP.len
    have W4 := W3.saT s4
    have hd4 := s4.keep _ _ hd3 rfl
    refine ⟨r, rfl, ⟨_, SqL.of hr4⟩, ?_⟩
    refine comp_list (K := K) (l := r) (xs := qs.map V.ref) (fun i D2 σ' ys H5 => ∃ v : Option V, σ' = [v] ∧ Same H4 H5 ∧ H5 D2 = some (.lst ys) ∧ ys.length ≤ i ∧ ∀ y ∈ ys, y ∈ qs.map V.ref) (fun D2 nD2 => ⟨none, rfl, same_new nD2 _, upd_same, Nat.le_refl _, (fun _ h => nomatch h)⟩) ?_ ?_ ?_
    · rintro i D2 σ' ys H5 hi nD2 ⟨v, rfl, s5, hD5, ly, sub⟩
      rw [List.length_map, lq] at hi
      exact ⟨SqL.of (s5 _ _ hr4), hD5, small1000 (by omega)⟩
    · rintro i x D2 σ' ys H5 hx hlt nD2 ⟨v, rfl, s5, hD5, ly, sub⟩
      refine allG ?_
      refine ⟨_, rfl, hD5, CW.of hlt ⟨_, rfl, s5.put nD2 _, upd_same, by rw [List.length_append, List.length_singleton]; omega, fun y hy => ?_⟩⟩
      rcases List.mem_append.mp hy with z | z
      · exact sub y z
      · rw [List.mem_singleton.mp z]; exact List.mem_of_getElem? hx
    · rintro D2 ys σ' H5 nD2 ⟨v, rfl, s5, hD5, ly, sub⟩
      rw [List.length_map, lq] at ly
      exact ⟨rd, D2, pn, ps, pr, base, ns, kvs, xs, rds, st, go, si, ys, ds, rfl, W4.mono s5, s5 _ _ hd4, bd, ld, hD5, fun x hx => (PO.all x (sub x hx)).mono s5, by omega, rfl⟩
  · have l5 := PP.len
    have lq := PO.len
    have m0 : (st, si) ∈ out := (PP.iff _ _).mpr (.inl ⟨rfl, rfl⟩)
    have ne : (!(qs.map V.ref).isEmpty) = true := by
      cases qs with
      | nil =>
        have : out.length = 0 := lq.symm
        rw [List.length_eq_zero_iff] at this
        rw [this] at m0
        cases m0
      | cons q r => rfl
    refine ⟨true, .inl ⟨_, SqL.of PO.hr, ne.symm⟩, iteP rfl ?_⟩
    exact ⟨rd, r, pn, ps, pr, base, ns, kvs, xs, rds, st, go, si, qs.map V.ref, ds, rfl, W3, hd3, bd, ld, PO.hr, PO.all, by rw [List.length_map, lq]; omega, rfl⟩
end
theorem all_mk {l : PySem.W.OpenLaw} {w : World} {K : PySem.W.Frag} {h : Heap} {mg : Str → Option Value} {fa f_soonest f_no_way f_bars f_ready_by f_Ldraws f_Lsame f_Lnames f_Lworld f_Ltrip f_Lbars f_Lbent f_law Pt : Addr} (X : K.In h) (G : h.Ns mainGlobals mg) (hfa : mg "law" = some (.ref fa))
    {od0 an0 od1 an1 od2 an2 od3 an3 od4 an4 od5 an5 od6 an6 od7 an7 od8 an8 od9 an9 od10 an10 od11 an11 : Option Addr} {sl0 sl1 sl2 sl3 sl4 sl5 sl6 sl7 sl8 sl9 sl10 sl11 : Array (Option Value)} {oc0 kV0 dc0 pm0 ct0 oc1 kV1 dc1 pm1 ct1 cd1 oc2 kV2 dc2 pm2 ct2 cd2 oc3 kV3 dc3 pm3 ct3 cd3 oc4 kV4 dc4 pm4 ct4 cd4 oc5 kV5 dc5 pm5 ct5 cd5 oc6 kV6 dc6 pm6 ct6 cd6 oc7 kV7 dc7 pm7 ct7 cd7 oc8 kV8 dc8 pm8 ct8 cd8 oc9 kV9 dc9 pm9 ct9 cd9 oc10 kV10 dc10 pm10 ct10 cd10 oc11 kV11 dc11 pm11 ct11 cd11 : Value} {cc0 : Addr} {t_LEAVES : Tok}
    (a0 : PySem.W.nsIn K mainGlobals "soonest" = some (some (.ref f_soonest))) (l0 : K.lookup f_soonest = some ⟨oc0, od0, .func (PySem.W.fnOf "soonest" "soonest" (defArgs s_soonest) (defBody s_soonest) (defScope s_soonest) .none kV0 dc0 pm0 an0 (.ref cc0) ct0), sl0⟩) (c0 : PySem.W.codeIn K (.ref cc0) "soonest" = true) (k0 : PySem.W.keepIn K (.ref f_soonest) = true)
    {dct0 : Option Addr} {vsx0 : Array Value} {slx0 : Array (Option Value)} (h0 : K.lookup cc0 = some ⟨.type "code", dct0, .fields vsx0, slx0⟩) (e0 : hdChk vsx0 cc0 Pt = true)
    (a1 : PySem.W.nsIn K mainGlobals "no_way" = some (some (.ref f_no_way))) (l1 : K.lookup f_no_way = some ⟨oc1, od1, .func (PySem.W.fnOf "no_way" "no_way" (defArgs s_no_way) (defBody s_no_way) (defScope s_no_way) .none kV1 dc1 pm1 an1 cd1 ct1), sl1⟩) (c1 : PySem.W.codeIn K cd1 "no_way" = true) (k1 : PySem.W.keepIn K (.ref f_no_way) = true)
    (a2 : PySem.W.nsIn K mainGlobals "bars" = some (some (.ref f_bars))) (l2 : K.lookup f_bars = some ⟨oc2, od2, .func (PySem.W.fnOf "bars" "bars" (defArgs s_bars) (defBody s_bars) (defScope s_bars) .none kV2 dc2 pm2 an2 cd2 ct2), sl2⟩) (c2 : PySem.W.codeIn K cd2 "bars" = true) (k2 : PySem.W.keepIn K (.ref f_bars) = true)
    (a3 : PySem.W.nsIn K mainGlobals "ready_by" = some (some (.ref f_ready_by))) (l3 : K.lookup f_ready_by = some ⟨oc3, od3, .func (PySem.W.fnOf "ready_by" "ready_by" (defArgs s_ready_by) (defBody s_ready_by) (defScope s_ready_by) .none kV3 dc3 pm3 an3 cd3 ct3), sl3⟩) (c3 : PySem.W.codeIn K cd3 "ready_by" = true) (k3 : PySem.W.keepIn K (.ref f_ready_by) = true)
    (a4 : PySem.W.nsIn K mainGlobals "_law_draws" = some (some (.ref f_Ldraws))) (l4 : K.lookup f_Ldraws = some ⟨oc4, od4, .func (PySem.W.fnOf "_law_draws" "_law_draws" (defArgs s_Ldraws) (defBody s_Ldraws) (defScope s_Ldraws) .none kV4 dc4 pm4 an4 cd4 ct4), sl4⟩) (c4 : PySem.W.codeIn K cd4 "_law_draws" = true) (k4 : PySem.W.keepIn K (.ref f_Ldraws) = true)
    (a5 : PySem.W.nsIn K mainGlobals "_law_same" = some (some (.ref f_Lsame))) (l5 : K.lookup f_Lsame = some ⟨oc5, od5, .func (PySem.W.fnOf "_law_same" "_law_same" (defArgs s_Lsame) (defBody s_Lsame) (defScope s_Lsame) .none kV5 dc5 pm5 an5 cd5 ct5), sl5⟩) (c5 : PySem.W.codeIn K cd5 "_law_same" = true) (k5 : PySem.W.keepIn K (.ref f_Lsame) = true)
    (a6 : PySem.W.nsIn K mainGlobals "_law_names" = some (some (.ref f_Lnames))) (l6 : K.lookup f_Lnames = some ⟨oc6, od6, .func (PySem.W.fnOf "_law_names" "_law_names" (defArgs s_Lnames) (defBody s_Lnames) (defScope s_Lnames) .none kV6 dc6 pm6 an6 cd6 ct6), sl6⟩) (c6 : PySem.W.codeIn K cd6 "_law_names" = true) (k6 : PySem.W.keepIn K (.ref f_Lnames) = true)
    (a7 : PySem.W.nsIn K mainGlobals "_law_world" = some (some (.ref f_Lworld))) (l7 : K.lookup f_Lworld = some ⟨oc7, od7, .func (PySem.W.fnOf "_law_world" "_law_world" (defArgs s_Lworld) (defBody s_Lworld) (defScope s_Lworld) .none kV7 dc7 pm7 an7 cd7 ct7), sl7⟩) (c7 : PySem.W.codeIn K cd7 "_law_world" = true) (k7 : PySem.W.keepIn K (.ref f_Lworld) = true)
    (a8 : PySem.W.nsIn K mainGlobals "_law_trip" = some (some (.ref f_Ltrip))) (l8 : K.lookup f_Ltrip = some ⟨oc8, od8, .func (PySem.W.fnOf "_law_trip" "_law_trip" (defArgs s_Ltrip) (defBody s_Ltrip) (defScope s_Ltrip) .none kV8 dc8 pm8 an8 cd8 ct8), sl8⟩) (c8 : PySem.W.codeIn K cd8 "_law_trip" = true) (k8 : PySem.W.keepIn K (.ref f_Ltrip) = true)
    (a9 : PySem.W.nsIn K mainGlobals "_law_bars" = some (some (.ref f_Lbars))) (l9 : K.lookup f_Lbars = some ⟨oc9, od9, .func (PySem.W.fnOf "_law_bars" "_law_bars" (defArgs s_Lbars) (defBody s_Lbars) (defScope s_Lbars) .none kV9 dc9 pm9 an9 cd9 ct9), sl9⟩) (c9 : PySem.W.codeIn K cd9 "_law_bars" = true) (k9 : PySem.W.keepIn K (.ref f_Lbars) = true)
    (a10 : PySem.W.nsIn K mainGlobals "_law_bent" = some (some (.ref f_Lbent))) (l10 : K.lookup f_Lbent = some ⟨oc10, od10, .func (PySem.W.fnOf "_law_bent" "_law_bent" (defArgs s_Lbent) (defBody s_Lbent) (defScope s_Lbent) .none kV10 dc10 pm10 an10 cd10 ct10), sl10⟩) (c10 : PySem.W.codeIn K cd10 "_law_bent" = true) (k10 : PySem.W.keepIn K (.ref f_Lbent) = true)
    (a11 : PySem.W.nsIn K mainGlobals "law" = some (some (.ref f_law))) (l11 : K.lookup f_law = some ⟨oc11, od11, .func (PySem.W.fnOf "law" "law" (defArgs s_law) (defBody s_law) (defScope s_law) .none kV11 dc11 pm11 an11 cd11 ct11), sl11⟩) (c11 : PySem.W.codeIn K cd11 "law" = true) (k11 : PySem.W.keepIn K (.ref f_law) = true)
    (z_sorted : PySem.W.nsIn K mainGlobals "sorted" = some none)
    (z_len : PySem.W.nsIn K mainGlobals "len" = some none)
    (z_isinstance : PySem.W.nsIn K mainGlobals "isinstance" = some none)
    (z_tuple : PySem.W.nsIn K mainGlobals "tuple" = some none)
    (z_list : PySem.W.nsIn K mainGlobals "list" = some none)
    (z_range : PySem.W.nsIn K mainGlobals "range" = some none)
    (z_bool : PySem.W.nsIn K mainGlobals "bool" = some none)
    (z_int : PySem.W.nsIn K mainGlobals "int" = some none)
    (z_str : PySem.W.nsIn K mainGlobals "str" = some none)
    (z_set : PySem.W.nsIn K mainGlobals "set" = some none)
    (z_dict : PySem.W.nsIn K mainGlobals "dict" = some none)
    (q_LEAVES : PySem.W.nsIn K mainGlobals "LEAVES" = some (some (.int 3 t_LEAVES)))
    : ∃ fd : FuncData, (∀ (s : Shared) (v : Value), BindsTo s fd ⟨[v], []⟩ [("_law_script", v)]) ∧ ∀ base : Heap, K.In base → base.Ns mainGlobals mg → Bm base mg → FnOk l.prog w K mg base CX0 4 fa fd ["_law_script"] (spLawT K Pt lpS lqS) := by
  have e := hfa.symm.trans (PySem.W.mg_of X G a11)
  have e2 : f_law = fa := by cases e; rfl
  subst e2
  have T : Txt K mg f_soonest f_no_way f_bars f_ready_by f_Ldraws f_Lsame f_Lnames f_Lworld f_Ltrip f_Lbars f_Lbent f_law := ⟨PySem.W.mg_none_of X G z_sorted, PySem.W.mg_none_of X G z_len, PySem.W.mg_none_of X G z_isinstance, PySem.W.mg_none_of X G z_tuple, PySem.W.mg_none_of X G z_list, PySem.W.mg_none_of X G z_range, PySem.W.mg_none_of X G z_bool, PySem.W.mg_none_of X G z_int, PySem.W.mg_none_of X G z_str, PySem.W.mg_none_of X G z_set, PySem.W.mg_none_of X G z_dict, ⟨t_LEAVES, PySem.W.mg_of X G q_LEAVES⟩, PySem.W.mg_of X G a0, k0, PySem.W.mg_of X G a1, k1, PySem.W.mg_of X G a2, k2, PySem.W.mg_of X G a3, k3, PySem.W.mg_of X G a4, k4, PySem.W.mg_of X G a5, k5, PySem.W.mg_of X G a6, k6, PySem.W.mg_of X G a7, k7, PySem.W.mg_of X G a8, k8, PySem.W.mg_of X G a9, k9, PySem.W.mg_of X G a10, k10, PySem.W.mg_of X G a11, k11⟩
  have F_soonest := funC_mk (st := s_soonest) l0 c0 k0
  have Bsoonest := F_soonest.plain.binds (ps := ["rides", "spans", "start", "since"]) fun _ _ _ _ _ _ us hl => match us, hl with | [_, _, _, _], _ => rfl
  have F_no_way := fun_mk (st := s_no_way) l1 c1 k1
  have Bno_way := F_no_way.binds (ps := ["rides", "spans", "start", "goal", "since"]) fun _ _ _ _ _ _ us hl => match us, hl with | [_, _, _, _, _], _ => rfl
  have F_bars := fun_mk (st := s_bars) l2 c2 k2
  have Bbars := F_bars.binds (ps := ["rides", "spans", "start", "goal", "since", "paper"]) fun _ _ _ _ _ _ us hl => match us, hl with | [_, _, _, _, _, _], _ => rfl
  have F_ready_by := fun_mk (st := s_ready_by) l3 c3 k3
  have Bready_by := F_ready_by.binds (ps := ["moments", "place", "moment"]) fun _ _ _ _ _ _ us hl => match us, hl with | [_, _, _], _ => rfl
  have F_Ldraws := fun_mk (st := s_Ldraws) l4 c4 k4
  have BLdraws := F_Ldraws.binds (ps := ["_law_script", "_law_at", "_law_many"]) fun _ _ _ _ _ _ us hl => match us, hl with | [_, _, _], _ => rfl
  have F_Lsame := fun_mk (st := s_Lsame) l5 c5 k5
  have BLsame := F_Lsame.binds (ps := ["_law_found", "_law_due"]) fun _ _ _ _ _ _ us hl => match us, hl with | [_, _], _ => rfl
  have F_Lnames := fun_mk (st := s_Lnames) l6 c6 k6
  have BLnames := F_Lnames.binds (ps := ["_law_d", "_law_many"]) fun _ _ _ _ _ _ us hl => match us, hl with | [_, _], _ => rfl
  have F_Lworld := fun_mk (st := s_Lworld) l7 c7 k7
  have BLworld := F_Lworld.binds (ps := ["_law_script", "_law_at", "_law_most"]) fun _ _ _ _ _ _ us hl => match us, hl with | [_, _, _], _ => rfl
  have F_Ltrip := fun_mk (st := s_Ltrip) l8 c8 k8
  have BLtrip := F_Ltrip.binds (ps := ["_law_script", "_law_at", "_law_most"]) fun _ _ _ _ _ _ us hl => match us, hl with | [_, _, _], _ => rfl
  have F_Lbars := fun_mk (st := s_Lbars) l9 c9 k9
  have BLbars := F_Lbars.binds (ps := ["_law_rides", "_law_spans", "_law_start", "_law_goal", "_law_since", "_law_paper"]) fun _ _ _ _ _ _ us hl => match us, hl with | [_, _, _, _, _, _], _ => rfl
  have F_Lbent := fun_mk (st := s_Lbent) l10 c10 k10
  have BLbent := F_Lbent.binds (ps := ["_law_paper", "_law_d", "_law_names_here"]) fun _ _ _ _ _ _ us hl => match us, hl with | [_, _, _], _ => rfl
  have F_law := fun_mk (st := s_law) l11 c11 k11
  refine ⟨PySem.W.fnOf "law" "law" (defArgs s_law) (defBody s_law) (defScope s_law) .none kV11 dc11 pm11 an11 cd11 ct11, fun s v => .of_eq rfl, fun base _ _ BM => ?_⟩
  have Gready_by : FnOk l.prog w K mg base CX0 1 f_ready_by _ ["moments", "place", "moment"] spReady := ok_ready_by T F_ready_by 
  have Gsoonest : FnOk l.prog w K mg base CX0 2 f_soonest _ ["rides", "spans", "start", "since"] (spSoon K Pt) := ok_soonest T F_soonest (codeHd_mk h0 e0) BM Gready_by Bready_by
  have Gno_way : FnOk l.prog w K mg base CX0 3 f_no_way _ ["rides", "spans", "start", "goal", "since"] (spNoWay K Pt) := ok_no_way T F_no_way Gsoonest Bsoonest
  have Gbars : FnOk l.prog w K mg base CX0 2 f_bars _ ["rides", "spans", "start", "goal", "since", "paper"] (spBars K) := ok_bars T F_bars Gready_by Bready_by
  have GLdraws : FnOk l.prog w K mg base CX0 1 f_Ldraws _ ["_law_script", "_law_at", "_law_many"] (spDraws K) := ok_Ldraws T F_Ldraws 
  have GLsame : FnOk l.prog w K mg base CX0 3 f_Lsame _ ["_law_found", "_law_due"] (spSame 3) := ok_Lsame T F_Lsame (ok_Lsame T F_Lsame (ok_Lsame T F_Lsame none_same BLsame) BLsame) BLsame
  have GLnames : FnOk l.prog w K mg base CX0 1 f_Lnames _ ["_law_d", "_law_many"] spNames2 := ok_Lnames T F_Lnames 
  have GLworld : FnOk l.prog w K mg base CX0 2 f_Lworld _ ["_law_script", "_law_at", "_law_most"] (spWorld2 K) := ok_Lworld T F_Lworld GLdraws BLdraws GLnames BLnames
  have GLtrip : FnOk l.prog w K mg base CX0 3 f_Ltrip _ ["_law_script", "_law_at", "_law_most"] (spTrip K) := ok_Ltrip T F_Ltrip GLworld BLworld GLdraws BLdraws
  have GLbars : FnOk l.prog w K mg base CX0 1 f_Lbars _ ["_law_rides", "_law_spans", "_law_start", "_law_goal", "_law_since", "_law_paper"] spLBars2 := ok_Lbars T F_Lbars 
  have GLbent : FnOk l.prog w K mg base CX0 1 f_Lbent _ ["_law_paper", "_law_d", "_law_names_here"] spBent := ok_Lbent T F_Lbent 
  exact ok_law T F_law GLtrip BLtrip GLdraws BLdraws Gsoonest Bsoonest Gno_way Bno_way GLbent BLbent GLbars BLbars GLsame BLsame Gbars Bbars
theorem walk {l : PySem.W.OpenLaw} {q : Program} {loose : List Str} {XP : (Str → Option Value) → Heap → Prop} {d : DefRec} {K : Params → PySem.W.Frag} {as : List Addr} {e : ∀ P, as = (K P).map (·.1)} {Pt : Addr} (hn : l.most = some 63) (hdf : d.params.defaults = [])
    (hts : ∀ P ∈ [Pt], P ∉ as) (hcs : ∀ w : World, ∃ c, PySem.W.codeHdIn (K w.params) c Pt = true)
    (F : ∀ (w : World) (mg : Str → Option Value) (fa : Addr) (h : Heap), (K w.params).In h → h.Ns mainGlobals mg → mg d.name = some (.ref fa) →
      ∃ fd : FuncData, (∀ (s : Shared) (u : Value), BindsTo s fd ⟨[u], []⟩ [("_law_script", u)]) ∧ ∀ base : Heap, (K w.params).In base → base.Ns mainGlobals mg → Bm base mg → FnOk l.prog w (K w.params) mg base CX0 4 fa fd ["_law_script"] (spLawT (K w.params) Pt lpS lqS)) :
    PySem.W.WalkO q loose XP (PySem.W.kmHook K as e [Pt]).says l.row.toRowW d [] (fun f vs => PySem.call f vs) :=
  walk_ofT (n := 63) (k := 4) (x := "_law_script") (CX := fun _ => CX0) (sp := fun w => (spLawT (K w.params) Pt lpS lqS)) hn (by decide) hdf ⟨rfl, by decide, by decide⟩ hts (fun w P hP => by rw [List.mem_singleton.mp hP]; exact hcs w) F (fun w H a ns hl ht hS => ⟨a, ns, rfl, hS, hl, TabOk.nil (ht Pt (List.mem_singleton.mpr rfl)), fun _ => rfl⟩) fun _ _ _ _ _ z => z
end My
open PySem PySem.W PyProof.Rows
set_option maxRecDepth 100000 in
set_option maxHeartbeats 0 in
theorem PySem.Challenge.cw_wayhold_k09_papers_looked_at_holds : PySem.Challenge.rw_wayhold_k09_papers_looked_at.Holds := by
  w_on; o_law; k_head; (case hw => w_witness2)
  k_fill
  refine My.walk (l := PySem.Challenge.rw_wayhold_k09_papers_looked_at) rfl rfl (by decide) ?C ?F
  case C =>
    intro w
    refine' ⟨20, X2.codeHd_mk ?h ?e⟩
    (case h => k_is)
    (case e => exact rfl)
  case F =>
    intro w mg fa h KX G hmg
    refine' My.all_mk KX G hmg ?a0 ?l0 ?c0 ?k0 ?h0 ?e0 ?a1 ?l1 ?c1 ?k1 ?a2 ?l2 ?c2 ?k2 ?a3 ?l3 ?c3 ?k3 ?a4 ?l4 ?c4 ?k4 ?a5 ?l5 ?c5 ?k5 ?a6 ?l6 ?c6 ?k6 ?a7 ?l7 ?c7 ?k7 ?a8 ?l8 ?c8 ?k8 ?a9 ?l9 ?c9 ?k9 ?a10 ?l10 ?c10 ?k10 ?a11 ?l11 ?c11 ?k11 ?z_sorted ?z_len ?z_isinstance ?z_tuple ?z_list ?z_range ?z_bool ?z_int ?z_str ?z_set ?z_dict ?q_LEAVES
    (case a0 => k_is)
    (case l0 => k_is)
    (case c0 => k_is)
    (case k0 => k_is)
    (case h0 => k_is)
    (case e0 => exact rfl)
    (case a1 => k_is)
    (case l1 => k_is)
    (case c1 => k_is)
    (case k1 => k_is)
    (case a2 => k_is)
    (case l2 => k_is)
    (case c2 => k_is)
    (case k2 => k_is)
    (case a3 => k_is)
    (case l3 => k_is)
    (case c3 => k_is)
    (case k3 => k_is)
    (case a4 => k_is)
    (case l4 => k_is)
    (case c4 => k_is)
    (case k4 => k_is)
    (case a5 => k_is)
    (case l5 => k_is)
    (case c5 => k_is)
    (case k5 => k_is)
    (case a6 => k_is)
    (case l6 => k_is)
    (case c6 => k_is)
    (case k6 => k_is)
    (case a7 => k_is)
    (case l7 => k_is)
    (case c7 => k_is)
    (case k7 => k_is)
    (case a8 => k_is)
    (case l8 => k_is)
    (case c8 => k_is)
    (case k8 => k_is)
    (case a9 => k_is)
    (case l9 => k_is)
    (case c9 => k_is)
    (case k9 => k_is)
    (case a10 => k_is)
    (case l10 => k_is)
    (case c10 => k_is)
    (case k10 => k_is)
    (case a11 => k_is)
    (case l11 => k_is)
    (case c11 => k_is)
    (case k11 => k_is)
    (case z_sorted => k_is)
    (case z_len => k_is)
    (case z_isinstance => k_is)
    (case z_tuple => k_is)
    (case z_list => k_is)
    (case z_range => k_is)
    (case z_bool => k_is)
    (case z_int => k_is)
    (case z_str => k_is)
    (case z_set => k_is)
    (case z_dict => k_is)
    (case q_LEAVES => k_is)

