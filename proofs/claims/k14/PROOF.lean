import PyProof.Rows.All
import Wide.All
import OpenK.AllK
import Wide.FinOn
import PyProof.EqAt
import PyProof.EqKinds
import PyProof.TupleCall
import KE.BitLaws
import KE.KNest
import KE.KRevSl
import PyProof.ListRange
import PyProof.Rows.Range3
import PyProof.StrLawsTight
import PyProof.NsDelKeeps
import PyProof.ExcAttrAll.ValueError
import KE.KSuper
import PyProof.ExcInit
import PyProof.ExcClass3
import PyProof.InstStoreFacts
import PyProof.Rows.FactsExc_KeyError
import KE.KLam
import PyProof.FString3
import PyProof.StrLawsIn
import KE.KDflt
import PyProof.Draws
import PyProof.EnumMake
import PyProof.Rows.StrPadFill
import PyProof.Rows.CallKwBuiltin
import KE.KSortTup
import PySem.Challenge.RW_drawnworks_k14_whole_two_merged
-- CHANGE: your row's module here, as the last of these rows
set_option Elab.async false
set_option linter.all false
set_option maxRecDepth 100000
/-! THE HAND LAYER, for ints, bools, texts, own classes, lists, tuples, dicts, comprehensions, walks over dicts, enumerate, zip, reversed, texts, calls, loops. Paste it whole ahead of your own text; what your proof does not reach may be deleted. -/
namespace L2
open PySem PySem.Spec PyProof.Rows

/-- a key: an int or a str -/
abbrev Key := Sum Int Str
def keyIs : Key → Value → Bool
  | .inl k, v => Value.isInt k v
  | .inr x, v => Value.isStrOf x v
def keyH (w : World) : Key → Int
  | .inl k => hashInt k
  | .inr x => hashStr w x
theorem keyIs_shape : ∀ {k : Key} {v : Value}, keyIs k v = true → (∃ i t, k = Sum.inl i ∧ v = Value.int i t) ∨ (∃ x t, k = Sum.inr x ∧ v = Value.str x t)
  | .inl i, v, h => by
    obtain ⟨t, e⟩ := Value.isInt_shape (k := i) (v := v) h
    exact .inl ⟨i, t, rfl, e⟩
  | .inr x, v, h => by
    obtain ⟨t, e⟩ := Value.isStrOf_shape (x := x) (v := v) h
    exact .inr ⟨x, t, rfl, e⟩
theorem keyIs_int (i : Int) (t : Tok) : keyIs (.inl i) (.int i t) = true := by simp [keyIs, Value.isInt]
theorem keyIs_str (x : Str) (t : Tok) : keyIs (.inr x) (.str x t) = true := by simp [keyIs, Value.isStrOf]
theorem key_ll (a b : Int) : decide ((Sum.inl a : Key) = Sum.inl b) = (a == b) := by
  by_cases e : a = b
  · subst e; simp
  · have h : ¬ (Sum.inl a : Key) = Sum.inl b := fun q => e (Sum.inl.inj q)
    rw [decide_eq_false h]
    exact (beq_eq_false_iff_ne.mpr e).symm
theorem key_rr (a b : Str) : decide ((Sum.inr a : Key) = Sum.inr b) = decide (a = b) := by
  by_cases e : a = b
  · subst e; simp
  · have h : ¬ (Sum.inr a : Key) = Sum.inr b := fun q => e (Sum.inr.inj q)
    rw [decide_eq_false h, decide_eq_false e]
theorem key_lr (a : Int) (b : Str) : decide ((Sum.inl a : Key) = Sum.inr b) = false := decide_eq_false (fun q => nomatch q)
theorem key_rl (a : Str) (b : Int) : decide ((Sum.inr a : Key) = Sum.inl b) = false := decide_eq_false (fun q => nomatch q)

def mixKind (prog : Program) (w : World) : PySem.KeyKind prog w Key where
  is := keyIs
  hash := keyH w
  inj := fun v a b ha hb => by
    rcases keyIs_shape ha with ⟨i, t, rfl, rfl⟩ | ⟨x, t, rfl, rfl⟩
    · rcases keyIs_shape hb with ⟨j, u, rfl, e⟩ | ⟨y, u, rfl, e⟩
      · injection e with e1 _; rw [e1]
      · exact nomatch e
    · rcases keyIs_shape hb with ⟨j, u, rfl, e⟩ | ⟨y, u, rfl, e⟩
      · exact nomatch e
      · injection e with e1 _; rw [e1]
  byValue := fun k v h => by
    rcases keyIs_shape h with ⟨i, t, rfl, rfl⟩ | ⟨x, t, rfl, rfl⟩ <;> rfl
  pyHash := fun hv h => by
    rcases keyIs_shape hv with ⟨i, t, rfl, rfl⟩ | ⟨x, t, rfl, rfl⟩
    · exact wpAny_pyHash_int h
    · exact wpAny_pyHash_str h
  eqBool := fun hu hv h => by
    rcases keyIs_shape hu with ⟨i, t, rfl, rfl⟩ | ⟨x, t, rfl, rfl⟩
    · rcases keyIs_shape hv with ⟨j, u, rfl, rfl⟩ | ⟨y, u, rfl, rfl⟩
      · rw [key_ll] at h; exact wpAny_eqBool_int h
      · rw [key_lr] at h; exact SeqAt.EqAt.int_str i t y u _ _ _ _ h
    · rcases keyIs_shape hv with ⟨j, u, rfl, rfl⟩ | ⟨y, u, rfl, rfl⟩
      · rw [key_rl] at h; exact SeqAt.EqAt.str_int x t j u _ _ _ _ h
      · rw [key_rr] at h; exact wpAny_eqBool_str h
  «strs» := fun k x t v h => by
    rcases keyIs_shape h with ⟨i, u, rfl, e⟩ | ⟨y, u, rfl, e⟩
    · exact nomatch e
    · injection e with e1 _
      subst e1
      cases v <;> rfl

theorem mixKind_int (prog : Program) (w : World) (i : Int) (t : Tok) : (mixKind prog w).is (.inl i) (.int i t) = true := keyIs_int i t
theorem mixKind_str (prog : Program) (w : World) (x : Str) (t : Tok) : (mixKind prog w).is (.inr x) (.str x t) = true := keyIs_str x t
end L2

namespace L2
open PySem PySem.Spec PyProof.Rows

/-- a value, without the heap -/
inductive V where
  | non | bl (b : Bool) | int (i : Int) | str (x : Str) | byt (b : Array UInt8) | flt (b : UInt64) | ref (a : Addr) | ty (n : String)
  deriving DecidableEq

def RelV : V → Value → Prop
  | .non, u => u = Value.none
  | .bl b, u => u = Value.bool b
  | .int i, u => ∃ t, u = Value.int i t
  | .str x, u => ∃ t, u = Value.str x t
  | .byt b, u => ∃ t, u = Value.bytes b t
  | .flt b, u => ∃ t, u = Value.float b t
  | .ref a, u => u = Value.ref a
  | .ty n, u => u = Value.type n

abbrev Vals : List V → List Value → Prop := Paired RelV
theorem Vals.length {xs : List V} {us : List Value} (r : Vals xs us) : xs.length = us.length := Paired.length r
theorem Vals.get : ∀ {xs : List V} {us : List Value} {i : Nat} {x : V}, Vals xs us → xs[i]? = some x → ∃ u, us[i]? = some u ∧ RelV x u
  | _, _, _, _, .nil, e => by simp at e
  | _, _, 0, _, .cons r _, e => by simp at e; subst e; exact ⟨_, rfl, r⟩
  | _, _, i + 1, x, .cons _ t, e => by
    obtain ⟨u, h1, h2⟩ := Vals.get (i := i) (x := x) t (by simpa using e)
    exact ⟨u, by simpa using h1, h2⟩
theorem Vals.set {x : V} {u : Value} (r : RelV x u) : ∀ {xs : List V} {us : List Value} (i : Nat), Vals xs us → Vals (xs.set i x) (us.set i u)
  | _, _, _, .nil => .nil
  | _, _, 0, .cons _ t => .cons r t
  | _, _, i + 1, .cons q t => .cons q (Vals.set r i t)
theorem Vals.append : ∀ {xs ys : List V} {us ws : List Value}, Vals xs us → Vals ys ws → Vals (xs ++ ys) (us ++ ws)
  | _, _, _, _, .nil, s => s
  | _, _, _, _, .cons r t, s => .cons r (Vals.append t s)
theorem Vals.take : ∀ {xs : List V} {us : List Value} (n : Nat), Vals xs us → Vals (xs.take n) (us.take n)
  | _, _, 0, _ => .nil
  | _, _, _ + 1, .nil => .nil
  | _, _, n + 1, .cons r t => .cons r (Vals.take n t)
theorem Vals.drop : ∀ {xs : List V} {us : List Value} (n : Nat), Vals xs us → Vals (xs.drop n) (us.drop n)
  | _, _, 0, r => r
  | _, _, _ + 1, .nil => .nil
  | _, _, n + 1, .cons _ t => Vals.drop n t
theorem Vals.none_of : ∀ {xs : List V} {us : List Value} {i : Nat}, Vals xs us → xs[i]? = none → us[i]? = none := fun {xs us i} r e => by
  have h1 := r.length
  have h2 : xs.length ≤ i := List.getElem?_eq_none_iff.mp e
  exact List.getElem?_eq_none_iff.mpr (by omega)

def RelO : Option V → Option Value → Prop
  | some v, some u => RelV v u
  | none, none => True
  | _, _ => False
def KV {κ : Type} : List (κ × V) → List (κ × Value) → Prop := Paired fun (p : κ × V) (q : κ × Value) => p.1 = q.1 ∧ RelV p.2 q.2

/-- a key of a dict (00_mix): an int or a text -/
def kV : Key → V
  | .inl i => .int i
  | .inr x => .str x

/-- what stands at a tracked address -/
inductive HO where
  /-- a list -/
  | lst (xs : List V)
  /-- a tuple (never changes) -/
  | tup (xs : List V)
  /-- a dict whose keys are ints and texts; one whose keys are tuples of ints and texts (the empty one is both) -/
  | dK (kvs : List (Key × V)) | dT (kvs : List (List Key × V))
  /-- a set of ints: its members, its size -/
  | set (S : Int → Bool) (n : Nat)
  /-- an instance of the class at C, its dict at dx, its attributes -/
  | ins (C dx : Addr) (fs : List (Str × V))
  /-- the dict of the instance at x -/
  | own (x : Addr)
  /-- the dict of an exception -/
  | xd (fs : List (Str × V))
  /-- a bound method, f of x -/
  | met (f x : Addr)
  /-- a range object lo, lo + 1, .. below hi -/
  | rng (lo hi : Int)
  /-- a thing that is known to the object (the script; a dict while a loop walks it): read, never written while it is so -/
  | frz (o : Obj) (u : HO)
  /-- a code object's table -/
  | tbl (ps : Array Value)
  /-- a cell of a closure -/
  | cel (v : Option V)
  /-- any other thing, by what is true of its one object (a def of one's own: SetO a S n := HO.ext fun h => ..) -/
  | ext (φ : Heap → Prop)

abbrev Hp := Addr → Option HO
def upd (H : Hp) (a : Addr) (o : HO) : Hp := fun b => if b = a then some o else H b
theorem upd_same {H : Hp} {a : Addr} {o : HO} : upd H a o a = some o := by unfold upd; rw [if_pos rfl]
theorem upd_ne {H : Hp} {a b : Addr} {o : HO} (h : b ≠ a) : upd H a o b = H b := by unfold upd; rw [if_neg h]
theorem upd_upd {H : Hp} {a : Addr} {o u : HO} : upd (upd H a o) a u = upd H a u := by
  funext b; unfold upd; split <;> rfl
/-- two objects of different content stand apart -/
theorem ne_of {H : Hp} {a b : Addr} {o u : HO} (h : H a = some o) (h' : H b = some u) (d : o ≠ u) : a ≠ b := by
  intro e; subst e; rw [h] at h'; exact d (Option.some.inj h')
theorem ne_of_none {H : Hp} {a b : Addr} {o : HO} (h : H a = some o) (h' : H b = none) : a ≠ b := by
  intro e; subst e; rw [h] at h'; cases h'

section
variable (P : Program) (w : World)
def ObjOk (H : Hp) (h : Heap) (a : Addr) : HO → Prop
  | .lst xs => xs.length ≤ sizeLine ∧ ∃ (its : List Value) (n : Nat), Vals xs its ∧ h.get? a = some { cls := .type "list", data := .seq its.toArray n }
  | .tup xs => xs.length ≤ sizeLine ∧ ∃ its : List Value, Vals xs its ∧ IsTup h a its.toArray
  | .dK kvs => kvs.length ≤ sizeLine ∧ (a == sysModules) = false ∧ ∃ vs, KV kvs vs ∧ h.DictOf (mixKind P w) a vs
  | .dT kvs => kvs.length ≤ sizeLine ∧ (a == sysModules) = false ∧ ∃ xs : List (List Key × Addr × Value),
      Paired (fun (p : List Key × V) (q : List Key × Addr × Value) => p.1 = q.1 ∧ H q.2.1 = some (.tup (p.1.map kV)) ∧ RelV p.2 q.2.2) kvs xs ∧
      ∃ o es ep, h.get? a = some o ∧ o.ExactDict ∧ o.data = .dict es ep ∧ es.toList = xs.map (entryOfKey (tupleKind (mixKind P w))) ∧ (xs.map (·.1)).Nodup
  | .set S n => h.SetOf (intKind P w) a S n
  | .ins C dx fs => H dx = some (.own a) ∧ fs.length ≤ 1000 ∧ dx ≠ a ∧ h.get? a = some (PySem.W.instObj C dx) ∧
      ∃ mA, h.Ns1 dx mA ∧ (∀ f, RelO (fs.lookup f) (mA f)) ∧ PySem.Within mA (fs.map (·.1))
  | .own _ => ∃ o, h.get? a = some o
  | .xd fs => ∃ mA, h.Ns1 a mA ∧ ∀ f, RelO (fs.lookup f) (mA f)
  | .rng lo hi => ∃ t u v, h.get? a = some { cls := .type "range", data := .fields #[.int lo t, .int hi u, .int 1 v] }
  | .frz o u => h.get? a = some o ∧ ObjOk H h a u
  | .tbl ps => h.get? a = some { cls := .none, data := .fields ps }
  | .cel v => ∃ ov, RelO v ov ∧ h.IsCell a ov
  | .met f x => h.get? a = some (PySem.W.methodObj (.ref f) (.ref x))
  | .ext φ => φ h ∧ (∃ o, h.get? a = some o) ∧ ∀ h1 h2 : Heap, φ h1 → (∀ o, h1.get? a = some o → h2.get? a = some o) → φ h2
/-- the abstract heap is held -/
def HOk (H : Hp) (h : Heap) : Prop := ∀ a o, H a = some o → ObjOk P w H h a o
end

section
variable {P : Program} {w : World} {H H' : Hp} {h h' : Heap} {a : Addr} {o : HO}
theorem ObjOk.lt (x : ObjOk P w H h a o) : a < h.objs.size := by
  cases o with
  | lst xs => obtain ⟨_, _, _, _, e⟩ := x; exact Heap.lt_size e
  | tup xs => obtain ⟨_, _, _, p⟩ := x; exact p.lt
  | dK kvs => obtain ⟨_, _, _, _, o, _, _, e, _⟩ := x; exact Heap.lt_size e
  | dT kvs => obtain ⟨_, _, _, _, o, _, _, e, _⟩ := x; exact Heap.lt_size e
  | set S n => obtain ⟨o, _, _, _, e, _⟩ := x; exact Heap.lt_size e
  | ins C dx fs => obtain ⟨_, _, _, e, _⟩ := x; exact Heap.lt_size e
  | own y => obtain ⟨_, e⟩ := x; exact Heap.lt_size e
  | xd fs => obtain ⟨_, ⟨_, _, _, e, _⟩, _⟩ := x; exact Heap.lt_size e
  | rng lo hi => obtain ⟨_, _, _, e⟩ := x; exact Heap.lt_size e
  | frz ob u => obtain ⟨e, _⟩ := x; exact Heap.lt_size e
  | tbl ps => exact Heap.lt_size (show h.get? a = some _ from x)
  | cel v => obtain ⟨_, _, o, e, _⟩ := x; exact Heap.lt_size e
  | met f y => exact Heap.lt_size (show h.get? a = some _ from x)
  | ext φ => obtain ⟨_, ⟨_, e⟩, _⟩ := x; exact Heap.lt_size e
theorem Paired.mapP {α β : Type} {F G : α → β → Prop} : ∀ {l₁ : List α} {l₂ : List β}, Paired F l₁ l₂ → (∀ a b, F a b → G a b) → Paired G l₁ l₂
  | _, _, .nil, _ => .nil
  | _, _, .cons r t, f => .cons (f _ _ r) (Paired.mapP t f)
/-- what an object's description leans on: its own object, its own dict, the tuples -/
theorem ObjOk.stay (x : ObjOk P w H h a o) (k : ∀ b u, (b = a ∨ H b = some (.own a)) → h.get? b = some u → h'.get? b = some u)
    (ho : ∀ b, H b = some (.own a) → H' b = some (.own a)) (ht : ∀ b xs, H b = some (.tup xs) → H' b = some (.tup xs)) : ObjOk P w H' h' a o := by
  induction o with
  | lst xs => obtain ⟨z, its, n, r, e⟩ := x; exact ⟨z, its, n, r, k _ _ (.inl rfl) e⟩
  | tup xs => obtain ⟨z, its, r, ob, e, c⟩ := x; exact ⟨z, its, r, ob, k _ _ (.inl rfl) e, c⟩
  | dK kvs => obtain ⟨z, y, vs, r, ob, es, ep, e, c⟩ := x; exact ⟨z, y, vs, r, ob, es, ep, k _ _ (.inl rfl) e, c⟩
  | dT kvs =>
    obtain ⟨z, y, xs, r, ob, es, ep, e, c⟩ := x
    exact ⟨z, y, xs, Paired.mapP r fun p q z => ⟨z.1, ht _ _ z.2.1, z.2.2⟩, ob, es, ep, k _ _ (.inl rfl) e, c⟩
  | set S n => obtain ⟨ob, es, ep, t, e, c⟩ := x; exact ⟨ob, es, ep, t, k _ _ (.inl rfl) e, c⟩
  | ins C dx fs =>
    obtain ⟨d, z, ne, e, mA, ⟨od, es, ep, e2, c⟩, r⟩ := x
    exact ⟨ho _ d, z, ne, k _ _ (.inl rfl) e, mA, ⟨od, es, ep, k _ _ (.inr d) e2, c⟩, r⟩
  | own y => obtain ⟨ob, e⟩ := x; exact ⟨ob, k _ _ (.inl rfl) e⟩
  | xd fs => obtain ⟨mA, ⟨od, es, ep, e, c⟩, r⟩ := x; exact ⟨mA, ⟨od, es, ep, k _ _ (.inl rfl) e, c⟩, r⟩
  | rng lo hi => obtain ⟨t, u, v, e⟩ := x; exact ⟨t, u, v, k _ _ (.inl rfl) e⟩
  | frz ob u ih => obtain ⟨e, q⟩ := x; exact ⟨k _ _ (.inl rfl) e, ih q⟩
  | cel v => obtain ⟨ov, r, o, e, d⟩ := x; exact ⟨ov, r, o, k _ _ (.inl rfl) e, d⟩
  | tbl ps =>
    have e : h.get? a = some { cls := .none, data := .fields ps } := x
    show h'.get? a = some { cls := .none, data := .fields ps }
    exact k a _ (.inl rfl) e
  | met f y =>
    have e : h.get? a = some (PySem.W.methodObj (.ref f) (.ref y)) := x
    show h'.get? a = some (PySem.W.methodObj (.ref f) (.ref y))
    exact k a _ (.inl rfl) e
  | ext φ => obtain ⟨p, ⟨o, e⟩, st⟩ := x; exact ⟨st _ _ p fun o q => k _ _ (.inl rfl) q, ⟨o, k _ _ (.inl rfl) e⟩, st⟩
theorem HOk.lt (x : HOk P w H h) (e : H a = some o) : a < h.objs.size := (x a o e).lt
theorem HOk.fresh (x : HOk P w H h) (e : h.objs.size ≤ a) : H a = none := by
  cases q : H a with
  | none => rfl
  | some u => exact absurd (Nat.lt_of_lt_of_le (x.lt q) e) (Nat.lt_irrefl _)
/-- every object of the heap is kept -/
theorem HOk.kept (x : HOk P w H h) (k : ∀ b u, h.get? b = some u → h'.get? b = some u) : HOk P w H h' := fun a o e =>
  (x a o e).stay (fun b u _ q => k b u q) (fun _ q => q) fun _ _ q => q
/-- a new object is laid and tracked -/
theorem HOk.laid (x : HOk P w H h) (k : ∀ b u, h.get? b = some u → h'.get? b = some u) (hp : h.objs.size ≤ a) (new : ObjOk P w (upd H a o) h' a o) : HOk P w (upd H a o) h' := fun b u e => by
  have hn := x.fresh hp
  by_cases hb : b = a
  · subst hb; rw [upd_same] at e; cases e; exact new
  · rw [upd_ne hb] at e
    exact (x b u e).stay (fun c v _ q => k c v q) (fun c q => by rw [upd_ne (ne_of_none q hn)]; exact q) fun c xs q => by rw [upd_ne (ne_of_none q hn)]; exact q
end

/-- what may be read as u: it is u, or a known u -/
def Rd (H : Hp) (a : Addr) (u : HO) : Prop := H a = some u ∨ ∃ o, H a = some (.frz o u)
theorem Rd.of {H : Hp} {a : Addr} {u : HO} (h : H a = some u) : Rd H a u := .inl h
theorem Rd.ok {P : Program} {w : World} {H : Hp} {h : Heap} {a : Addr} {u : HO} (r : Rd H a u) (x : HOk P w H h) : ObjOk P w H h a u := by
  rcases r with r | ⟨o, r⟩
  · exact x a u r
  · obtain ⟨_, q⟩ := x a _ r
    exact q
/-- what may be written -/
def Mut : Option HO → Prop
  | some (.lst _) => True
  | some (.dK _) => True
  | some (.dT _) => True
  | some (.set _ _) => True
  | some (.ins _ _ _) => True
  | some (.ext _) => True
  | _ => False
section
variable {P : Program} {w : World} {H : Hp} {h h' : Heap} {x e : Addr} {o' : HO}
/-- the object at e is changed: x itself, or the dict of the instance x -/
theorem HOk.write (ok : HOk P w H h) (mu : Mut (H x)) (he : e = x ∨ H e = some (.own x)) (k : ∀ b u, b ≠ e → h.get? b = some u → h'.get? b = some u) (heo : ∃ u, h'.get? e = some u)
    (new : ObjOk P w (upd H x o') h' x o') : HOk P w (upd H x o') h' := fun b u q => by
  have nown : ∀ c y, H c = some (.own y) → c ≠ x := fun c y r z => by subst z; rw [r] at mu; exact mu
  have ntup : ∀ c xs, H c = some (.tup xs) → c ≠ x := fun c xs r z => by subst z; rw [r] at mu; exact mu
  by_cases hb : b = x
  · subst hb; rw [upd_same] at q; cases q; exact new
  · rw [upd_ne hb] at q
    by_cases hbe : b = e
    · have q' : H b = some (.own x) := by
        rcases he with z | z
        · exact absurd (hbe.trans z) hb
        · rw [hbe]; exact z
      rw [q] at q'; cases q'
      obtain ⟨v, hv⟩ := heo
      exact ⟨v, by rw [hbe]; exact hv⟩
    · refine (ok b u q).stay (fun c v hc r => k c v ?_ r) (fun c r => by rw [upd_ne (nown c b r)]; exact r) fun c xs r => by rw [upd_ne (ntup c xs r)]; exact r
      rcases hc with rfl | hc
      · exact hbe
      · rintro rfl
        rcases he with z | z
        · exact nown c b hc z
        · rw [hc] at z; cases z; exact hb rfl
end

/-! ### kept unless tracked; of the frames at fs (the callers') the slots may change (an exception that passes writes there); of the records at ex (iterators) nothing is said -/
structure Un (fs ex : List Addr) (H H' : Hp) (h h' : Heap) : Prop where
  keep : ∀ b o, h.get? b = some o → H b = none → b ∉ fs → b ∉ ex → h'.get? b = some o
  slot : ∀ b o, h.get? b = some o → H b = none → b ∈ fs → b ∉ ex → ∃ sl, h'.get? b = some { o with slots := sl }
  free : ∀ b o, h.get? b = some o → H b = none → b ∉ ex → H' b = none
  there : ∀ b o, h.get? b = some o → b ∉ ex → ∃ o', h'.get? b = some o'
  tups : ∀ b xs, H b = some (.tup xs) → H' b = some (.tup xs)
  frzs : ∀ b o u, H b = some (.frz o u) → H' b = some (.frz o u)
  tbls : ∀ b ps, H b = some (.tbl ps) → ∃ more, H' b = some (.tbl (ps ++ more))
  cels : ∀ b v, H b = some (.cel v) → ∃ v', H' b = some (.cel v')
section
variable {fs fs' ex ex' : List Addr} {H H1 H2 : Hp} {h h1 h2 h' : Heap} {a x e : Addr} {o : HO}
theorem Un.any (u : Un fs ex H H1 h h1) {b : Addr} {ob : Obj} (q : h.get? b = some ob) (n : H b = none) (hx : b ∉ ex) : ∃ sl, h1.get? b = some { ob with slots := sl } := by
  by_cases hb : b ∈ fs
  · exact u.slot b ob q n hb hx
  · exact ⟨ob.slots, u.keep b ob q n hb hx⟩
theorem Un.trans (a : Un fs ex H H1 h h1) (b : Un fs ex H1 H2 h1 h2) : Un fs ex H H2 h h2 where
  keep := fun c ob q n hc hx => b.keep c ob (a.keep c ob q n hc hx) (a.free c ob q n hx) hc hx
  slot := fun c ob q n hc hx => by
    obtain ⟨sl, e1⟩ := a.slot c ob q n hc hx
    obtain ⟨sl', e2⟩ := b.slot c _ e1 (a.free c ob q n hx) hc hx
    exact ⟨sl', e2⟩
  free := fun c ob q n hx => by
    obtain ⟨o', e1⟩ := a.there c ob q hx
    exact b.free c o' e1 (a.free c ob q n hx) hx
  there := fun c ob q hx => by
    obtain ⟨o', e1⟩ := a.there c ob q hx
    exact b.there c o' e1 hx
  tups := fun c xs q => b.tups c xs (a.tups c xs q)
  frzs := fun c ob xs q => b.frzs c ob xs (a.frzs c ob xs q)
  cels := fun c v q => by
    obtain ⟨v1, e1⟩ := a.cels c v q
    exact b.cels c v1 e1
  tbls := fun c ps q => by
    obtain ⟨m1, e1⟩ := a.tbls c ps q
    obtain ⟨m2, e2⟩ := b.tbls c _ e1
    exact ⟨m1 ++ m2, by rw [e2, Array.append_assoc]⟩
theorem Un.kept (k : ∀ b u, h.get? b = some u → h'.get? b = some u) : Un fs ex H H h h' :=
  ⟨fun b ob q _ _ _ => k b ob q, fun b ob q _ _ _ => ⟨ob.slots, k b ob q⟩, fun _ _ _ n _ => n, fun b ob q _ => ⟨ob, k b ob q⟩, fun _ _ q => q, fun _ _ _ q => q, fun _ ps q => ⟨#[], by rw [q]; simp⟩, fun _ v q => ⟨v, q⟩⟩
theorem Un.refl : Un fs ex H H h h := Un.kept fun _ _ q => q
theorem Un.laid (k : ∀ b u, h.get? b = some u → h'.get? b = some u) (hp : h.objs.size ≤ a) (hn : H a = none) : Un fs ex H (upd H a o) h h' where
  keep := fun b u q _ _ _ => k b u q
  slot := fun b u q _ _ _ => ⟨u.slots, k b u q⟩
  free := fun b u q n _ => by rw [upd_ne (Nat.ne_of_lt (Nat.lt_of_lt_of_le (Heap.lt_size q) hp))]; exact n
  there := fun b u q _ => ⟨u, k b u q⟩
  tups := fun b xs q => by rw [upd_ne (ne_of_none q hn)]; exact q
  frzs := fun b u xs q => by rw [upd_ne (ne_of_none q hn)]; exact q
  tbls := fun b ps q => ⟨#[], by rw [upd_ne (ne_of_none q hn), q]; simp⟩
  cels := fun b v q => ⟨v, by rw [upd_ne (ne_of_none q hn)]; exact q⟩
theorem Un.write (mu : Mut (H x)) (he : e = x ∨ H e = some (.own x)) (k : ∀ b u, b ≠ e → h.get? b = some u → h'.get? b = some u) (heo : ∃ u, h'.get? e = some u) : Un fs ex H (upd H x o) h h' := by
  have hx : ∀ b, H b = none → b ≠ x := fun b n z => by subst z; rw [n] at mu; exact mu
  have hb : ∀ b, H b = none → b ≠ e := fun b n z => by
    subst z
    rcases he with r | r
    · exact hx b n r
    · rw [n] at r; cases r
  have hm : ∀ b u, H b = some u → ¬ Mut (some u) → b ≠ x := fun b u q nm z => by subst z; rw [q] at mu; exact nm mu
  refine ⟨fun b u q n _ _ => k b u (hb b n) q, fun b u q n _ _ => ⟨u.slots, k b u (hb b n) q⟩, fun b u q n _ => by rw [upd_ne (hx b n)]; exact n, fun b u q _ => ?_,
    fun b xs q => by rw [upd_ne (hm b _ q fun z => z)]; exact q, fun b u xs q => by rw [upd_ne (hm b _ q fun z => z)]; exact q, fun b ps q => ⟨#[], by rw [upd_ne (hm b _ q fun z => z), q]; simp⟩, fun b v q => ⟨v, by rw [upd_ne (hm b _ q fun z => z)]; exact q⟩⟩
  by_cases hbe : b = e
  · subst hbe; exact heo
  · exact ⟨u, k b u hbe q⟩
theorem Un.mono (u : Un fs ex H H1 h h1) (hs : ∀ b ∈ fs, b ∈ fs') (hx : ∀ b ∈ ex, b ∈ ex') : Un fs' ex' H H1 h h1 :=
  ⟨fun b ob q n hb he => u.keep b ob q n (fun z => hb (hs b z)) fun z => he (hx b z), fun _ _ q n _ he => u.any q n fun z => he (hx _ z), fun b ob q n he => u.free b ob q n fun z => he (hx b z), fun b ob q he => u.there b ob q fun z => he (hx b z), u.tups, u.frzs, u.tbls, u.cels⟩
end

/-! ### the heap without what is tracked -/
def trk (h : Heap) (H : Hp) : List Addr := (List.range h.objs.size).filter fun a => (H a).isSome
def hidT (h : Heap) (H : Hp) : Heap := PySem.W.hideAll h (trk h H)
theorem hidT_size (h : Heap) (H : Hp) : (hidT h H).objs.size = h.objs.size := PySem.W.hideAll_size _ _
theorem hidT_get {h : Heap} {H : Hp} {b : Addr} {o : Obj} (e : h.get? b = some o) (n : H b = none) : (hidT h H).get? b = some o :=
  PySem.W.hideAll_get _ e fun hm => by
    have q : (H b).isSome = true := (List.mem_filter.mp hm).2
    rw [n] at q; simp at q
theorem of_hidT {h : Heap} {H : Hp} {b : Addr} {o : Obj} (e : (hidT h H).get? b = some o) : h.get? b = some o ∧ H b = none := by
  have e' : h.get? b = some o := PySem.W.of_hideAll (trk h H) e
  refine ⟨e', ?_⟩
  cases q : H b with
  | none => rfl
  | some x =>
    have hm : b ∈ trk h H := List.mem_filter.mpr ⟨List.mem_range.mpr (Heap.lt_size e'), by simp [q]⟩
    have z : (hidT h H).get? b = none := PySem.W.hideAll_none (trk h H) hm
    rw [z] at e; cases e

/-! ### OpenK's ledger, filled with every new object but one -/
def allNews (g h : Heap) (L : Addr) : List (Addr × Obj) := (List.range h.objs.size).filterMap fun a => if a = L ∨ (g.get? a).isSome = true then none else (h.get? a).map fun o => (a, o)
def rest (g h : Heap) (L d : Addr) : List (Addr × Obj) := (allNews g h L).filter fun p => decide (p.1 ≠ d)
end L2

namespace L2
open PySem PySem.Spec PyProof.Rows

/-- the module's facts, over the base: the heap at the law's entry without what is tracked there -/
structure Mod (K : PySem.W.Frag) (mg : Str → Option Value) (base : Heap) : Prop where
  kin : K.In base
  glob : base.Ns mainGlobals mg
  blt : ∃ mb, base.Ns builtinsNs mb ∧ ∀ x : Str, x ≠ "__name__" → mb x = bootBuiltins x
  nolimit : base.NoLimit

/-- the context: a def's body (or a comprehension's block) running. base: fixed through the whole law; s₀, H₀: the entry; outer: the frames whose slots others may change (a def's callers); stack: all frames that run;
   ex: iterators that were made ahead of the entry and are walked here (a comprehension's); fn: the names whose cells were made at the entry (a def: all; a comprehension's block: its own); calm: not within an except suite; pn: pins that every state bears; xe: what is wanted of an exception that leaves the code -/
structure Cx where
  prog : Program
  w : World
  K : PySem.W.Frag
  mg : Str → Option Value
  base : Heap
  A : Around
  N : List Str
  s_0 : Shared
  H_0 : Hp
  env : Env
  outer : List Env
  stack : List Env
  ex : List Addr
  fn : Str → Bool
  calm : Bool
  pn : List (Addr × Obj)
  xe : Value → Shared → Prop
  hc : List Addr := []
/-- the callers' frames -/
def frs (l : List Env) : List Addr := l.filterMap (·.frame)
abbrev Cx.fs (X : Cx) : List Addr := frs X.outer

def Vis (sc : Scope) (x : Str) : Prop := sc.names.lookup x = some .local ∨ sc.names.lookup x = some .cell ∨ sc.names.lookup x = some .free
def Loc (sc : Scope) (x : Str) : Prop := sc.names.lookup x = some .local ∨ sc.names.lookup x = some .cell
def Look (env : Env) (h : Heap) (m : Str → Option Value) (x : Str) (u : Value) : Prop :=
  (env.kindOf x = some .local ∧ m x = some u) ∨ ((env.kindOf x = some .cell ∨ env.kindOf x = some .free) ∧ ∃ c, env.cells.lookup x = some c ∧ h.IsCell c (some u))

structure Cx.Ok (X : Cx) : Prop where
  mod : Mod X.K X.mg X.base
  kind : X.env.scope.kind = .function
  glob : X.env.globals = mainGlobals
  blt : X.env.builtins = builtinsNs
  above : X.s_0.heap.objs.size ≤ X.env.locals
  inj : ∀ x y c, X.env.cells.lookup x = some c → X.env.cells.lookup y = some c → x = y
  has : ∀ x, (X.env.kindOf x = some .cell ∨ X.env.kindOf x = some .free) → ∃ c, X.env.cells.lookup x = some c
  cab : ∀ x c, X.fn x = true → X.env.cells.lookup x = some c → X.s_0.heap.objs.size ≤ c
  hd : X.calm = true → X.A.handled = none
  frames : X.A.frames = some X.stack
  stk : X.stack = X.outer ∨ (X.stack = X.env :: X.outer ∧ X.env.frame = some X.env.locals)
  exf : ∀ b ∈ X.ex, b ≠ X.env.locals ∧ ∀ x c, X.env.cells.lookup x = some c → c ≠ b
  bs : ∀ b o, X.base.get? b = some o → X.s_0.heap.get? b = some o ∧ X.H_0 b = none
  bsz : X.base.objs.size ≤ X.s_0.heap.objs.size
  noex : ∀ b o, X.base.get? b = some o → b ∉ X.ex
  exfs : ∀ b ∈ X.ex, b ∉ X.fs
  funs : X.s_0.heap.FunFrames X.base X.outer
  frf : ∀ b ∈ X.fs, X.H_0 b = none
  hcN : ∀ (i : Nat) (x : Str) c, X.N[i]? = some x → X.env.cells.lookup x = some c → c ∉ X.hc

structure Inv (X : Cx) (pins : List (Addr × Obj)) (σ : List (Option V)) (H : Hp) (s : Shared) : Prop where
  ok : X.Ok
  os : s.os = X.s_0.os
  bare : AllBare s.gens
  base : Un X.fs X.ex X.H_0 H X.s_0.heap s.heap
  loc : ∃ m, s.heap.Ns X.env.locals m ∧ ∀ (i : Nat) (x : Str) (v : V), X.N[i]? = some x → σ[i]? = some (some v) → Vis X.env.scope x → ∃ u, RelV v u ∧ Look X.env s.heap m x u
  cell : ∀ x c, X.env.cells.lookup x = some c → ∃ v, s.heap.IsCell c v
  free : H X.env.locals = none
  freeC : ∀ x c, X.env.cells.lookup x = some c → c ∉ X.hc → H c = none
  hct : ∀ c ∈ X.hc, ∃ v, H c = some (.cel v)
  pin : ∀ p ∈ X.pn ++ pins, s.heap.get? p.1 = some p.2 ∧ H p.1 = none ∧ p.1 ≠ X.env.locals ∧ p.1 ∉ X.fs ∧ ∀ v, p.2.data ≠ .cell v
  hok : HOk X.prog X.w H s.heap
  len : σ.length = X.N.length

section
variable {X : Cx} {pins : List (Addr × Obj)} {σ : List (Option V)} {H H' : Hp} {s : Shared} {h' : Heap}

theorem Cx.Ok.nofr (ok : X.Ok) {b : Addr} {o : Obj} (e : X.base.get? b = some o) : b ∉ X.fs := fun hb => by
  have := (ok.funs.mem hb).1
  rw [e] at this; cases this
theorem Inv.bs (I : Inv X pins σ H s) : ∀ b o, X.base.get? b = some o → s.heap.get? b = some o ∧ H b = none := fun b o e =>
  ⟨I.base.keep b o (I.ok.bs b o e).1 (I.ok.bs b o e).2 (I.ok.nofr e) (I.ok.noex b o e), I.base.free b o (I.ok.bs b o e).1 (I.ok.bs b o e).2 (I.ok.noex b o e)⟩
theorem Inv.bk (I : Inv X pins σ H s) : ∀ b o, X.base.get? b = some o → s.heap.get? b = some o := fun b o e => (I.bs b o e).1
theorem Inv.mod (I : Inv X pins σ H s) : Mod X.K X.mg X.base := I.ok.mod
theorem Inv.kIn (I : Inv X pins σ H s) : X.K.In s.heap := I.ok.mod.kin.keeps I.bk
theorem Inv.nolimit (I : Inv X pins σ H s) : s.heap.NoLimit := I.ok.mod.nolimit.keeps I.bk
/-- the frame over the base: for OpenK's rules (K.In X.base is I.mod.kin) -/
theorem Inv.fr (I : Inv X pins σ H s) : ∃ m, Fr X.base X.env.locals s.heap m :=
  let ⟨m, hn, _⟩ := I.loc
  ⟨m, hn, I.bk, Nat.le_trans I.ok.bsz I.ok.above⟩
theorem Inv.lt (I : Inv X pins σ H s) : X.env.locals < s.heap.objs.size := let ⟨_, hn, _⟩ := I.loc; hn.lt
theorem Inv.sz (I : Inv X pins σ H s) : X.s_0.heap.objs.size ≤ s.heap.objs.size := Nat.le_trans I.ok.above (Nat.le_of_lt I.lt)
theorem Inv.nofs (I : Inv X pins σ H s) {a : Addr} (h : s.heap.objs.size ≤ a) : a ∉ X.fs := fun hb => by
  obtain ⟨_, o, ho, _⟩ := I.ok.funs.mem hb
  exact absurd (Nat.lt_of_lt_of_le (Heap.lt_size ho) (Nat.le_trans I.sz h)) (Nat.lt_irrefl _)
theorem Inv.cne (I : Inv X pins σ H s) : ∀ x c, X.env.cells.lookup x = some c → c ≠ X.env.locals := fun x c e z => by
  obtain ⟨v, o, ho, hd⟩ := I.cell x c e
  obtain ⟨m, ⟨o', es, ep, ho', hd', _⟩, _⟩ := I.loc
  rw [z, ho'] at ho; cases ho; rw [hd'] at hd; cases hd
theorem Inv.funs (I : Inv X pins σ H s) : s.heap.FunFrames X.base X.outer := by
  have all : ∀ (l : List Env), (∀ b ∈ frs l, b ∈ X.fs) → X.s_0.heap.FunFrames X.base l → s.heap.FunFrames X.base l := by
    intro l
    induction l with
    | nil => intro _ _; trivial
    | cons env r ih =>
      intro hs hl
      obtain ⟨hk, ⟨L, o, hf, hn, ho, hd⟩, hr⟩ := hl
      have hL : L ∈ X.fs := hs L (by unfold frs; rw [List.filterMap_cons, hf]; exact List.mem_cons_self)
      obtain ⟨sl, e⟩ := I.base.slot L o ho (I.ok.frf L hL) hL fun z => I.ok.exfs L z hL
      exact ⟨hk, ⟨L, _, hf, hn, e, hd⟩, ih (fun b hb => hs b (by unfold frs; rw [List.filterMap_cons, hf]; exact List.mem_cons_of_mem _ hb)) hr⟩
  exact all X.outer (fun _ hb => hb) I.ok.funs

/-- the frames that run, for a call -/
theorem Inv.stack (I : Inv X pins σ H s) : s.heap.FunFrames X.base X.stack := by
  rcases I.ok.stk with e | ⟨e, hf⟩
  · rw [e]; exact I.funs
  · rw [e]
    obtain ⟨m, hn, _⟩ := I.loc
    refine .cons (by rw [I.ok.kind]; decide) hf hn ?_ I.funs
    exact Heap.get?_none_of_le (Nat.le_trans I.ok.bsz I.ok.above)
theorem Inv.stkSub (I : Inv X pins σ H s) : ∀ b ∈ frs X.stack, b ∈ X.env.locals :: X.fs := fun b hb => by
  rcases I.ok.stk with e | ⟨e, hf⟩
  · rw [e] at hb; exact List.mem_cons_of_mem _ hb
  · rw [e] at hb
    unfold frs at hb
    rw [List.filterMap_cons, hf] at hb
    exact hb
theorem Inv.stkFree (I : Inv X pins σ H s) : ∀ b ∈ frs X.stack, H b = none := fun b hb => by
  rcases List.mem_cons.mp (I.stkSub b hb) with e | hb
  · rw [e]; exact I.free
  · obtain ⟨_, o, ho, _⟩ := I.ok.funs.mem hb
    exact I.base.free b o ho (I.ok.frf b hb) fun z => I.ok.exfs b z hb

/-- THE STEP: the untracked objects but the frame and the records at ch are kept (the callers' frames up to slots), the frame's map is kept, the new abstract heap is held -/
theorem Inv.step {g' : Array GenState} {t' : Nat} {d' : Drawn} {ch : List Addr} (I : Inv X pins σ H s)
    (hch : ∀ b ∈ ch, (b ∈ X.ex ∨ X.s_0.heap.get? b = none) ∧ b ≠ X.env.locals ∧ (∀ x c, X.env.cells.lookup x = some c → c ≠ b) ∧ ∀ p ∈ X.pn ++ pins, p.1 ≠ b)
    (keep : ∀ b o, b ≠ X.env.locals → b ∉ X.fs → b ∉ ch → s.heap.get? b = some o → H b = none → h'.get? b = some o)
    (slot : ∀ b o, b ≠ X.env.locals → b ∈ X.fs → b ∉ ch → s.heap.get? b = some o → H b = none → ∃ sl, h'.get? b = some { o with slots := sl }) (free : ∀ b o, b ∉ ch → s.heap.get? b = some o → H b = none → H' b = none)
    (there : ∀ b o, b ∉ ch → s.heap.get? b = some o → ∃ o', h'.get? b = some o')
    (tups : ∀ b xs, H b = some (.tup xs) → H' b = some (.tup xs)) (frzs : ∀ b o u, H b = some (.frz o u) → H' b = some (.frz o u)) (cels : ∀ b v, H b = some (.cel v) → ∃ v', H' b = some (.cel v')) (tbls : ∀ b ps, H b = some (.tbl ps) → ∃ more, H' b = some (.tbl (ps ++ more)))
    (ns : ∀ m, s.heap.Ns X.env.locals m → h'.Ns X.env.locals m) (hok : HOk X.prog X.w H' h') (hg : AllBare g') :
    Inv X pins σ H' { s with heap := h', gens := g', drawn := d', toks := t' } := by
  have neL : ∀ b o, X.s_0.heap.get? b = some o → b ≠ X.env.locals := fun b o e => Nat.ne_of_lt (Nat.lt_of_lt_of_le (Heap.lt_size e) I.ok.above)
  have neC : ∀ b o, X.s_0.heap.get? b = some o → b ∉ X.ex → b ∉ ch := fun b o e hx hb => by
    rcases (hch b hb).1 with z | z
    · exact hx z
    · rw [z] at e; cases e
  have cellK : ∀ x c, X.env.cells.lookup x = some c → c ∉ X.hc → ∀ v, s.heap.IsCell c v → h'.IsCell c v := fun x c e hx v ⟨o, ho, hd⟩ => by
    have nch : c ∉ ch := fun z => (hch c z).2.2.1 x c e rfl
    by_cases hc : c ∈ X.fs
    · obtain ⟨sl, q⟩ := slot c o (I.cne x c e) hc nch ho (I.freeC x c e hx)
      exact ⟨_, q, hd⟩
    · exact ⟨o, keep c o (I.cne x c e) hc nch ho (I.freeC x c e hx), hd⟩
  refine ⟨I.ok, I.os, hg, ⟨fun b o e n hb hx => ?_, fun b o e n hb hx => ?_, fun b o e n hx => ?_, fun b o e hx => ?_, fun b xs e => tups b xs (I.base.tups b xs e), fun b o xs e => frzs b o xs (I.base.frzs b o xs e), fun b ps e => ?_, fun b v e => (I.base.cels b v e).elim fun v1 e1 => cels b v1 e1⟩, ?_, fun x c e => ?_, ?_, fun x c e hx => ?_, fun c hx => (I.hct c hx).elim fun v1 e1 => cels c v1 e1, fun p hp => ?_, hok, I.len⟩
  · exact keep b o (neL b o e) hb (neC b o e hx) (I.base.keep b o e n hb hx) (I.base.free b o e n hx)
  · obtain ⟨sl, e1⟩ := I.base.slot b o e n hb hx
    obtain ⟨sl', e2⟩ := slot b _ (neL b o e) hb (neC b o e hx) e1 (I.base.free b o e n hx)
    exact ⟨sl', e2⟩
  · obtain ⟨o', e1⟩ := I.base.there b o e hx
    exact free b o' (neC b o e hx) e1 (I.base.free b o e n hx)
  · obtain ⟨o', e1⟩ := I.base.there b o e hx
    exact there b o' (neC b o e hx) e1
  · obtain ⟨m1, e1⟩ := I.base.tbls b ps e
    obtain ⟨m2, e2⟩ := tbls b _ e1
    exact ⟨m1 ++ m2, by rw [e2, Array.append_assoc]⟩
  · obtain ⟨m, hn, hl⟩ := I.loc
    refine ⟨m, ns m hn, fun i x v e1 e2 e3 => ?_⟩
    obtain ⟨u, r, l⟩ := hl i x v e1 e2 e3
    refine ⟨u, r, ?_⟩
    rcases l with l | ⟨k, c, e, z⟩
    · exact .inl l
    · exact .inr ⟨k, c, e, cellK x c e (I.ok.hcN i x c e1 e) _ z⟩
  · by_cases hx : c ∈ X.hc
    · obtain ⟨v1, e1⟩ := I.hct c hx
      obtain ⟨v2, e2⟩ := cels c v1 e1
      obtain ⟨ov, _, z⟩ := hok c _ e2
      exact ⟨ov, z⟩
    obtain ⟨v, z⟩ := I.cell x c e
    exact ⟨v, cellK x c e hx v z⟩
  · obtain ⟨m, ⟨o, _, _, ho, _⟩, _⟩ := I.loc
    exact free _ o (fun z => (hch _ z).2.1 rfl) ho I.free
  · obtain ⟨v, o, ho, hd⟩ := I.cell x c e
    exact free c o (fun z => (hch c z).2.2.1 x c e rfl) ho (I.freeC x c e hx)
  · obtain ⟨e, n, ne, nf, d⟩ := I.pin p hp
    have nch : p.1 ∉ ch := fun z => (hch p.1 z).2.2.2 p hp rfl
    exact ⟨keep p.1 p.2 ne nf nch e n, free p.1 p.2 nch e n, ne, nf, d⟩
/-- .. where the frame's own object is kept too -/
theorem Inv.un {t' : Nat} (I : Inv X pins σ H s) (u : Un X.fs [] H H' s.heap h') (hok : HOk X.prog X.w H' h') : Inv X pins σ H' { s with heap := h', toks := t' } := by
  obtain ⟨m, ⟨o, es, ep, ho, r⟩, _⟩ := id I.loc
  obtain ⟨sl, hL⟩ := u.any ho I.free (by simp)
  exact I.step (g' := s.gens) (d' := s.drawn) (ch := []) (fun _ z => nomatch z) (fun b o _ hb _ e n => u.keep b o e n hb (by simp)) (fun b o _ hb _ e n => u.slot b o e n hb (by simp)) (fun b o _ e n => u.free b o e n (by simp)) (fun b o _ e => u.there b o e (by simp)) u.tups u.frzs u.cels u.tbls (fun m' hm => by
    obtain ⟨o', es', ep', ho', r'⟩ := hm
    rw [ho] at ho'; cases ho'
    exact ⟨_, es', ep', hL, r'⟩) hok I.bare
/-- behind a call (or a comprehension's block): the slots of this frame may have changed too, the records at ch may have turned -/
theorem Inv.call {g' : Array GenState} {t' : Nat} {d' : Drawn} {ch : List Addr} (I : Inv X pins σ H s) (u : Un (frs X.stack) ch H H' s.heap h') (hok : HOk X.prog X.w H' h') (hg : AllBare g')
    (hch : ∀ b ∈ ch, (b ∈ X.ex ∨ X.s_0.heap.get? b = none) ∧ b ≠ X.env.locals ∧ (∀ x c, X.env.cells.lookup x = some c → c ≠ b) ∧ ∀ p ∈ X.pn ++ pins, p.1 ≠ b) :
    Inv X pins σ H' { s with heap := h', gens := g', drawn := d', toks := t' } := by
  obtain ⟨m, ⟨o, es, ep, ho, r⟩, _⟩ := id I.loc
  obtain ⟨sl, hL⟩ := u.any ho I.free fun z => (hch _ z).2.1 rfl
  exact I.step (ch := ch) hch (fun b o hL hb hc e n => u.keep b o e n (fun z => (List.mem_cons.mp (I.stkSub b z)).elim hL hb) hc) (fun b o _ _ hc e n => u.any e n hc) (fun b o hc e n => u.free b o e n hc) (fun b o hc e => u.there b o e hc) u.tups u.frzs u.cels u.tbls (fun m' hm => by
    obtain ⟨o', es', ep', ho', r'⟩ := hm
    rw [ho] at ho'; cases ho'
    exact ⟨_, es', ep', hL, r'⟩) hok hg
/-- an untracked record of ours (an iterator) has turned -/
theorem Inv.turned {t' : Nat} {it : Addr} (I : Inv X pins σ H s) (k : ∀ b o, b ≠ it → s.heap.get? b = some o → h'.get? b = some o) (hn : H it = none) (hL : it ≠ X.env.locals)
    (h1 : it ∈ X.ex ∨ X.s_0.heap.get? it = none) (h2 : ∀ x c, X.env.cells.lookup x = some c → c ≠ it) (h3 : ∀ p ∈ X.pn ++ pins, p.1 ≠ it) : Inv X pins σ H { s with heap := h', toks := t' } := by
  have nit : ∀ b u, H b = some u → b ≠ it := fun b u e z => by rw [z, hn] at e; cases e
  refine I.step (g' := s.gens) (d' := s.drawn) (ch := [it]) (fun b hb => ?_) (fun b o _ _ hc e _ => k b o (fun z => hc (by simp [z])) e) (fun b o _ _ hc e _ => ⟨o.slots, k b o (fun z => hc (by simp [z])) e⟩) (fun _ _ _ _ n => n)
    (fun b o hc e => ⟨o, k b o (fun z => hc (by simp [z])) e⟩) (fun _ _ e => e) (fun _ _ _ e => e) (fun _ v e => ⟨v, e⟩) (fun b ps e => ⟨#[], by rw [e]; simp⟩) (fun m hm => ?_) (fun b u e => ?_) I.bare
  · have e : b = it := by simpa using hb
    subst e
    exact ⟨h1, hL, h2, h3⟩
  · obtain ⟨o, es, ep, ho, r⟩ := hm
    exact ⟨o, es, ep, k _ o (Ne.symm hL) ho, r⟩
  · refine (I.hok b u e).stay (fun c v hc q => k c v ?_ q) (fun _ q => q) fun _ _ q => q
    rcases hc with z | z
    · rw [z]; exact nit b u e
    · exact nit c _ z
theorem Inv.tok (I : Inv X pins σ H s) (t : Nat) : Inv X pins σ H { s with toks := t } := I.un (h' := s.heap) (t' := t) Un.refl I.hok
/-- all objects kept -/
theorem Inv.kept {t' : Nat} (I : Inv X pins σ H s) (k : ∀ b u, s.heap.get? b = some u → h'.get? b = some u) : Inv X pins σ H { s with heap := h', toks := t' } := I.un (Un.kept k) (I.hok.kept k)
/-- a new object laid and tracked -/
theorem Inv.laid {a : Addr} {o : HO} {t' : Nat} (I : Inv X pins σ H s) (k : ∀ b u, s.heap.get? b = some u → h'.get? b = some u) (hp : s.heap.objs.size ≤ a) (new : ObjOk X.prog X.w (upd H a o) h' a o) :
    Inv X pins σ (upd H a o) { s with heap := h', toks := t' } := I.un (Un.laid k hp (I.hok.fresh hp)) (I.hok.laid k hp new)
/-- an object written -/
theorem Inv.write {x e : Addr} {o : HO} {t' : Nat} (I : Inv X pins σ H s) (mu : Mut (H x)) (he : e = x ∨ H e = some (.own x)) (k : ∀ b u, b ≠ e → s.heap.get? b = some u → h'.get? b = some u) (heo : ∃ u, h'.get? e = some u)
    (new : ObjOk X.prog X.w (upd H x o) h' x o) : Inv X pins σ (upd H x o) { s with heap := h', toks := t' } := I.un (Un.write mu he k heo) (I.hok.write mu he k heo new)
/-- forgetting slots, pins -/
theorem Inv.weak {σ' : List (Option V)} (I : Inv X pins σ H s) (hl : σ'.length = σ.length) (w : ∀ (i : Nat) v, σ'[i]? = some (some v) → σ[i]? = some (some v)) : Inv X pins σ' H s :=
  ⟨I.ok, I.os, I.bare, I.base, let ⟨m, hn, hl'⟩ := I.loc; ⟨m, hn, fun i x v e1 e2 e3 => hl' i x v e1 (w i v e2) e3⟩, I.cell, I.free, I.freeC, I.hct, I.pin, I.hok, hl.trans I.len⟩
theorem Inv.pins_of {pins' : List (Addr × Obj)} (I : Inv X pins σ H s) (h : ∀ p ∈ pins', s.heap.get? p.1 = some p.2 ∧ H p.1 = none ∧ p.1 ≠ X.env.locals ∧ p.1 ∉ X.fs ∧ ∀ v, p.2.data ≠ .cell v) : Inv X pins' σ H s :=
  ⟨I.ok, I.os, I.bare, I.base, I.loc, I.cell, I.free, I.freeC, I.hct, fun p hp => (List.mem_append.mp hp).elim (fun z => I.pin p (List.mem_append_left _ z)) (h p), I.hok, I.len⟩

theorem nodup_ix {N : List Str} (hN : N.Nodup) {i j : Nat} {x : Str} (a : N[i]? = some x) (b : N[j]? = some x) : i = j := by
  obtain ⟨h1, e1⟩ := List.getElem?_eq_some_iff.mp a
  obtain ⟨h2, e2⟩ := List.getElem?_eq_some_iff.mp b
  exact (List.getElem_inj hN).mp (e1.trans e2.symm)

/-- a name is stored; what changed -/
theorem store_ok2 {M : Model} {A : Around} {E : Value → Shared → Prop} {i : Nat} {x : Str} {v : V} {u : Value} {Q : Unit → Shared → Prop} (I : Inv X pins σ H s) (hN : X.N.Nodup) (hi : X.N[i]? = some x) (hx : Loc X.env.scope x) (r : RelV v u)
    (h : ∀ s', Inv X pins (σ.set i (some v)) H s' → (∃ a, Heap.SameBut a s.heap s'.heap ∧ (a = X.env.locals ∨ X.env.cells.lookup x = some a)) → Q () s') (hf : X.fn x = true ∨ X.env.scope.names.lookup x = some .local := by first | exact .inl rfl | exact .inr rfl | assumption) : wpAny M A (storeName X.env x u) Q E s := by
  obtain ⟨m, hn, hl⟩ := id I.loc
  have hcls : (X.env.scope.kind == .class || (X.env.scope.kind == .module && X.env.locals != X.env.globals)) = false := by rw [I.ok.kind]; rfl
  have hiσ : i < σ.length := by rw [I.len]; exact (List.getElem?_eq_some_iff.mp hi).1
  have cne := I.cne
  have tracked : ∀ {a : Addr} {h' : Heap}, (∃ o, s.heap.get? a = some o ∧ H a = none) → Heap.SameBut a s.heap h' → HOk X.prog X.w H h' := fun {a h'} ha hs b ob e => by
    obtain ⟨_, _, hfree⟩ := ha
    refine (I.hok b ob e).stay (fun c w' hc q => (hs.2 c ?_).trans q) (fun _ q => q) fun _ _ q => q
    rintro rfl
    rcases hc with rfl | hc
    · rw [hfree] at e; cases e
    · rw [hfree] at hc; cases hc
  rcases hx with hk | hk
  · refine wpAny_storeName_local hk hn (fun h' hn' hs => ?_) hcls
    obtain ⟨oL, _, _, hoL, _⟩ := id hn
    refine h _ ⟨I.ok, I.os, I.bare, ⟨fun b o e n hb hx => ?_, fun b o e n hb hx => ?_, I.base.free, fun b o e hx => ?_, I.base.tups, I.base.frzs, I.base.tbls, I.base.cels⟩, ⟨_, hn', fun j y v' e1 e2 e3 => ?_⟩, fun y c e => ?_, I.free, I.freeC, I.hct, fun p hp => ?_, tracked ⟨oL, hoL, I.free⟩ hs, by simpa using I.len⟩ ⟨_, hs, .inl rfl⟩
    · exact (hs.2 b (Nat.ne_of_lt (Nat.lt_of_lt_of_le (Heap.lt_size e) I.ok.above))).trans (I.base.keep b o e n hb hx)
    · obtain ⟨sl, e1⟩ := I.base.slot b o e n hb hx
      exact ⟨sl, (hs.2 b (Nat.ne_of_lt (Nat.lt_of_lt_of_le (Heap.lt_size e) I.ok.above))).trans e1⟩
    · obtain ⟨o', e1⟩ := I.base.there b o e hx
      exact ⟨o', (hs.2 b (Nat.ne_of_lt (Nat.lt_of_lt_of_le (Heap.lt_size e) I.ok.above))).trans e1⟩
    · by_cases hj : j = i
      · subst hj
        rw [hi] at e1; cases e1
        rw [List.getElem?_set_self hiσ] at e2
        cases e2
        exact ⟨u, r, .inl ⟨hk, by simp⟩⟩
      · rw [List.getElem?_set_ne (Ne.symm hj)] at e2
        obtain ⟨u', r', q⟩ := hl j y v' e1 e2 e3
        refine ⟨u', r', ?_⟩
        rcases q with ⟨k, e⟩ | ⟨k, c, e, z⟩
        · refine .inl ⟨k, ?_⟩
          have : y ≠ x := fun e => hj (nodup_ix hN e1 (e ▸ hi))
          simp [this, e]
        · exact .inr ⟨k, c, e, z.sameBut hs (cne y c e)⟩
    · obtain ⟨w', z⟩ := I.cell y c e
      exact ⟨w', z.sameBut hs (cne y c e)⟩
    · obtain ⟨e, n, ne, nf, d⟩ := I.pin p hp
      exact ⟨(hs.2 p.1 ne).trans e, n, ne, nf, d⟩
  · have hfn : X.fn x = true := by
      rcases hf with z | z
      · exact z
      · rw [z] at hk; cases hk
    obtain ⟨c, hc⟩ := I.ok.has x (.inl hk)
    obtain ⟨w', z⟩ := I.cell x c hc
    refine wpAny_storeName_cell I.ok.kind hk hc z (fun h' hc' hs => ?_)
    obtain ⟨oc, hoc, hocd⟩ := id z
    refine h { s with heap := h' } ⟨I.ok, I.os, I.bare, ⟨fun b o e n hb hx => ?_, fun b o e n hb hx => ?_, I.base.free, fun b o e hx => ?_, I.base.tups, I.base.frzs, I.base.tbls, I.base.cels⟩, ⟨m, hn.sameBut hs (Ne.symm (cne x c hc)), fun j y v' e1 e2 e3 => ?_⟩, fun y c' e => ?_, I.free, I.freeC, I.hct, fun p hp => ?_, tracked ⟨oc, hoc, I.freeC x c hc (I.ok.hcN i x c hi hc)⟩ hs, by simpa using I.len⟩ ⟨c, hs, .inr hc⟩
    · exact (hs.2 b (Nat.ne_of_lt (Nat.lt_of_lt_of_le (Heap.lt_size e) (I.ok.cab x c hfn hc)))).trans (I.base.keep b o e n hb hx)
    · obtain ⟨sl, e1⟩ := I.base.slot b o e n hb hx
      exact ⟨sl, (hs.2 b (Nat.ne_of_lt (Nat.lt_of_lt_of_le (Heap.lt_size e) (I.ok.cab x c hfn hc)))).trans e1⟩
    · obtain ⟨o', e1⟩ := I.base.there b o e hx
      exact ⟨o', (hs.2 b (Nat.ne_of_lt (Nat.lt_of_lt_of_le (Heap.lt_size e) (I.ok.cab x c hfn hc)))).trans e1⟩
    · by_cases hj : j = i
      · subst hj
        rw [hi] at e1; cases e1
        rw [List.getElem?_set_self hiσ] at e2
        cases e2
        exact ⟨u, r, .inr ⟨.inl hk, c, hc, hc'⟩⟩
      · rw [List.getElem?_set_ne (Ne.symm hj)] at e2
        obtain ⟨u', r', q⟩ := hl j y v' e1 e2 e3
        refine ⟨u', r', ?_⟩
        rcases q with q | ⟨k, c', e, z'⟩
        · exact .inl q
        · refine .inr ⟨k, c', e, z'.sameBut hs ?_⟩
          rintro rfl
          exact hj (nodup_ix hN e1 (I.ok.inj _ _ _ e hc ▸ hi))
    · by_cases hcc : c' = c
      · subst hcc; exact ⟨_, hc'⟩
      · obtain ⟨w2, z2⟩ := I.cell y c' e
        exact ⟨w2, z2.sameBut hs hcc⟩
    · obtain ⟨e, n, ne, nf, d⟩ := I.pin p hp
      refine ⟨(hs.2 p.1 ?_).trans e, n, ne, nf, d⟩
      intro q
      rw [q, hoc] at e
      have q' : oc = p.2 := Option.some.inj e
      exact d w' (by rw [← q']; exact hocd)
theorem store_ok {M : Model} {A : Around} {E : Value → Shared → Prop} {i : Nat} {x : Str} {v : V} {u : Value} {Q : Unit → Shared → Prop} (I : Inv X pins σ H s) (hN : X.N.Nodup) (hi : X.N[i]? = some x) (hx : Loc X.env.scope x) (r : RelV v u)
    (h : ∀ s', Inv X pins (σ.set i (some v)) H s' → Q () s') (hf : X.fn x = true ∨ X.env.scope.names.lookup x = some .local := by first | exact .inl rfl | exact .inr rfl | assumption) : wpAny M A (storeName X.env x u) Q E s :=
  store_ok2 I hN hi hx r (fun s' I' _ => h s' I') hf
/-- behind a call or a block, the state as it is -/
theorem Inv.call' {s' : Shared} {ch : List Addr} (I : Inv X pins σ H s) (ho : s'.os = s.os) (u : Un (frs X.stack) ch H H' s.heap s'.heap) (hok : HOk X.prog X.w H' s'.heap) (hg : AllBare s'.gens)
    (hch : ∀ b ∈ ch, (b ∈ X.ex ∨ X.s_0.heap.get? b = none) ∧ b ≠ X.env.locals ∧ (∀ x c, X.env.cells.lookup x = some c → c ≠ b) ∧ ∀ p ∈ X.pn ++ pins, p.1 ≠ b) : Inv X pins σ H' s' := by
  obtain ⟨h', g', d', t', o'⟩ := s'
  have e : o' = s.os := ho
  subst e
  exact I.call (g' := g') (t' := t') (d' := d') u hok hg hch
end

/-! ### the judgements -/
/-- an exception: its class, its own dict's address (where it has one), the abstract heap behind it -/
abbrev XK := Value → Option Addr → Hp → Prop
abbrev St := List (Option V)
abbrev VK := V → Hp → Prop
/-- an expression's reading; a test's; an argument list's -/
abbrev TE := St → Hp → VK → Prop
abbrev TT := St → Hp → (Bool → Hp → Prop) → Prop
abbrev TA := St → Hp → (List V → Hp → Prop) → Prop
/-- what is wanted behind a statement -/
structure Ends where
  nx : St → Hp → Prop
  rt : VK
  bk : St → Hp → Prop := fun _ _ => False
  ct : St → Hp → Prop := fun _ _ => False
abbrev TS := Ends → St → Hp → Prop

def EP (X : Cx) (pins : List (Addr × Obj)) (σ : St) (Q : VK) (u : Value) (s' : Shared) : Prop := ∃ v H', Inv X pins σ H' s' ∧ RelV v u ∧ Q v H'
def TP (X : Cx) (pins : List (Addr × Obj)) (σ : St) (Q : Bool → Hp → Prop) (b : Bool) (s' : Shared) : Prop := ∃ H', Inv X pins σ H' s' ∧ Q b H'
def AP (X : Cx) (pins : List (Addr × Obj)) (σ : St) (Q : List V → Hp → Prop) (us : List Value) (s' : Shared) : Prop := ∃ vs H', Inv X pins σ H' s' ∧ Vals vs us ∧ Q vs H'
def SP (X : Cx) (pins : List (Addr × Obj)) (D : Ends) (f : Flow) (s' : Shared) : Prop :=
  match f with
  | .next => ∃ σ' H', Inv X pins σ' H' s' ∧ D.nx σ' H'
  | .brk => ∃ σ' H', Inv X pins σ' H' s' ∧ D.bk σ' H'
  | .cont => ∃ σ' H', Inv X pins σ' H' s' ∧ D.ct σ' H'
  | .ret u => ∃ v σ' H', Inv X pins σ' H' s' ∧ RelV v u ∧ D.rt v H'

def PE (X : Cx) (e : Expr) (t : TE) : Prop :=
  ∀ (pins : List (Addr × Obj)) (s : Shared) (σ : St) (H : Hp) (Q : VK), Inv X pins σ H s → t σ H Q → wpAny (model X.prog X.w) X.A (eval e X.env) (EP X pins σ Q) X.xe s
def PT (X : Cx) (e : Expr) (t : TT) : Prop :=
  ∀ (pins : List (Addr × Obj)) (s : Shared) (σ : St) (H : Hp) (Q : Bool → Hp → Prop), Inv X pins σ H s → t σ H Q → wpAny (model X.prog X.w) X.A (isTrue e X.env (eval e X.env)) (TP X pins σ Q) X.xe s
/-- a test whatever its 'whole' is (and, or) -/
def PW (X : Cx) (e : Expr) (t : TT) : Prop :=
  ∀ (whole : Sem Value) (pins : List (Addr × Obj)) (s : Shared) (σ : St) (H : Hp) (Q : Bool → Hp → Prop), Inv X pins σ H s → t σ H Q → wpAny (model X.prog X.w) X.A (isTrue e X.env whole) (TP X pins σ Q) X.xe s
theorem PW.pt {X : Cx} {e : Expr} {t : TT} (h : PW X e t) : PT X e t := h _
/-- an argument list (no star), from the left -/
def PA (X : Cx) (es : List Expr) (t : TA) : Prop :=
  ∀ (pos : Pos) (pins : List (Addr × Obj)) (s : Shared) (σ : St) (H : Hp) (Q : List V → Hp → Prop), Inv X pins σ H s → t σ H Q → wpAny (model X.prog X.w) X.A (spliced (backTo pos (starEach es X.env))) (AP X pins σ Q) X.xe s
def PS (X : Cx) (st : Stmt) (t : TS) : Prop :=
  ∀ (pins : List (Addr × Obj)) (s : Shared) (σ : St) (H : Hp) (D : Ends), Inv X pins σ H s → t D σ H → wpAny (model X.prog X.w) X.A (exec st X.env) (SP X pins D) X.xe s
def PSs (X : Cx) (st : List Stmt) (t : TS) : Prop :=
  ∀ (pins : List (Addr × Obj)) (s : Shared) (σ : St) (H : Hp) (D : Ends), Inv X pins σ H s → t D σ H → wpAny (model X.prog X.w) X.A (execs st X.env) (SP X pins D) X.xe s
/-- weaken the end -/
theorem thn {α : Type} {t : Sem α} {Q Q' : α → Shared → Prop} {M : Model} {A : Around} {E : Value → Shared → Prop} {s : Shared} (h : wpAny M A t Q E s) (hQ : ∀ a s, Q a s → Q' a s) : wpAny M A t Q' E s := wpAny_mono h hQ fun _ _ x => x
end L2

namespace L2
open PySem PySem.Spec PyProof.Rows
section
variable {X : Cx}

/-! ### names and constants -/
def tVar (i : Nat) : TE := fun σ H Q => ∃ v, σ[i]? = some (some v) ∧ Q v H
def tC (v : V) : TE := fun _ H Q => Q v H
theorem pe_var {i : Nat} {x : Str} {pos : Pos} (hN : X.N[i]? = some x) (hv : Vis X.env.scope x) (hd : (x == ("__debug__" : Str)) = false := by decide) (hcd : (x == ("__classdict__" : Str)) = false := by decide) : PE X (.Name x pos) (tVar i) := by
  intro pins s σ H Q I h
  obtain ⟨v, e, h⟩ := h
  obtain ⟨m, hn, hl⟩ := I.loc
  obtain ⟨u, r, l⟩ := hl i x v hN e hv
  have fin : EP X pins σ Q u s := ⟨v, H, I, r, h⟩
  rcases l with ⟨hk, hm⟩ | ⟨hk, c, hc, hcell⟩
  · exact wpAny_Name (wpAny_loadName_local I.ok.kind hk hn hm fin) hd
  · rcases hk with hk | hk
    · exact wpAny_Name (wpAny_loadName_cell I.ok.kind hk hc hcell fin) hd
    · exact wpAny_Name (wpAny_loadName_free I.ok.kind hk hc hcell fin hcd) hd
theorem pe_int {i j pos} : PE X (.Constant (.int i) j pos) (tC (.int i)) := fun _ _ _ H _ I h => wpAny_Constant_int ⟨.int i, H, I.tok _, ⟨_, rfl⟩, h⟩
theorem pe_bl {b j pos} : PE X (.Constant (.bool b) j pos) (tC (.bl b)) := fun _ _ _ H _ I h => Constant_bool ⟨.bl b, H, I, rfl, h⟩
theorem pe_non {j pos} : PE X (.Constant .none j pos) (tC .non) := fun _ _ _ H _ I h => Constant_none ⟨.non, H, I, rfl, h⟩
theorem pe_str {x j pos} : PE X (.Constant (.str x) j pos) (tC (.str x)) := fun _ _ _ H _ I h => Calls.Constant_str ⟨.str x, H, I.tok _, ⟨_, rfl⟩, h⟩

/-- a global name of the def -/
def Gl (X : Cx) (x : Str) : Prop := X.env.kindOf x = some .globalImplicit
theorem ld_glob {E : Value → Shared → Prop} {pins : List (Addr × Obj)} {s : Shared} {σ : St} {H : Hp} {x : Str} {u : Value} {pos : Pos} {Q : Value → Shared → Prop} (I : Inv X pins σ H s) (hg : Gl X x) (hm : X.mg x = some u) (h : Q u s)
    (hd : (x == ("__debug__" : Str)) = false := by decide) : wpAny (model X.prog X.w) X.A (eval (.Name x pos) X.env) Q E s :=
  Calls.Name_function_global I.ok.kind hg (Calls.loadGlobal_global (by rw [I.ok.glob]; exact I.mod.glob.keeps I.bk) hm h) hd
theorem ld_blt {E : Value → Shared → Prop} {pins : List (Addr × Obj)} {s : Shared} {σ : St} {H : Hp} {x : Str} {u : Value} {pos : Pos} {Q : Value → Shared → Prop} (I : Inv X pins σ H s) (hg : Gl X x) (hm : X.mg x = none) (hv : bootBuiltins x = some u) (h : Q u s)
    (hn : x ≠ "__name__" := by decide) (hd : (x == ("__debug__" : Str)) = false := by decide) : wpAny (model X.prog X.w) X.A (eval (.Name x pos) X.env) Q E s := by
  obtain ⟨mb, h1, h2⟩ := I.mod.blt
  exact Calls.Name_function_global I.ok.kind hg (Calls.loadGlobal_builtin (by rw [I.ok.glob]; exact I.mod.glob.keeps I.bk) hm (by rw [I.ok.blt]; exact h1.keeps I.bk) ((h2 x hn).trans hv) h) hd
theorem pe_bltn {x : Str} {v : V} {u : Value} {pos : Pos} (hg : Gl X x) (hm : X.mg x = none) (hv : bootBuiltins x = some u) (r : RelV v u) (hn : x ≠ "__name__" := by decide) (hd : (x == ("__debug__" : Str)) = false := by decide) : PE X (.Name x pos) (tC v) :=
  fun _ _ _ H _ I h => ld_blt I hg hm hv ⟨v, H, I, r, h⟩ hn hd

/-! ### arithmetic -/
/-- two ints -/
def t2I (ta tb : TE) (k : Int → Int → Hp → Prop) : St → Hp → Prop := fun σ H => ta σ H fun x H1 => tb σ H1 fun y H2 => ∃ i j, x = .int i ∧ y = .int j ∧ k i j H2
def tAdd (ta tb : TE) : TE := fun σ H Q => t2I ta tb (fun i j H2 => Q (.int (i + j)) H2) σ H
def tSub (ta tb : TE) : TE := fun σ H Q => t2I ta tb (fun i j H2 => Q (.int (i - j)) H2) σ H
/-- the left factor below 2^64 -/
def tMul (ta tb : TE) : TE := fun σ H Q => t2I ta tb (fun i j H2 => (-(2 ^ 64) < i ∧ i < 2 ^ 64) ∧ Q (.int (i * j)) H2) σ H
variable {a b : Expr} {ta tb : TE} {pos : Pos}
/-! ### comparisons -/
def PC (X : Cx) (op : CmpOp) (a b : Expr) (t : TE) : Prop :=
  ∀ (pins : List (Addr × Obj)) (s : Shared) (σ : St) (H : Hp) (Q : VK), Inv X pins σ H s → t σ H Q →
    wpAny (model X.prog X.w) X.A (eval a X.env) (fun v s₁ => wpAny (model X.prog X.w) X.A (eval b X.env) (fun u s₂ => wpAny (model X.prog X.w) X.A (compareOp op v u) (EP X pins σ Q) X.xe s₂) X.xe s₁) X.xe s
def tCmp (p : Int → Int → Bool) (ta tb : TE) : TE := fun σ H Q => t2I ta tb (fun i j H2 => Q (.bl (p i j)) H2) σ H
abbrev tLt : TE → TE → TE := tCmp fun i j => decide (i < j)
abbrev tLe : TE → TE → TE := tCmp fun i j => decide (i ≤ j)
abbrev tGt : TE → TE → TE := tCmp fun i j => decide (j < i)
abbrev tGe : TE → TE → TE := tCmp fun i j => decide (j ≤ i)
abbrev tEqI : TE → TE → TE := tCmp fun i j => decide (i = j)
abbrev tNeI : TE → TE → TE := tCmp fun i j => !decide (i = j)
/-- is None -/
def tIsN (ta : TE) : TE := fun σ H Q => ta σ H fun x H1 => Q (.bl (decide (x = .non))) H1
def tNotN (ta : TE) : TE := fun σ H Q => ta σ H fun x H1 => Q (.bl (!decide (x = .non))) H1
/-- a comparison as a value, as a test -/
def tB (t : TE) : TT := fun σ H Q => t σ H fun x H1 => ∃ c, x = .bl c ∧ Q c H1
/-- an expression whose value is a bool, as a test -/
theorem pt_val {e : Expr} {t : TE} (h : PE X e t) (he : ∀ whole, isTrue e X.env whole = (do let v ← whole; standAt e.pos; holding [v] (truthy v)) := by intro _; rfl) : PT X e (tB t) := by
  intro pins s σ H Q I hw
  refine isTrue_plain (thn (h pins s σ H _ I hw) fun v s1 ⟨x, H1, I1, r1, q1⟩ => ?_) (he _)
  obtain ⟨d, rfl, q⟩ := q1
  cases r1
  exact wpAny_truthy_bool ⟨H1, I1, q⟩

/-! ### and, or, not -/
variable {tA tB' : TT} {rest : List Expr}
def tAnd (t u : TT) : TT := fun σ H Q => t σ H fun c H1 => if c = true then u σ H1 Q else Q false H1
def tOr (t u : TT) : TT := fun σ H Q => t σ H fun c H1 => if c = true then Q true H1 else u σ H1 Q
def tNot (t : TT) : TT := fun σ H Q => t σ H fun c H1 => Q (!c) H1
theorem pw_and1 (ha : PT X a tA) : PW X (.BoolOp .And [a] pos) tA := by
  intro wh pins s σ H Q I h
  refine isTrue_and (thn (ha pins s σ H Q I h) fun c s1 e => ?_)
  cases c with
  | true => exact isTrue_and_nil e
  | false => exact e
theorem pw_or1 (ha : PT X a tA) : PW X (.BoolOp .Or [a] pos) tA := by
  intro wh pins s σ H Q I h
  refine isTrue_or (thn (ha pins s σ H Q I h) fun c s1 e => ?_)
  cases c with
  | false => exact isTrue_or_nil e
  | true => exact e
theorem pw_and (ha : PT X a tA) (hb : PW X (.BoolOp .And (b :: rest) pos) tB') : PW X (.BoolOp .And (a :: b :: rest) pos) (tAnd tA tB') := by
  intro wh pins s σ H Q I h
  refine isTrue_and (thn (ha pins s σ H _ I h) fun c s1 ⟨H1, I1, q1⟩ => ?_)
  cases c with
  | true => exact hb wh pins s1 σ H1 Q I1 q1
  | false => exact ⟨H1, I1, q1⟩
theorem pw_or (ha : PT X a tA) (hb : PW X (.BoolOp .Or (b :: rest) pos) tB') : PW X (.BoolOp .Or (a :: b :: rest) pos) (tOr tA tB') := by
  intro wh pins s σ H Q I h
  refine isTrue_or (thn (ha pins s σ H _ I h) fun c s1 ⟨H1, I1, q1⟩ => ?_)
  cases c with
  | true => exact ⟨H1, I1, q1⟩
  | false => exact hb wh pins s1 σ H1 Q I1 q1
theorem pt_not (ha : PT X a tA) : PT X (.UnaryOp .Not a pos) (tNot tA) := by
  intro pins s σ H Q I h
  exact isTrue_not (ha pins s σ H (fun c H1 => Q (!c) H1) I h)
/-- .. as values (bools) -/
def tAndV (ta tb : TE) : TE := fun σ H Q => ta σ H fun x H1 => ∃ c, x = .bl c ∧ if c = true then tb σ H1 Q else Q (.bl false) H1
def tOrV (ta tb : TE) : TE := fun σ H Q => ta σ H fun x H1 => ∃ c, x = .bl c ∧ if c = true then Q (.bl true) H1 else tb σ H1 Q
def tNotV (ta : TE) : TE := fun σ H Q => ta σ H fun x H1 => ∃ c, x = .bl c ∧ Q (.bl (!c)) H1
theorem pe_one {op} {t : TE} (h : PE X a t) : PE X (.BoolOp op [a] pos) t := fun pins s σ H Q I hw => BoolOp_one (h pins s σ H Q I hw)
theorem pe_and (ha : PE X a ta) (hb : PE X (.BoolOp .And (b :: rest) pos) tb) : PE X (.BoolOp .And (a :: b :: rest) pos) (tAndV ta tb) := by
  intro pins s σ H Q I h
  refine BoolOp_and (thn (ha pins s σ H _ I h) fun v s1 ⟨x, H1, I1, r1, q1⟩ => ?_)
  obtain ⟨c, rfl, q1⟩ := q1
  cases r1
  refine wpAny_truthy_bool ?_
  cases c with
  | true => exact hb pins s1 σ H1 Q I1 q1
  | false => exact ⟨.bl false, H1, I1, rfl, q1⟩
/-- a if t else b -/
def tIf (t : TT) (ta tb : TE) : TE := fun σ H Q => t σ H fun c H1 => if c = true then ta σ H1 Q else tb σ H1 Q
theorem pe_ifExp {c : Expr} (hc : PT X c tA) (ha : PE X a ta) (hb : PE X b tb) : PE X (.IfExp c a b pos) (tIf tA ta tb) := by
  intro pins s σ H Q I h
  refine wpAny_IfExp (thn (hc pins s σ H _ I h) fun d s1 ⟨H1, I1, q1⟩ => ?_)
  cases d with
  | true => exact ha pins s1 σ H1 Q I1 q1
  | false => exact hb pins s1 σ H1 Q I1 q1
end
end L2

namespace L2
open PySem PySem.Spec PyProof.Rows

/-! ### a list, a tuple that is read: tracked, frozen, or an object of the module -/
def SqL (K : PySem.W.Frag) (H : Hp) (a : Addr) (xs : List V) : Prop :=
  Rd H a (.lst xs) ∨
    ∃ (o : Obj) (its : Array Value) (n : Nat), K.lookup a = some o ∧ o.cls = .type "list" ∧ o.dict = none ∧ o.data = .seq its n ∧ its.size ≤ sizeLine ∧ Vals xs its.toList
def SqT (K : PySem.W.Frag) (H : Hp) (a : Addr) (xs : List V) : Prop :=
  Rd H a (.tup xs) ∨
    ∃ (o : Obj) (its : Array Value) (n : Nat), K.lookup a = some o ∧ o.cls = .type "tuple" ∧ o.data = .seq its n ∧ its.size ≤ sizeLine ∧ Vals xs its.toList
def absV : Value → Option V
  | .none => some .non
  | .bool b => some (.bl b)
  | .int i _ => some (.int i)
  | .str x _ => some (.str x)
  | .bytes b _ => some (.byt b)
  | .float b _ => some (.flt b)
  | .ref a => some (.ref a)
  | .type n => some (.ty n)
  | _ => none
theorem RelV.abs {x : V} {u : Value} (r : RelV x u) : absV u = some x := by
  cases x with
  | non => cases r; rfl
  | bl _ => cases r; rfl
  | int _ => obtain ⟨t, rfl⟩ := r; rfl
  | str _ => obtain ⟨t, rfl⟩ := r; rfl
  | byt _ => obtain ⟨t, rfl⟩ := r; rfl
  | flt _ => obtain ⟨t, rfl⟩ := r; rfl
  | ref _ => cases r; rfl
  | ty _ => cases r; rfl
theorem RelV.inj {x y : V} {u : Value} (r : RelV x u) (q : RelV y u) : x = y := Option.some.inj (r.abs.symm.trans q.abs)
theorem Vals.inj : ∀ {xs ys : List V} {us : List Value}, Vals xs us → Vals ys us → xs = ys
  | _, _, _, .nil, .nil => rfl
  | _, _, _, .cons r t, .cons r' t' => by rw [r.inj r', Vals.inj t t']
section
variable {X : Cx} {pins : List (Addr × Obj)} {σ : St} {H : Hp} {s : Shared} {a : Addr} {xs ys : List V}
theorem SqL.of {K : PySem.W.Frag} (h : H a = some (.lst xs)) : SqL K H a xs := .inl (.inl h)
theorem SqT.of {K : PySem.W.Frag} (h : H a = some (.tup xs)) : SqT K H a xs := .inl (.inl h)
theorem Inv.list (I : Inv X pins σ H s) (h : SqL X.K H a xs) : ∃ its : List Value, Vals xs its ∧ PlainL s.heap a its.toArray ∧ xs.length ≤ sizeLine := by
  rcases h with h | ⟨o, its, n, hk, hc, hd, hs, hz, r⟩
  · obtain ⟨z, its, n, r, e⟩ := h.ok I.hok
    exact ⟨its, r, ⟨_, n, e, rfl, rfl, rfl⟩, z⟩
  · refine ⟨its.toList, r, ⟨o, n, I.kIn a o hk, hc, hd, by simpa using hs⟩, ?_⟩
    have e := r.length
    simp only [Array.length_toList] at e
    omega
theorem Inv.tuple (I : Inv X pins σ H s) (h : SqT X.K H a xs) : ∃ its : List Value, Vals xs its ∧ IsTup s.heap a its.toArray ∧ xs.length ≤ sizeLine := by
  rcases h with h | ⟨o, its, n, hk, hc, hs, hz, r⟩
  · obtain ⟨z, its, r, p⟩ := h.ok I.hok
    exact ⟨its, r, p, z⟩
  · refine ⟨its.toList, r, ⟨o, I.kIn a o hk, hc, n, by simpa using hs⟩, ?_⟩
    have e := r.length
    simp only [Array.length_toList] at e
    omega
theorem Inv.list_inj (I : Inv X pins σ H s) (h : SqL X.K H a xs) (h' : SqL X.K H a ys) : xs = ys := by
  obtain ⟨its, r, ⟨o, n, e, _, _, d⟩, _⟩ := I.list h
  obtain ⟨its', r', ⟨o', n', e', _, _, d'⟩, _⟩ := I.list h'
  rw [e] at e'; cases e'
  rw [d] at d'
  injection d' with d1 _
  have : its = its' := by simpa using congrArg Array.toList d1
  subst this
  exact r.inj r'
end

/-! ### another wish about exceptions -/
abbrev Cx.wish (X : Cx) (E : Value → Shared → Prop) : Cx := { X with xe := E }
/-- no exception leaves -/
abbrev Cx.nox (X : Cx) : Cx := X.wish fun _ _ => False
theorem Cx.Ok.wish {X : Cx} (ok : X.Ok) (E : Value → Shared → Prop) : (X.wish E).Ok :=
  ⟨ok.mod, ok.kind, ok.glob, ok.blt, ok.above, ok.inj, ok.has, ok.cab, ok.hd, ok.frames, ok.stk, ok.exf, ok.bs, ok.bsz, ok.noex, ok.exfs, ok.funs, ok.frf, ok.hcN⟩
theorem Cx.Ok.unwish {X : Cx} {E : Value → Shared → Prop} (ok : (X.wish E).Ok) : X.Ok :=
  ⟨ok.mod, ok.kind, ok.glob, ok.blt, ok.above, ok.inj, ok.has, ok.cab, ok.hd, ok.frames, ok.stk, ok.exf, ok.bs, ok.bsz, ok.noex, ok.exfs, ok.funs, ok.frf, ok.hcN⟩
section
variable {X : Cx} {pins : List (Addr × Obj)} {σ : St} {H : Hp} {s : Shared} {E : Value → Shared → Prop}
theorem Inv.wish (I : Inv X pins σ H s) (E : Value → Shared → Prop) : Inv (X.wish E) pins σ H s := ⟨I.ok.wish E, I.os, I.bare, I.base, I.loc, I.cell, I.free, I.freeC, I.hct, I.pin, I.hok, I.len⟩
theorem Inv.unwish (I : Inv (X.wish E) pins σ H s) : Inv X pins σ H s := ⟨I.ok.unwish, I.os, I.bare, I.base, I.loc, I.cell, I.free, I.freeC, I.hct, I.pin, I.hok, I.len⟩
theorem SP.unwish {D : Ends} {f : Flow} {s' : Shared} (h : SP (X.wish E) pins D f s') : SP X pins D f s' := by
  cases f with
  | next => obtain ⟨σ', H', I, q⟩ := h; exact ⟨σ', H', I.unwish, q⟩
  | brk => obtain ⟨σ', H', I, q⟩ := h; exact ⟨σ', H', I.unwish, q⟩
  | cont => obtain ⟨σ', H', I, q⟩ := h; exact ⟨σ', H', I.unwish, q⟩
  | ret u => obtain ⟨v, σ', H', I, r, q⟩ := h; exact ⟨v, σ', H', I.unwish, r, q⟩
theorem PE.nox {e : Expr} {t : TE} (h : PE X.nox e t) : PE X e t := fun pins s σ H Q I hw =>
  wpAny_mono (h pins s σ H Q (I.wish _) hw) (fun _ _ ⟨v, H', I', r, q⟩ => ⟨v, H', I'.unwish, r, q⟩) fun _ _ z => False.elim z
theorem PT.nox {e : Expr} {t : TT} (h : PT X.nox e t) : PT X e t := fun pins s σ H Q I hw =>
  wpAny_mono (h pins s σ H Q (I.wish _) hw) (fun _ _ ⟨H', I', q⟩ => ⟨H', I'.unwish, q⟩) fun _ _ z => False.elim z
theorem PSs.nox {st : List Stmt} {t : TS} (h : PSs X.nox st t) : PSs X st t := fun pins s σ H D I hw =>
  wpAny_mono (h pins s σ H D (I.wish _) hw) (fun _ _ q => q.unwish) fun _ _ z => False.elim z
end

/-! ### blocks and small statements -/
section
variable {X : Cx} {st : Stmt} {rest : List Stmt} {t u : TS} {e : Expr} {te : TE} {pos : Pos}
def tNext : TS := fun D σ H => D.nx σ H
def tSeq (t u : TS) : TS := fun D σ H => t { D with nx := u D } σ H
theorem pss_nil : PSs X [] tNext := fun _ _ σ H _ I h => wpAny_execs_nil ⟨σ, H, I, h⟩
theorem pss_cons (h1 : PS X st t) (h2 : PSs X rest u) : PSs X (st :: rest) (tSeq t u) := by
  intro pins s σ H D I h
  refine wpAny_execs_cons (thn (h1 pins s σ H { D with nx := u D } I h) fun f s1 q => ?_)
  cases f with
  | next =>
    obtain ⟨σ', H', I', q⟩ := q
    exact h2 pins s1 σ' H' D I' q
  | ret v => exact q
  | brk => exact q
  | cont => exact q
theorem pss_one (h1 : PS X st t) : PSs X [st] t := by
  intro pins s σ H D I h
  refine wpAny_execs_cons (thn (h1 pins s σ H D I h) fun f s1 q => ?_)
  cases f with
  | next => exact wpAny_execs_nil q
  | ret v => exact q
  | brk => exact q
  | cont => exact q
def tBreak : TS := fun D σ H => D.bk σ H
def tCont : TS := fun D σ H => D.ct σ H
/-- in a def's body nothing is shown -/
theorem Inv.quiet {pins : List (Addr × Obj)} {σ : St} {H : Hp} {s : Shared} (I : Inv X pins σ H s) : interactive X.env = false := by simp [interactive, I.ok.kind]
/-- an expression whose value is dropped -/
def tDrop (te : TE) : TS := fun D σ H => te σ H fun _ H1 => D.nx σ H1
theorem ps_expr (he : PE X e te) (hs : swapsWith e none pos.line X.env = pure false := by rfl) : PS X (.Expr e pos) (tDrop te) := by
  intro pins s σ H D I h
  exact wpAny_Expr_any (thn (he pins s σ H _ I h) fun v s1 ⟨x, H1, I1, r1, q1⟩ => ⟨σ, H1, I1, q1⟩) I.quiet hs
def tRet (te : TE) : TS := fun D σ H => te σ H D.rt
theorem ps_ret (he : PE X e te) : PS X (.Return (some e) pos) (tRet te) := by
  intro pins s σ H D I h
  exact wpAny_Return_some (thn (he pins s σ H _ I h) fun v s1 ⟨x, H1, I1, r1, q1⟩ => ⟨x, σ, H1, I1, r1, q1⟩)
def tRetN : TS := fun D _ H => D.rt .non H
def tIfS (c : TT) (t u : TS) : TS := fun D σ H => c σ H fun b H1 => if b = true then t D σ H1 else u D σ H1
theorem ps_if {c : Expr} {a b : List Stmt} {tc : TT} (hc : PT X c tc) (ha : PSs X a t) (hb : PSs X b u) : PS X (.If c a b pos) (tIfS tc t u) := by
  intro pins s σ H D I h
  refine wpAny_If (thn (hc pins s σ H _ I h) fun d s1 ⟨H1, I1, q1⟩ => ?_)
  cases d with
  | true => exact ha pins s1 σ H1 D I1 q1
  | false => exact hb pins s1 σ H1 D I1 q1
/-- code that the proof never comes to -/
def tNever : TS := fun _ _ _ => False
end

/-! ### targets -/
abbrev TG := V → St → Hp → (St → Hp → Prop) → Prop
abbrev TGs := List V → St → Hp → (St → Hp → Prop) → Prop
def PG (X : Cx) (target : Expr) (t : TG) : Prop :=
  ∀ (pins : List (Addr × Obj)) (s : Shared) (σ : St) (H : Hp) (v : V) (u : Value) (Q : St → Hp → Prop), Inv X pins σ H s → RelV v u → t v σ H Q →
    wpAny (model X.prog X.w) X.A (assign target X.env u) (fun _ s' => ∃ σ' H', Inv X pins σ' H' s' ∧ Q σ' H') X.xe s
/-- several targets, one after another -/
def PGs (X : Cx) (ts : List Expr) (t : TGs) : Prop :=
  ∀ (pins : List (Addr × Obj)) (s : Shared) (σ : St) (H : Hp) (vs : List V) (us : List Value) (Q : St → Hp → Prop), Inv X pins σ H s → Vals vs us → t vs σ H Q →
    wpAny (model X.prog X.w) X.A (assignInOrder ((assignEach ts X.env).map (·.2)) us) (fun _ s' => ∃ σ' H', Inv X pins σ' H' s' ∧ Q σ' H') X.xe s
/-- o[i] = v, by values -/
abbrev TSet := V → V → V → Hp → (Hp → Prop) → Prop
def PSet (X : Cx) (t : TSet) : Prop :=
  ∀ (pins : List (Addr × Obj)) (s : Shared) (σ : St) (H : Hp) (o i v : V) (ov iv u : Value) (Q : Hp → Prop), Inv X pins σ H s → RelV o ov → RelV i iv → RelV v u → t o i v H Q →
    wpAny (model X.prog X.w) X.A (setItem ov iv u) (fun _ s' => ∃ H', Inv X pins σ H' s' ∧ Q H') X.xe s
/-- a op= b, by values -/
abbrev TIp := V → V → Hp → VK → Prop
def PIp (X : Cx) (op : Operator) (t : TIp) : Prop :=
  ∀ (pins : List (Addr × Obj)) (s : Shared) (σ : St) (H : Hp) (x y : V) (v u : Value) (Q : VK), Inv X pins σ H s → RelV x v → RelV y u → t x y H Q →
    wpAny (model X.prog X.w) X.A (inplaceOp op v u) (EP X pins σ Q) X.xe s
section
variable {X : Cx} {pos : Pos}
def gName (i : Nat) : TG := fun v σ H Q => Q (σ.set i (some v)) H
theorem pg_name {i : Nat} {x : Str} (hN : X.N.Nodup) (hi : X.N[i]? = some x) (hx : Loc X.env.scope x) (hf : X.fn x = true ∨ X.env.scope.names.lookup x = some .local := by first | exact .inl rfl | exact .inr rfl | assumption) : PG X (.Name x pos) (gName i) := by
  intro pins s σ H v u Q I r h
  exact wpAny_assign_Name (store_ok I hN hi hx r (fun s' I' => ⟨_, H, I', h⟩) hf)
def gNil : TGs := fun vs σ H Q => vs = [] ∧ Q σ H
def gCons (t : TG) (u : TGs) : TGs := fun vs σ H Q => ∃ v r, vs = v :: r ∧ t v σ H fun σ' H' => u r σ' H' Q
/-- (a, b, ..) = a tuple of that length -/
def gTup (K : PySem.W.Frag) (n : Nat) (t : TGs) : TG := fun v σ H Q => ∃ a xs, v = .ref a ∧ SqT K H a xs ∧ xs.length = n ∧ t xs σ H Q
/-- o[i] = .. -/
def gSub (to ti : TE) (t : TSet) : TG := fun v σ H Q => to σ H fun o H1 => ti σ H1 fun i H2 => t o i v H2 fun H3 => Q σ H3
theorem pg_sub {o i : Expr} {to ti : TE} {t : TSet} (ho : PE X o to) (hi : PE X i ti) (hs : PSet X t)
    (ha : ∀ v, assign (.Subscript o i pos) X.env v = (do
      let ov ← holding [v] (eval o X.env)
      let iv ← holding [v, ov] (eval i X.env)
      standAt pos
      holding [v, ov, iv] (setItem ov iv v)
      release [v, ov, iv] []) := by intro _; rfl) : PG X (.Subscript o i pos) (gSub to ti t) := by
  intro pins s σ H v u Q I r h
  rw [ha]
  refine wpAny_bind (wpAny_holding (thn (ho pins s σ H _ I h) fun ov s1 ⟨x, H1, I1, r1, q1⟩ => ?_))
  refine wpAny_bind (wpAny_holding (thn (hi pins s1 σ H1 _ I1 q1) fun iv s2 ⟨y, H2, I2, r2, q2⟩ => ?_))
  refine wpAny_bind (wpAny_standAt (wpAny_bind (wpAny_holding (thn (hs pins s2 σ H2 x y v ov iv u _ I2 r1 r2 r q2) fun _ s3 ⟨H3, I3, q3⟩ => ?_))))
  exact wpAny_release ⟨σ, H3, I3, q3⟩
/-- target = value -/
def tAsg (te : TE) (g : TG) : TS := fun D σ H => te σ H fun x H1 => g x σ H1 D.nx
theorem ps_asg {tg e : Expr} {te : TE} {g : TG} (he : PE X e te) (hg : PG X tg g) (hs : swapsWithSole [tg] e pos.line X.env = pure false := by rfl) (hw : swappedStores [tg] e X.env = pure none := by rfl)
    (h1 : (assignEach [tg] X.env).map (·.2) = [assign tg X.env] := by rfl) : PS X (.Assign [tg] e pos) (tAsg te g) := by
  intro pins s σ H D I h
  refine wpAny_Assign_stores (thn (he pins s σ H _ I h) fun v s1 ⟨x, H1, I1, r1, q1⟩ => ?_) hs hw
  rw [h1]
  exact thn (hg pins s1 σ H1 x v _ I1 r1 q1) fun _ s2 q => q
/-- name = value -/
theorem ps_set {i : Nat} {x : Str} {e : Expr} {te : TE} {pos' : Pos} (hN : X.N.Nodup) (hi : X.N[i]? = some x) (hx : Loc X.env.scope x) (he : PE X e te) (hs : swapsWith e (some (.Name x pos')) pos.line X.env = pure false := by rfl) (hf : X.fn x = true ∨ X.env.scope.names.lookup x = some .local := by first | exact .inl rfl | exact .inr rfl | assumption) :
    PS X (.Assign [.Name x pos'] e pos) (tAsg te (gName i)) := by
  intro pins s σ H D I h
  refine wpAny_Assign_Name (thn (he pins s σ H _ I h) fun v s1 ⟨y, H1, I1, r1, q1⟩ => ?_) hs
  exact store_ok I1 hN hi hx r1 (fun s2 I2 => ⟨_, H1, I2, q1⟩) hf
/-- a, b = x, y with plain local names: stored from the right; the pair itself is not tracked (the opening rows as in PyProof/Rows/TupAssign.lean:23) -/
def tPar (i j : Nat) (ta : TA) : TS := fun D σ H => ta σ H fun vs H1 => ∃ v w, vs = [v, w] ∧ D.nx ((σ.set i (some v)).set j (some w)) H1
theorem ps_par {i j : Nat} {x y : Str} {a b : Expr} {ta : TA} {px py pt : Pos} {kt k2 pt2} (hc : X.calm = true) (hN : X.N.Nodup) (hi : X.N[i]? = some x) (hj : X.N[j]? = some y) (hij : i ≠ j)
    (hx : X.env.scope.names.lookup x = some .local) (hy : X.env.scope.names.lookup y = some .local) (ha : PA X [a, b] ta)
    (hw : swappedStores [.Tuple [.Name x px, .Name y py] kt pt] (.Tuple [a, b] k2 pt2) X.env = pure (some [x, y]))
    (hs : swapsWithSole [.Tuple [.Name x px, .Name y py] kt pt] (.Tuple [a, b] k2 pt2) pos.line X.env = pure false := by rfl) :
    PS X (.Assign [.Tuple [.Name x px, .Name y py] kt pt] (.Tuple [a, b] k2 pt2) pos) (tPar i j ta) := by
  intro pins s σ H D I h
  rw [exec_Assign_arm]
  refine wpAny_bind (wpAny_standAt ?_)
  rw [hs]
  refine wpAny_bind (wpAny_pure ?_)
  rw [if_neg (by decide)]
  refine wpAny_bind (Tuple_ (thn (ha _ pins s σ H _ I h) fun us s1 ⟨vs, H1, I1, r1, q1⟩ => ?_))
  obtain ⟨v, w, e1, q1⟩ := q1
  subst e1
  obtain ⟨u1, u2, rfl, rv, rw'⟩ : ∃ u1 u2, us = [u1, u2] ∧ RelV v u1 ∧ RelV w u2 := by
    cases r1 with
    | cons p q =>
      cases q with
      | cons p' q' =>
        cases q'
        exact ⟨_, _, rfl, p, p'⟩
  refine wpAny_newObj_type ?_ (by show 2 ≤ sizeLine; decide)
  have I2 : Inv X pins σ H1 { s1 with heap := s1.heap.push { cls := .type "tuple", data := .seq [u1, u2].toArray } } := I1.kept (t' := s1.toks) fun b o e => Heap.get?_push_of_some _ e
  rw [hw]
  refine wpAny_bind (wpAny_pure ?_)
  show wpAny (model X.prog X.w) X.A (do rule "assign.swapped-stores"; let items ← unpackItems (.ref s1.heap.objs.size) 2 none; assignInOrder [fun v => bindName X.env y v, fun v => bindName X.env x v] items.reverse; pure Flow.next) _ _ _
  refine wpAny_bind (wpAny_rule (wpAny_bind (unpackItems_tuple (items := #[u1, u2]) (I.ok.hd hc) (IsTup.new s1.heap _) fun h' hx' => ?_)))
  have I3 := I2.kept (h' := h') (t' := s1.toks) fun b o e => hx' b o (Nat.ne_of_lt (Heap.lt_size e)) e
  show wpAny _ _ (assignInOrder [fun v => bindName X.env y v, fun v => bindName X.env x v] [u2, u1] >>= fun _ => pure Flow.next) _ _ _
  refine wpAny_bind (assignInOrder_cons (wpAny_bindName (store_ok I3 hN hj (.inl hy) rw' (fun s2 I4 => ?_) (.inr hy))))
  refine assignInOrder_cons (wpAny_bindName (store_ok I4 hN hi (.inl hx) rv (fun s3 I5 => assignInOrder_nil (wpAny_pure ?_)) (.inr hx)))
  rw [List.set_comm _ _ (Ne.symm hij)] at I5
  exact ⟨_, H1, I5, q1⟩
/-- name op= e -/
def tAug (i : Nat) (te : TE) (ti : TIp) : TS := fun D σ H => ∃ x, σ[i]? = some (some x) ∧ te σ H fun y H1 => ti x y H1 fun z H2 => D.nx (σ.set i (some z)) H2
/-- o[i] op= e -/
def tAugS (to ti te : TE) (tget : V → V → Hp → VK → Prop) (tip : TIp) (tset : TSet) : TS := fun D σ H => to σ H fun o H1 => ti σ H1 fun i H2 => tget o i H2 fun x H3 => te σ H3 fun y H4 => tip x y H4 fun z H5 => tset o i z H5 fun H6 => D.nx σ H6
/-- o[i], by values -/
def PGet (X : Cx) (t : V → V → Hp → VK → Prop) : Prop :=
  ∀ (pins : List (Addr × Obj)) (s : Shared) (σ : St) (H : Hp) (o i : V) (ov iv : Value) (Q : VK), Inv X pins σ H s → RelV o ov → RelV i iv → t o i H Q →
    wpAny (model X.prog X.w) X.A (getItem ov iv) (EP X pins σ Q) X.xe s
/-- ints -/
def ipI (f : Int → Int → Int) : TIp := fun x y H Q => ∃ i j, x = .int i ∧ y = .int j ∧ Q (.int (f i j)) H
end

/-! ### while -/
section
variable {X : Cx} {pos : Pos}
/-- the invariant W with its measure -/
def tWhile (c : TT) (tb : TS) : TS := fun D σ H => ∃ W : Nat → St → Hp → Prop, (∃ m, W m σ H) ∧ ∀ m σ H, W m σ H →
  c σ H fun b H1 => if b = true then ∃ N : St → Hp → Prop, (∀ σ' H', N σ' H' → ∃ m', m' < m ∧ W m' σ' H') ∧ tb { D with nx := N, ct := N, bk := D.nx } σ H1 else D.nx σ H1
theorem ps_while {c : Expr} {body : List Stmt} {tc : TT} {tb : TS} (hp : PassesOwn (model X.prog X.w) X.A X.env X.xe) (hc : PT X c tc) (hb : PSs X body tb) : PS X (.While c body [] pos) (tWhile tc tb) := by
  intro pins s σ H D I h
  obtain ⟨W, ⟨m0, w0⟩, turn⟩ := h
  refine wpAny_While (codeAny_whileLoop (fun n s' => ∃ σ' H', Inv X pins σ' H' s' ∧ W n σ' H') ?_ m0 ⟨σ, H, I, w0⟩)
  rintro n s1 ⟨σ1, H1, I1, w1⟩
  refine wpAny_passesOwn hp (thn (hc pins s1 σ1 H1 _ I1 (turn n σ1 H1 w1)) fun b s2 ⟨H2, I2, q2⟩ => ?_)
  cases b with
  | true =>
    obtain ⟨N, hN, q2⟩ := q2
    rw [if_pos rfl]
    refine wpAny_passesOwn hp (thn (hb pins s2 σ1 H2 _ I2 q2) fun f s3 q3 => ?_)
    cases f with
    | next =>
      obtain ⟨σ3, H3, I3, n3⟩ := q3
      obtain ⟨m', hm, w3⟩ := hN σ3 H3 n3
      exact ⟨m', hm, σ3, H3, I3, w3⟩
    | cont =>
      obtain ⟨σ3, H3, I3, n3⟩ := q3
      obtain ⟨m', hm, w3⟩ := hN σ3 H3 n3
      exact ⟨m', hm, σ3, H3, I3, w3⟩
    | brk => exact q3
    | ret v => exact q3
  | false =>
    rw [if_neg Bool.false_ne_true]
    exact wpAny_execs_nil ⟨σ1, H2, I2, q2⟩
end

/-! ### what a loop or a comprehension walks -/
/-- at turn i: it yields x (the heap may grow), or it stops -/
structure It where
  go : Nat → Hp → Prop
  yld : Nat → Hp → V → Hp → Prop
  stop : Nat → Hp → Prop
/-- the iterator's own objects may turn: they are not the frame's, not pinned, younger than the entry (or a comprehension's own) -/
def FpOk (X : Cx) (pins : List (Addr × Obj)) (H : Hp) (b : Addr) : Prop :=
  H b = none ∧ b ≠ X.env.locals ∧ b ∉ X.fs ∧ (b ∈ X.ex ∨ X.s_0.heap.get? b = none) ∧ (∀ x c, X.env.cells.lookup x = some c → c ≠ b) ∧ ∀ p ∈ X.pn ++ pins, p.1 ≠ b
theorem Inv.fpOk {X : Cx} {pins : List (Addr × Obj)} {σ : St} {H H' : Hp} {s : Shared} {b : Addr} (I : Inv X pins σ H s) (hb : s.heap.objs.size ≤ b) (hn : H' b = none) : FpOk X pins H' b := by
  refine ⟨hn, Nat.ne_of_gt (Nat.lt_of_lt_of_le I.lt hb), I.nofs hb, .inr (Heap.get?_none_of_le (Nat.le_trans I.sz hb)), fun x c e z => ?_, fun p hp z => ?_⟩
  · obtain ⟨v, q⟩ := I.cell x c e
    exact absurd (Nat.lt_of_lt_of_le q.lt (by rw [z]; exact hb)) (Nat.lt_irrefl _)
  · exact absurd (Nat.lt_of_lt_of_le (Heap.lt_size (I.pin p hp).1) (by rw [z]; exact hb)) (Nat.lt_irrefl _)
structure Turn (P : Program) (w : World) (K : PySem.W.Frag) (tg : Expr) (J : It) (fp : List Addr) (it : Addr) (tn : Nat → Heap → Prop) : Prop where
  mem : it ∈ fp
  obj : ∀ i h, tn i h → ∀ b ∈ fp, ∃ o, h.get? b = some o ∧ ∀ v, o.data ≠ .cell v
  keep : ∀ i h h', tn i h → (∀ b ∈ fp, ∀ o, h.get? b = some o → h'.get? b = some o) → tn i h'
  item : ∀ (X : Cx), X.prog = P → X.w = w → X.K = K → X.calm = true → ∀ (i : Nat) (pins : List (Addr × Obj)) (s : Shared) (σ : St) (H : Hp) (E : Value → Shared → Prop), Inv X pins σ H s → (∀ b ∈ fp, FpOk X pins H b) → tn i s.heap → J.go i H →
    wpAny (model P w) X.A (pyNext (.ref it)) (fun r s1 => ∃ u, r = some u ∧
      wpAny (model P w) X.A (letOwnedTupleGo tg (.ref it) u) (fun _ s2 => ∃ x H', Inv X pins σ H' s2 ∧ RelV x u ∧ J.yld i H x H' ∧ tn (i + 1) s2.heap ∧ ∀ b ∈ fp, H' b = none) E s1) E s
  done : ∀ (X : Cx), X.prog = P → X.w = w → X.K = K → X.calm = true → ∀ (i : Nat) (pins : List (Addr × Obj)) (s : Shared) (σ : St) (H : Hp) (E : Value → Shared → Prop), Inv X pins σ H s → (∀ b ∈ fp, FpOk X pins H b) → tn i s.heap → J.stop i H →
    wpAny (model P w) X.A (pyNext (.ref it)) (fun r s1 => r = none ∧ Inv X pins σ H s1) E s
  self : ∀ (A : Around) (i : Nat) (s : Shared) (Q : Value → Shared → Prop) (E : Value → Shared → Prop), tn i s.heap → Q (.ref it) s → wpAny (model P w) A (pyIter (.ref it)) Q E s
abbrev TI := St → Hp → (It → Hp → Prop) → Prop
/-- an iterator has come -/
def PIE (X : Cx) (pins : List (Addr × Obj)) (σ : St) (tg : Expr) (R : It → Hp → Prop) (itv : Value) (s2 : Shared) : Prop :=
  ∃ (it : Addr) (fp : List Addr) (tn : Nat → Heap → Prop) (J : It) (H' : Hp), itv = .ref it ∧ Inv X pins σ H' s2 ∧ Turn X.prog X.w X.K tg J fp it tn ∧ tn 0 s2.heap ∧ (∀ b ∈ fp, FpOk X pins H' b) ∧ R J H'
def PI (X : Cx) (tg iter : Expr) (wi : TI) : Prop :=
  ∀ (pins : List (Addr × Obj)) (s : Shared) (σ : St) (H : Hp) (R : It → Hp → Prop), Inv X pins σ H s → wi σ H R →
    wpAny (model X.prog X.w) X.A (eval iter X.env) (fun v s1 => wpAny (model X.prog X.w) X.A (pyIter v) (PIE X pins σ tg R) X.xe s1) X.xe s

/-- the step ahead of the store is nothing for an iterator that keeps no tuple -/
theorem go_of {M : Model} {A : Around} {E : Value → Shared → Prop} {s : Shared} {tg : Expr} {it : Addr} {u : Value} {o : Obj} {n : String} {vs : Array Value} {Q : Unit → Shared → Prop} (ho : s.heap.get? it = some o) (hc : o.cls = .type n) (hd : o.data = .fields vs)
    (hn : ["enumerate", "zip", "dict_itemiterator", "dict_reverseitemiterator", "odict_iterator", "itertools.zip_longest", "itertools.pairwise"].contains n = false) (hQ : Q () s) : wpAny M A (letOwnedTupleGo tg (.ref it) u) Q E s := by
  unfold letOwnedTupleGo
  cases tg <;> first
    | exact wpAny_pure hQ
    | (cases u <;> first
        | exact wpAny_pure hQ
        | (refine wpAny_bind (wpAny_load ho ?_)
           rw [hc, hd]
           show wpAny M A (if (["enumerate", "zip", "dict_itemiterator", "dict_reverseitemiterator", "odict_iterator", "itertools.zip_longest", "itertools.pairwise"].contains n && vs[0]? == some (rawInt _)) = true then _ else _) Q E s
           rw [if_neg (by intro h; rw [hn, Bool.false_and] at h; cases h)]
           exact wpAny_pure hQ))

/-- the list at a, as it stands at each turn (a loop may append to it) -/
def Itl (K : PySem.W.Frag) (a : Addr) : It :=
  ⟨fun i H => ∃ xs x, SqL K H a xs ∧ xs[i]? = some x, fun i H x H' => H' = H ∧ ∀ xs, SqL K H a xs → xs[i]? = some x, fun i H => ∃ xs, SqL K H a xs ∧ xs.length ≤ i⟩
def Itt (K : PySem.W.Frag) (a : Addr) : It :=
  ⟨fun i H => ∃ xs x, SqT K H a xs ∧ xs[i]? = some x, fun i H x H' => H' = H ∧ ∀ xs, SqT K H a xs → xs[i]? = some x, fun i H => ∃ xs, SqT K H a xs ∧ xs.length ≤ i⟩
/-- lo, lo + 1, .. (n of them) -/
def Itr (lo : Int) (n : Nat) : It := ⟨fun i _ => i < n, fun i H x H' => H' = H ∧ x = .int (lo + i), fun i _ => n ≤ i⟩
theorem turn_list {P : Program} {w : World} {K : PySem.W.Frag} {tg : Expr} (a it : Addr) : Turn P w K tg (Itl K a) [it] it (fun i h => h.IsListIter it a i) where
  mem := by simp
  obj := fun i h st b hb => by
    have e : b = it := by simpa using hb
    subst e
    obtain ⟨o, e, c, d⟩ := st
    exact ⟨o, e, fun v z => by rw [d] at z; cases z⟩
  keep := fun i h h' st k => st.at fun o e => k it (by simp) o e
  item := by
    intro X hP hw hK hc i pins s σ H E I hf st hg
    subst hP hw hK
    obtain ⟨xs, x, hq, hx⟩ := hg
    obtain ⟨its, rv, p, hz⟩ := I.list hq
    obtain ⟨u, hu, ru⟩ := rv.get hx
    obtain ⟨f0, f1, f2, f3, f4, f5⟩ := hf it (by simp)
    refine wpAny_pyNext_list_item st p.isList (x := u) (by simpa using hu) fun h' st' sb => ?_
    have I1 : Inv X pins σ H { s with heap := h' } := I.turned (t' := s.toks) (fun b o hb e => (sb.2 b hb).trans e) f0 f1 f3 f4 f5
    obtain ⟨o, e, c, d⟩ := id st'
    exact ⟨u, rfl, go_of (s := { s with heap := h' }) e c d (by decide) ⟨x, H, I1, ru, ⟨rfl, fun ys hy => by rw [I.list_inj hy hq]; exact hx⟩, st', fun b hb => (hf b hb).1⟩⟩
  done := by
    intro X hP hw hK hc i pins s σ H E I hf st hg
    subst hP hw hK
    obtain ⟨xs, hq, hx⟩ := hg
    obtain ⟨its, rv, p, hz⟩ := I.list hq
    obtain ⟨f0, f1, f2, f3, f4, f5⟩ := hf it (by simp)
    have hl := rv.length
    exact wpAny_pyNext_list_end (I.ok.hd hc) st p.isList (by simp; omega) fun h' eb => ⟨rfl, I.turned (t' := s.toks) (fun b o hb e => eb b o hb e) f0 f1 f3 f4 f5⟩
  self := fun _ _ _ _ _ st h => wpAny_pyIter_listiter st h
theorem turn_range {P : Program} {w : World} {K : PySem.W.Frag} {tg : Expr} (it : Addr) (lo : Int) (n : Nat) : Turn P w K tg (Itr lo n) [it] it (fun i h => IsRangeIter h it (lo + (i : Nat) * 1) ((n : Int) - (i : Nat)) 1) where
  mem := by simp
  obj := fun i h st b hb => by
    have e : b = it := by simpa using hb
    subst e
    exact ⟨_, st, fun v z => by
      have z' : Data.fields _ = Data.cell v := z
      cases z'⟩
  keep := fun i h h' st k => k it (by simp) _ st
  item := by
    intro X hP hw hK hc i pins s σ H E I hf st hg
    subst hP hw hK
    obtain ⟨f0, f1, f2, f3, f4, f5⟩ := hf it (by simp)
    have W := Walks.range (prog := X.prog) (w := X.w) (I.ok.hd hc) it lo 1 n
    refine W.item i s _ _ hg st fun v h' tk hv st' kk => ?_
    obtain ⟨t, rfl⟩ := hv
    have I1 : Inv X pins σ H { s with heap := h', toks := tk } := I.turned (fun b o hb e => kk b o (by simpa using hb) e) f0 f1 f3 f4 f5
    refine ⟨_, rfl, go_of (s := { s with heap := h', toks := tk }) (n := "range_iterator") st' rfl rfl (by decide) ⟨.int (lo + i), H, I1, ⟨t, ?_⟩, ⟨rfl, rfl⟩, st', fun b hb => (hf b hb).1⟩⟩
    rw [Int.mul_one]
  done := by
    intro X hP hw hK hc i pins s σ H E I hf st hg
    subst hP hw hK
    obtain ⟨f0, f1, f2, f3, f4, f5⟩ := hf it (by simp)
    exact wpAny_pyNext_range_end (I.ok.hd hc) st (by have : n ≤ i := hg; omega) fun h' eb => ⟨rfl, I.turned (t' := s.toks) (fun b o hb e => eb b o hb e) f0 f1 f3 f4 f5⟩
  self := fun _ _ _ _ _ st h => wpAny_pyIter_rangeiter st h
end L2

namespace L2
open PySem PySem.Spec PyProof.Rows
section
variable {X : Cx} {tg : Expr}
def iList (K : PySem.W.Frag) (tl : TE) : TI := fun σ H R => tl σ H fun x H1 => ∃ a, x = .ref a ∧ (∃ xs, SqL K H1 a xs) ∧ R (Itl K a) H1
def iTup (K : PySem.W.Frag) (tl : TE) : TI := fun σ H R => tl σ H fun x H1 => ∃ a, x = .ref a ∧ (∃ xs, SqT K H1 a xs) ∧ R (Itt K a) H1
theorem pi_list {l : Expr} {tl : TE} (hl : PE X l tl) : PI X tg l (iList X.K tl) := by
  intro pins s σ H R I h
  refine thn (hl pins s σ H _ I h) fun v s1 ⟨x, H1, I1, r1, q1⟩ => ?_
  obtain ⟨a, e, ⟨xs, hq⟩, q⟩ := q1
  subst e
  cases r1
  obtain ⟨its, rv, p, hz⟩ := I1.list hq
  refine wpAny_pyIter_list p.isList ?_
  refine ⟨s1.heap.objs.size, [s1.heap.objs.size], _, _, H1, rfl, I1.kept (t' := s1.toks) fun b o e => Heap.get?_push_of_some _ e, turn_list a _, ⟨_, Heap.get?_push_size _ rfl, rfl, rfl⟩, fun b hb => ?_, q⟩
  have e : b = s1.heap.objs.size := by simpa using hb
  subst e
  exact I1.fpOk (Nat.le_refl _) (I1.hok.fresh (Nat.le_refl _))
/-- a range object just made, walked -/
theorem range_it {pins : List (Addr × Obj)} {σ : St} {H : Hp} {s : Shared} {R : It → Hp → Prop} {E : Value → Shared → Prop} {lo hi : Int} {t u v : Tok} {tk : Nat} (I : Inv X pins σ H s) (h1 : -(2 ^ 62) ≤ lo) (h2 : lo < 2 ^ 62) (h3 : -(2 ^ 62) ≤ hi) (h4 : hi < 2 ^ 62)
    (q : R (Itr lo (hi - lo).toNat) H) : wpAny (model X.prog X.w) X.A (pyIter (.ref s.heap.objs.size)) (PIE X pins σ tg R) E { s with heap := s.heap.push { cls := .type "range", data := .fields #[.int lo t, .int hi u, .int 1 v] }, toks := tk } := by
  refine wpAny_pyIter_range (IsRange.new ..) (small_one h1 h2 h3 h4) ?_
  have I1 : Inv X pins σ H { s with heap := s.heap.push { cls := .type "range", data := .fields #[.int lo t, .int hi u, .int 1 v] }, toks := tk } := I.kept fun b o e => Heap.get?_push_of_some _ e
  refine ⟨(s.heap.push { cls := .type "range", data := .fields #[.int lo t, .int hi u, .int 1 v] }).objs.size, [(s.heap.push { cls := .type "range", data := .fields #[.int lo t, .int hi u, .int 1 v] }).objs.size], _, _, H, rfl,
    I1.kept (t' := tk) fun b o e => Heap.get?_push_of_some _ e, turn_range _ lo (hi - lo).toNat, ?_, fun b hb => ?_, q⟩
  · have e1 : lo + ((0 : Nat) : Int) * 1 = lo := by simp
    have e2 : (((hi - lo).toNat : Nat) : Int) - ((0 : Nat) : Int) = Builtin.Range.rangeSize lo hi 1 := by rw [rangeSize_one]; split <;> omega
    show IsRangeIter _ _ (lo + ((0 : Nat) : Int) * 1) ((((hi - lo).toNat : Nat) : Int) - ((0 : Nat) : Int)) 1
    rw [e1, e2]
    exact Heap.get?_push_size _ rfl
  · have e : b = (s.heap.push { cls := .type "range", data := .fields #[.int lo t, .int hi u, .int 1 v] }).objs.size := by simpa using hb
    subst e
    exact I1.fpOk (Nat.le_refl _) (I1.hok.fresh (Nat.le_refl _))
def iRng1 (ta : TA) : TI := fun σ H R => ta σ H fun vs H1 => ∃ j : Int, vs = [.int j] ∧ -(2 ^ 62) ≤ j ∧ j < 2 ^ 62 ∧ R (Itr 0 j.toNat) H1
def iRng2 (ta : TA) : TI := fun σ H R => ta σ H fun vs H1 => ∃ i j : Int, vs = [.int i, .int j] ∧ (-(2 ^ 62) ≤ i ∧ i < 2 ^ 62 ∧ -(2 ^ 62) ≤ j ∧ j < 2 ^ 62) ∧ R (Itr i (j - i).toNat) H1
theorem pi_range1 {a : Expr} {ta : TA} {p pos : Pos} (hg : Gl X "range") (hm : X.mg "range" = none) (ha : PA X [a] ta) (hs : starEach [a] X.env = [(false, eval a X.env)] := by rfl) : PI X tg (.Call (.Name "range" p) [a] [] pos) (iRng1 ta) := by
  intro pins s σ H R I h
  refine Call_ (ld_blt I hg hm boot_range (PyProof.Rows.callWith_type1 (thn (ha pos pins s σ H _ I h) fun us s1 ⟨vs, H1, I1, r1, q1⟩ => ?_) hs rfl))
  obtain ⟨j, e, q1, q2, q⟩ := q1
  subst e
  cases r1 with
  | cons r rr =>
    cases rr
    obtain ⟨t, rfl⟩ := r
    exact call_range_1 (range_it I1 (by omega) (by omega) q1 q2 (by simpa using q))
/-! ### for -/
/-- W: the invariant by the turn and a measure; N: what the body is to reach -/
def tFor (wi : TI) (g : TG) (tb : TS) : TS := fun D σ H => wi σ H fun J H1 => ∃ W : Nat → Nat → St → Hp → Prop, (∃ m, W 0 m σ H1) ∧ ∀ i m σ H, W i m σ H →
  (J.stop i H ∧ D.nx σ H) ∨ (J.go i H ∧ ∃ N : St → Hp → Prop, (∀ σ' H', N σ' H' → ∃ m', m' < m ∧ W (i + 1) m' σ' H') ∧ ∀ x H', J.yld i H x H' → g x σ H' fun σ2 H2 => tb { D with nx := N, ct := N, bk := D.nx } σ2 H2)
/-- the records at fp as they stand -/
def pinsAt (fp : List Addr) (h : Heap) : List (Addr × Obj) := fp.filterMap fun b => (h.get? b).map fun o => (b, o)
theorem mem_pinsAt {fp : List Addr} {h : Heap} {b : Addr} {o : Obj} (hb : b ∈ fp) (e : h.get? b = some o) : (b, o) ∈ pinsAt fp h := List.mem_filterMap.mpr ⟨b, hb, by rw [e]; rfl⟩
theorem of_pinsAt {fp : List Addr} {h : Heap} {p : Addr × Obj} (hp : p ∈ pinsAt fp h) : p.1 ∈ fp ∧ h.get? p.1 = some p.2 := by
  obtain ⟨b, hb, e⟩ := List.mem_filterMap.mp hp
  cases q : h.get? b with
  | none => rw [q] at e; cases e
  | some o =>
    rw [q] at e
    have e' : (b, o) = p := Option.some.inj e
    subst e'
    exact ⟨hb, q⟩
theorem Inv.pinned {pins : List (Addr × Obj)} {σ : St} {H : Hp} {s : Shared} {fp : List Addr} (I : Inv X pins σ H s) (hf : ∀ b ∈ fp, FpOk X pins H b) (ho : ∀ b ∈ fp, ∃ o, s.heap.get? b = some o ∧ ∀ v, o.data ≠ .cell v) : Inv X (pins ++ pinsAt fp s.heap) σ H s :=
  I.pins_of fun p hp => (List.mem_append.mp hp).elim (fun z => I.pin p (List.mem_append_right _ z)) fun z => by
    obtain ⟨hb, e⟩ := of_pinsAt z
    obtain ⟨f0, f1, f2, _⟩ := hf p.1 hb
    obtain ⟨o, e', d⟩ := ho p.1 hb
    rw [e] at e'; cases e'
    exact ⟨e, f0, f1, f2, d⟩
theorem Inv.unpinned {pins pl : List (Addr × Obj)} {σ : St} {H : Hp} {s : Shared} (I : Inv X (pins ++ pl) σ H s) : Inv X pins σ H s := I.pins_of fun p hp => I.pin p (List.mem_append_right _ (List.mem_append_left _ hp))
theorem ps_for {iter : Expr} {body : List Stmt} {wi : TI} {g : TG} {tb : TS} {pos : Pos} (hp : PassesOwn (model X.prog X.w) X.A X.env X.xe) (hc : X.calm = true) (hi : PI X tg iter wi) (hg : PG X tg g) (hb : PSs X body tb)
    (hs : ∀ x, foldedSetIterable iter X.env x = pure x := by intro _; rfl) : PS X (.For tg iter body [] pos) (tFor wi g tb) := by
  intro pins s σ H D I h
  refine wpAny_For (thn (hi pins s σ H _ I h) fun v s1 h1 => thn h1 fun itv s2 h2 => ?_) hs
  obtain ⟨it, fp, tn, J, H2, e, I2, T, st2, f2, W, ⟨m0, w0⟩, turn⟩ := h2
  subst e
  -- what stays true of the iterator's objects through the loop
  have stat : ∀ {H' : Hp}, (∀ b ∈ fp, H' b = none) → ∀ b ∈ fp, FpOk X pins H' b := fun hn b hb => ⟨hn b hb, (f2 b hb).2⟩
  refine codeAny_forLoop_any (fun n s' => ∃ i σ' H', Inv X pins σ' H' s' ∧ tn i s'.heap ∧ (∀ b ∈ fp, H' b = none) ∧ W i n σ' H') ?_ m0 ⟨0, σ, H2, I2, st2, fun b hb => (f2 b hb).1, w0⟩
  rintro n s3 ⟨i, σ3, H3, I3, st3, fr3, w3⟩
  rcases turn i n σ3 H3 w3 with ⟨stop, qn⟩ | ⟨go, N, hN, step⟩
  · refine wpAny_passesOwn hp (thn (T.done X rfl rfl rfl hc i pins s3 σ3 H3 X.xe I3 (stat fr3) st3 stop) fun r s4 ⟨hr, I4⟩ => ?_)
    subst hr
    exact wpAny_execs_nil ⟨σ3, H3, I4, qn⟩
  · refine wpAny_passesOwn hp (thn (T.item X rfl rfl rfl hc i pins s3 σ3 H3 X.xe I3 (stat fr3) st3 go) fun r s4 ⟨u, hr, h4⟩ => ?_)
    subst hr
    refine wpAny_passesOwn hp (thn h4 fun _ s5 ⟨x, H5, I5, r5, y5, st5, fr5⟩ => ?_)
    have I5' := I5.pinned (stat fr5) (T.obj _ _ st5)
    refine wpAny_passesOwn hp (thn (hg _ s5 σ3 H5 x u _ I5' r5 (step x H5 y5)) fun _ s6 ⟨σ6, H6, I6, q6⟩ => ?_)
    refine wpAny_passesOwn hp (thn (hb _ s6 σ6 H6 _ I6 q6) fun f s7 q7 => ?_)
    have again : ∀ {σ7 : St} {H7 : Hp}, Inv X (pins ++ pinsAt fp s5.heap) σ7 H7 s7 → N σ7 H7 → ∃ m, m < n ∧ ∃ i σ' H', Inv X pins σ' H' s7 ∧ tn i s7.heap ∧ (∀ b ∈ fp, H' b = none) ∧ W i m σ' H' := fun {σ7 H7} I7 n7 => by
      obtain ⟨m', hm, w7⟩ := hN σ7 H7 n7
      refine ⟨m', hm, i + 1, σ7, H7, I7.unpinned, T.keep _ _ _ st5 fun b hb o e => (I7.pin (b, o) (List.mem_append_right _ (List.mem_append_right _ (mem_pinsAt hb e)))).1, fun b hb => ?_, w7⟩
      obtain ⟨o, e, d⟩ := T.obj _ _ st5 b hb
      exact (I7.pin (b, o) (List.mem_append_right _ (List.mem_append_right _ (mem_pinsAt hb e)))).2.1
    cases f with
    | next => obtain ⟨σ7, H7, I7, n7⟩ := q7; exact again I7 n7
    | cont => obtain ⟨σ7, H7, I7, n7⟩ := q7; exact again I7 n7
    | brk => obtain ⟨σ7, H7, I7, q7⟩ := q7; exact ⟨σ7, H7, I7.unpinned, q7⟩
    | ret v => obtain ⟨x7, σ7, H7, I7, r7, q7⟩ := q7; exact ⟨x7, σ7, H7, I7.unpinned, r7, q7⟩
end

/-! ### the forms one uses -/
/-- over a list that the body leaves as it is -/
theorem for_list {K : PySem.W.Frag} {a : Addr} {xs : List V} {g : TG} {tb : TS} {D : Ends} {σ : St} {H : Hp} (Pv : Nat → St → Hp → Prop) (h0 : Pv 0 σ H) (hl : ∀ i σ H, i ≤ xs.length → Pv i σ H → SqL K H a xs)
    (hs : ∀ i x σ H, xs[i]? = some x → Pv i σ H → g x σ H fun σ2 H2 => tb { D with nx := Pv (i + 1), ct := Pv (i + 1), bk := D.nx } σ2 H2) (hd : ∀ σ H, Pv xs.length σ H → D.nx σ H) :
    ∃ W : Nat → Nat → St → Hp → Prop, (∃ m, W 0 m σ H) ∧ ∀ i m σ H, W i m σ H →
      ((Itl K a).stop i H ∧ D.nx σ H) ∨ ((Itl K a).go i H ∧ ∃ N : St → Hp → Prop, (∀ σ' H', N σ' H' → ∃ m', m' < m ∧ W (i + 1) m' σ' H') ∧ ∀ x H', (Itl K a).yld i H x H' → g x σ H' fun σ2 H2 => tb { D with nx := N, ct := N, bk := D.nx } σ2 H2) := by
  refine ⟨fun i m σ H => m = xs.length - i ∧ i ≤ xs.length ∧ Pv i σ H, ⟨xs.length, by simp, Nat.zero_le _, h0⟩, ?_⟩
  rintro i m σ H ⟨rfl, hi, p⟩
  have q := hl i σ H hi p
  by_cases hlt : i < xs.length
  · refine .inr ⟨⟨xs, xs[i], q, by simp [hlt]⟩, Pv (i + 1), fun σ' H' p' => ⟨xs.length - (i + 1), by omega, rfl, hlt, p'⟩, fun x H' y => ?_⟩
    obtain ⟨e, y⟩ := y
    subst e
    exact hs i x σ _ (y xs q) p
  · have e : i = xs.length := by omega
    subst e
    exact .inl ⟨⟨xs, q, Nat.le_refl _⟩, hd σ H p⟩
theorem for_range {lo : Int} {n : Nat} {g : TG} {tb : TS} {D : Ends} {σ : St} {H : Hp} (Pv : Nat → St → Hp → Prop) (h0 : Pv 0 σ H)
    (hs : ∀ i σ H, i < n → Pv i σ H → g (.int (lo + i)) σ H fun σ2 H2 => tb { D with nx := Pv (i + 1), ct := Pv (i + 1), bk := D.nx } σ2 H2) (hd : ∀ σ H, Pv n σ H → D.nx σ H) :
    ∃ W : Nat → Nat → St → Hp → Prop, (∃ m, W 0 m σ H) ∧ ∀ i m σ H, W i m σ H →
      ((Itr lo n).stop i H ∧ D.nx σ H) ∨ ((Itr lo n).go i H ∧ ∃ N : St → Hp → Prop, (∀ σ' H', N σ' H' → ∃ m', m' < m ∧ W (i + 1) m' σ' H') ∧ ∀ x H', (Itr lo n).yld i H x H' → g x σ H' fun σ2 H2 => tb { D with nx := N, ct := N, bk := D.nx } σ2 H2) := by
  refine ⟨fun i m σ H => m = n - i ∧ i ≤ n ∧ Pv i σ H, ⟨n, by simp, Nat.zero_le _, h0⟩, ?_⟩
  rintro i m σ H ⟨rfl, hi, p⟩
  by_cases hlt : i < n
  · refine .inr ⟨hlt, Pv (i + 1), fun σ' H' p' => ⟨n - (i + 1), by omega, rfl, hlt, p'⟩, fun x H' y => ?_⟩
    obtain ⟨e, y⟩ := y
    subst e y
    exact hs i σ _ hlt p
  · have e : i = n := by omega
    subst e
    exact .inl ⟨Nat.le_refl _, hd σ H p⟩
end L2

namespace L2
open PySem PySem.Spec PyProof.Rows

abbrev R2 := V → V → Hp → VK → Prop
/-- a two-place operation on values: f is binaryOp op, inplaceOp op or compareOp op -/
def OpR (X : Cx) (f : Value → Value → Sem Value) (r : R2) : Prop :=
  ∀ (pins : List (Addr × Obj)) (s : Shared) (σ : St) (H : Hp) (x y : V) (v u : Value) (Q : VK), Inv X pins σ H s → RelV x v → RelV y u → r x y H Q →
    wpAny (model X.prog X.w) X.A (f v u) (EP X pins σ Q) X.xe s
/-- a one-place operation -/
def UnR (X : Cx) (f : Value → Sem Value) (r : V → Hp → VK → Prop) : Prop :=
  ∀ (pins : List (Addr × Obj)) (s : Shared) (σ : St) (H : Hp) (x : V) (v : Value) (Q : VK), Inv X pins σ H s → RelV x v → r x H Q →
    wpAny (model X.prog X.w) X.A (f v) (EP X pins σ Q) X.xe s
/-- a call of a value that is known (a builtin, a type) with values -/
def CallR (X : Cx) (f : Value) (r : List V → Hp → VK → Prop) : Prop :=
  ∀ (pins : List (Addr × Obj)) (s : Shared) (σ : St) (H : Hp) (xs : List V) (us : List Value) (Q : VK), Inv X pins σ H s → Vals xs us → r xs H Q →
    wpAny (model X.prog X.w) X.A (call f us) (EP X pins σ Q) X.xe s
/-- a value's truth -/
def TruR (X : Cx) (r : V → Hp → (Bool → Hp → Prop) → Prop) : Prop :=
  ∀ (pins : List (Addr × Obj)) (s : Shared) (σ : St) (H : Hp) (x : V) (v : Value) (Q : Bool → Hp → Prop), Inv X pins σ H s → RelV x v → r x H Q →
    wpAny (model X.prog X.w) X.A (truthy v) (TP X pins σ Q) X.xe s

def tOp (r : R2) (ta tb : TE) : TE := fun σ H Q => ta σ H fun x H1 => tb σ H1 fun y H2 => r x y H2 Q
def tUn (r : V → Hp → VK → Prop) (ta : TE) : TE := fun σ H Q => ta σ H fun x H1 => r x H1 Q
/-- ints in, under C, and a value out -/
def rI (C : Int → Int → Prop) (g : Int → Int → V) : R2 := fun x y H Q => ∃ i j, x = .int i ∧ y = .int j ∧ C i j ∧ Q (g i j) H
def rI0 (g : Int → Int → V) : R2 := fun x y H Q => ∃ i j, x = .int i ∧ y = .int j ∧ Q (g i j) H
def rU (g : Int → V) : V → Hp → VK → Prop := fun x H Q => ∃ i, x = .int i ∧ Q (g i) H

section
variable {X : Cx} {a b c : Expr} {ta tb tc : TE} {pos : Pos}

theorem binT (ha : PE X a ta) (hb : PE X b tb) {pins : List (Addr × Obj)} {s : Shared} {σ : St} {H : Hp} {R : V → V → Hp → Prop} (I : Inv X pins σ H s)
    (h : ta σ H fun x H1 => tb σ H1 fun y H2 => R x y H2) {Q : Value → Shared → Prop} {f : Value → Value → Sem Value}
    (hf : ∀ v u s2 x y H2, Inv X pins σ H2 s2 → RelV x v → RelV y u → R x y H2 → wpAny (model X.prog X.w) X.A (f v u) Q X.xe s2) :
    wpAny (model X.prog X.w) X.A (eval a X.env) (fun v s₁ => wpAny (model X.prog X.w) X.A (eval b X.env) (fun u s₂ => wpAny (model X.prog X.w) X.A (f v u) Q X.xe s₂) X.xe s₁) X.xe s := by
  refine thn (ha pins s σ H _ I h) fun v s1 ⟨x, H1, I1, r1, q1⟩ => ?_
  refine thn (hb pins s1 σ H1 _ I1 q1) fun u s2 ⟨y, H2, I2, r2, q2⟩ => ?_
  exact hf v u s2 x y H2 I2 r1 r2 q2

theorem pe_op {op : Operator} {r : R2} (ho : OpR X (binaryOp op) r) (ha : PE X a ta) (hb : PE X b tb) : PE X (.BinOp a op b pos) (tOp r ta tb) := by
  intro pins s σ H Q I h
  exact wpAny_BinOp (binT ha hb I h fun v u s2 x y H2 I2 rx ry q => ho pins s2 σ H2 x y v u Q I2 rx ry q)
theorem pe_un {op : UnaryOp} {r : V → Hp → VK → Prop} (ho : UnR X (unaryOp op) r) (ha : PE X a ta) : PE X (.UnaryOp op a pos) (tUn r ta) := by
  intro pins s σ H Q I h
  exact UnaryOp_ (thn (ha pins s σ H _ I h) fun v s1 ⟨x, H1, I1, r1, q1⟩ => ho pins s1 σ H1 x v Q I1 r1 q1)
/-! ### ints -/
theorem opI {f : Value → Value → Sem Value} {C : Int → Int → Prop} {g : Int → Int → Int}
    (rule : ∀ (i j : Int) (t u : Tok) (s : Shared) (Q : Value → Shared → Prop) (E : Value → Shared → Prop), C i j → Q (.int (g i j) s.toks) { s with toks := s.toks + 1 } → wpAny (model X.prog X.w) X.A (f (.int i t) (.int j u)) Q E s) :
    OpR X f (rI C fun i j => .int (g i j)) := by
  intro pins s σ H x y v u Q I rx ry h
  obtain ⟨i, j, rfl, rfl, hc, q⟩ := h
  obtain ⟨t, rfl⟩ := rx
  obtain ⟨t', rfl⟩ := ry
  exact rule i j t t' s _ _ hc ⟨.int (g i j), H, I.tok _, ⟨_, rfl⟩, q⟩
theorem opI0 {f : Value → Value → Sem Value} {g : Int → Int → Int}
    (rule : ∀ (i j : Int) (t u : Tok) (s : Shared) (Q : Value → Shared → Prop) (E : Value → Shared → Prop), Q (.int (g i j) s.toks) { s with toks := s.toks + 1 } → wpAny (model X.prog X.w) X.A (f (.int i t) (.int j u)) Q E s) :
    OpR X f (rI0 fun i j => .int (g i j)) := by
  intro pins s σ H x y v u Q I rx ry h
  obtain ⟨i, j, rfl, rfl, q⟩ := h
  obtain ⟨t, rfl⟩ := rx
  obtain ⟨t', rfl⟩ := ry
  exact rule i j t t' s _ _ ⟨.int (g i j), H, I.tok _, ⟨_, rfl⟩, q⟩
theorem opB0 {f : Value → Value → Sem Value} {g : Int → Int → Bool}
    (rule : ∀ (i j : Int) (t u : Tok) (s : Shared) (Q : Value → Shared → Prop) (E : Value → Shared → Prop), Q (.bool (g i j)) s → wpAny (model X.prog X.w) X.A (f (.int i t) (.int j u)) Q E s) :
    OpR X f (rI0 fun i j => .bl (g i j)) := by
  intro pins s σ H x y v u Q I rx ry h
  obtain ⟨i, j, rfl, rfl, q⟩ := h
  obtain ⟨t, rfl⟩ := rx
  obtain ⟨t', rfl⟩ := ry
  exact rule i j t t' s _ _ ⟨.bl (g i j), H, I, rfl, q⟩

def CDiv (i j : Int) : Prop := 0 < j ∧ j < 1073741824
def CDivN (i j : Int) : Prop := j ≠ 0 ∧ j.natAbs < 1073741824
def CPow (i j : Int) : Prop := 0 ≤ j ∧ j ≤ 1000000 ∧ i.natAbs < 2 ^ 64
def CMul (i j : Int) : Prop := (-(2 ^ 64) < i ∧ i < 2 ^ 64) ∨ (-(2 ^ 64) < j ∧ j < 2 ^ 64)
theorem CMul.ok {i j : Int} (h : CMul i j) : IntMulOk i j := by
  rcases h with ⟨h1, h2⟩ | ⟨h1, h2⟩
  · exact .of_left (intBits_le_64 h1 h2)
  · exact .of_right (intBits_le_64 h1 h2)
theorem op_add : OpR X (binaryOp .Add) (rI0 fun i j => .int (i + j)) := opI0 fun _ _ _ _ _ _ _ q => add_int q
theorem op_sub : OpR X (binaryOp .Sub) (rI0 fun i j => .int (i - j)) := opI0 fun _ _ _ _ _ _ _ q => sub_int q
theorem op_mul : OpR X (binaryOp .Mult) (rI CMul fun i j => .int (i * j)) := opI fun _ _ _ _ _ _ _ hc q => mul_int q hc.ok
/-- // by a positive divisor -/
theorem op_fdiv : OpR X (binaryOp .FloorDiv) (rI CDiv fun i j => .int (i / j)) := opI fun i j _ _ _ _ _ hc q => by
  have h1 : (0 : Int) < j := hc.1
  have h2 : j < 1073741824 := hc.2
  exact floordiv_int (by omega) (by rw [Int.fdiv_eq_ediv_of_nonneg i (by omega)]; exact q) (.inl (PyProof.noPylong_small (by omega)))
/-- % by a positive divisor of any size -/
theorem op_mod : OpR X (binaryOp .Mod) (rI (fun _ j => 0 < j) fun i j => .int (i % j)) := opI fun i j _ _ _ _ _ hc q => by
  have h1 : (0 : Int) < j := hc
  exact mod_int' (by omega) (by rw [Int.fmod_eq_emod_of_nonneg i (by omega)]; exact q)
theorem op_pow : OpR X (binaryOp .Pow) (rI CPow fun i j => .int (i ^ j.toNat)) := opI fun _ _ _ _ _ _ _ hc q => pow_int_small hc.1 hc.2.1 hc.2.2 q
theorem unI {f : Value → Sem Value} {g : Int → Int}
    (rule : ∀ (i : Int) (t : Tok) (s : Shared) (Q : Value → Shared → Prop) (E : Value → Shared → Prop), Q (.int (g i) s.toks) { s with toks := s.toks + 1 } → wpAny (model X.prog X.w) X.A (f (.int i t)) Q E s) :
    UnR X f (rU fun i => .int (g i)) := by
  intro pins s σ H x v Q I rx h
  obtain ⟨i, rfl, q⟩ := h
  obtain ⟨t, rfl⟩ := rx
  exact rule i t s _ _ ⟨.int (g i), H, I.tok _, ⟨_, rfl⟩, q⟩
theorem un_neg : UnR X (unaryOp .USub) (rU fun i => .int (-i)) := unI fun _ _ _ _ _ q => neg_int q
/-! ### bools among ints: n += (a < b) -/
end

/-! ### comparisons -/
/-- the scalars that == tells apart as data does -/
def scal : V → V → Bool
  | .non, .non => true | .non, .int _ => true | .int _, .non => true | .non, .bl _ => true | .bl _, .non => true | .non, .str _ => true | .str _, .non => true
  | .int _, .int _ => true | .bl _, .bl _ => true | .str _, .str _ => true | .byt _, .byt _ => true
  | .int _, .str _ => true | .str _, .int _ => true | .bl _, .str _ => true | .str _, .bl _ => true
  | _, _ => false
def rEq : R2 := fun x y H Q => scal x y = true ∧ Q (.bl (decide (x = y))) H
def rNe : R2 := fun x y H Q => scal x y = true ∧ Q (.bl (!decide (x = y))) H

theorem dec_int {i j : Int} : decide (V.int i = V.int j) = (i == j) := by
  rw [Bool.eq_iff_iff]
  simp
theorem dec_bl {i j : Bool} : decide (V.bl i = V.bl j) = (i == j) := by
  rw [Bool.eq_iff_iff]
  simp
theorem dec_str {i j : Str} : decide (V.str i = V.str j) = (i == j) := by
  rw [Bool.eq_iff_iff]
  simp
theorem dec_byt {i j : Array UInt8} : decide (V.byt i = V.byt j) = (i.toList == j.toList) := by
  rw [Bool.eq_iff_iff]
  cases i
  cases j
  simp

section
variable {X : Cx} {a b c : Expr} {ta tb tc : TE} {pos : Pos}
theorem fin_bl {pins : List (Addr × Obj)} {σ : St} {H : Hp} {s : Shared} {Q : VK} {k k' : Bool} (I : Inv X pins σ H s) (q : Q (.bl k) H) (e : k = k') : EP X pins σ Q (.bool k') s := by
  subst e
  exact ⟨.bl k, H, I, rfl, q⟩
theorem op_eq : OpR X (compareOp .Eq) rEq := by
  intro pins s σ H x y v u Q I rx ry h
  obtain ⟨hs, q⟩ := h
  cases x with
  | non =>
    cases rx
    cases y with
    | non => cases ry; exact PySem.EqNone.eq_none_none (fin_bl I q (by simp))
    | bl j => cases ry; exact PySem.EqNone.eq_none_bool (fin_bl I q (by simp))
    | int j => obtain ⟨t', rfl⟩ := ry; exact PySem.EqNone.eq_none_int (fin_bl I q (by simp))
    | str j => obtain ⟨t', rfl⟩ := ry; exact PySem.EqNone.eq_none_str (fin_bl I q (by simp))
    | _ => exact absurd (show false = true from hs) Bool.false_ne_true
  | bl i =>
    cases rx
    cases y with
    | non => cases ry; exact PySem.EqNone.eq_bool_none (fin_bl I q (by simp))
    | bl j => cases ry; exact eq_bool (fin_bl I q dec_bl)
    | str j => obtain ⟨t', rfl⟩ := ry; exact PySem.EqMixed.eq_bool_str (fin_bl I q (by simp))
    | _ => exact absurd (show false = true from hs) Bool.false_ne_true
  | int i =>
    obtain ⟨t, rfl⟩ := rx
    cases y with
    | non => cases ry; exact PySem.EqNone.eq_int_none (fin_bl I q (by simp))
    | int j => obtain ⟨t', rfl⟩ := ry; exact eq_int (fin_bl I q dec_int)
    | str j => obtain ⟨t', rfl⟩ := ry; exact PySem.EqMixed.eq_int_str (fin_bl I q (by simp))
    | _ => exact absurd (show false = true from hs) Bool.false_ne_true
  | str i =>
    obtain ⟨t, rfl⟩ := rx
    cases y with
    | non => cases ry; exact PySem.EqNone.eq_str_none (fin_bl I q (by simp))
    | bl j => cases ry; exact PySem.EqMixed.eq_str_bool (fin_bl I q (by simp))
    | int j => obtain ⟨t', rfl⟩ := ry; exact PySem.EqMixed.eq_str_int (fin_bl I q (by simp))
    | str j => obtain ⟨t', rfl⟩ := ry; exact eq_str (fin_bl I q dec_str)
    | _ => exact absurd (show false = true from hs) Bool.false_ne_true
  | byt i =>
    obtain ⟨t, rfl⟩ := rx
    cases y with
    | byt j => obtain ⟨t', rfl⟩ := ry; exact PySem.W.eq_bytes (fin_bl I q dec_byt)
    | _ => exact absurd (show false = true from hs) Bool.false_ne_true
  | _ => cases y <;> exact absurd (show false = true from hs) Bool.false_ne_true
theorem op_ne : OpR X (compareOp .NotEq) rNe := by
  intro pins s σ H x y v u Q I rx ry h
  obtain ⟨hs, q⟩ := h
  cases x with
  | non =>
    cases rx
    cases y with
    | non => cases ry; exact PySem.EqNone.ne_none_none (fin_bl I q (by simp))
    | bl j => cases ry; exact PySem.EqNone.ne_none_bool (fin_bl I q (by simp))
    | int j => obtain ⟨t', rfl⟩ := ry; exact PySem.EqNone.ne_none_int (fin_bl I q (by simp))
    | str j => obtain ⟨t', rfl⟩ := ry; exact PySem.EqNone.ne_none_str (fin_bl I q (by simp))
    | _ => exact absurd (show false = true from hs) Bool.false_ne_true
  | bl i =>
    cases rx
    cases y with
    | non => cases ry; exact PySem.EqNone.ne_bool_none (fin_bl I q (by simp))
    | bl j => cases ry; exact ne_bool (fin_bl I q (congrArg not dec_bl))
    | str j => obtain ⟨t', rfl⟩ := ry; exact PySem.EqMixed.ne_bool_str (fin_bl I q (by simp))
    | _ => exact absurd (show false = true from hs) Bool.false_ne_true
  | int i =>
    obtain ⟨t, rfl⟩ := rx
    cases y with
    | non => cases ry; exact PySem.EqNone.ne_int_none (fin_bl I q (by simp))
    | int j => obtain ⟨t', rfl⟩ := ry; exact ne_int (fin_bl I q (congrArg not dec_int))
    | str j => obtain ⟨t', rfl⟩ := ry; exact PySem.EqMixed.ne_int_str (fin_bl I q (by simp))
    | _ => exact absurd (show false = true from hs) Bool.false_ne_true
  | str i =>
    obtain ⟨t, rfl⟩ := rx
    cases y with
    | non => cases ry; exact PySem.EqNone.ne_str_none (fin_bl I q (by simp))
    | bl j => cases ry; exact PySem.EqMixed.ne_str_bool (fin_bl I q (by simp))
    | int j => obtain ⟨t', rfl⟩ := ry; exact PySem.EqMixed.ne_str_int (fin_bl I q (by simp))
    | str j => obtain ⟨t', rfl⟩ := ry; exact ne_str (fin_bl I q (congrArg not dec_str))
    | _ => exact absurd (show false = true from hs) Bool.false_ne_true
  | byt i =>
    obtain ⟨t, rfl⟩ := rx
    cases y with
    | byt j => obtain ⟨t', rfl⟩ := ry; exact PySem.W.ne_bytes (fin_bl I q (congrArg not dec_byt))
    | _ => exact absurd (show false = true from hs) Bool.false_ne_true
  | _ => cases y <;> exact absurd (show false = true from hs) Bool.false_ne_true

theorem op_lt : OpR X (compareOp .Lt) (rI0 fun i j => .bl (decide (i < j))) := opB0 fun _ _ _ _ _ _ _ q => lt_int q
theorem op_le : OpR X (compareOp .LtE) (rI0 fun i j => .bl (decide (i ≤ j))) := opB0 fun _ _ _ _ _ _ _ q => le_int q
theorem op_ge : OpR X (compareOp .GtE) (rI0 fun i j => .bl (decide (j ≤ i))) := opB0 fun _ _ _ _ _ _ _ q => ge_int q
/-- is None, is not None: the right side a value none -/
theorem op_isN : OpR X (compareOp .Is) (fun x y H Q => y = .non ∧ Q (.bl (decide (x = .non))) H) := by
  intro pins s σ H x y v u Q I rx ry h
  obtain ⟨rfl, q⟩ := h
  cases ry
  refine is_none_gen (fin_bl I q ?_)
  cases x <;> first
    | (cases rx; rfl)
    | (obtain ⟨t, rfl⟩ := rx; rfl)
/-- is, is not of two objects that are tracked lists or instances -/
def isObj : HO → Bool
  | .lst _ => true
  | .ins _ _ _ => true
  | _ => false
/-- two rules for one operation: by cases -/
theorem OpR.or {f : Value → Value → Sem Value} {r r' : R2} (h : OpR X f r) (h' : OpR X f r') : OpR X f (fun x y H Q => r x y H Q ∨ r' x y H Q) := by
  intro pins s σ H x y v u Q I rx ry q
  rcases q with q | q
  · exact h pins s σ H x y v u Q I rx ry q
  · exact h' pins s σ H x y v u Q I rx ry q

theorem nomark (b : Expr) {op : CmpOp} (h : op ≠ .In := by decide) (h2 : op ≠ .NotIn := by decide) : behindInMarks op b = false := by
  have e1 : (op == CmpOp.In) = false := by cases op <;> first | rfl | exact absurd rfl h
  have e2 : (op == CmpOp.NotIn) = false := by cases op <;> first | rfl | exact absurd rfl h2
  cases b <;> simp [behindInMarks, e1, e2]
/-- a comparison as a value; hm: nomark b, or (for in, not in) by with_unfolding_all rfl -/
theorem pe_cmpR {op : CmpOp} {r : R2} (ho : OpR X (compareOp op) r) (ha : PE X a ta) (hb : PE X b tb) (hm : behindInMarks op b = false) : PE X (.Compare a [op] [b] pos) (tOp r ta tb) := by
  intro pins s σ H Q I h
  exact wpAny_Compare1 (binT ha hb I h fun v u s2 x y H2 I2 rx ry q => ho pins s2 σ H2 x y v u Q I2 rx ry q) hm
/-- a reading of a value as a test -/
def tTest (t : TE) : TT := fun σ H Q => t σ H fun x H' => ∃ k, x = .bl k ∧ Q k H'
theorem pt_cmpR {op : CmpOp} {r : R2} (ho : OpR X (compareOp op) r) (ha : PE X a ta) (hb : PE X b tb) (hm : behindInMarks op b = false) : PT X (.Compare a [op] [b] pos) (tTest (tOp r ta tb)) := by
  intro pins s σ H Q I h
  refine wpAny_isTrue_Compare1 (thn (ha pins s σ H _ I h) fun v s1 ⟨x, H1, I1, r1, q1⟩ => thn (hb pins s1 σ H1 _ I1 q1) fun u s2 ⟨y, H2, I2, r2, q2⟩ =>
    thn (ho pins s2 σ H2 x y v u _ I2 r1 r2 q2) fun c s3 ⟨z, H3, I3, r3, k, e, q3⟩ => ?_) hm
  subst e
  cases r3
  exact wpAny_truthy_bool ⟨H3, I3, q3⟩
/-- a op1 b op2 c -/
def tChain (r r' : R2) (ta tb tc : TE) : TE := fun σ H Q => ta σ H fun x H1 => tb σ H1 fun y H2 => r x y H2 fun z H3 => ∃ k, z = .bl k ∧
  (if k = true then tc σ H3 fun w' H4 => r' y w' H4 Q else Q (.bl false) H3)
/-! ### truth -/
/-- a value's truth by the abstract heap -/
def TruV (K : PySem.W.Frag) (x : V) (H : Hp) (k : Bool) : Prop :=
  match x with
  | .non => k = false
  | .bl b => k = b
  | .int i => k = (i != 0)
  | .str y => y.length ≤ sizeLine ∧ k = ((y.length : Int) != 0)
  | .byt y => y.size ≤ sizeLine ∧ k = ((y.size : Int) != 0)
  | .ref p => (∃ xs, SqL K H p xs ∧ k = !xs.isEmpty) ∨ (∃ xs, SqT K H p xs ∧ k = !xs.isEmpty) ∨ ∃ kvs, H p = some (.dK kvs) ∧ k = !kvs.isEmpty
  | _ => False
theorem isEmpty_kv {κ : Type} {kvs : List (κ × V)} {vs : List (κ × Value)} (r : KV kvs vs) : (!vs.isEmpty) = !kvs.isEmpty := by
  cases r <;> rfl
theorem isEmpty_of {xs : List V} {its : List Value} (r : Vals xs its) : (!its.toArray.isEmpty) = !xs.isEmpty := by
  cases r <;> simp
theorem line63 : (sizeLine : Nat) < 2 ^ 63 := by rw [sizeLine_eq]; decide
theorem tru_ok : TruR X (fun x H Q => ∃ k, TruV X.K x H k ∧ Q k H) := by
  intro pins s σ H x v Q I rx h
  obtain ⟨k, e, q⟩ := h
  have hl := line63
  have hs : sizeLine = 16777216 := sizeLine_eq
  cases x with
  | non =>
    cases rx
    have e' : k = false := e
    subst e'
    exact truthy_none ⟨H, I, q⟩
  | bl b =>
    cases rx
    have e' : k = b := e
    subst e'
    exact wpAny_truthy_bool ⟨H, I, q⟩
  | int i =>
    obtain ⟨t, rfl⟩ := rx
    have e' : k = (i != 0) := e
    subst e'
    exact PySem.P.truthy_int ⟨H, I, q⟩
  | str y =>
    obtain ⟨t, rfl⟩ := rx
    obtain ⟨hy, e'⟩ : y.length ≤ sizeLine ∧ k = ((y.length : Int) != 0) := e
    subst e'
    exact PySem.P.truthy_str (by omega) ⟨H, I.tok _, q⟩
  | byt y =>
    obtain ⟨t, rfl⟩ := rx
    obtain ⟨hy, e'⟩ : y.size ≤ sizeLine ∧ k = ((y.size : Int) != 0) := e
    subst e'
    exact PySem.W.truthy_bytes (by omega) ⟨H, I.tok _, q⟩
  | ref p =>
    cases rx
    have e' : (∃ xs, SqL X.K H p xs ∧ k = !xs.isEmpty) ∨ (∃ xs, SqT X.K H p xs ∧ k = !xs.isEmpty) ∨ ∃ kvs, H p = some (.dK kvs) ∧ k = !kvs.isEmpty := e
    rcases e' with ⟨xs, hx, e'⟩ | ⟨xs, hx, e'⟩ | ⟨kvs, hx, e'⟩
    · subst e'
      obtain ⟨its, r, pl, hz⟩ := I.list hx
      have hlen := r.length
      exact wpAny_truthy_list pl.isList (by simp only [List.size_toArray]; omega) ⟨H, I.tok _, by rw [isEmpty_of r]; exact q⟩
    · subst e'
      obtain ⟨its, r, pl, hz⟩ := I.tuple hx
      have hlen := r.length
      exact truthy_tuple pl (by simp only [List.size_toArray]; omega) ⟨H, I.tok _, by rw [isEmpty_of r]; exact q⟩
    · subst e'
      obtain ⟨hz, hS, vs, r, m⟩ : kvs.length ≤ sizeLine ∧ (p == sysModules) = false ∧ ∃ vs, KV kvs vs ∧ s.heap.DictOf (mixKind X.prog X.w) p vs := I.hok p _ hx
      have hlen : kvs.length = vs.length := Paired.length r
      exact wpAny_truthy_dict hS m (by omega) ⟨H, I.tok _, by rw [isEmpty_kv r]; exact q⟩
  | _ => exact (show False from e).elim
/-- any expression whose test is its value's truth (a name, a call, a subscript, a field ..: he by fun _ => rfl) -/
theorem pt_truth (ha : PE X a ta) (he : ∀ whole, isTrue a X.env whole = (do let v ← whole; standAt a.pos; holding [v] (truthy v))) :
    PT X a (fun σ H Q => ta σ H fun x H' => ∃ k, TruV X.K x H' k ∧ Q k H') := by
  intro pins s σ H Q I h
  exact isTrue_plain (thn (ha pins s σ H _ I h) fun v s1 ⟨x, H1, I1, r1, q1⟩ => tru_ok pins s1 σ H1 x v Q I1 r1 q1) (he _)

/-! ### strs and bytes -/
def PlainIxT (b : Expr) : Prop := ∀ o i, subscripted b false o i = operate [o, i] (getItem o i)
/-! ### scalar builtins, by CallR -/
theorem vals1 {x : V} {us : List Value} (r : Vals [x] us) : ∃ u, us = [u] ∧ RelV x u := by
  cases r with
  | cons r1 r2 => cases r2; exact ⟨_, rfl, r1⟩
theorem vals2 {x y : V} {us : List Value} (r : Vals [x, y] us) : ∃ u w', us = [u, w'] ∧ RelV x u ∧ RelV y w' := by
  cases r with
  | cons r1 r2 =>
    cases r2 with
    | cons r3 r4 => cases r4; exact ⟨_, _, rfl, r1, r3⟩
theorem call_max2 (hc : X.calm = true) : CallR X (.builtin "max") (fun xs H Q => ∃ i j, xs = [.int i, .int j] ∧ Q (.int (if j > i then j else i)) H) := by
  intro pins s σ H xs us Q I r h
  obtain ⟨i, j, rfl, q⟩ := h
  obtain ⟨u, w', rfl, ⟨t, rfl⟩, ⟨t', rfl⟩⟩ := vals2 r
  refine max_two_ints (I.ok.hd hc) fun h' tk k => ⟨_, H, I.kept k, ?_, q⟩
  by_cases hj : j > i
  · rw [if_pos hj, if_pos hj]; exact ⟨_, rfl⟩
  · rw [if_neg hj, if_neg hj]; exact ⟨_, rfl⟩
/-- len of a str, a bytes, a list, a tuple -/
def LenV (K : PySem.W.Frag) (x : V) (H : Hp) (n : Nat) : Prop :=
  match x with
  | .str y => y.length ≤ sizeLine ∧ n = y.length
  | .byt y => y.size ≤ sizeLine ∧ n = y.size
  | .ref p => (∃ xs, SqL K H p xs ∧ n = xs.length) ∨ ∃ xs, SqT K H p xs ∧ n = xs.length
  | _ => False
end
end L2

namespace L2
open PySem PySem.Spec PyProof.Rows

/-! ### an instance, its attributes a map -/
structure ObjM (h : Heap) (x dx C : Addr) (mA : Str → Option Value) : Prop where
  obj : h.get? x = some (PySem.W.instObj C dx)
  ns : h.Ns1 dx mA
  ne : dx ≠ x

theorem lookIn_ns {h : Heap} {dx : Addr} {mA : Str → Option Value} (n : h.Ns1 dx mA) : ∃ od, h.get? dx = some od ∧ ∀ name, PySem.W.lookIn name od = some (mA name) := by
  obtain ⟨o, es, ep, ho, hd, hk, _, hm⟩ := n
  refine ⟨o, ho, fun name => ?_⟩
  have e := hm name
  unfold nsFind findBy at e
  rw [← Array.find?_toList] at e
  unfold PySem.W.lookIn
  rw [hd]
  dsimp only
  split
  · rename_i y q
    rw [q] at e
    exact congrArg some e
  · rename_i q
    rw [q] at e
    have a : es.toList.any (·.refKey) = false := by
      rw [List.any_eq_false]
      intro y hy
      obtain ⟨z, t, hkey⟩ := hk y (Array.mem_toList_iff.mp hy)
      simp [DictEntry.refKey, hkey]
    have a' : ¬ es.toList.any (·.refKey) = true := by rw [a]; exact Bool.false_ne_true
    rw [if_neg a']
    exact congrArg some e

theorem ObjM.look {h : Heap} {x dx C : Addr} {mA : Str → Option Value} (I : ObjM h x dx C mA) : ∃ od, PySem.W.InstAt h x (PySem.W.instObj C dx) C (some od) ∧ ∀ name, PySem.W.lookIn name od = some (mA name) :=
  let ⟨od, ho, hl⟩ := lookIn_ns I.ns
  ⟨od, ⟨I.obj, rfl, rfl, ho⟩, hl⟩

section
variable {prog : Program} {w : World} {A : Around} {E : Value → Shared → Prop} {s : Shared} {K : PySem.W.Frag} {x dx C f : Addr} {mA : Str → Option Value} {name : Str} {v : Value}

theorem get_map {expr : Bool} {Q : Value → Shared → Prop} (X : K.In s.heap) (I : ObjM s.heap x dx C mA) (hg : PySem.W.plainGet K C name = true) (hh : PySem.W.hasDictIn K C = true)
    (ha : PySem.W.findIn K (.ref C) name = some none) (hv : mA name = some v) (hv' : PySem.W.handedIn v = true) (h : Q v { s with toks := s.toks + 1 }) :
    wpAny (model prog w) A (getAttr (.ref x) name expr) Q E s := by
  obtain ⟨od, J, hl⟩ := I.look
  exact PySem.W.get_value X J (PySem.W.plainGet_of hg).1 (PySem.W.findObj_own hh ha rfl (by rw [hl, hv])) hv' h

theorem get_meth {pl : Sem Bool} {Q : Value × List Value → Shared → Prop} (X : K.In s.heap) (I : ObjM s.heap x dx C mA) (hg : PySem.W.plainGet K C name = true)
    (hf : PySem.W.findIn K (.ref C) name = some (some (.ref f))) (ht : PySem.W.isFn K (.ref f) = true) (hv : mA name = none) (h : Q (.ref f, [.ref x]) s) :
    wpAny (model prog w) A (getMethod (.ref x) name pl) Q E s := by
  obtain ⟨od, J, hl⟩ := I.look
  exact PySem.W.method_fn X J (PySem.W.plainGet_of hg).1 (PySem.W.plainGet_of hg).2 hf (beq_iff_eq.mp ht) (by show (PySem.W.lookIn name od).map (·.isSome) = some false; rw [hl, hv]; rfl) h

theorem set_map {ns : List Str} {Q : Unit → Shared → Prop} (X : K.In s.heap) (I : ObjM s.heap x dx C mA)
    (hs : PySem.W.findIn K (.ref C) "__setattr__" = some (some (.builtin "object.__setattr__"))) (hp : PySem.W.plainOver K C = true) (ht : PySem.W.takerIn K C name = some none) (hh : PySem.W.hasDictIn K C = true)
    (hw : PySem.Within mA ns) (hsz : ns.length ≤ sizeLine)
    (h : ∀ h', ObjM h' x dx C (fun y => if y = name then some v else mA y) → Heap.SameBut dx s.heap h' → Q () { s with heap := h', toks := s.toks + 2 }) :
    wpAny (model prog w) A (setAttr (.ref x) name v) Q E s := by
  obtain ⟨od, J, hl⟩ := I.look
  refine PySem.W.set_plain X J hs (PySem.W.osa_open (s := { s with toks := s.toks + 1 }) (r := none) X J hp ht fun b => ?_)
  obtain ⟨cd, hc, hd'⟩ := PySem.W.any_some hh
  have hx : s.heap.get? x = some ⟨.ref C, some dx, .plain, #[]⟩ := I.obj
  refine wpAny_bind (wpAny_pure (wpAny_bind (wpAny_bind (wpAny_loadPart hx (wpAny_bind (PySem.W.Looks.here (s := { s with toks := s.toks + 1 }) (PySem.W.looks_clsIn X hc) ?_))))))
  rw [hd']
  refine wpAny_pure (a := some dx) (wpAny_bind (wpAny_pure (wpAny_bind ?_)))
  refine wpAny_nsSet1 (s := { s with toks := s.toks + 1 }) I.ns fun h' hn2 hs2 => ?_
  obtain ⟨oD, esD, epD, hoD, hdD, hcD⟩ := hn2.count (PySem.Within.cons name v hw)
  refine wpAny_bind (wpAny_lookBehind hoD (by rw [hdD]; exact pastItsLine_dict (Nat.le_trans hcD (by rw [List.length_cons]; omega))) ?_)
  exact wpAny_pure (h _ ⟨(hs2.2 _ (Ne.symm I.ne)).trans I.obj, hn2, I.ne⟩ hs2)

/-- C(..): the dict at the heap's end, the instance behind it; then its __init__ -/
theorem make_map {R : Result → Shared → Prop} {vs : List Value} {kw : List (Str × Value)} (X : K.In s.heap) (hm : PySem.W.makesIn K C = true)
    (hi : PySem.W.findIn K (.ref C) "__init__" = some (some (.ref f))) (hf : PySem.W.typeIn K (.ref f) = some (.type "function"))
    (h : codeAny (model prog w) (A.under (.builtin "type.__call__" ⟨.ref C :: vs, kw⟩)) (.call (.ref f) ⟨.ref (s.heap.objs.size + 1) :: vs, kw⟩) (PySem.W.InitBack (s.heap.objs.size + 1) R)
      { s with heap := (s.heap.push PySem.W.emptyDict).push (PySem.W.instObj C s.heap.objs.size) }) :
    codeAny (model prog w) A (.call (.ref C) ⟨vs, kw⟩) R s := by
  obtain ⟨hh, g, d, t, os⟩ := s
  exact PySem.W.make_core (PySem.W.makes_of X hm) (PySem.W.looks_findIn X hi) (fun self => PySem.W.bind_fn X self hf) (.inl rfl) h
end

/-! ### the attributes as a list of pairs -/
def putF (f : Str) (v : V) : List (Str × V) → List (Str × V)
  | [] => [(f, v)]
  | (g, x) :: r => if g = f then (g, v) :: r else (g, x) :: putF f v r
theorem lookup_putF (f g : Str) (v : V) : ∀ fs : List (Str × V), (putF f v fs).lookup g = if g = f then some v else fs.lookup g
  | [] => by
    show List.lookup g [(f, v)] = _
    by_cases h : g = f
    · have hb : (g == f) = true := beq_iff_eq.mpr h
      simp only [List.lookup, hb, if_pos h]
    · have hb : (g == f) = false := beq_eq_false_iff_ne.mpr h
      simp only [List.lookup, hb, if_neg h]
  | (k, x) :: r => by
    have ih := lookup_putF f g v r
    rw [show putF f v ((k, x) :: r) = (if k = f then (k, v) :: r else (k, x) :: putF f v r) from rfl]
    by_cases hk : k = f
    · rw [if_pos hk]
      by_cases h : g = k
      · have hb : (g == k) = true := beq_iff_eq.mpr h
        simp only [List.lookup, hb, if_pos (h.trans hk)]
      · have hb : (g == k) = false := beq_eq_false_iff_ne.mpr h
        simp only [List.lookup, hb, if_neg (fun e : g = f => h (e.trans hk.symm))]
    · rw [if_neg hk]
      by_cases h : g = k
      · have hb : (g == k) = true := beq_iff_eq.mpr h
        simp only [List.lookup, hb, if_neg (fun e : g = f => hk (h.symm.trans e))]
      · have hb : (g == k) = false := beq_eq_false_iff_ne.mpr h
        simp only [List.lookup, hb]
        exact ih
theorem keys_putF (f : Str) (v : V) : ∀ fs : List (Str × V), f ∈ (putF f v fs).map (·.1) ∧ ∀ g, g ∈ fs.map (·.1) → g ∈ (putF f v fs).map (·.1)
  | [] => ⟨by simp [putF], fun g h => by simp at h⟩
  | (k, x) :: r => by
    obtain ⟨i1, i2⟩ := keys_putF f v r
    rw [show putF f v ((k, x) :: r) = (if k = f then (k, v) :: r else (k, x) :: putF f v r) from rfl]
    by_cases hk : k = f
    · rw [if_pos hk]
      subst hk
      exact ⟨by simp, fun g h => by simpa using h⟩
    · rw [if_neg hk]
      refine ⟨?_, fun g h => ?_⟩
      · rw [List.map_cons]
        exact List.mem_cons_of_mem _ i1
      · rw [List.map_cons] at h ⊢
        rcases List.mem_cons.mp h with e | e
        · exact List.mem_cons.mpr (.inl e)
        · exact List.mem_cons_of_mem _ (i2 g e)
theorem length_putF (f : Str) (v : V) : ∀ fs : List (Str × V), (putF f v fs).length ≤ fs.length + 1
  | [] => by simp [putF]
  | (k, x) :: r => by
    have ih := length_putF f v r
    rw [show putF f v ((k, x) :: r) = (if k = f then (k, v) :: r else (k, x) :: putF f v r) from rfl]
    by_cases hk : k = f
    · rw [if_pos hk, List.length_cons, List.length_cons]; omega
    · rw [if_neg hk, List.length_cons, List.length_cons]; omega

theorem RelO.some_of {v : V} {o : Option Value} (r : RelO (some v) o) : ∃ u, o = some u ∧ RelV v u := by
  cases o with
  | none => exact (show False from r).elim
  | some u => exact ⟨u, rfl, r⟩
theorem RelO.none_of {o : Option Value} (r : RelO none o) : o = none := by
  cases o with
  | none => rfl
  | some u => exact (show False from r).elim
theorem handed_of {v : V} {u : Value} (r : RelV v u) : PySem.W.handedIn u = true := by
  cases v with
  | non => cases (show u = Value.none from r); rfl
  | bl b => cases (show u = Value.bool b from r); rfl
  | int i => obtain ⟨t, e⟩ := (show ∃ t, u = Value.int i t from r); cases e; rfl
  | str x => obtain ⟨t, e⟩ := (show ∃ t, u = Value.str x t from r); cases e; rfl
  | byt b => obtain ⟨t, e⟩ := (show ∃ t, u = Value.bytes b t from r); cases e; rfl
  | flt b => obtain ⟨t, e⟩ := (show ∃ t, u = Value.float b t from r); cases e; rfl
  | ref a => cases (show u = Value.ref a from r); rfl
  | ty n => cases (show u = Value.type n from r); rfl

section
variable {P : Program} {w : World} {H H' : Hp} {h h' : Heap} {a C dx : Addr} {fs fs' : List (Str × V)}
theorem ins_get (hok : HOk P w H h) (e : H a = some (.ins C dx fs)) : ∃ mA, ObjM h a dx C mA ∧ (∀ f, RelO (fs.lookup f) (mA f)) ∧ PySem.Within mA (fs.map (·.1)) ∧ fs.length ≤ 1000 ∧ H dx = some (.own a) := by
  obtain ⟨d, z, ne, ob, mA, n, r, q⟩ := (show ObjOk P w H h a (.ins C dx fs) from hok a _ e)
  exact ⟨mA, ⟨ob, n, ne⟩, r, q, z, d⟩
end

/-! ### what of the text a class must have -/
structure Cls (K : PySem.W.Frag) (C : Addr) : Prop where
  pg : PySem.W.plainGet K C Str.empty = true
  hd : PySem.W.hasDictIn K C = true
  po : PySem.W.plainOver K C = true
  sa : PySem.W.findIn K (.ref C) "__setattr__" = some (some (.builtin "object.__setattr__"))
theorem Cls.get {K : PySem.W.Frag} {C : Addr} (c : Cls K C) (f : Str) : PySem.W.plainGet K C f = true := c.pg
/-- no class of it has the name -/
def NoAttr (K : PySem.W.Frag) (C : Addr) (f : Str) : Prop := PySem.W.findIn K (.ref C) f = some none
theorem NoAttr.taker {K : PySem.W.Frag} {C : Addr} {f : Str} (n : NoAttr K C f) : PySem.W.takerIn K C f = some none := by
  unfold PySem.W.takerIn
  rw [show PySem.W.findIn K (.ref C) f = some none from n]
  rfl
/-- a constant of the class -/
structure Con (K : PySem.W.Frag) (C : Addr) (f : Str) (v : V) (u : Value) : Prop where
  at_ : PySem.W.findIn K (.ref C) f = some (some u)
  rel : RelV v u
  get : PySem.W.specialIn K u "__get__" = some none
  cp : PySem.W.copiedNames.contains f = false
/-- a method: a plain def of the class or of one above it -/
structure Meth (K : PySem.W.Frag) (C : Addr) (m : Str) (f : Addr) : Prop where
  at_ : PySem.W.findIn K (.ref C) m = some (some (.ref f))
  fn : PySem.W.isFn K (.ref f) = true
  kp : PySem.W.keepIn K (.ref f) = true

section
variable {X : Cx} {pins : List (Addr × Obj)} {σ : St} {H : Hp} {s : Shared} {a C dx : Addr} {fs : List (Str × V)} {f : Str} {v : V} {A : Around} {E : Value → Shared → Prop}

theorem getattr_ok {b : Bool} {Q : Value → Shared → Prop} (I : Inv X pins σ H s) (e : H a = some (.ins C dx fs)) (c : Cls X.K C) (n : NoAttr X.K C f) (l : fs.lookup f = some v)
    (h : ∀ u s', Inv X pins σ H s' → RelV v u → Q u s') : wpAny (model X.prog X.w) A (getAttr (.ref a) f b) Q E s := by
  obtain ⟨mA, O, r, _, _, _⟩ := ins_get I.hok e
  obtain ⟨u, hu, ru⟩ := RelO.some_of (v := v) (o := mA f) (by rw [← l]; exact r f)
  exact get_map I.kIn O (c.get f) c.hd n hu (handed_of ru) (h u _ (I.tok _) ru)

theorem getmeth_ok {m : Str} {g : Addr} {pl : Sem Bool} {Q : Value × List Value → Shared → Prop} (I : Inv X pins σ H s) (e : H a = some (.ins C dx fs)) (c : Cls X.K C) (k : Meth X.K C m g) (l : fs.lookup m = none)
    (h : Q (.ref g, [.ref a]) s) : wpAny (model X.prog X.w) A (getMethod (.ref a) m pl) Q E s := by
  obtain ⟨mA, O, r, _, _, _⟩ := ins_get I.hok e
  have hn : mA m = none := RelO.none_of (by rw [← l]; exact r m)
  exact get_meth I.kIn O (c.get m) k.at_ k.fn hn h

theorem setattr_ok {y : V} {u : Value} {Q : Unit → Shared → Prop} (I : Inv X pins σ H s) (e : H a = some (.ins C dx fs)) (c : Cls X.K C) (n : NoAttr X.K C f) (hl : fs.length < 1000) (ry : RelV y u)
    (h : ∀ s', Inv X pins σ (upd H a (.ins C dx (putF f y fs))) s' → Q () s') : wpAny (model X.prog X.w) A (setAttr (.ref a) f u) Q E s := by
  obtain ⟨mA, O, r, wi, _, ho⟩ := ins_get I.hok e
  have hz : (fs.map (·.1)).length ≤ sizeLine := by rw [List.length_map, sizeLine_eq]; omega
  refine set_map I.kIn O c.sa c.po n.taker c.hd wi hz fun h' O' sb => h _ ?_
  have hd : ∃ o, h'.get? dx = some o := let ⟨o, _, _, e', _⟩ := O'.ns; ⟨o, e'⟩
  refine I.write (x := a) (e := dx) (by rw [e]; exact True.intro) (.inr ho) (fun b q hb z => (sb.2 b hb).trans z) hd ?_
  refine ⟨by rw [upd_ne O.ne]; exact ho, ?_, O.ne, O'.obj, _, O'.ns, fun g => ?_, fun g hg => ?_⟩
  · have := length_putF f y fs; omega
  · show RelO ((putF f y fs).lookup g) (if g = f then some u else mA g)
    rw [lookup_putF]
    by_cases q : g = f
    · rw [if_pos q, if_pos q]; exact ry
    · rw [if_neg q, if_neg q]; exact r g
  · by_cases q : g = f
    · rw [q]; exact (keys_putF f y fs).1
    · refine (keys_putF f y fs).2 g (wi g fun z => hg ?_)
      show (if g = f then some u else mA g) = none
      rw [if_neg q]; exact z

/-- a new instance, tracked, without attributes -/
theorem Inv.made (I : Inv X pins σ H s) : Inv X pins σ (upd (upd H s.heap.objs.size (.own (s.heap.objs.size + 1))) (s.heap.objs.size + 1) (.ins C s.heap.objs.size []))
    { s with heap := (s.heap.push PySem.W.emptyDict).push (PySem.W.instObj C s.heap.objs.size) } := by
  have e1 : (s.heap.push PySem.W.emptyDict).get? s.heap.objs.size = some PySem.W.emptyDict := Heap.get?_push_size s.heap rfl
  have e2 : ((s.heap.push PySem.W.emptyDict).push (PySem.W.instObj C s.heap.objs.size)).get? (s.heap.objs.size + 1) = some (PySem.W.instObj C s.heap.objs.size) := by
    have := Heap.get?_push_size (s.heap.push PySem.W.emptyDict) (o := PySem.W.instObj C s.heap.objs.size) rfl
    rwa [Heap.size_push] at this
  have e3 : (s.heap.push PySem.W.emptyDict).Ns s.heap.objs.size (fun _ => none) := ⟨PySem.W.emptyDict, #[], _, e1, rfl, (fun e he => absurd he (by simp)), fun _ => rfl⟩
  have I1 := I.laid (a := s.heap.objs.size) (o := .own (s.heap.objs.size + 1)) (h' := s.heap.push PySem.W.emptyDict) (t' := s.toks) (fun b u q => Heap.get?_push_of_some _ q) (Nat.le_refl _) ⟨_, e1⟩
  refine I1.laid (a := s.heap.objs.size + 1) (o := .ins C s.heap.objs.size []) (t' := s.toks) (fun b u q => Heap.get?_push_of_some _ q) (Nat.le_of_eq (Heap.size_push _ _)) ?_
  have ne : s.heap.objs.size ≠ s.heap.objs.size + 1 := Nat.ne_of_lt (Nat.lt_succ_self _)
  refine ⟨by rw [upd_ne ne, upd_same], Nat.zero_le _, ne, e2, fun _ => none, (Heap.Ns1.of_empty e3).at fun o q => Heap.get?_push_of_some _ q, fun _ => True.intro, fun y hy => absurd rfl hy⟩

/-- e.f where nothing but the object is asked: through attributeBase (super) and the last hold -/
theorem attr_of {prog : Program} {w : World} {env : Env} {e : Expr} {f : Str} {pos : Pos} {s : Shared} {Q : Value → Shared → Prop} (hb : attributeBase e f env (eval e env) = eval e env)
    (h : wpAny (model prog w) A (eval e env) (fun o s₁ => wpAny (model prog w) A (getAttr o f true) Q E s₁) E s) : wpAny (model prog w) A (eval (.Attribute e f pos) env) Q E s :=
  Attribute_any_ h (by rw [arm_eval_Attribute, hb])
end

/-! ### readings and rules -/
/-- e.f, an attribute of the instance -/
def tFld (K : PySem.W.Frag) (ta : TE) (f : Str) : TE := fun σ H Q => ta σ H fun x H1 => ∃ a C dx fs v, x = .ref a ∧ H1 a = some (.ins C dx fs) ∧ Cls K C ∧ NoAttr K C f ∧ fs.lookup f = some v ∧ Q v H1
/-- e.f, a constant of the class -/
def tCon (K : PySem.W.Frag) (ta : TE) (f : Str) : TE := fun σ H Q => ta σ H fun x H1 => ∃ a C dx fs v u, x = .ref a ∧ H1 a = some (.ins C dx fs) ∧ Cls K C ∧ Con K C f v u ∧ fs.lookup f = none ∧ Q v H1
/-- e.f = value -/
def sFld (K : PySem.W.Frag) (ta tv : TE) (f : Str) : TS := fun D σ H => tv σ H fun y H1 => ta σ H1 fun x H2 => ∃ a C dx fs, x = .ref a ∧ H2 a = some (.ins C dx fs) ∧ Cls K C ∧ NoAttr K C f ∧ fs.length < 1000 ∧
  D.nx σ (upd H2 a (.ins C dx (putF f y fs)))
/-- an augmented operator on two values -/
def InOp (X : Cx) (op : Operator) (rd : V → V → Hp → VK → Prop) : Prop :=
  ∀ (pins : List (Addr × Obj)) (s : Shared) (σ : St) (H : Hp) (x y : V) (u v : Value) (Q : VK), Inv X pins σ H s → RelV x u → RelV y v → rd x y H Q → wpAny (model X.prog X.w) X.A (inplaceOp op u v) (EP X pins σ Q) X.xe s
/-- e.f op= value -/
def sFldAug (K : PySem.W.Frag) (ta tv : TE) (rd : V → V → Hp → VK → Prop) (f : Str) : TS := fun D σ H => ta σ H fun x H1 => ∃ a C dx fs v, x = .ref a ∧ H1 a = some (.ins C dx fs) ∧ Cls K C ∧ NoAttr K C f ∧ fs.lookup f = some v ∧
  tv σ H1 fun y H2 => rd v y H2 fun z H3 => ∃ dx' fs', H3 a = some (.ins C dx' fs') ∧ fs'.length < 1000 ∧ D.nx σ (upd H3 a (.ins C dx' (putF f z fs')))

section
variable {X : Cx} {o e value : Expr} {f : Str} {pos pos' tpos : Pos} {ta tv : TE}
theorem pe_fld (he : PE X e ta) (hb : attributeBase e f X.env (eval e X.env) = eval e X.env) : PE X (.Attribute e f pos) (tFld X.K ta f) := by
  intro pins s σ H Q I h
  refine attr_of hb (thn (he pins s σ H _ I h) fun u s1 ⟨x, H1, I1, rx, a, C, dx, fs, v, ex, ea, c, n, l, q⟩ => ?_)
  subst ex
  obtain rfl : u = Value.ref a := rx
  exact getattr_ok I1 ea c n l fun u' s2 I2 ru => ⟨v, H1, I2, ru, q⟩
theorem ps_fld (ha : PE X o ta) (hv : PE X value tv) (hs : swapsWith value (some (.Attribute o f pos')) pos.line X.env = pure false) : PS X (.Assign [.Attribute o f pos'] value pos) (sFld X.K ta tv f) := by
  intro pins s σ H D I h
  refine plainObj_wpAny_Assign_Attribute (thn (hv pins s σ H _ I h) fun u s1 ⟨y, H1, I1, ry, q⟩ => thn (ha pins s1 σ H1 _ I1 q) fun ov s2 ⟨x, H2, I2, rx, a, C, dx, fs, ex, ea, c, n, l, q2⟩ => ?_) hs
  subst ex
  obtain rfl : ov = Value.ref a := rx
  exact setattr_ok I2 ea c n l ry fun s3 I3 => ⟨σ, _, I3, q2⟩
def rAdd : V → V → Hp → VK → Prop := fun x y H Q => ∃ i j, x = .int i ∧ y = .int j ∧ Q (.int (i + j)) H
def rSub : V → V → Hp → VK → Prop := fun x y H Q => ∃ i j, x = .int i ∧ y = .int j ∧ Q (.int (i - j)) H
end

/-! ### isinstance -/
section
variable {X : Cx} {pins : List (Addr × Obj)} {σ : St} {H : Hp} {s : Shared} {A : Around} {E : Value → Shared → Prop} {Q : Value → Shared → Prop} {c : Value} {b : Bool}
/-- the type of a value, as the fragment's deciders take it; for an instance its class -/
inductive TyOf (K : PySem.W.Frag) (H : Hp) : V → Value → Prop where
  | non : TyOf K H .non (.type "NoneType")
  | bl (x : Bool) : TyOf K H (.bl x) (.type "bool")
  | int (i : Int) : TyOf K H (.int i) (.type "int")
  | str (x : Str) : TyOf K H (.str x) (.type "str")
  | flt (x : UInt64) : TyOf K H (.flt x) (.type "float")
  | lst {a : Addr} {xs : List V} (e : H a = some (.lst xs)) : TyOf K H (.ref a) (.type "list")
  | frz {a : Addr} {o : Obj} {xs : List V} (e : H a = some (.frz o (.lst xs))) : TyOf K H (.ref a) (.type "list")
  | tup {a : Addr} {xs : List V} (e : H a = some (.tup xs)) : TyOf K H (.ref a) (.type "tuple")
  | dK {a : Addr} {kvs : List (Key × V)} (e : H a = some (.dK kvs)) : TyOf K H (.ref a) (.type "dict")
  | dT {a : Addr} {kvs : List (List Key × V)} (e : H a = some (.dT kvs)) : TyOf K H (.ref a) (.type "dict")
  | ins {a C dx : Addr} {fs : List (Str × V)} (e : H a = some (.ins C dx fs)) (cl : Cls K C) (ha : PySem.W.findIn K (.ref C) "__class__" = some (some (.builtin "object.__class__")))
      (hn : PySem.W.specialIn K (.builtin "object.__class__") "__get__" = some (some (.builtin "getset_descriptor.__get__"))) (htk : PySem.W.takesIn K (.builtin "object.__class__") = some true)
      (hm : PySem.W.mroIn K C (.type "object") = some true) : TyOf K H (.ref a) (.ref C)
/-- isinstance(x, c) for one class c, a built-in or an own one: kitOne's answer -/
theorem isinst_ok {x : V} {u t : Value} (I : Inv X pins σ H s) (rx : RelV x u) (ty : TyOf X.K H x t) (e : PySem.W.kitOne X.K t c = some b) (h : ∀ tk, Q (.bool b) { s with toks := tk }) :
    wpAny (model X.prog X.w) A (call (.builtin "isinstance") [u, c]) Q E s := by
  cases ty with
  | non => cases (show u = Value.none from rx); exact PySem.W.kia_one PySem.W.kitx_none I.kIn True.intro e (fun z => nomatch z) h
  | bl y => cases (show u = Value.bool y from rx); exact PySem.W.kia_one PySem.W.kitx_bool I.kIn True.intro e (fun z => nomatch z) h
  | int i => obtain ⟨t, q⟩ := (show ∃ t, u = Value.int i t from rx); cases q; exact PySem.W.kia_one PySem.W.kitx_int I.kIn True.intro e (fun z => nomatch z) h
  | str y => obtain ⟨t, q⟩ := (show ∃ t, u = Value.str y t from rx); cases q; exact PySem.W.kia_one PySem.W.kitx_str I.kIn True.intro e (fun z => nomatch z) h
  | flt y => obtain ⟨t, q⟩ := (show ∃ t, u = Value.float y t from rx); cases q; exact PySem.W.kia_one PySem.W.kitx_float I.kIn True.intro e (fun z => nomatch z) h
  | @lst a xs ea =>
    cases (show u = Value.ref a from rx)
    obtain ⟨_, _, n, _, h1⟩ := (show ObjOk X.prog X.w H s.heap a (.lst xs) from I.hok a _ ea)
    exact PySem.W.kia_one PySem.W.kitx_list I.kIn ⟨_, h1, rfl⟩ e (fun z => nomatch z) h
  | @frz a ob xs ea =>
    cases (show u = Value.ref a from rx)
    obtain ⟨_, _, _, n, _, h1⟩ := (show ObjOk X.prog X.w H s.heap a (.frz ob (.lst xs)) from I.hok a _ ea)
    exact PySem.W.kia_one PySem.W.kitx_list I.kIn ⟨_, h1, rfl⟩ e (fun z => nomatch z) h
  | @tup a xs ea =>
    cases (show u = Value.ref a from rx)
    obtain ⟨_, _, _, p⟩ := (show ObjOk X.prog X.w H s.heap a (.tup xs) from I.hok a _ ea)
    obtain ⟨o, h1, h2, _⟩ := p
    exact PySem.W.kia_one PySem.W.kitx_tuple I.kIn ⟨o, h1, h2⟩ e (fun z => nomatch z) h
  | @dK a kvs ea =>
    cases (show u = Value.ref a from rx)
    obtain ⟨_, _, vs, _, p⟩ := (show ObjOk X.prog X.w H s.heap a (.dK kvs) from I.hok a _ ea)
    obtain ⟨o, es, ep, h1, h2, _⟩ := p
    exact PySem.W.kia_one PySem.W.kitx_dict I.kIn ⟨o, h1, h2.1⟩ e (fun z => nomatch z) h
  | @dT a kvs ea =>
    cases (show u = Value.ref a from rx)
    obtain ⟨_, _, xs, _, o, es, ep, h1, h2, _⟩ := (show ObjOk X.prog X.w H s.heap a (.dT kvs) from I.hok a _ ea)
    exact PySem.W.kia_one PySem.W.kitx_dict I.kIn ⟨o, h1, h2.1⟩ e (fun z => nomatch z) h
  | @ins a C dx fs ea cl ha hn htk hm =>
    cases (show u = Value.ref a from rx)
    obtain ⟨mA, O, _⟩ := ins_get I.hok ea
    obtain ⟨od, J, _⟩ := O.look
    exact PySem.W.kia_one (PySem.W.kitx_own (cl.get _) cl.hd ha hn htk hm) I.kIn J e (fun z => nomatch z) h
end
end L2

namespace L2
open PySem PySem.Spec PyProof.Rows

/-! ### room -/
structure Room (k : Nat) (A : Around) : Prop where
  hd : A.handled = none
  dp : A.depth + 3 * k + 5 < recursionLimit
  un : A.units + 16 * k + 200 < cLine
theorem Room.mono {j k : Nat} {A : Around} (r : Room k A) (h : j ≤ k) : Room j A := ⟨r.hd, by have := r.dp; omega, by have := r.un; omega⟩
theorem Room.deeper {k : Nat} {A : Around} (r : Room (k + 1) A) (env : Env) : Room k (A.deeper env) :=
  ⟨r.hd, by have := r.dp; show A.depth + 1 + 3 * k + 5 < _; omega, by have := r.un; show A.units + 3 + 16 * k + 200 < _; omega⟩
theorem Room.in1 {k : Nat} {A : Around} (r : Room (k + 1) A) : Room k A.in1 :=
  ⟨r.hd, by have := r.dp; show A.depth + 3 * k + 5 < _; omega, by have := r.un; show A.units + 1 + 16 * k + 200 < _; omega⟩
theorem make_depth {A : Around} {C : Addr} {us : List Value} {kw : List (Str × Value)} : (A.under (.builtin "type.__call__" ⟨.ref C :: us, kw⟩)).depth = A.depth + 1 := by
  first | rfl | simp [Around.under, Code.weight, Code.isCreation, Code.isGuard, Code.isCaller, Code.frames, Code.isFrame, guardIds]
theorem make_units {A : Around} {C : Addr} {us : List Value} {kw : List (Str × Value)} : (A.under (.builtin "type.__call__" ⟨.ref C :: us, kw⟩)).units = A.units + 1 := by
  first | rfl | simp [Around.under, Code.cUnits, Code.frames, Code.isFrame]
theorem Room.make {k : Nat} {A : Around} (r : Room (k + 1) A) (C : Addr) (us : List Value) (kw : List (Str × Value)) : Room k (A.under (.builtin "type.__call__" ⟨.ref C :: us, kw⟩)) :=
  ⟨r.hd, by have := r.dp; rw [make_depth]; omega, by have := r.un; rw [make_units]; omega⟩
theorem Room.depth {k : Nat} {A : Around} (r : Room k A) : A.depth < recursionLimit := by have := r.dp; omega
theorem Room.units {k : Nat} {A : Around} (r : Room k A) : A.units + 64 < cLine := by have := r.un; omega
/-! ### argument lists and displays -/
def tNil : TA := fun _ H Q => Q [] H
def tCons (ta : TE) (tr : TA) : TA := fun σ H Q => ta σ H fun x H1 => tr σ H1 fun xs H2 => Q (x :: xs) H2
section
variable {X : Cx} {e : Expr} {es : List Expr} {te : TE} {t : TA} {pos : Pos}
theorem pa_nil : PA X [] tNil := fun _ _ _ _ H Q I h => Calls.spliced_nil ⟨[], H, I, .nil, h⟩
theorem pa_cons (ha : PE X e te) (hr : PA X es t) (hs : starEach (e :: es) X.env = (false, eval e X.env) :: starEach es X.env := by rfl) : PA X (e :: es) (tCons te t) := by
  intro pos pins s σ H Q I h
  rw [hs]
  show wpAny _ _ (spliced ((false, eval e X.env) :: backTo pos (starEach es X.env))) _ _ s
  refine Calls.spliced_cons (thn (ha pins s σ H _ I h) fun u s1 ⟨x, H1, I1, r1, q1⟩ => ?_)
  exact thn (hr pos pins s1 σ H1 _ I1 q1) fun us s2 ⟨xs, H2, I2, r2, q2⟩ => ⟨x :: xs, H2, I2, .cons r1 r2, q2⟩

/-- a tuple, a list of written items -/
def tTup (t : TA) : TE := fun σ H Q => t σ H fun xs H1 => xs.length ≤ sizeLine ∧ ∀ p, H1 p = none → Q (.ref p) (upd H1 p (.tup xs))
def tLst (t : TA) : TE := fun σ H Q => t σ H fun xs H1 => xs.length ≤ sizeLine ∧ ∀ p, H1 p = none → Q (.ref p) (upd H1 p (.lst xs))
theorem pe_tup {x1} (h : PA X es t) : PE X (.Tuple es x1 pos) (tTup t) := by
  intro pins s σ H Q I hq
  refine wpAny_Tuple_spliced (thn (h pos pins s σ H _ I hq) fun us s1 ⟨xs, H1, I1, r, z, q⟩ => ⟨by rw [← r.length]; exact z, ?_⟩)
  have hf : H1 s1.heap.objs.size = none := I1.hok.fresh (Nat.le_refl _)
  refine ⟨.ref s1.heap.objs.size, upd H1 s1.heap.objs.size (.tup xs), I1.laid (t' := s1.toks) (fun b u e => Heap.get?_push_of_some _ e) (Nat.le_refl _) ?_, rfl, q _ hf⟩
  exact ⟨z, us, r, ⟨_, Heap.get?_push_size _ rfl, rfl, _, rfl⟩⟩
theorem pe_lst (h : PA X es t) : PE X (.List es pos) (tLst t) := by
  intro pins s σ H Q I hq
  refine wpAny_List_spliced (thn (h pos pins s σ H _ I hq) fun us s1 ⟨xs, H1, I1, r, z, q⟩ => ⟨by rw [← r.length]; exact z, ?_⟩)
  have hf : H1 s1.heap.objs.size = none := I1.hok.fresh (Nat.le_refl _)
  refine ⟨.ref s1.heap.objs.size, upd H1 s1.heap.objs.size (.lst xs), I1.laid (t' := s1.toks) (fun b u e => Heap.get?_push_of_some _ e) (Nat.le_refl _) ?_, rfl, q _ hf⟩
  exact ⟨z, us, 0, r, Heap.get?_push_size _ rfl⟩
end

/-! ### what a def promises -/
/-- a def's promise: the bound arguments in the parameters' order, the heap, the wanted end, the wanted exception -/
abbrev Sp := List V → Hp → VK → XK → Prop
/-- how an exception lies behind a call (file 08 gives it): the callers' frames, abstract heap and state ahead of the call, the wish, the exception, the state -/
abbrev CXT := List Env → Hp → Shared → XK → Value → Shared → Prop

/-- the state at a call -/
structure Env0 (P : Program) (w : World) (K : PySem.W.Frag) (mg : Str → Option Value) (base : Heap) (A : Around) (outer : List Env) (s : Shared) (H : Hp) : Prop where
  frames : A.frames = some outer
  mod : Mod K mg base
  bs : ∀ b o, base.get? b = some o → s.heap.get? b = some o ∧ H b = none
  bsz : base.objs.size ≤ s.heap.objs.size
  funs : s.heap.FunFrames base outer
  frf : ∀ b ∈ frs outer, H b = none
  hok : HOk P w H s.heap
  bare : AllBare s.gens
/-- a call's end -/
def CE (outer : List Env) (P : Program) (w : World) (H : Hp) (s : Shared) (Q : VK) (u : Value) (s' : Shared) : Prop :=
  ∃ v H', s'.os = s.os ∧ AllBare s'.gens ∧ Un (frs outer) [] H H' s.heap s'.heap ∧ HOk P w H' s'.heap ∧ RelV v u ∧ Q v H'
def CR (CX : CXT) (outer : List Env) (P : Program) (w : World) (H : Hp) (s : Shared) (Q : VK) (E : XK) (r : Result) (s' : Shared) : Prop :=
  match r with
  | .ok (.ret u) => CE outer P w H s Q u s'
  | .ok _ => False
  | .error e => CX outer H s E e s'
structure FnOk (P : Program) (w : World) (K : PySem.W.Frag) (mg : Str → Option Value) (base : Heap) (CX : CXT) (k : Nat) (f : Addr) (fd : FuncData) (ps : List Str) (sp : Sp) : Prop where
  len : ∀ vs H Q E, sp vs H Q E → vs.length = ps.length
  run : ∀ (A : Around) (outer : List Env) (s : Shared) (H : Hp) (args : Args) (us : List Value) (vs : List V) (Q : VK) (E : XK), Room k A → Env0 P w K mg base A outer s H → BindsTo s fd args (ps.zip us) → Vals vs us → sp vs H Q E →
    codeAny (model P w) A (.call (.ref f) args) (CR CX outer P w H s Q E) s
theorem FnOk.mono {P : Program} {w : World} {K : PySem.W.Frag} {mg : Str → Option Value} {base : Heap} {CX : CXT} {j k : Nat} {f : Addr} {fd : FuncData} {ps : List Str} {sp : Sp} (F : FnOk P w K mg base CX j f fd ps sp) (h : j ≤ k) :
    FnOk P w K mg base CX k f fd ps sp := ⟨F.len, fun A outer s H args us vs Q E hr => F.run A outer s H args us vs Q E (hr.mono h)⟩
/-- a weaker promise -/
theorem FnOk.imp {P : Program} {w : World} {K : PySem.W.Frag} {mg : Str → Option Value} {base : Heap} {CX : CXT} {k : Nat} {f : Addr} {fd : FuncData} {ps : List Str} {sp sp' : Sp} (F : FnOk P w K mg base CX k f fd ps sp)
    (h : ∀ vs H Q E, sp' vs H Q E → sp vs H Q E) : FnOk P w K mg base CX k f fd ps sp' :=
  ⟨fun vs H Q E q => F.len vs H Q E (h _ _ _ _ q), fun A outer s H args us vs Q E hr he hb hv hs => F.run A outer s H args us vs Q E hr he hb hv (h _ _ _ _ hs)⟩

theorem Env0.make {P : Program} {w : World} {K : PySem.W.Frag} {mg : Str → Option Value} {base : Heap} {A : Around} {outer : List Env} {s : Shared} {H : Hp} (e : Env0 P w K mg base A outer s H) (C : Addr) (us : List Value) (kw : List (Str × Value)) :
    Env0 P w K mg base (A.under (.builtin "type.__call__" ⟨.ref C :: us, kw⟩)) outer s H := ⟨by first | exact e.frames | (simpa [Around.under, Code.envs, Code.isFrame, pushEnvs] using e.frames), e.mod, e.bs, e.bsz, e.funs, e.frf, e.hok, e.bare⟩
theorem Env0.in1 {P : Program} {w : World} {K : PySem.W.Frag} {mg : Str → Option Value} {base : Heap} {A : Around} {outer : List Env} {s : Shared} {H : Hp} (e : Env0 P w K mg base A outer s H) :
    Env0 P w K mg base A.in1 outer s H := ⟨e.frames, e.mod, e.bs, e.bsz, e.funs, e.frf, e.hok, e.bare⟩

section
variable {X : Cx} {pins : List (Addr × Obj)} {σ : St} {H : Hp} {s s' : Shared}
/-- from a body: what a callee wants -/
theorem Inv.env0 (I : Inv X pins σ H s) : Env0 X.prog X.w X.K X.mg X.base X.A X.stack s H :=
  ⟨I.ok.frames, I.ok.mod, I.bs, Nat.le_trans I.ok.bsz I.sz, I.stack, I.stkFree, I.hok, I.bare⟩
/-- behind a call -/
theorem Inv.after {Q : VK} {u : Value} (I : Inv X pins σ H s) (h : CE X.stack X.prog X.w H s Q u s') : EP X pins σ Q u s' := by
  obtain ⟨v, H', os, bare, un, hok, r, q⟩ := h
  obtain ⟨hh, g, d, t, os'⟩ := s'
  obtain rfl : os' = s.os := os
  exact ⟨v, H', I.call (h' := hh) (g' := g) (d' := d) (t' := t) (ch := []) un hok bare (fun b z => absurd z (by simp)), r, q⟩
end

/-! ### calls -/
/-- f(..): the written arguments, then the defaults dvs; E: what is wanted of an exception -/
def tCall (sp : Sp) (dvs : List V) (E : XK) (t : TA) : TE := fun σ H Q => t σ H fun vs H1 => sp (vs ++ dvs) H1 Q E
/-- o.m(..) of an instance of the class at C -/
def tMeth (C : Addr) (m : Str) (sp : Sp) (dvs : List V) (E : XK) (ta : TE) (t : TA) : TE := fun σ H Q => ta σ H fun x H1 => ∃ a dx fs, x = .ref a ∧ H1 a = some (.ins C dx fs) ∧ fs.lookup m = none ∧
  t σ H1 fun vs H2 => sp (x :: (vs ++ dvs)) H2 Q E
/-- C(..): a new instance and its dict, then __init__ -/
def tMake (C : Addr) (sp : Sp) (dvs : List V) (E : XK) (t : TA) : TE := fun σ H Q => t σ H fun vs H1 => ∀ x dx, H1 x = none → H1 dx = none → dx ≠ x →
  sp (.ref x :: (vs ++ dvs)) (upd (upd H1 dx (.own x)) x (.ins C dx [])) (fun v H2 => v = .non ∧ Q (.ref x) H2) E

/-- how the parameters are bound: us the positional arguments, kw the keywords' values by name, ds the defaults that fill up -/
def Binds (K : PySem.W.Frag) (fd : FuncData) (ps : List Str) (ds : List Value) : Prop :=
  ∀ (s : Shared) (us : List Value), K.In s.heap → (us ++ ds).length = ps.length → BindsTo s fd ⟨us, []⟩ (ps.zip (us ++ ds))
/-- every parameter is given -/
theorem Binds.all {K : PySem.W.Frag} {fd : FuncData} {ps : List Str} (h : ∀ us : List Value, us.length = ps.length → bindArgs fd ⟨us, []⟩ = pure (ps.zip us)) : Binds K fd ps [] := fun s us _ hl => by
  rw [List.append_nil] at hl ⊢
  exact .of_eq (h us hl)

/-- an exception of a callee reaches what this body wants of exceptions -/
def Passes (CX : CXT) (X : Cx) (E : XK) : Prop := ∀ (pins : List (Addr × Obj)) (σ : St) (H : Hp) (s : Shared) (e : Value) (s' : Shared), Inv X pins σ H s → CX X.stack H s E e s' → X.xe e s'

section
variable {X : Cx} {CX : CXT} {k : Nat} {f C : Addr} {fd : FuncData} {ps : List Str} {sp : Sp} {dvs : List V} {ds : List Value} {E : XK} {x m : Str} {p pos apos : Pos} {e o : Expr} {es : List Expr} {ta : TE} {t : TA}

/-- the callee runs -/
theorem run_fn {pins : List (Addr × Obj)} {σ : St} {H : Hp} {s : Shared} {Q : VK} {us : List Value} {vs : List V} (F : FnOk X.prog X.w X.K X.mg X.base CX k f fd ps sp) (hr : Room k X.A) (hb : Binds X.K fd ps ds) (hd : Vals dvs ds) (hx : Passes CX X E)
    (I : Inv X pins σ H s) (r : Vals vs us) (h : sp (vs ++ dvs) H Q E) : wpAny (model X.prog X.w) X.A (call (.ref f) us) (EP X pins σ Q) X.xe s := by
  have r2 : Vals (vs ++ dvs) (us ++ ds) := r.append hd
  have hl : (us ++ ds).length = ps.length := by rw [← r2.length]; exact F.len _ _ _ _ h
  refine wpAny_call (codeAny_mono (F.run X.A X.stack s H ⟨us, []⟩ (us ++ ds) (vs ++ dvs) Q E hr I.env0 (hb s us I.kIn hl) r2 h) fun r s' hq => ?_)
  cases r with
  | error e => exact hx pins σ H s e s' I hq
  | ok fl =>
    cases fl with
    | ret u => exact I.after hq
    | next => exact False.elim hq
    | brk => exact False.elim hq
    | cont => exact False.elim hq

theorem pe_call (F : FnOk X.prog X.w X.K X.mg X.base CX k f fd ps sp) (hr : Room k X.A) (hg : Gl X x) (hm : X.mg x = some (.ref f)) (hk : PySem.W.keepIn X.K (.ref f) = true) (hb : Binds X.K fd ps ds) (hd : Vals dvs ds) (hx : Passes CX X E)
    (ha : PA X (e :: es) t) (hdb : (x == ("__debug__" : Str)) = false := by decide) (he : starEach (e :: es) X.env = (false, eval e X.env) :: starEach es X.env := by rfl) (hpl : (backTo pos (starEach es X.env)).any (·.1) = false := by rfl) :
    PE X (.Call (.Name x p) (e :: es) [] pos) (tCall sp dvs E t) := by
  intro pins s σ H Q I h
  refine wpAny_Call_Name_kw (ld_glob I hg hm ?_ hdb)
  refine PySem.W.callWith_K (h₀ := X.base) I.ok.mod.kin hk (thn (ha pos pins s σ H _ I h) fun us s1 ⟨vs, H1, I1, r, q⟩ => ⟨I1.kIn, ?_⟩) he hpl
  exact run_fn F hr hb hd hx I1 r q
/-- o.m() -/
theorem pe_meth0 {pl : Sem Bool} (he : PE X o ta) (c : Cls X.K C) (hm : Meth X.K C m f) (F : FnOk X.prog X.w X.K X.mg X.base CX k f fd ps sp) (hr : Room k X.A) (hb : Binds X.K fd ps ds) (hd : Vals dvs ds) (hx : Passes CX X E)
    (ht : eval (.Call (.Attribute o m apos) [] [] pos) X.env = (do
      let ov ← eval o X.env
      standAt apos.atName
      let (f, first) ← holding [ov] (getMethod ov m pl)
      callWith pos f first (backTo pos (starEach [] X.env)) (backToKw pos (keywordEach [] X.env))) := by rfl) :
    PE X (.Call (.Attribute o m apos) [] [] pos) (tMeth C m sp dvs E ta tNil) := by
  intro pins s σ H Q I h
  refine PySem.W.methodCall_KW (pl := pl) (thn (he pins s σ H _ I h) fun u s1 ⟨x, H1, I1, rx, a, dx, fs, ex, ea, l, q⟩ => ?_) ht
  subst ex
  obtain rfl : u = Value.ref a := rx
  refine getmeth_ok I1 ea c hm l ?_
  exact PySem.W.callWith_K0 (first := [.ref a]) I1.kIn hm.kp (run_fn (us := [.ref a]) (vs := [.ref a]) F hr hb hd hx I1 (.cons rfl .nil) q)

/-- what a class must have to be made -/
structure Mk (K : PySem.W.Frag) (C f : Addr) : Prop where
  makes : PySem.W.makesIn K C = true
  init : PySem.W.findIn K (.ref C) "__init__" = some (some (.ref f))
  fn : PySem.W.isFn K (.ref f) = true
  kp : PySem.W.keepIn K (.ref C) = true

theorem run_make {pins : List (Addr × Obj)} {σ : St} {H : Hp} {s : Shared} {Q : VK} {us : List Value} {vs : List V} (M : Mk X.K C f) (F : FnOk X.prog X.w X.K X.mg X.base CX k f fd ps sp) (hr : Room (k + 1) X.A) (hb : Binds X.K fd ps ds) (hd : Vals dvs ds)
    (hx : Passes CX X E) (I : Inv X pins σ H s) (r : Vals vs us)
    (h : ∀ x dx, H x = none → H dx = none → dx ≠ x → sp (.ref x :: (vs ++ dvs)) (upd (upd H dx (.own x)) x (.ins C dx [])) (fun v H2 => v = .non ∧ Q (.ref x) H2) E) :
    wpAny (model X.prog X.w) X.A (call (.ref C) us) (EP X pins σ Q) X.xe s := by
  have hq := h (s.heap.objs.size + 1) s.heap.objs.size (I.hok.fresh (Nat.le_succ _)) (I.hok.fresh (Nat.le_refl _)) (Nat.ne_of_lt (Nat.lt_succ_self _))
  have I2 := Inv.made (C := C) I
  have r2 : Vals (V.ref (s.heap.objs.size + 1) :: (vs ++ dvs)) (Value.ref (s.heap.objs.size + 1) :: (us ++ ds)) := .cons rfl (r.append hd)
  have hl : (Value.ref (s.heap.objs.size + 1) :: us ++ ds).length = ps.length := by
    have e := r2.length
    rw [F.len _ _ _ _ hq] at e
    exact e.symm
  refine wpAny_call (make_map (f := f) I.kIn M.makes M.init (beq_iff_eq.mp M.fn) (codeAny_mono (F.run _ X.stack _ _ ⟨Value.ref (s.heap.objs.size + 1) :: us, []⟩ (Value.ref (s.heap.objs.size + 1) :: (us ++ ds)) _ _ E (hr.make C us [])
    (I2.env0.make C us []) (hb _ (Value.ref (s.heap.objs.size + 1) :: us) I2.kIn hl) r2 hq) fun r s' hq' => ?_))
  cases r with
  | error e => exact hx pins σ _ _ e s' I2 hq'
  | ok fl =>
    cases fl with
    | ret u =>
      obtain ⟨v, H', I3, rv, ev, q3⟩ := I2.after hq'
      subst ev
      exact ⟨rv, ⟨V.ref (s.heap.objs.size + 1), H', I3, rfl, q3⟩⟩
    | next => exact False.elim hq'
    | brk => exact False.elim hq'
    | cont => exact False.elim hq'
theorem pe_make (M : Mk X.K C f) (F : FnOk X.prog X.w X.K X.mg X.base CX k f fd ps sp) (hr : Room (k + 1) X.A) (hg : Gl X x) (hm : X.mg x = some (.ref C)) (hb : Binds X.K fd ps ds) (hd : Vals dvs ds) (hx : Passes CX X E)
    (ha : PA X (e :: es) t) (hdb : (x == ("__debug__" : Str)) = false := by decide) (he : starEach (e :: es) X.env = (false, eval e X.env) :: starEach es X.env := by rfl) (hpl : (backTo pos (starEach es X.env)).any (·.1) = false := by rfl) :
    PE X (.Call (.Name x p) (e :: es) [] pos) (tMake C sp dvs E t) := by
  intro pins s σ H Q I h
  refine wpAny_Call_Name_kw (ld_glob I hg hm ?_ hdb)
  refine PySem.W.callWith_K (h₀ := X.base) I.ok.mod.kin M.kp (thn (ha pos pins s σ H _ I h) fun us s1 ⟨vs, H1, I1, r, q⟩ => ⟨I1.kIn, ?_⟩) he hpl
  exact run_make M F hr hb hd hx I1 r q
end

/-! ### keywords -/
/-- the values of the keywords, from the left -/
def PK (X : Cx) (kws : List Keyword) (t : TA) : Prop :=
  ∀ (pos : Pos) (pins : List (Addr × Obj)) (s : Shared) (σ : St) (H : Hp) (Q : List V → Hp → Prop), Inv X pins σ H s → t σ H Q → wpAny (model X.prog X.w) X.A (evalAll ((backToKw pos (keywordEach kws X.env)).map (·.2))) (AP X pins σ Q) X.xe s
section
variable {X : Cx} {CX : CXT} {k : Nat} {f C : Addr} {fd : FuncData} {ps ks : List Str} {sp : Sp} {E : XK} {x m : Str} {p pos apos kpos : Pos} {e o : Expr} {es : List Expr} {kws : List Keyword} {te ta : TE} {t tk : TA} {nm : Option Str}
theorem pk_nil : PK X [] tNil := fun _ _ _ _ H Q I h => wpAny_evalAll_nil ⟨[], H, I, .nil, h⟩
theorem pk_cons (ha : PE X e te) (hr : PK X kws t) : PK X (⟨nm, e, kpos⟩ :: kws) (tCons te t) := by
  intro pos pins s σ H Q I h
  show wpAny _ _ (evalAll ((do let v ← eval e X.env; standAt pos; pure v) :: (backToKw pos (keywordEach kws X.env)).map (·.2))) _ _ s
  refine wpAny_evalAll_cons (wpAny_bind (thn (ha pins s σ H _ I h) fun u s1 ⟨x, H1, I1, r1, q1⟩ => wpAny_bind (wpAny_standAt (wpAny_pure ?_))))
  exact thn (hr pos pins s1 σ H1 _ I1 q1) fun us s2 ⟨xs, H2, I2, r2, q2⟩ => ⟨x :: xs, H2, I2, .cons r1 r2, q2⟩

/-- how a call with keywords binds: g puts the positional values us and the keywords' values ws (names ks) in the parameters' order, defaults among them -/
structure KBinds (K : PySem.W.Frag) (fd : FuncData) (ps ks : List Str) (g : List Value → List Value → List Value) (gV : List V → List V → List V) : Prop where
  to : ∀ (s : Shared) (us ws : List Value), K.In s.heap → (g us ws).length = ps.length → BindsTo s fd ⟨us, ks.zip ws⟩ (ps.zip (g us ws))
  rel : ∀ {vs : List V} {us : List Value} {zs : List V} {ws : List Value}, Vals vs us → Vals zs ws → Vals (gV vs zs) (g us ws)
def tCallK (sp : Sp) (gV : List V → List V → List V) (E : XK) (t tk : TA) : TE := fun σ H Q => t σ H fun vs H1 => tk σ H1 fun zs H2 => sp (gV vs zs) H2 Q E
variable {g : List Value → List Value → List Value} {gV : List V → List V → List V}
end

/-! ### a def's body keeps its promise -/
/-- names: the parameters first -/
structure FnScope (N P : List Str) (sc : Scope) : Prop where
  kind : sc.kind = .function
  co : sc.isCoroutine = false
  gen : sc.isGenerator = false
  nd : N.Nodup
  pre : N.take P.length = P
  par : ∀ x ∈ P, sc.names.lookup x = some .local ∨ sc.names.lookup x = some .cell
  nofree : ∀ y ∈ sc.names, y.2 ≠ .free

theorem bindL_out {kindOf : Str → Option NameKind} {x : Str} : ∀ {binds : List (Str × Value)} {m : Str → Option Value}, (∀ v, (x, v) ∉ binds) → bindL kindOf binds m x = m x
  | [], _, _ => rfl
  | (n, v) :: r, m, h => by
    unfold bindL
    rw [bindL_out fun w hw => h w (List.mem_cons_of_mem _ hw)]
    split
    · have : x ≠ n := by rintro rfl; exact h v List.mem_cons_self
      simp [this]
    · rfl
theorem bindC_out {kindOf : Str → Option NameKind} {x : Str} : ∀ {binds : List (Str × Value)} {m : Str → Option Value}, (∀ v, (x, v) ∉ binds) → bindC kindOf binds m x = m x
  | [], _, _ => rfl
  | (n, v) :: r, m, h => by
    unfold bindC
    rw [bindC_out fun w hw => h w (List.mem_cons_of_mem _ hw)]
    split
    · rfl
    · have : x ≠ n := by rintro rfl; exact h v List.mem_cons_self
      simp [this]
theorem bindL_get {kindOf : Str → Option NameKind} {x : Str} {v : Value} : ∀ {P : List Str} {vs : List Value} {i : Nat} {m : Str → Option Value}, P.Nodup → P[i]? = some x → vs[i]? = some v → kindOf x = some .local →
    bindL kindOf (P.zip vs) m x = some v
  | [], _, _, _, _, h, _, _ => by simp at h
  | _ :: _, [], _, _, _, _, h, _ => by simp at h
  | p :: P, w :: vs, 0, m, nd, h1, h2, hk => by
    simp at h1 h2; subst h1; subst h2
    show bindL kindOf ((p, w) :: P.zip vs) m p = _
    unfold bindL
    rw [bindL_out fun v hv => (List.nodup_cons.mp nd).1 (List.of_mem_zip hv).1, if_pos hk]
    simp
  | p :: P, w :: vs, i + 1, m, nd, h1, h2, hk => by
    show bindL kindOf ((p, w) :: P.zip vs) m x = _
    unfold bindL
    exact bindL_get (i := i) (List.nodup_cons.mp nd).2 (by simpa using h1) (by simpa using h2) hk
theorem bindC_get {kindOf : Str → Option NameKind} {x : Str} {v : Value} : ∀ {P : List Str} {vs : List Value} {i : Nat} {m : Str → Option Value}, P.Nodup → P[i]? = some x → vs[i]? = some v → kindOf x ≠ some .local →
    bindC kindOf (P.zip vs) m x = some v
  | [], _, _, _, _, h, _, _ => by simp at h
  | _ :: _, [], _, _, _, _, h, _ => by simp at h
  | p :: P, w :: vs, 0, m, nd, h1, h2, hk => by
    simp at h1 h2; subst h1; subst h2
    show bindC kindOf ((p, w) :: P.zip vs) m p = _
    unfold bindC
    rw [bindC_out fun v hv => (List.nodup_cons.mp nd).1 (List.of_mem_zip hv).1, if_neg hk]
    simp
  | p :: P, w :: vs, i + 1, m, nd, h1, h2, hk => by
    show bindC kindOf ((p, w) :: P.zip vs) m x = _
    unfold bindC
    exact bindC_get (i := i) (List.nodup_cons.mp nd).2 (by simpa using h1) (by simpa using h2) hk

/-- the names' values at the entry -/
def start (N : List Str) (vs : List V) : St := vs.map some ++ List.replicate (N.length - vs.length) none

/-- the context of a def's body, at its entry; an exception leaves the frame, then lies as CX says -/
def cxOf (CX : CXT) (P : Program) (w : World) (K : PySem.W.Frag) (mg : Str → Option Value) (base : Heap) (N : List Str) (qual : Str) (scope : Scope) (f : Addr) (cd : Value) (A : Around) (outer : List Env) (s : Shared) (H : Hp) (E : XK) : Cx where
  prog := P
  w := w
  K := K
  mg := mg
  base := base
  A := A.deeper (envOfC qual scope s.heap.objs.size f cd)
  N := N
  s_0 := s
  H_0 := H
  env := envOfC qual scope s.heap.objs.size f cd
  outer := outer
  stack := envOfC qual scope s.heap.objs.size f cd :: outer
  ex := []
  calm := true
  fn := fun _ => true
  pn := []
  xe := fun e s' => wpAny (model P w) (A.deeper (envOfC qual scope s.heap.objs.size f cd)) (leaving (envOfC qual scope s.heap.objs.size f cd) e) (fun _ s'' => CX outer H s E e s'') (fun e' s'' => CX outer H s E e' s'') s'

theorem cell_has {sc : Scope} {n : Nat} {x : Str} (h : sc.names.lookup x = some .cell) : ∃ c, (cellsFrom n sc.names []).lookup x = some c := by
  have q := PySem.W.cellsFrom_some sc.names n [] (.inl h)
  exact Option.isSome_iff_exists.mp q

theorem inv_start {CX : CXT} {P : Program} {w : World} {K : PySem.W.Frag} {mg : Str → Option Value} {base : Heap} {N ps : List Str} {qual : Str} {scope : Scope} {f : Addr} {cd : Value} {A : Around} {outer : List Env} {s s1 : Shared} {H : Hp} {E : XK} {us : List Value} {vs : List V}
    (S : FnScope N ps scope) (hd : A.handled = none) (e0 : Env0 P w K mg base A outer s H) (hl : vs.length = ps.length) (r : Vals vs us)
    (x : InCallC s s.heap.objs.size (bindL (envOfC qual scope s.heap.objs.size f cd).kindOf (ps.zip us) fun _ => none) (cellsFrom (s.heap.objs.size + 1) scope.names []) (bindC (envOfC qual scope s.heap.objs.size f cd).kindOf (ps.zip us) fun _ => none) s1) :
    Inv (cxOf CX P w K mg base N qual scope f cd A outer s H E) [] (start N vs) H s1 := by
  have hpl : ps.length ≤ N.length := by have := congrArg List.length S.pre; rw [List.length_take] at this; omega
  obtain ⟨h1, tk, rfl, hk⟩ := x.done
  have noA : ∀ b : Addr, b ∉ (cxOf CX P w K mg base N qual scope f cd A outer s H E).ex := fun b z => absurd (show b ∈ ([] : List Addr) from z) (by simp)
  refine ⟨⟨e0.mod, S.kind, rfl, rfl, Nat.le_refl _, fun y z c h1 h2 => ?_, fun y hy => ?_, fun y c _ h => ?_, fun _ => hd, Around.frames_deeper e0.frames, .inr ⟨rfl, rfl⟩, fun b z => absurd z (noA b), e0.bs, e0.bsz, fun b _ _ => noA b, fun b z => absurd z (noA b), e0.funs, e0.frf, fun _ _ _ _ _ z => absurd z List.not_mem_nil⟩,
    rfl, e0.bare, Un.kept hk, ⟨_, x.toInCall.ns, fun i y v h1 h2 h3 => ?_⟩, fun y c h => ⟨_, x.cell y c h⟩, e0.hok.fresh (Nat.le_refl _), fun y c h _ => ?_, fun _ z => absurd z List.not_mem_nil, fun p hp => absurd (show p ∈ ([] : List (Addr × Obj)) from hp) (by simp), e0.hok.kept hk, ?_⟩
  · exact name_of_addr x.apart (PySem.mem_of_lookup h1) (PySem.mem_of_lookup h2)
  · have hy : scope.names.lookup y = some .cell ∨ scope.names.lookup y = some .free := hy
    rcases hy with hy | hy
    · exact cell_has hy
    · exact absurd rfl (S.nofree _ (PySem.mem_of_lookup hy))
  · exact Nat.le_of_lt (x.above y c (PySem.mem_of_lookup h))
  · have hi : i < vs.length := by
      unfold start at h2
      by_cases hi : i < vs.length
      · exact hi
      · rw [List.getElem?_append_right (by simpa using hi)] at h2
        rw [List.getElem?_replicate] at h2
        split at h2 <;> cases h2
    have ha : vs[i]? = some v := by
      unfold start at h2
      rw [List.getElem?_append_left (by simpa using hi), List.getElem?_map] at h2
      cases e : vs[i]? with
      | none => rw [e] at h2; cases h2
      | some a => rw [e] at h2; cases h2; rfl
    obtain ⟨u, hu, rv⟩ := r.get ha
    have hp : ps[i]? = some y := by
      rw [← S.pre, List.getElem?_take_of_lt (by omega)]; exact h1
    have ndP : ps.Nodup := by rw [← S.pre]; exact S.nd.sublist (List.take_sublist _ _)
    refine ⟨u, rv, ?_⟩
    rcases S.par y (List.mem_of_getElem? hp) with k | k
    · exact .inl ⟨k, bindL_get ndP hp hu k⟩
    · obtain ⟨c, e⟩ := cell_has (n := s.heap.objs.size + 1) k
      refine .inr ⟨.inl k, c, e, ?_⟩
      have q := x.cell y c e
      rw [bindC_get ndP hp hu (by show scope.names.lookup y ≠ _; rw [k]; decide)] at q
      exact q
  · exact e0.hok.fresh (Nat.le_of_lt (x.above y c (PySem.mem_of_lookup h)))
  · unfold start
    show _ = N.length
    rw [List.length_append, List.length_map, List.length_replicate]
    omega

/-- THE RULE: a def (or a method) of the text, by its body. The body's reading t is chosen for each entry; it is run at the parameters' values -/
theorem fn_of {CX : CXT} {P : Program} {w : World} {K : PySem.W.Frag} {mg : Str → Option Value} {base : Heap} {k : Nat} {f : Addr} {name qual : Str} {params : Arguments} {body : List Stmt} {scope : Scope} {dV kV doc pm cdv ct oc : Value} {an od : Option Addr}
    {osl : Array (Option Value)} {N ps : List Str} {sp : Sp} (lk : K.lookup f = some ⟨oc, od, .func (PySem.W.fnOf name qual params body scope dV kV doc pm an cdv ct), osl⟩) (hcd : PySem.W.codeIn K cdv qual = true) (S : FnScope N ps scope)
    (len : ∀ vs H Q E, sp vs H Q E → vs.length = ps.length)
    (hbody : ∀ (A : Around) (outer : List Env) (s : Shared) (H : Hp) (vs : List V) (Q : VK) (E : XK), Room k (A.deeper (envOfC qual scope s.heap.objs.size f cdv)) → sp vs H Q E →
      ∃ t, PSs (cxOf CX P w K mg base N qual scope f cdv A outer s H E) body t ∧ t { nx := fun _ H' => Q .non H', rt := Q } (start N vs) H) :
    FnOk P w K mg base CX (k + 1) f (PySem.W.fnOf name qual params body scope dV kV doc pm an cdv ct) ps sp := by
  refine ⟨len, fun A outer s H args us vs Q E hr e0 hb r hsp => ?_⟩
  have hl := len _ _ _ _ hsp
  have KX : K.In s.heap := e0.mod.kin.keeps fun b o e => (e0.bs b o e).1
  have lim : s.heap.NoLimit := e0.mod.nolimit.keeps fun b o e => (e0.bs b o e).1
  have hkind : ∀ y ∈ ps.zip us, scope.names.lookup y.1 = some .local ∨ (scope.names.lookup y.1 = some .cell ∧ ((cellsFrom (s.heap.objs.size + 1) scope.names []).lookup y.1).isSome = true) := fun ⟨n, v⟩ hy => by
    rcases S.par n (List.of_mem_zip hy).1 with q | q
    · exact .inl q
    · exact .inr ⟨q, PySem.W.cellsFrom_some _ _ _ (.inl q)⟩
  refine codeAny_call_function hr.depth (KX _ _ lk) rfl S.co S.gen rfl (PySem.W.codeRec_of KX hcd) (hb _ _ _ _ ?_)
  refine wpAny_newFunctionEnv_cells S.kind hkind fun env he s1 x => ?_
  subst he
  refine ⟨lim.keeps x.toInCall.keep, codeAny_func ?_⟩
  obtain ⟨t, ht, hq⟩ := hbody A outer s H vs Q E (hr.deeper _) hsp
  have I : Inv (cxOf CX P w K mg base N qual scope f cdv A outer s H E) [] (start N vs) H s1 := inv_start S hr.hd e0 hl r x
  refine wpAny_mono (ht [] s1 (start N vs) H _ I hq) (fun fl s' hs => ?_) fun e s' hs => hs
  have fin : ∀ {σ' : St} {H' : Hp} {v : V} {u : Value}, Inv (cxOf CX P w K mg base N qual scope f cdv A outer s H E) [] σ' H' s' → RelV v u → Q v H' → CE outer P w H s Q u s' :=
    fun {σ' H' v u} J rv q => ⟨v, H', J.os, J.bare, J.base, J.hok, rv, q⟩
  cases fl with
  | ret u =>
    obtain ⟨v, σ', H', J, rv, q⟩ := hs
    exact fin J rv q
  | next =>
    obtain ⟨σ', H', J, q⟩ := hs
    exact fin (v := V.non) (u := Value.none) J rfl q
  | brk =>
    obtain ⟨_, _, _, q⟩ := hs
    exact False.elim q
  | cont =>
    obtain ⟨_, _, _, q⟩ := hs
    exact False.elim q
end L2

namespace L2
open PySem PySem.Spec PyProof.Rows
section
variable {X : Cx} {x : Str} {p pos : Pos} {e : Expr} {es : List Expr} {t : TA} {id T : String} {r : List V → Hp → VK → Prop}

def tCB (r : List V → Hp → VK → Prop) (t : TA) : TE := fun σ H Q => t σ H fun vs H1 => r vs H1 Q
/-- f(e, ..), f a built-in function -/
theorem pe_callB (hc : CallR X (.builtin id) r) (hg : Gl X x) (hm : X.mg x = none) (hv : bootBuiltins x = some (.builtin id)) (ha : PA X (e :: es) t) (hn : x ≠ "__name__" := by decide) (hdb : (x == ("__debug__" : Str)) = false := by decide)
    (he : starEach (e :: es) X.env = (false, eval e X.env) :: starEach es X.env := by rfl) (hpl : (backTo pos (starEach es X.env)).any (·.1) = false := by rfl) : PE X (.Call (.Name x p) (e :: es) [] pos) (tCB r t) := by
  intro pins s σ H Q I h
  refine wpAny_Call_Name_kw (ld_blt I hg hm hv ?_ hn hdb)
  exact PyProof.Rows.callWith_builtin1 (thn (ha pos pins s σ H _ I h) fun us s1 ⟨vs, H1, I1, r1, q1⟩ => hc pins s1 σ H1 vs us Q I1 r1 q1) he hpl
/-- T(e, ..), T a built-in type -/
theorem pe_callTy (hc : CallR X (.type T) r) (hg : Gl X x) (hm : X.mg x = none) (hv : bootBuiltins x = some (.type T)) (ha : PA X (e :: es) t) (hn : x ≠ "__name__" := by decide) (hdb : (x == ("__debug__" : Str)) = false := by decide)
    (he : starEach (e :: es) X.env = (false, eval e X.env) :: starEach es X.env := by rfl) (hpl : (backTo pos (starEach es X.env)).any (·.1) = false := by rfl) : PE X (.Call (.Name x p) (e :: es) [] pos) (tCB r t) := by
  intro pins s σ H Q I h
  refine wpAny_Call_Name_kw (ld_blt I hg hm hv ?_ hn hdb)
  exact PyProof.Rows.callWith_type1 (thn (ha pos pins s σ H _ I h) fun us s1 ⟨vs, H1, I1, r1, q1⟩ => hc pins s1 σ H1 vs us Q I1 r1 q1) he hpl
end
end L2

namespace HT
open PySem PyProof.Rows

/-- t < u of tuples of ints -/
def lexLt : List Int → List Int → Bool
  | [], [] => false
  | [], _ :: _ => true
  | _ :: _, [] => false
  | x :: xs, y :: ys => if x = y then lexLt xs ys else decide (x < y)
section
open PySem.SeqAt
open PySem.AutoSeq1 (wpAny_loadPart')
open PySem.MeetsSeq PySem.MeetsSeq2 PySem.MeetsSeq3

end

section
variable {prog : Program} {w : World} {A : Around} {E : Value → Shared → Prop} {s : Shared}

/-! ### t[a:b], not the whole -/
/-- a slice's bound as a place among n (d where it is left out) -/
def sIx (n d : Nat) : Option Int → Nat
  | none => d
  | some v => if v < 0 then (v + (n : Int)).toNat else min v.toNat n
theorem sIx_none (n d : Nat) : sIx n d none = d := rfl
theorem sIx_nat (n d k : Nat) : sIx n d (some (k : Int)) = min k n := by
  show (if (k : Int) < 0 then ((k : Int) + (n : Int)).toNat else min (k : Int).toNat n) = min k n
  rw [if_neg (by omega), Int.toNat_natCast]
end
end HT

namespace L2
open PySem PySem.Spec PyProof.Rows

/-! ### the parts of a slice -/
abbrev TO := St → Hp → (Option Int → Hp → Prop) → Prop
/-- a slice's part (left out, or an int) -/
def PO (X : Cx) (e : Option Expr) (t : TO) : Prop :=
  ∀ (pins : List (Addr × Obj)) (s : Shared) (σ : St) (H : Hp) (Q : Option Int → Hp → Prop), Inv X pins σ H s → t σ H Q →
    wpAny (model X.prog X.w) X.A (evalPart e X.env) (fun u s' => ∃ o H', Inv X pins σ H' s' ∧ IsPart u o ∧ Q o H') X.xe s
def tNoPart : TO := fun _ H Q => Q none H
def tPart (t : TE) : TO := fun σ H Q => t σ H fun x H1 => ∃ i, x = .int i ∧ Q (some i) H1

section
variable {X : Cx} {e : Expr} {te : TE} {lo hi : Option Expr} {tl th : TO} {pos p2 : Pos}

theorem po_none : PO X none tNoPart := by
  intro pins s σ H Q I h
  rw [evalPart_none]
  exact wpAny_pure ⟨none, H, I, .none, h⟩
theorem po_some (h : PE X e te) : PO X (some e) (tPart te) := by
  intro pins s σ H Q I hw
  rw [evalPart_some]
  refine thn (h pins s σ H _ I hw) fun u s1 ⟨x, H1, I1, r1, q1⟩ => ?_
  obtain ⟨i, rfl, q⟩ := q1
  obtain ⟨t, rfl⟩ := r1
  exact ⟨some i, H1, I1, .int i t, q⟩

/-- what a slice of a value is, by values: the slice object stands at sl -/
def SlR (X : Cx) (r : V → Option Int → Option Int → Hp → VK → Prop) : Prop :=
  ∀ (pins : List (Addr × Obj)) (s : Shared) (σ : St) (H : Hp) (x : V) (v vl vu : Value) (lo hi : Option Int) (sl : Addr) (Q : VK), Inv X pins σ H s → RelV x v → s.heap.IsSliceOf sl vl vu .none → IsPart vl lo → IsPart vu hi → r x lo hi H Q →
    ∃ T id, typeLookup (.type T) "__getitem__" = pure (some (.builtin id)) ∧ s.TypeIs v T ∧ wpAny (model X.prog X.w) X.A (getItem v (.ref sl)) (EP X pins σ Q) X.xe s
theorem SlR.or {r r' : V → Option Int → Option Int → Hp → VK → Prop} (h : SlR X r) (h' : SlR X r') : SlR X (fun x lo hi H Q => r x lo hi H Q ∨ r' x lo hi H Q) := by
  intro pins s σ H x v vl vu lo hi sl Q I rx hs pl pu q
  rcases q with q | q
  · exact h pins s σ H x v vl vu lo hi sl Q I rx hs pl pu q
  · exact h' pins s σ H x v vl vu lo hi sl Q I rx hs pl pu q
def tSl (r : V → Option Int → Option Int → Hp → VK → Prop) (te : TE) (tl th : TO) : TE := fun σ H Q => te σ H fun x H1 => tl σ H1 fun l H2 => th σ H2 fun u H3 => r x l u H3 Q
/-- a[lo:hi], any a -/
theorem pe_slice {r : V → Option Int → Option Int → Hp → VK → Prop} (hr : SlR X r) (he : PE X e te) (hl : PO X lo tl) (hu : PO X hi th) : PE X (.Subscript e (.Slice lo hi none p2) pos) (tSl r te tl th) := by
  intro pins s σ H Q I h
  refine Subscript_ (thn (he pins s σ H _ I h) fun v s1 ⟨x, H1, I1, r1, q1⟩ => ?_)
  refine wpAny_Slice (thn (hl pins s1 σ H1 _ I1 q1) fun vl s2 ⟨l, H2, I2, pl, q2⟩ => thn (hu pins s2 σ H2 _ I2 q2) fun vu s3 ⟨u, H3, I3, pu, q3⟩ => ?_)
  rw [evalPart_none]
  refine wpAny_pure ?_
  have I4 : Inv X pins σ H3 { s3 with heap := s3.heap.push { cls := .type "slice", data := .fields #[vl, vu, .none] } } := I3.kept (t' := s3.toks) fun b ob q => Heap.get?_push_of_some _ q
  obtain ⟨T, id, hT, ht, hg⟩ := hr pins { s3 with heap := s3.heap.push { cls := .type "slice", data := .fields #[vl, vu, .none] } } σ H3 x v vl vu l u s3.heap.objs.size Q I4 r1 (Heap.IsSliceOf.new ..) pl pu q3
  show wpAny (model X.prog X.w) X.A (subscriptTail e (.Slice lo hi none p2) v (.ref s3.heap.objs.size)) (EP X pins σ Q) X.xe { s3 with heap := s3.heap.push { cls := .type "slice", data := .fields #[vl, vu, .none] } }
  exact tail_any (ops := [.ref s3.heap.objs.size, v]) ht hT hg (by with_unfolding_all rfl)

/-- the items of xs[lo:hi] -/
def cutV (xs : List V) (lo hi : Option Int) : List V := (xs.drop (HT.sIx xs.length 0 lo)).take (HT.sIx xs.length xs.length hi - HT.sIx xs.length 0 lo)
theorem cutV_length (xs : List V) (lo hi : Option Int) : (cutV xs lo hi).length ≤ xs.length := by
  unfold cutV
  rw [List.length_take, List.length_drop]
  omega
/-- t[lo:hi], not the whole of it (the whole would be t itself) -/
def rSlT (K : PySem.W.Frag) : V → Option Int → Option Int → Hp → VK → Prop := fun x lo hi H Q => ∃ a xs, x = .ref a ∧ SqT K H a xs ∧
  ¬ (HT.sIx xs.length 0 lo = 0 ∧ HT.sIx xs.length xs.length hi = xs.length) ∧ ∀ p, H p = none → Q (.ref p) (upd H p (.tup (cutV xs lo hi)))
/-! ### t < u, t + u -/
def rLtT (K : PySem.W.Frag) : R2 := fun x y H Q => ∃ a b ns ms, x = .ref a ∧ y = .ref b ∧ SqT K H a (ns.map V.int) ∧ SqT K H b (ms.map V.int) ∧ Q (.bl (HT.lexLt ns ms)) H
/-- t + u, t not empty: u empty gives t itself -/
def rCatT (K : PySem.W.Frag) : R2 := fun x y H Q => ∃ a b xs ys, x = .ref a ∧ y = .ref b ∧ SqT K H a xs ∧ SqT K H b ys ∧ xs ≠ [] ∧ xs.length + ys.length ≤ sizeLine ∧
  (ys = [] → Q (.ref a) H) ∧ (ys ≠ [] → ∀ p, H p = none → Q (.ref p) (upd H p (.tup (xs ++ ys))))
end
end L2

namespace L2
open PySem PySem.Spec PyProof.Rows

/-! ### places -/
/-- the place that an index of any sign means -/
def ixN (n : Nat) (i : Int) : Option Nat := if 0 ≤ i then (if i < n then some i.toNat else none) else if -(n : Int) ≤ i then some (i + n).toNat else none
def atI {α : Type} (xs : List α) (i : Int) : Option α := (ixN xs.length i).bind fun j => xs[j]?
theorem ixN_seq {n : Nat} {i : Int} {j : Nat} (h : ixN n i = some j) : seqIndex? i n = some j ∧ j < n ∧ -(n : Int) ≤ i ∧ i < n := by
  unfold ixN at h
  by_cases h0 : 0 ≤ i
  · rw [if_pos h0] at h
    by_cases h1 : i < n
    · rw [if_pos h1] at h
      have e : i.toNat = j := Option.some.inj h
      exact ⟨by rw [seqIndex_of h0 h1, e], by omega, by omega, h1⟩
    · rw [if_neg h1] at h; cases h
  · rw [if_neg h0] at h
    by_cases h1 : -(n : Int) ≤ i
    · rw [if_pos h1] at h
      have e : (i + n).toNat = j := Option.some.inj h
      exact ⟨by rw [seqIndex_neg (by omega) h1, e], by omega, h1, by omega⟩
    · rw [if_neg h1] at h; cases h
theorem atI_get {α : Type} {xs : List α} {i : Int} {v : α} (h : atI xs i = some v) : ∃ j, seqIndex? i xs.length = some j ∧ xs[j]? = some v ∧ j < xs.length ∧ -(xs.length : Int) ≤ i ∧ i < xs.length := by
  unfold atI at h
  cases e : ixN xs.length i with
  | none => rw [e] at h; cases h
  | some j =>
    rw [e] at h
    obtain ⟨h1, h2, h3, h4⟩ := ixN_seq e
    exact ⟨j, h1, h, h2, h3, h4⟩
theorem atI_nat {α : Type} {xs : List α} {j : Nat} {v : α} (h : xs[j]? = some v) : atI xs (j : Int) = some v := by
  have hj : j < xs.length := (List.getElem?_eq_some_iff.mp h).1
  have e : ixN xs.length (j : Int) = some j := by
    unfold ixN
    rw [if_pos (by omega), if_pos (by omega)]; simp
  unfold atI; rw [e]; exact h
/-! ### what may be subscripted -/
/-- what stands as an index of a plain subscript -/
def PlainIx (b : Expr) : Prop := ∀ o i, subscripted b false o i = operate [o, i] (getItem o i)
/-- a subscript by values -/
def IxR (X : Cx) (r : R2) : Prop :=
  ∀ (value slice : Expr) (pins : List (Addr × Obj)) (s : Shared) (σ : St) (H : Hp) (x y : V) (v u : Value) (Q : VK), Inv X pins σ H s → RelV x v → RelV y u → r x y H Q →
    subscripted slice false v u = operate [v, u] (getItem v u) → wpAny (model X.prog X.w) X.A (subscriptTail value slice v u) (EP X pins σ Q) X.xe s
/-- a call of a builtin's method by values: the receiver, the arguments -/
def MtR (X : Cx) (id : String) (r : V → List V → Hp → VK → Prop) : Prop :=
  ∀ (pins : List (Addr × Obj)) (s : Shared) (σ : St) (H : Hp) (x : V) (xs : List V) (v : Value) (us : List Value) (Q : VK), Inv X pins σ H s → RelV x v → Vals xs us → r x xs H Q →
    wpAny (model X.prog X.w) X.A (call (.builtin id) (v :: us)) (EP X pins σ Q) X.xe s
section
variable {X : Cx} {a b : Expr} {ta tb : TE} {pos : Pos}
theorem IxR.or {r r' : R2} (h : IxR X r) (h' : IxR X r') : IxR X (fun x y H Q => r x y H Q ∨ r' x y H Q) := by
  intro value slice pins s σ H x y v u Q I rx ry q hs
  rcases q with q | q
  · exact h value slice pins s σ H x y v u Q I rx ry q hs
  · exact h' value slice pins s σ H x y v u Q I rx ry q hs
theorem MtR.or {id : String} {r r' : V → List V → Hp → VK → Prop} (h : MtR X id r) (h' : MtR X id r') : MtR X id (fun x xs H Q => r x xs H Q ∨ r' x xs H Q) := by
  intro pins s σ H x xs v us Q I rx rs q
  rcases q with q | q
  · exact h pins s σ H x xs v us Q I rx rs q
  · exact h' pins s σ H x xs v us Q I rx rs q
/-- a[b] -/
theorem pe_ix {r : R2} (hr : IxR X r) (ha : PE X a ta) (hb : PE X b tb) (hs : PlainIx b) : PE X (.Subscript a b pos) (tOp r ta tb) := by
  intro pins s σ H Q I h
  exact Subscript_ (binT ha hb I h fun v u s2 x y H2 I2 rx ry q => hr a b pins s2 σ H2 x y v u Q I2 rx ry q (hs _ _))

def rIxL (K : PySem.W.Frag) : R2 := fun x y H Q => ∃ p xs i v, x = .ref p ∧ y = .int i ∧ SqL K H p xs ∧ atI xs i = some v ∧ Q v H
def rIxT (K : PySem.W.Frag) : R2 := fun x y H Q => ∃ p xs i v, x = .ref p ∧ y = .int i ∧ SqT K H p xs ∧ atI xs i = some v ∧ Q v H
def rIxS : R2 := fun x y H Q => ∃ z i c, x = .str z ∧ y = .int i ∧ z.length ≤ sizeLine ∧ atI z.cps.toList i = some c ∧ Q (.str ⟨#[c]⟩) H
theorem ix_list : IxR X (rIxL X.K) := by
  intro value slice pins s σ H x y v u Q I rx ry h hs
  obtain ⟨p, xs, i, z, rfl, rfl, hq, he, q⟩ := h
  cases rx
  obtain ⟨t, rfl⟩ := ry
  obtain ⟨its, r, pl, hz⟩ := I.list hq
  obtain ⟨j, h1, h2, h3, h4, h5⟩ := atI_get he
  obtain ⟨w, ew, rw'⟩ := r.get h2
  have hl := r.length
  have hn := line63
  have fin : EP X pins σ Q w s := ⟨z, H, I, rw', q⟩
  by_cases h0 : 0 ≤ i
  · have hj : i.toNat = j := by
      rw [seqIndex_of h0 h5] at h1
      exact Option.some.inj h1
    exact item_listR pl.isList h0 (by omega) (by rw [hj]; simpa using ew) fin hs
  · have hj : (i + (its.toArray.size : Int)).toNat = j := by
      rw [seqIndex_neg (by omega) h4] at h1
      rw [List.size_toArray, ← hl]
      exact Option.some.inj h1
    exact subscriptTail_builtinR (x := w) pl.isList.typeIs slot_list_getitem.lookup
      (wpAny_getItem_list_neg (Q := fun r s' => r = w ∧ EP X pins σ Q r s') pl.isList (by omega) (by rw [List.size_toArray] <;> omega) (by omega) (by rw [hj]; simpa using ew) ⟨rfl, fin⟩) hs
theorem ix_tup : IxR X (rIxT X.K) := by
  intro value slice pins s σ H x y v u Q I rx ry h hs
  obtain ⟨p, xs, i, z, rfl, rfl, hq, he, q⟩ := h
  cases rx
  obtain ⟨t, rfl⟩ := ry
  obtain ⟨its, r, pl, hz⟩ := I.tuple hq
  obtain ⟨j, h1, h2, h3, h4, h5⟩ := atI_get he
  obtain ⟨w, ew, rw'⟩ := r.get h2
  have hl := r.length
  have hn := line63
  have fin : EP X pins σ Q w s := ⟨z, H, I, rw', q⟩
  exact subscriptTail_builtinR (x := w) pl.typeIs slot_tuple_getitem.lookup
    (getItem_tuple (j := j) (Q := fun r s' => r = w ∧ EP X pins σ Q r s') pl (by omega) (by omega) (by rw [List.size_toArray, ← hl]; exact h1) (by simpa using ew) ⟨rfl, fin⟩) hs
theorem ix_str : IxR X rIxS := by
  intro value slice pins s σ H x y v u Q I rx ry h hs
  obtain ⟨z, i, c, rfl, rfl, hz, he, q⟩ := h
  obtain ⟨t, rfl⟩ := rx
  obtain ⟨t', rfl⟩ := ry
  obtain ⟨j, h1, h2, h3, h4, h5⟩ := atI_get he
  have hl : z.cps.toList.length = z.length := by simp [Str.length]
  rw [hl] at h1 h4 h5
  have hn := line63
  exact tail_any (typeIs_str s z t) slot_str_getitem.lookup (getItem_str (c := c) (by
    have e1 : decide (i < -(2 ^ 63 : Int)) = false := decide_eq_false (by omega)
    have e2 : decide (i ≥ 2 ^ 63) = false := decide_eq_false (by omega)
    rw [e1, e2, Bool.or_false]) (by rw [h1]; simpa using h2) ⟨.str ⟨#[c]⟩, H, I.tok _, ⟨_, rfl⟩, q⟩) hs
/-- list, tuple or str -/
def rIx (K : PySem.W.Frag) : R2 := fun x y H Q => rIxL K x y H Q ∨ rIxT K x y H Q ∨ rIxS x y H Q
theorem ix_seq : IxR X (rIx X.K) := ix_list.or (ix_tup.or ix_str)

/-! ### xs[i] = v, any sign -/
/-- the list's object behind a store -/
theorem mapSeq_set (its : List Value) (n j : Nat) (u : Value) : Obj.mapSeq (·.setIfInBounds j u) { cls := .type "list", data := .seq its.toArray n } = { cls := .type "list", data := .seq (its.set j u).toArray n } := by
  simp [Obj.mapSeq]
theorem Inv.lst {pins : List (Addr × Obj)} {σ : St} {H : Hp} {s : Shared} {p : Addr} {xs : List V} (I : Inv X pins σ H s) (h : H p = some (.lst xs)) :
    ∃ (its : List Value) (n : Nat), Vals xs its ∧ s.heap.get? p = some { cls := .type "list", data := .seq its.toArray n } ∧ xs.length ≤ sizeLine := by
  obtain ⟨z, its, n, r, e⟩ := I.hok p _ h
  exact ⟨its, n, r, e, z⟩
/-- the list at p is written by an update of its object -/
theorem Inv.lstUpd {pins : List (Addr × Obj)} {σ : St} {H : Hp} {s : Shared} {p : Addr} {xs ys : List V} {its its' : List Value} {n n' : Nat} {f : Obj → Obj} (I : Inv X pins σ H s) (h : H p = some (.lst xs))
    (ho : s.heap.get? p = some { cls := .type "list", data := .seq its.toArray n }) (hf : f { cls := .type "list", data := .seq its.toArray n } = { cls := .type "list", data := .seq its'.toArray n' }) (r : Vals ys its') (hz : ys.length ≤ sizeLine) (t : Nat) :
    Inv X pins σ (upd H p (.lst ys)) { s with heap := s.heap.update p f, toks := t } := by
  have e : (s.heap.update p f).get? p = some { cls := .type "list", data := .seq its'.toArray n' } := by
    rw [Heap.get?_update_self f ho (by rw [hf] <;> rfl), hf]
  refine I.write (x := p) (e := p) (by rw [h]; trivial) (.inl rfl) (fun b u hb q => (Heap.get?_update_other _ _ (Ne.symm hb)).trans q) ⟨_, e⟩ ?_
  exact ⟨hz, its', n', r, e⟩
def rSetL : V → V → V → Hp → (Hp → Prop) → Prop := fun o i v H Q => ∃ p xs k j, o = .ref p ∧ i = .int k ∧ H p = some (.lst xs) ∧ ixN xs.length k = some j ∧ Q (upd H p (.lst (xs.set j v)))
theorem set_list : PSet X rSetL := by
  intro pins s σ H o i v ov iv u Q I ro ri rv h
  obtain ⟨p, xs, k, j, rfl, rfl, hp, hj, q⟩ := h
  cases ro
  obtain ⟨t, rfl⟩ := ri
  obtain ⟨its, n, r, ho, hz⟩ := I.lst hp
  obtain ⟨h1, h2, h3, h4⟩ := ixN_seq hj
  have hl := r.length
  have hn := line63
  have I' : Inv X pins σ (upd H p (.lst (xs.set j v))) { s with heap := s.heap.update p (Obj.mapSeq (·.setIfInBounds j u)) } :=
    I.lstUpd hp ho (mapSeq_set its n j u) (r.set rv j) (by rw [List.length_set]; exact hz) s.toks
  by_cases h0 : 0 ≤ k
  · have hk : k.toNat = j := by
      rw [seqIndex_of h0 h4] at h1
      exact Option.some.inj h1
    exact PySem.W.ki_setAt ho h0 (by omega) (by rw [List.size_toArray, ← hl]; exact h4) (by rw [hk]; exact ⟨_, I', q⟩)
  · have hk : (k + (its.toArray.size : Int)).toNat = j := by
      rw [seqIndex_neg (by omega) h3] at h1
      rw [List.size_toArray, ← hl]
      exact Option.some.inj h1
    exact PySem.W.ki_setBack ho (by omega) (by rw [List.size_toArray, ← hl]; exact h3) (by omega) (by rw [hk]; exact ⟨_, I', q⟩)

/-! ### slices -/
theorem slice_bounds (lo hi : Option Int) (n : Nat) : (sliceBounds lo hi none n).1 = ((HT.sIx n 0 lo : Nat) : Int) ∧ (sliceBounds lo hi none n).2.1 = ((HT.sIx n n hi : Nat) : Int) ∧ (sliceBounds lo hi none n).2.2 = 1 := by
  refine ⟨?_, ?_, rfl⟩
  · cases lo with
    | none => simp [sliceBounds, HT.sIx]
    | some i =>
      simp only [sliceBounds, HT.sIx, Option.getD_none, show (1 : Int) > 0 by decide, if_true]
      by_cases h : i < 0
      · simp only [h, if_true] <;> omega
      · simp only [h, if_false] <;> omega
  · cases hi with
    | none => simp [sliceBounds, HT.sIx]
    | some i =>
      simp only [sliceBounds, HT.sIx, Option.getD_none, show (1 : Int) > 0 by decide, if_true]
      by_cases h : i < 0
      · simp only [h, if_true] <;> omega
      · simp only [h, if_false] <;> omega
theorem slicePick_cut (its : List Value) (lo hi : Option Int) : slicePick its.toArray lo hi none = ((its.drop (HT.sIx its.length 0 lo)).take (HT.sIx its.length its.length hi - HT.sIx its.length 0 lo)).toArray := by
  obtain ⟨h1, h2, h3⟩ := slice_bounds lo hi its.toArray.size
  unfold slicePick
  rw [h1, h2, h3]
  simp only [sliceRange_one, pick_run, List.size_toArray] <;> rfl
/-- xs[lo:hi] of a list: a new list -/
def rSlL (K : PySem.W.Frag) : V → Option Int → Option Int → Hp → VK → Prop := fun x lo hi H Q => ∃ a xs, x = .ref a ∧ SqL K H a xs ∧ ∀ p, H p = none → Q (.ref p) (upd H p (.lst (cutV xs lo hi)))
theorem sl_list : SlR X (rSlL X.K) := by
  intro pins s σ H x v vl vu lo hi sl Q I rx hs pl pu h
  obtain ⟨a, xs, rfl, hx, q⟩ := h
  cases rx
  obtain ⟨its, r, ht, hz⟩ := I.list hx
  have hlen := r.length
  refine ⟨"list", _, slot_list_getitem.lookup, ht.isList.typeIs, ?_⟩
  refine wpAny_getItem_list_slice ht.isList hs pl pu .none (by simp) ?_ (by rw [List.size_toArray] <;> omega)
  rw [slicePick_cut, ← hlen]
  refine ⟨.ref s.heap.objs.size, _, I.laid (t' := s.toks) (o := .lst (cutV xs lo hi)) (fun b ob q => Heap.get?_push_of_some _ q) (Nat.le_refl _) ?_, rfl, q _ (I.hok.fresh (Nat.le_refl _))⟩
  exact ⟨Nat.le_trans (cutV_length xs lo hi) hz, _, 0, (r.drop (HT.sIx xs.length 0 lo)).take (HT.sIx xs.length xs.length hi - HT.sIx xs.length 0 lo), Heap.get?_push_size _ rfl⟩

/-! ### in, not in: flat items -/
def flatV : V → Bool
  | .non => true
  | .bl _ => true
  | .int _ => true
  | .str _ => true
  | _ => false
/-- == of flat values -/
def eqV : V → V → Bool
  | .non, .non => true
  | .bl a, .bl b => a == b
  | .bl a, .int b => (if a then 1 else 0) == b
  | .int a, .bl b => a == (if b then 1 else 0)
  | .int a, .int b => a == b
  | .str a, .str b => a == b
  | _, _ => false
/-- the items' answers, read off the values (a value's own answer does not lean on its token) -/
def eqU (x : V) (u : Value) : Bool := match u with
  | .none => eqV .non x
  | .bool b => eqV (.bl b) x
  | .int i _ => eqV (.int i) x
  | .str z _ => eqV (.str z) x
  | _ => false
def inV (x : V) (xs : List V) : Bool := xs.any fun y => eqV y x
/-- x in a list or tuple of flat items -/
def rIn (K : PySem.W.Frag) (neg : Bool) : R2 := fun x y H Q => ∃ p xs, y = .ref p ∧ (SqL K H p xs ∨ SqT K H p xs) ∧ flatV x = true ∧ xs.all flatV = true ∧ Q (.bl (if neg then !inV x xs else inV x xs)) H
/-! ### len, list(x), tuple(x) of any list or tuple that is read -/
theorem call_len_seq : CallR X (.builtin "len") (fun xs H Q => ∃ p ys, xs = [.ref p] ∧ (SqL X.K H p ys ∨ SqT X.K H p ys) ∧ Q (.int ys.length) H) := by
  intro pins s σ H xs us Q I r h
  obtain ⟨p, ys, rfl, hq, q⟩ := h
  obtain ⟨u, rfl, rx⟩ := vals1 r
  cases rx
  have hn := line63
  rcases hq with hq | hq
  · obtain ⟨its, r', pl, hz⟩ := I.list hq
    have hlen := r'.length
    exact Calls.call_len_list pl.isList (by simp only [List.size_toArray] <;> omega) ⟨.int ys.length, H, I.tok _, ⟨s.toks + 1, by rw [List.size_toArray, hlen]⟩, q⟩
  · obtain ⟨its, r', pl, hz⟩ := I.tuple hq
    have hlen := r'.length
    exact len_tuple pl (by simp only [List.size_toArray] <;> omega) ⟨.int ys.length, H, I.tok _, ⟨s.toks + 1, by rw [List.size_toArray, hlen]⟩, q⟩
theorem CallR.or {f : Value} {r r' : List V → Hp → VK → Prop} (h : CallR X f r) (h' : CallR X f r') : CallR X f (fun xs H Q => r xs H Q ∨ r' xs H Q) := by
  intro pins s σ H xs us Q I rs q
  rcases q with q | q
  · exact h pins s σ H xs us Q I rs q
  · exact h' pins s σ H xs us Q I rs q
theorem call_list_of : CallR X (.type "list") (fun xs H Q => ∃ p ys, xs = [.ref p] ∧ (SqL X.K H p ys ∨ SqT X.K H p ys) ∧ ∀ l, H l = none → Q (.ref l) (upd H l (.lst ys))) := by
  intro pins s σ H xs us Q I r h
  obtain ⟨p, ys, rfl, hq, q⟩ := h
  obtain ⟨u, rfl, rx⟩ := vals1 r
  cases rx
  have fin : ∀ (its : List Value), Vals ys its → ys.length ≤ sizeLine → ∀ (h' : Heap) (c' : Nat), (∀ b o', s.heap.get? b = some o' → h'.get? b = some o') →
      h'.get? s.heap.objs.size = some { cls := .type "list", dict := none, data := .seq its.toArray c', slots := #[] } → EP X pins σ Q (.ref s.heap.objs.size) { s with heap := h' } := fun its r' hz h' c' kp e =>
    ⟨.ref s.heap.objs.size, _, I.laid (t' := s.toks) kp (Nat.le_refl _) (show ObjOk X.prog X.w _ h' _ (.lst ys) from ⟨hz, its, c', r', e⟩), rfl, q _ (I.hok.fresh (Nat.le_refl _))⟩
  rcases hq with hq | hq
  · obtain ⟨its, r', pl, hz⟩ := I.list hq
    have hlen := r'.length
    obtain ⟨o, ho, hc, n, hd⟩ := pl.isList
    exact call_list_seq p (.inl rfl) ho hc hd (fun h' c' kp e => fin its r' hz h' c' kp e) (by simp only [List.size_toArray] <;> omega)
  · obtain ⟨its, r', pl, hz⟩ := I.tuple hq
    have hlen := r'.length
    obtain ⟨o, ho, hc, n, hd⟩ := pl
    exact call_list_seq p (.inr rfl) ho hc hd (fun h' c' kp e => fin its r' hz h' c' kp e) (by simp only [List.size_toArray] <;> omega)
/-! ### the call of a builtin's method: o.m(..) -/
/-- the value is of that builtin type -/
def tyV (K : PySem.W.Frag) (T : String) (x : V) (H : Hp) : Prop := match x with
  | .str _ => T = "str"
  | .int _ => T = "int"
  | .ref p => (T = "list" ∧ ∃ xs, SqL K H p xs) ∨ (T = "tuple" ∧ ∃ o, K.lookup p = some o ∧ o.cls = .type "tuple" ∧ o.dict = none) ∨
      (T = "dict" ∧ ((∃ kvs, H p = some (.dK kvs)) ∨ ∃ kvs, H p = some (.dT kvs))) ∨ (T = "set" ∧ ∃ S n, H p = some (.set S n))
  | _ => False
theorem tyV_is {pins : List (Addr × Obj)} {σ : St} {H : Hp} {s : Shared} {T : String} {x : V} {v : Value} (I : Inv X pins σ H s) (r : RelV x v) (ty : tyV X.K T x H) :
    s.TypeIs v T ∧ ∀ a, v = .ref a → ∃ ob, s.heap.get? a = some ob ∧ ob.dict = none := by
  cases x with
  | str z =>
    obtain ⟨t, rfl⟩ := r
    cases (show T = "str" from ty)
    exact ⟨typeIs_str s z t, fun _ e => nomatch e⟩
  | int i =>
    obtain ⟨t, rfl⟩ := r
    cases (show T = "int" from ty)
    exact ⟨typeIs_int s i t, fun _ e => nomatch e⟩
  | ref p =>
    cases r
    rcases ty with ⟨rfl, xs, hq⟩ | ⟨rfl, o, hk, hc, hd⟩ | ⟨rfl, hk⟩ | ⟨rfl, S, n, hk⟩
    · obtain ⟨its, _, pl, _⟩ := I.list hq
      refine ⟨pl.isList.typeIs, fun a e => ?_⟩
      cases e
      obtain ⟨o, n, e, c, hd, _⟩ := pl
      exact ⟨o, e, hd⟩
    · refine ⟨⟨o, I.kIn p o hk, hc⟩, fun a e => ?_⟩
      cases e
      exact ⟨o, I.kIn _ o hk, hd⟩
    · have z : ∃ o, s.heap.get? p = some o ∧ o.ExactDict := by
        rcases hk with ⟨kvs, hk⟩ | ⟨kvs, hk⟩
        · obtain ⟨_, _, _, _, o, _, _, e, ex, _⟩ := I.hok p _ hk
          exact ⟨o, e, ex⟩
        · obtain ⟨_, _, _, _, o, _, _, e, ex, _⟩ := I.hok p _ hk
          exact ⟨o, e, ex⟩
      obtain ⟨o, e, ex⟩ := z
      refine ⟨⟨o, e, ex.1⟩, fun a e2 => ?_⟩
      cases e2
      exact ⟨o, e, ex.2.1⟩
    · obtain ⟨o, _, _, _, e, ex, _⟩ := I.hok p _ hk
      refine ⟨⟨o, e, ex.1⟩, fun a e2 => ?_⟩
      cases e2
      exact ⟨o, e, ex.2.1⟩
  | _ => exact False.elim ty
def tBM0 (K : PySem.W.Frag) (T : String) (r : V → List V → Hp → VK → Prop) (to : TE) : TE := fun σ H Q => to σ H fun x H1 => tyV K T x H1 ∧ r x [] H1 Q
def tBM (K : PySem.W.Frag) (T : String) (r : V → List V → Hp → VK → Prop) (to : TE) (t : TA) : TE := fun σ H Q => to σ H fun x H1 => tyV K T x H1 ∧ t σ H1 fun xs H2 => r x xs H2 Q
variable {o e : Expr} {es : List Expr} {to : TE} {t : TA} {name : Str} {apos cpos : Pos} {T id : String} {r : V → List V → Hp → VK → Prop}
theorem pe_bm0 (pa : PlainAttrs T) (slot : Slot T name id) (hty : typeOf (.builtin id) = pure (.type "method_descriptor")) (hm : MtR X id r) (ho : PE X o to)
    (hbase : attributeBase o name X.env (eval o X.env) = eval o X.env := by rfl) (hline : (apos.endLine == cpos.line) = true := by rfl) : PE X (.Call (.Attribute o name apos) [] [] cpos) (tBM0 X.K T r to) := by
  intro pins s σ H Q I h
  refine wpAny_Call_method0_late hbase hline (thn (ho pins s σ H _ I h) fun v s1 ⟨x, H1, I1, r1, ty, q1⟩ => ?_)
  obtain ⟨h1, h2⟩ := tyV_is I1 r1 ty
  exact ⟨T, id, pa, slot, hty, h1, h2, Calls.callWith_builtin rfl (PySem.evalArgs_none (hm pins s1 σ H1 x [] v [] Q I1 r1 .nil q1))⟩
theorem pe_bm (pa : PlainAttrs T) (slot : Slot T name id) (hty : typeOf (.builtin id) = pure (.type "method_descriptor")) (hm : MtR X id r) (ho : PE X o to) (ha : PA X (e :: es) t)
    (hbase : attributeBase o name X.env (eval o X.env) = eval o X.env := by rfl)
    (hfew : ((backTo cpos (starEach (e :: es) X.env)).all (fun x => !x.1) && (backToKw cpos (keywordEach [] X.env)).all (fun x => x.1.isSome)
      && decide ((e :: es).length + ([] : List Keyword).length + (if ([] : List Keyword).isEmpty then 0 else 1) < 30)) = true := by rfl)
    (hline : (apos.endLine == cpos.line) = true := by rfl) (hs : starEach (e :: es) X.env = (false, eval e X.env) :: starEach es X.env := by rfl) (hplain : (backTo cpos (starEach es X.env)).any (·.1) = false := by rfl) :
    PE X (.Call (.Attribute o name apos) (e :: es) [] cpos) (tBM X.K T r to t) := by
  intro pins s σ H Q I h
  refine wpAny_Call_method_late hbase hfew hline rfl (thn (ho pins s σ H _ I h) fun v s1 ⟨x, H1, I1, r1, ty, q1⟩ => ?_)
  obtain ⟨h1, h2⟩ := tyV_is I1 r1 ty
  refine ⟨T, id, pa, slot, hty, h1, h2, ?_⟩
  have hA := ha cpos pins s1 σ H1 _ I1 q1
  rw [hs] at hA ⊢
  refine Calls.callWith_builtin (by show (false || (backTo cpos (starEach es X.env)).any (·.1)) = false; rw [hplain] <;> rfl) (Calls.evalArgs_plain ?_)
  exact thn hA fun us s2 ⟨vs, H2, I2, r2, q2⟩ => hm pins s2 σ H2 x vs v us Q I2 r1 r2 q2
/- xs.append(e), list.index on a module's tuple .. are MtR facts of 06m -/
end
end L2

namespace L2
open PySem PySem.Spec PyProof.Rows

def MtM (X : Cx) (id : String) (r : V → List V → Hp → VK → Prop) : Prop :=
  ∀ (pins : List (Addr × Obj)) (s : Shared) (σ : St) (H : Hp) (x : V) (xs : List V) (v : Value) (us : List Value) (Q : VK), Inv X pins σ H s → RelV x v → Vals xs us → r x xs H Q →
    wpAny (model X.prog X.w) X.A (call (.builtin id) (v :: us)) (EP X pins σ Q) X.xe s

/-! ### lists of values -/
theorem Vals.one : ∀ {x : V} {us : List Value}, Vals [x] us → ∃ u, us = [u] ∧ RelV x u
  | _, _, .cons r .nil => ⟨_, rfl, r⟩
theorem Vals.two : ∀ {x y : V} {us : List Value}, Vals [x, y] us → ∃ u v, us = [u, v] ∧ RelV x u ∧ RelV y v
  | _, _, _, .cons r (.cons q .nil) => ⟨_, _, rfl, r, q⟩
theorem Vals.zero : ∀ {us : List Value}, Vals [] us → us = []
  | _, .nil => rfl
theorem Vals.dropLast {xs : List V} {us : List Value} (h : Vals xs us) : Vals xs.dropLast us.dropLast := by
  induction h with
  | nil => exact .nil
  | cons r t ih =>
    cases t with
    | nil => exact .nil
    | cons q t' => exact .cons r ih
theorem Vals.eraseIdx : ∀ {xs : List V} {us : List Value} (i : Nat), Vals xs us → Vals (xs.eraseIdx i) (us.eraseIdx i)
  | _, _, _, .nil => .nil
  | _, _, 0, .cons _ t => t
  | _, _, i + 1, .cons r t => .cons r (Vals.eraseIdx i t)
theorem Vals.reverse {xs : List V} {us : List Value} (h : Vals xs us) : Vals xs.reverse us.reverse := by
  induction h with
  | nil => exact .nil
  | cons r t ih => rw [List.reverse_cons, List.reverse_cons]; exact Vals.append ih (.cons r .nil)
theorem erase_last {α : Type} (l : List α) : l.eraseIdx (l.length - 1) = l.dropLast := by
  induction l with
  | nil => rfl
  | cons a r ih =>
    cases r with
    | nil => rfl
    | cons b r =>
      have e : (a :: b :: r).length - 1 = ((b :: r).length - 1) + 1 := by
        have h1 : (a :: b :: r).length = r.length + 2 := rfl
        have h2 : (b :: r).length = r.length + 1 := rfl
        omega
      rw [e, List.eraseIdx_cons_succ, ih]
      all_goals rfl
theorem len_erase {α : Type} : ∀ (l : List α) (i : Nat), (l.eraseIdx i).length ≤ l.length
  | [], _ => Nat.le_refl _
  | _ :: _, 0 => Nat.le_succ _
  | _ :: r, i + 1 => Nat.succ_le_succ (len_erase r i)
section
variable {X : Cx} {pins : List (Addr × Obj)} {σ : St} {H : Hp} {s : Shared} {l b : Addr} {xs ys zs : List V}

/-! ### the two steps: a tracked list is rewritten, a new list is laid -/
theorem Inv.lset {its its' : List Value} {n : Nat} {f : Array Value → Array Value} {t' : Nat} (I : Inv X pins σ H s) (hH : H l = some (.lst xs))
    (e : s.heap.get? l = some { cls := .type "list", data := .seq its.toArray n }) (hf : f its.toArray = its'.toArray) (hv : Vals ys its') (hz : ys.length ≤ sizeLine) :
    Inv X pins σ (upd H l (.lst ys)) { s with heap := s.heap.update l (Obj.mapSeq f), toks := t' } := by
  have q := PySem.IsL.update e f
  rw [hf] at q
  refine I.write (x := l) (e := l) (by rw [hH]; exact trivial) (.inl rfl) (fun b' u hb hu => (Heap.get?_update_other s.heap (Obj.mapSeq f) (Ne.symm hb)).trans hu) ⟨_, q⟩ ?_
  exact ⟨hz, its', _, hv, q⟩
theorem Inv.lnew {its : List Value} {t' : Nat} (I : Inv X pins σ H s) (hv : Vals ys its) (hz : ys.length ≤ sizeLine) :
    Inv X pins σ (upd H s.heap.objs.size (.lst ys)) { s with heap := s.heap.push { cls := .type "list", data := .seq its.toArray }, toks := t' } :=
  I.laid (fun _ _ q => Heap.get?_push_of_some _ q) (Nat.le_refl _) ⟨hz, its, 0, hv, Heap.get?_push_size _ rfl⟩
theorem Inv.fresh (I : Inv X pins σ H s) : H s.heap.objs.size = none := I.hok.fresh (Nat.le_refl _)
theorem Inv.lstM (I : Inv X pins σ H s) (hH : H l = some (.lst xs)) : xs.length ≤ sizeLine ∧ ∃ (its : List Value) (n : Nat), Vals xs its ∧ xs.length = its.length ∧ s.heap.get? l = some { cls := .type "list", data := .seq its.toArray n } := by
  obtain ⟨z, its, n, r, e⟩ := I.hok l _ hH
  exact ⟨z, its, n, r, r.length, e⟩

end

section
variable {X : Cx}

/-! ### methods -/
def rAppend : V → List V → Hp → VK → Prop := fun x vs H Q => ∃ l xs y, x = .ref l ∧ vs = [y] ∧ H l = some (.lst xs) ∧ xs.length < sizeLine ∧ Q .non (upd H l (.lst (xs ++ [y])))
theorem mt_append : MtM X "list.append" rAppend := by
  intro pins s σ H x vs v us Q I rx rv h
  obtain ⟨l, xs, y, rfl, rfl, hH, hz, q⟩ := h
  cases rx
  obtain ⟨u, rfl, ru⟩ := rv.one
  obtain ⟨z, its, n, r, hl, e⟩ := I.lstM hH
  refine call_meets F.slot_list_append ⟨_, e, rfl⟩ F.entry_list_append (F.args_list_append_2 _ _) (PySem.list_append l its.toArray n u (by rw [List.size_toArray]; omega)) ⟨e, ?_⟩
  refine ⟨.non, _, I.lset (its' := its ++ [u]) hH e (by simp) (r.append (.cons ru .nil)) ?_, rfl, q⟩
  rw [List.length_append, List.length_singleton]
  omega

def rExtend : V → List V → Hp → VK → Prop := fun x vs H Q => ∃ l b xs zs, x = .ref l ∧ vs = [.ref b] ∧ H l = some (.lst xs) ∧ H b = some (.lst zs) ∧ xs.length + zs.length ≤ sizeLine ∧ Q .non (upd H l (.lst (xs ++ zs)))
def rPop : V → List V → Hp → VK → Prop := fun x vs H Q => ∃ l xs y, x = .ref l ∧ vs = [] ∧ H l = some (.lst xs) ∧ xs[xs.length - 1]? = some y ∧ Q y (upd H l (.lst xs.dropLast))
theorem mt_pop : MtM X "list.pop" rPop := by
  intro pins s σ H x vs v us Q I rx rv h
  obtain ⟨l, xs, y, rfl, rfl, hH, hy, q⟩ := h
  cases rx
  have hus := rv.zero
  subst hus
  obtain ⟨z, its, n, r, hl, e⟩ := I.lstM hH
  obtain ⟨u, hu, ru⟩ := r.get hy
  have hy' : its.toArray[its.toArray.size - 1]? = some u := by
    show its.toArray[its.length - 1]? = some u
    rw [← Array.getElem?_toList, ← hl]
    exact hu
  refine call_meets F.slot_list_pop ⟨_, e, rfl⟩ F.entry_list_pop (F.args_list_pop_1 _) (MeetsSeq.list_pop_last l its.toArray n u hy' (by rw [List.size_toArray]; omega)) ⟨e, ?_⟩
  refine ⟨y, _, I.lset (its' := its.dropLast) hH e ?_ r.dropLast ?_, ru, q⟩
  · show its.toArray.eraseIdxIfInBounds (its.toArray.size - 1) = its.dropLast.toArray
    rw [List.size_toArray, List.eraseIdxIfInBounds_toArray, erase_last]
  · rw [List.length_dropLast]
    omega

def rPopAt : V → List V → Hp → VK → Prop := fun x vs H Q => ∃ l xs i k y, x = .ref l ∧ vs = [.int i] ∧ H l = some (.lst xs) ∧ -(2 ^ 63) ≤ i ∧ i < 2 ^ 63 ∧ seqIndex? i xs.length = some k ∧ xs[k]? = some y ∧ Q y (upd H l (.lst (xs.eraseIdx k)))
theorem mt_popAt : MtM X "list.pop" rPopAt := by
  intro pins s σ H x vs v us Q I rx rv h
  obtain ⟨l, xs, i, k, y, rfl, rfl, hH, h1, h2, hk, hy, q⟩ := h
  cases rx
  obtain ⟨u, rfl, ru⟩ := rv.one
  obtain ⟨t, rfl⟩ := ru
  obtain ⟨z, its, n, r, hl, e⟩ := I.lstM hH
  obtain ⟨w, hw, rw'⟩ := r.get hy
  refine call_meets F.slot_list_pop ⟨_, e, rfl⟩ F.entry_list_pop (F.args_list_pop_2 _ _)
    (MeetsSeq.list_pop_at l its.toArray n i t k w (fitsIndex_both h1 h2) (by rw [List.size_toArray, ← hl]; exact hk) (by rw [← Array.getElem?_toList]; exact hw) (by rw [List.size_toArray]; omega)) ⟨e, ?_⟩
  refine ⟨y, _, I.lset (its' := its.eraseIdx k) hH e ?_ (r.eraseIdx k) ?_, rw', q⟩
  · show its.toArray.eraseIdxIfInBounds k = (its.eraseIdx k).toArray
    rw [List.eraseIdxIfInBounds_toArray]
  · have := len_erase xs k
    omega

def rReverse : V → List V → Hp → VK → Prop := fun x vs H Q => ∃ l xs, x = .ref l ∧ vs = [] ∧ H l = some (.lst xs) ∧ Q .non (upd H l (.lst xs.reverse))
def rClear : V → List V → Hp → VK → Prop := fun x vs H Q => ∃ l xs, x = .ref l ∧ vs = [] ∧ H l = some (.lst xs) ∧ Q .non (upd H l (.lst []))
/-! ### list + list, list += list, list * int -/
def rCat : R2 := fun x y H Q => ∃ l b xs zs, x = .ref l ∧ y = .ref b ∧ H l = some (.lst xs) ∧ H b = some (.lst zs) ∧ xs.length + zs.length ≤ sizeLine ∧ ∀ p, H p = none → Q (.ref p) (upd H p (.lst (xs ++ zs)))
theorem op_cat : OpR X (binaryOp .Add) rCat := by
  intro pins s σ H x y v u Q I rx ry h
  obtain ⟨l, b, xs, zs, rfl, rfl, hH, hB, hz, q⟩ := h
  cases rx
  cases ry
  obtain ⟨z, its, n, r, hl, e⟩ := I.lstM hH
  obtain ⟨z2, its2, n2, r2, hl2, e2⟩ := I.lstM hB
  refine PySem.P.add_list e e2 ?_ (by rw [List.size_toArray, List.size_toArray]; omega)
  have ea : its.toArray ++ its2.toArray = (its ++ its2).toArray := by simp
  rw [ea]
  exact ⟨.ref _, _, I.lnew (t' := s.toks) (r.append r2) (by rw [List.length_append]; omega), rfl, q _ I.fresh⟩
/-- a list times an int (a negative one is nothing) -/
def rRep : R2 := fun x y H Q => ∃ l k xs, x = .ref l ∧ y = .int k ∧ H l = some (.lst xs) ∧ -(2 ^ 63) ≤ k ∧ k < 2 ^ 63 ∧ xs.length * k.toNat ≤ sizeLine ∧
  ∀ p, H p = none → Q (.ref p) (upd H p (.lst (List.replicate k.toNat xs).flatten))
/-! ### del xs[i] -/
end

/-! ### xs[a:b] = ys -/
section
variable {prog : Program} {w : World} {A : Around} {E : Value → Shared → Prop} {s : Shared}
end

section
variable {X : Cx}
end
end L2

namespace L2
open PySem PySem.Spec PyProof.Rows

theorem Vals.ints : ∀ {ns : List Int} {us : List Value}, Vals (ns.map V.int) us → IntsAre us ns
  | [], us, h => by
    rw [List.map_nil] at h
    cases h
    exact IntsAre.nil
  | n :: ns, us, h => by
    rw [List.map_cons] at h
    cases h with
    | cons r t =>
      obtain ⟨k, rfl⟩ := r
      exact IntsAre.cons n k (Vals.ints t)
theorem vals_of_ints : ∀ {us : List Value} {ns : List Int}, IntsAre us ns → Vals (ns.map V.int) us
  | _, _, .nil => by rw [List.map_nil]; exact Paired.nil
  | _, _, .cons n t h => by rw [List.map_cons]; exact Paired.cons (show RelV (V.int n) (Value.int n t) from ⟨t, rfl⟩) (vals_of_ints h)
theorem Vals.ref1 {a : Addr} {us : List Value} (r : Vals [V.ref a] us) : us = [Value.ref a] := by
  cases r with
  | cons r t =>
    cases t
    cases r
    rfl
/-! ### the library's walks over a list of ints, kept objects alone -/
section
variable {prog : Program} {w : World} {A : Around} {E : Value → Shared → Prop} {s : Shared} {l : Addr} {its : List Value} {ns : List Int} {Q : Value → Shared → Prop}
end

/-! ### the calls, by values (CallR of 03t; MtR of 06l) -/
section
variable {X : Cx}
/-- sum(xs) of a list of ints -/
def rSum (K : PySem.W.Frag) : List V → Hp → VK → Prop := fun vs H Q => ∃ (a : Addr) (ns : List Int), vs = [V.ref a] ∧ SqL K H a (ns.map V.int) ∧ Q (.int ns.sum) H
/-- max(xs), min(xs) of a list of ints -/
def rMax (K : PySem.W.Frag) : List V → Hp → VK → Prop := fun vs H Q => ∃ (a : Addr) (ns : List Int), vs = [V.ref a] ∧ SqL K H a (ns.map V.int) ∧ 0 < ns.length ∧ ∀ m, m ∈ ns → (∀ y, y ∈ ns → y ≤ m) → Q (.int m) H
def rMin (K : PySem.W.Frag) : List V → Hp → VK → Prop := fun vs H Q => ∃ (a : Addr) (ns : List Int), vs = [V.ref a] ∧ SqL K H a (ns.map V.int) ∧ 0 < ns.length ∧ ∀ m, m ∈ ns → (∀ y, y ∈ ns → m ≤ y) → Q (.int m) H
/-! sorted, sort (fewer than 64 items: the library's own bound) -/
def rSorted (K : PySem.W.Frag) : List V → Hp → VK → Prop := fun vs H Q => ∃ (a : Addr) (ns : List Int), vs = [V.ref a] ∧ SqL K H a (ns.map V.int) ∧ ns.length < 64 ∧
  ∀ (ns' : List Int) (p : Addr), ns'.Perm ns → ns'.Pairwise (· ≤ ·) → H p = none → Q (.ref p) (upd H p (.lst (ns'.map V.int)))
def rSortedS (K : PySem.W.Frag) : List V → Hp → VK → Prop := fun vs H Q => ∃ (a : Addr) (xs : List Str), vs = [V.ref a] ∧ SqL K H a (xs.map V.str) ∧ xs.length < 64 ∧
  ∀ (ys : List Str) (p : Addr), ys.Perm xs → sortedS ys = true → H p = none → Q (.ref p) (upd H p (.lst (ys.map V.str)))
theorem small64 {n : Nat} (h : n < 64) : n ≤ sizeLine := by rw [sizeLine_eq]; omega
theorem cr_sorted : CallR X (.builtin "sorted") (rSorted X.K) := by
  intro pins s σ H vs us Q I r h
  obtain ⟨a, ns, rfl, hs, h64, q⟩ := h
  obtain ⟨its, rv, hl, _⟩ := I.list hs
  rw [Vals.ref1 r]
  have hi := rv.ints
  refine PyProof.Rows.sorted_ints hl.isList hi (by rw [hi.length]; exact h64) fun out ns' h1 h2 h3 => ?_
  obtain ⟨ep, he'⟩ := PyProof.Rows.sortedAll_at s.heap its out
  have hlen : (ns'.map V.int).length ≤ sizeLine := by rw [List.length_map, h2.length_eq]; exact small64 h64
  exact ⟨.ref _, upd H (s.heap.objs.size + 1) (.lst (ns'.map V.int)), I.laid (t' := s.toks) (fun _ _ => PyProof.Rows.sortedAll_old) (Nat.le_succ _) ⟨hlen, out.toList, ep, vals_of_ints h1, he'⟩, rfl, q ns' _ h2 h3 (I.hok.fresh (Nat.le_succ _))⟩
/-- xs.sort(), ints -/
def rSort : V → List V → Hp → VK → Prop := fun x xs H Q => ∃ (a : Addr) (ns : List Int), x = V.ref a ∧ xs = [] ∧ H a = some (.lst (ns.map V.int)) ∧ ns.length < 64 ∧
  ∀ ns' : List Int, ns'.Perm ns → ns'.Pairwise (· ≤ ·) → Q .non (upd H a (.lst (ns'.map V.int)))
end

/-! ### list.index, flat items -/
section
variable {X : Cx}
def rIndex (K : PySem.W.Frag) : V → List V → Hp → VK → Prop := fun x xs H Q => ∃ (a : Addr) (ys : List V) (y : V) (j : Nat) (z : V), x = V.ref a ∧ xs = [y] ∧ SqL K H a ys ∧ flatV y = true ∧ ys.all flatV = true ∧ ys[j]? = some z ∧ eqV z y = true ∧
  (∀ (m : Nat) (z' : V), m < j → ys[m]? = some z' → eqV z' y = false) ∧ Q (.int (j : Nat)) H
end

/-! ### type(x) of an own instance; is, is not of a module's class -/
section
variable {X : Cx}
end

/-! ### any(xs), all(xs) of a list of bools -/
section
variable {X : Cx}
def rAny (K : PySem.W.Frag) : List V → Hp → VK → Prop := fun vs H Q => ∃ (a : Addr) (bs : List Bool), vs = [V.ref a] ∧ SqL K H a (bs.map V.bl) ∧ Q (.bl (bs.any id)) H
def rAll (K : PySem.W.Frag) : List V → Hp → VK → Prop := fun vs H Q => ∃ (a : Addr) (bs : List Bool), vs = [V.ref a] ∧ SqL K H a (bs.map V.bl) ∧ Q (.bl (bs.all id)) H
end

/-! ### == and != of data at any depth: none, bools, ints, texts, lists, tuples -/
mutual
inductive Dp (K : PySem.W.Frag) (H : Hp) : V → PyData → Prop
  | non : Dp K H .non .none
  | bl (b : Bool) : Dp K H (.bl b) (.bool b)
  | int (i : Int) : Dp K H (.int i) (.int i)
  | str (x : Str) : Dp K H (.str x) (.str x)
  | lst {a : Addr} {xs : List V} {ds : List PyData} : SqL K H a xs → DpAll K H xs ds → Dp K H (.ref a) (.list ds)
  | tup {a : Addr} {xs : List V} {ds : List PyData} : SqT K H a xs → DpAll K H xs ds → Dp K H (.ref a) (.tuple ds)
inductive DpAll (K : PySem.W.Frag) (H : Hp) : List V → List PyData → Prop
  | nil : DpAll K H [] []
  | cons {v : V} {vs : List V} {d : PyData} {ds : List PyData} : Dp K H v d → DpAll K H vs ds → DpAll K H (v :: vs) (d :: ds)
end
section
variable {X : Cx} {pins : List (Addr × Obj)} {σ : St} {H : Hp} {s : Shared}
mutual
theorem Dp.reads (I : Inv X pins σ H s) : ∀ (d : PyData) (v : V) (u : Value), Dp X.K H v d → RelV v u → ∃ as, Reads s.heap u d as
  | .none, _, _, h, r => by
    cases h
    cases r
    exact ⟨_, Reads.none⟩
  | .bool b, _, _, h, r => by
    cases h
    cases r
    exact ⟨_, Reads.bool b⟩
  | .int i, _, _, h, r => by
    cases h
    obtain ⟨t, rfl⟩ := r
    exact ⟨_, Reads.int i t⟩
  | .str x, _, _, h, r => by
    cases h
    obtain ⟨t, rfl⟩ := r
    exact ⟨_, Reads.str x t⟩
  | .list ds, _, _, h, r => by
    cases h with
    | lst hs ha =>
      cases r
      obtain ⟨its, rv, ⟨o, n, ho, hc, _, hd⟩, _⟩ := I.list hs
      obtain ⟨as, hr⟩ := Dp.readsAll I ds _ its ha rv
      exact ⟨_, Reads.list ho hc hd hr⟩
  | .tuple ds, _, _, h, r => by
    cases h with
    | tup hs ha =>
      cases r
      obtain ⟨its, rv, ⟨o, ho, hc, n, hd⟩, _⟩ := I.tuple hs
      obtain ⟨as, hr⟩ := Dp.readsAll I ds _ its ha rv
      exact ⟨_, Reads.tuple ho hc hd hr⟩
  | .dict _, _, _, h, _ => by cases h
theorem Dp.readsAll (I : Inv X pins σ H s) : ∀ (ds : List PyData) (vs : List V) (us : List Value), DpAll X.K H vs ds → Vals vs us → ∃ as, ReadsAll s.heap us ds as
  | [], _, _, h, r => by
    cases h
    cases r
    exact ⟨_, ReadsAll.nil⟩
  | d :: ds, _, _, h, r => by
    cases h with
    | cons h1 h2 =>
      cases r with
      | cons r1 r2 =>
        obtain ⟨as, q1⟩ := Dp.reads I d _ _ h1 r1
        obtain ⟨bs, q2⟩ := Dp.readsAll I ds _ _ h2 r2
        exact ⟨_, ReadsAll.cons q1 q2⟩
end
end
section
variable {X : Cx}
def rEqD (K : PySem.W.Frag) : R2 := fun x y H Q => ∃ d e, Dp K H x d ∧ Dp K H y e ∧ SeqAt.shaped d = true ∧ SeqAt.shaped e = true ∧ Q (.bl (PyData.eqv d e)) H
def rNeD (K : PySem.W.Frag) : R2 := fun x y H Q => ∃ d e, Dp K H x d ∧ Dp K H y e ∧ SeqAt.shaped d = true ∧ SeqAt.shaped e = true ∧ Q (.bl (!PyData.eqv d e)) H
theorem op_eqD (hu : X.A.units + 64 < cLine) : OpR X (compareOp .Eq) (rEqD X.K) := by
  intro pins s σ H x y v u Q I rx ry h
  obtain ⟨d, e, hd, he, sd, se, q⟩ := h
  obtain ⟨as, r1⟩ := Dp.reads I d x v hd rx
  obtain ⟨bs, r2⟩ := Dp.reads I e y u he ry
  exact SeqAt.compareEq_shaped r1 r2 sd se hu ⟨.bl _, H, I, rfl, q⟩
theorem op_neD (hu : X.A.units + 64 < cLine) : OpR X (compareOp .NotEq) (rNeD X.K) := by
  intro pins s σ H x y v u Q I rx ry h
  obtain ⟨d, e, hd, he, sd, se, q⟩ := h
  obtain ⟨as, r1⟩ := Dp.reads I d x v hd rx
  obtain ⟨bs, r2⟩ := Dp.reads I e y u he ry
  exact SeqAt.compareNe_shaped r1 r2 sd se hu ⟨.bl _, H, I, rfl, q⟩
end
end L2

namespace L2
open PySem PySem.Spec PyProof.Rows
abbrev CellAt (h : Heap) (c : Addr) (v : Option Value) : Prop := h.IsCell c v
def relS (scope sc : Scope) : Scope :=
  { scope with names := scope.names.map fun (n, k) => if (k == .free && sc.kind == .function && sc.names.lookup n == some .cell) then (n, .cell) else (n, k) }

def cloFrom (cells : List (Str × Addr)) : List (Str × NameKind) → List (Str × Addr) → List (Str × Addr)
  | [], acc => acc
  | (n, k) :: r, acc => if k == .free then cloFrom cells r ((n, (cells.lookup n).getD 0) :: acc) else cloFrom cells r acc

theorem closure_loop (env : Env) (f : Str × NameKind → List (Str × Addr) → Sem (ForInStep (List (Str × Addr))))
    (hf : ∀ n k c, f (n, k) c = if k == .free then (do let a ← cellOf env n; pure (.yield ((n, a) :: c))) else pure (.yield c)) :
    ∀ (names : List (Str × NameKind)) (acc : List (Str × Addr)), (∀ y ∈ names, y.2 = .free → ∃ c, env.cells.lookup y.1 = some c) → forIn names acc f = pure (cloFrom env.cells names acc)
  | [], acc, _ => by rw [List.forIn_nil]; rfl
  | (n, k) :: r, acc, h => by
    rw [List.forIn_cons, hf]
    have ih := fun acc => closure_loop env f hf r acc fun y hy => h y (List.mem_cons_of_mem _ hy)
    unfold cloFrom
    by_cases hk : (k == NameKind.free) = true
    · rw [if_pos hk, if_pos hk]
      obtain ⟨c, hc⟩ := h (n, k) List.mem_cons_self (by simpa using hk)
      have e : cellOf env n = pure c := by unfold cellOf; rw [hc]
      rw [e]
      have e2 : (env.cells.lookup n).getD 0 = c := by rw [hc]; rfl
      rw [e2]
      exact ih _
    · rw [if_neg hk, if_neg hk]
      exact ih _
theorem closure_ok {scope : Scope} {env : Env} (h : ∀ y ∈ scope.names, y.2 = .free → ∃ c, env.cells.lookup y.1 = some c) : closureFor scope env = pure (cloFrom env.cells scope.names []) := by
  simp only [closureFor]
  rw [closure_loop env _ (fun n k c => rfl) scope.names [] h]
  rfl

theorem mem_lookup {α : Type} : ∀ {l : List (Str × α)} {n : Str} {c : α}, (n, c) ∈ l → ∃ c', l.lookup n = some c'
  | (k, v) :: r, n, c, h => by
    rw [List.lookup_cons]
    cases hb : n == k with
    | true => exact ⟨_, rfl⟩
    | false =>
      rcases List.mem_cons.mp h with e | h
      · cases e; simp at hb
      · exact mem_lookup h

theorem cloFrom_mem {cells : List (Str × Addr)} : ∀ {names : List (Str × NameKind)} {acc : List (Str × Addr)} {n : Str} {c : Addr}, (n, c) ∈ cloFrom cells names acc → (n, c) ∈ acc ∨ ((n, .free) ∈ names ∧ c = (cells.lookup n).getD 0)
  | [], _, _, _, h => .inl h
  | (m, k) :: r, acc, n, c, h => by
    unfold cloFrom at h
    split at h
    · rename_i hk
      have hk : k = .free := by simpa using hk
      rcases cloFrom_mem h with h | ⟨h1, h2⟩
      · rcases List.mem_cons.mp h with e | h
        · cases e; exact .inr ⟨hk ▸ List.mem_cons_self, rfl⟩
        · exact .inl h
      · exact .inr ⟨List.mem_cons_of_mem _ h1, h2⟩
    · rcases cloFrom_mem h with h | ⟨h1, h2⟩
      · exact .inl h
      · exact .inr ⟨List.mem_cons_of_mem _ h1, h2⟩
theorem cloFrom_acc {cells : List (Str × Addr)} : ∀ {names : List (Str × NameKind)} {acc : List (Str × Addr)} {p : Str × Addr}, p ∈ acc → p ∈ cloFrom cells names acc
  | [], _, _, h => h
  | (m, k) :: r, acc, p, h => by
    unfold cloFrom
    split
    · exact cloFrom_acc (List.mem_cons_of_mem _ h)
    · exact cloFrom_acc h
theorem cloFrom_has {cells : List (Str × Addr)} : ∀ {names : List (Str × NameKind)} {acc : List (Str × Addr)} {n : Str}, (n, .free) ∈ names → (n, (cells.lookup n).getD 0) ∈ cloFrom cells names acc
  | (m, k) :: r, acc, n, h => by
    unfold cloFrom
    rcases List.mem_cons.mp h with e | h
    · cases e
      exact cloFrom_acc List.mem_cons_self
    · split
      · exact cloFrom_has h
      · exact cloFrom_has h

theorem cells_mem : ∀ {names : List (Str × NameKind)} {h : Heap} {acc : List (Str × Addr)} {x : Str} {c : Addr}, (x, c) ∈ cellsFrom h.objs.size names acc →
    (x, c) ∈ acc ∨ ((x, .cell) ∈ names ∧ h.objs.size ≤ c ∧ CellAt (pushCells h names) c none)
  | [], _, _, _, _, h => .inl h
  | (n, k) :: r, h, acc, x, c, hm => by
    unfold cellsFrom at hm
    unfold pushCells
    split at hm
    · rename_i hk
      rw [if_pos hk]
      have hk : k = .cell := by simpa using hk
      rw [← Heap.size_push h { cls := .type "cell", data := .cell none }] at hm
      rcases cells_mem hm with hm | ⟨h1, h2, h3⟩
      · rcases List.mem_cons.mp hm with e | hm
        · cases e
          exact .inr ⟨hk ▸ List.mem_cons_self, Nat.le_refl _, _, pushCells_keeps r _ _ _ (Heap.get?_push_size _ rfl), rfl⟩
        · exact .inl hm
      · rw [Heap.size_push] at h2
        exact .inr ⟨List.mem_cons_of_mem _ h1, Nat.le_of_succ_le h2, h3⟩
    · rename_i hk
      rw [if_neg hk]
      rcases cells_mem hm with hm | ⟨h1, h2, h3⟩
      · exact .inl hm
      · exact .inr ⟨List.mem_cons_of_mem _ h1, h2, h3⟩
theorem cells_acc : ∀ {names : List (Str × NameKind)} {n : Nat} {acc : List (Str × Addr)} {p : Str × Addr}, p ∈ acc → p ∈ cellsFrom n names acc
  | [], _, _, _, h => h
  | (m, k) :: r, n, acc, p, h => by
    unfold cellsFrom
    split
    · exact cells_acc (List.mem_cons_of_mem _ h)
    · exact cells_acc h
theorem cells_has : ∀ {names : List (Str × NameKind)} {n : Nat} {acc : List (Str × Addr)} {x : Str}, (x, .cell) ∈ names → ∃ c, (x, c) ∈ cellsFrom n names acc
  | (m, k) :: r, n, acc, x, h => by
    unfold cellsFrom
    rcases List.mem_cons.mp h with e | h
    · cases e
      exact ⟨n, cells_acc List.mem_cons_self⟩
    · split
      · exact cells_has h
      · exact cells_has h
theorem cells_inj : ∀ {names : List (Str × NameKind)} {h : Heap} {acc : List (Str × Addr)} {x y : Str} {c : Addr}, (∀ p ∈ acc, p.2 < h.objs.size) → (∀ x y c, (x, c) ∈ acc → (y, c) ∈ acc → x = y) →
    (x, c) ∈ cellsFrom h.objs.size names acc → (y, c) ∈ cellsFrom h.objs.size names acc → x = y
  | [], _, _, _, _, _, _, hi, h1, h2 => hi _ _ _ h1 h2
  | (n, k) :: r, h, acc, x, y, c, hl, hi, h1, h2 => by
    unfold cellsFrom at h1 h2
    split at h1
    · rename_i hk
      rw [if_pos hk] at h2
      rw [← Heap.size_push h { cls := .type "cell", data := .cell none }] at h1 h2
      refine cells_inj (h := h.push _) (fun p hp => ?_) (fun x y c a b => ?_) h1 h2
      · rw [Heap.size_push]
        rcases List.mem_cons.mp hp with rfl | hp
        · exact Nat.lt_succ_self _
        · exact Nat.lt_succ_of_lt (hl p hp)
      · rcases List.mem_cons.mp a with e | a <;> rcases List.mem_cons.mp b with e' | b
        · cases e; cases e'; rfl
        · cases e; exact absurd (hl _ b) (Nat.lt_irrefl _)
        · cases e'; exact absurd (hl _ a) (Nat.lt_irrefl _)
        · exact hi _ _ _ a b
    · rename_i hk
      rw [if_neg hk] at h2
      exact cells_inj hl hi h1 h2

theorem newEnv_comp {M : Model} {A : Around} {E : Value → Shared → Prop} {s : Shared} {scope : Scope} {globals : Addr} {closure : List (Str × Addr)} {qual : Str} {func : Option Addr} {code : Value} {around : Env} {builtins : Addr} {Q : Env → Shared → Prop}
    (h : Q (newEnv scope s.heap.objs.size globals (cellsFrom (s.heap.objs.size + 1) scope.names closure) qual func code (some around) builtins)
      { s with heap := pushCells (s.heap.push { cls := .type "dict", data := .dict #[] }) scope.names }) :
    wpAny M A (newFunctionEnv scope globals closure [] qual func code (some around) builtins) Q E s := by
  simp only [newFunctionEnv, Option.isSome_some, if_true]
  refine wpAny_bind (wpAny_alloc ?_)
  refine wpAny_bind (wpAny_layCells _ (fun n k c => rfl) scope.names closure _ _ ?_)
  rw [show ({ s with heap := s.heap.push { cls := .type "dict", data := .dict #[] } } : Shared).heap.objs.size = s.heap.objs.size + 1 from Heap.size_push ..]
  rw [List.forIn_nil]
  exact wpAny_bind (wpAny_pure (wpAny_pure h))

/-- every name of the written scope, in the scope that runs -/
theorem lookup_relS {sc : Scope} : ∀ {names : List (Str × NameKind)} {x : Str} {k : NameKind},
    (names.map fun (n, k) => if (k == NameKind.free && sc.kind == .function && sc.names.lookup n == some .cell) then (n, NameKind.cell) else (n, k)).lookup x = some k →
    ∃ k', names.lookup x = some k' ∧ (k = k' ∨ (k' = .free ∧ k = .cell))
  | [], _, _, h => by simp at h
  | (n, k₀) :: r, x, k, h => by
    have ih := @lookup_relS sc r x k
    have h' : List.lookup x ((if (k₀ == NameKind.free && sc.kind == .function && sc.names.lookup n == some .cell) = true then (n, NameKind.cell) else (n, k₀)) :: (r.map _)) = some k := h
    cases hx : x == n with
    | true =>
      simp only [List.lookup_cons, hx]
      by_cases hc : (k₀ == NameKind.free && sc.kind == .function && sc.names.lookup n == some .cell) = true
      · rw [if_pos hc] at h'
        simp only [List.lookup_cons, hx] at h'
        cases h'
        simp only [Bool.and_eq_true, beq_iff_eq] at hc
        exact ⟨k₀, rfl, .inr ⟨hc.1.1, rfl⟩⟩
      · rw [if_neg hc] at h'
        simp only [List.lookup_cons, hx] at h'
        cases h'
        exact ⟨_, rfl, .inl rfl⟩
    | false =>
      simp only [List.lookup_cons, hx]
      by_cases hc : (k₀ == NameKind.free && sc.kind == .function && sc.names.lookup n == some .cell) = true
      · rw [if_pos hc] at h'
        simp only [List.lookup_cons, hx] at h'
        exact ih h'
      · rw [if_neg hc] at h'
        simp only [List.lookup_cons, hx] at h'
        exact ih h'
/-- the names of a comprehension's block: its own (with their places in N), or captured -/
structure BlkOk (N : List Str) (sc scope : Scope) (own : List (Str × Nat)) : Prop where
  kind : scope.kind = .function
  uniq : ∀ y ∈ scope.names, scope.names.lookup y.1 = some y.2
  ix : ∀ p ∈ own, N[p.2]? = some p.1
  free : ∀ y ∈ scope.names, y.2 = .free → sc.names.lookup y.1 = some .cell ∨ sc.names.lookup y.1 = some .free
  own : ∀ y ∈ scope.names, y.2 = .local ∨ y.2 = .cell → y.1 ∈ own.map (·.1) ∨ y.1 ∉ N
/-- the slots of the block's own names forgotten -/
def wipe (σ : St) : List Nat → St
  | [] => σ
  | v :: vs => (wipe σ vs).set v none
theorem wipe_length (σ : St) : ∀ vs : List Nat, (wipe σ vs).length = σ.length
  | [] => rfl
  | v :: vs => by unfold wipe; rw [List.length_set, wipe_length σ vs]
theorem wipe_some {σ : St} {i : Nat} {x : V} : ∀ {vs : List Nat}, (wipe σ vs)[i]? = some (some x) → σ[i]? = some (some x) ∧ i ∉ vs
  | [], h => ⟨h, by simp⟩
  | v :: vs, h => by
    unfold wipe at h
    by_cases hi : v = i
    · subst hi
      by_cases hv : v < (wipe σ vs).length
      · rw [List.getElem?_set_self hv] at h; cases h
      · rw [List.getElem?_eq_none (by simpa using hv)] at h; cases h
    · rw [List.getElem?_set_ne hi] at h
      obtain ⟨h1, h2⟩ := wipe_some h
      exact ⟨h1, by simp only [List.mem_cons, not_or]; exact ⟨fun e => hi e.symm, h2⟩⟩

/-- the context of a block that starts at s, its iterator's objects at fp -/
abbrev Cx.blk (X : Cx) (s : Shared) (H : Hp) (scope : Scope) (cenv : Env) (fp : List Addr) : Cx := { X with s_0 := s, H_0 := H, env := cenv, outer := X.stack, ex := fp, fn := fun x => scope.names.lookup x == some .cell, pn := [], xe := fun _ _ => False }
section
variable {X : Cx} {pins : List (Addr × Obj)} {σ : St} {H : Hp} {s : Shared}
theorem block_start {scope : Scope} {own : List (Str × Nat)} {fp : List Addr} (I : Inv X pins σ H s) (ok : BlkOk X.N X.env.scope scope own) (hN : X.N.Nodup) (hfp : ∀ b ∈ fp, FpOk X pins H b ∧ b < s.heap.objs.size) :
    Inv (X.blk s H scope (compEnvC scope (cellsFrom (s.heap.objs.size + 1) scope.names (cloFrom X.env.cells scope.names [])) s.heap.objs.size X.env) fp) [] (wipe σ (own.map (·.2))) H { s with heap := pushCells (s.heap.push { cls := .type "dict", data := .dict #[] }) scope.names } := by
  have hfree : ∀ y ∈ scope.names, y.2 = .free → ∃ c, X.env.cells.lookup y.1 = some c := fun y hy e => by
    rcases ok.free y hy e with k | k
    · exact I.ok.has _ (.inl k)
    · exact I.ok.has _ (.inr k)
  generalize hcenv : compEnvC scope (cellsFrom (s.heap.objs.size + 1) scope.names (cloFrom X.env.cells scope.names [])) s.heap.objs.size X.env = cenv
  have kp : ∀ b o, s.heap.get? b = some o → (pushCells (s.heap.push { cls := .type "dict", data := .dict #[] }) scope.names).get? b = some o := fun b o e => pushCells_keeps _ _ _ _ (Heap.get?_push_of_some _ e)
  have hL : cenv.locals = s.heap.objs.size := by rw [← hcenv]; rfl
  have hcl : cenv.cells = cellsFrom (s.heap.objs.size + 1) scope.names (cloFrom X.env.cells scope.names []) := by rw [← hcenv]; rfl
  have hsc : cenv.scope = relS scope X.env.scope := by rw [← hcenv]; rfl
  rw [← Heap.size_push s.heap { cls := .type "dict", data := .dict #[] }] at hcl
  have cm : ∀ {y c}, (y, c) ∈ cloFrom X.env.cells scope.names [] → X.env.cells.lookup y = some c ∧ c < s.heap.objs.size := fun {y c} hm => by
    rcases cloFrom_mem hm with hm | ⟨h1, rfl⟩
    · cases hm
    · obtain ⟨c, hc⟩ := hfree _ h1 rfl
      rw [hc]
      obtain ⟨w, z⟩ := I.cell _ _ hc
      exact ⟨rfl, z.lt⟩
  have mem : ∀ {y c}, cenv.cells.lookup y = some c → (X.env.cells.lookup y = some c ∧ c < s.heap.objs.size) ∨ (s.heap.objs.size + 1 ≤ c ∧ CellAt (pushCells (s.heap.push { cls := .type "dict", data := .dict #[] }) scope.names) c none) := fun {y c} e => by
    rw [hcl] at e
    rcases cells_mem (PySem.mem_of_lookup e) with hm | ⟨_, h2, h3⟩
    · exact .inl (cm hm)
    · rw [Heap.size_push] at h2; exact .inr ⟨h2, h3⟩
  have look : ∀ {y}, scope.names.lookup y = some .free → ∃ c, cenv.cells.lookup y = some c ∧ X.env.cells.lookup y = some c := fun {y} hl => by
    have hy : (y, NameKind.free) ∈ scope.names := PySem.mem_of_lookup hl
    obtain ⟨c', e'⟩ := mem_lookup (cells_acc (names := scope.names) (n := (s.heap.push { cls := .type "dict", data := .dict #[] }).objs.size) (cloFrom_has (cells := X.env.cells) (acc := []) hy))
    rw [← hcl] at e'
    refine ⟨c', e', ?_⟩
    rw [hcl] at e'
    rcases cells_mem (PySem.mem_of_lookup e') with hm | ⟨h1, _, _⟩
    · exact (cm hm).1
    · have := ok.uniq _ h1
      rw [hl] at this; cases this
  have okB : (X.blk s H scope cenv fp).Ok := by
    refine ⟨I.ok.mod, by show cenv.scope.kind = _; rw [hsc]; exact ok.kind, by show cenv.globals = _; rw [← hcenv]; exact I.ok.glob, by show cenv.builtins = _; rw [← hcenv]; exact I.ok.blt, by show s.heap.objs.size ≤ cenv.locals; rw [hL]; exact Nat.le_refl _,
      fun y z c e1 e2 => ?_, fun y hy => ?_, fun y c z e => ?_, I.ok.hd, I.ok.frames, .inl rfl, fun b hb => ⟨?_, fun y c e z => ?_⟩, I.bs, Nat.le_trans I.ok.bsz I.sz, fun b o e hb => ?_, fun b hb z => ?_, I.stack, I.stkFree, fun i y c e1 e2 hx => ?_⟩
    · have e1 : cenv.cells.lookup y = some c := e1
      have e2 : cenv.cells.lookup z = some c := e2
      rw [hcl] at e1 e2
      refine cells_inj (fun p hp => ?_) (fun y z c a b => I.ok.inj y z c (cm a).1 (cm b).1) (PySem.mem_of_lookup e1) (PySem.mem_of_lookup e2)
      rw [Heap.size_push]
      exact Nat.lt_succ_of_lt (cm (y := p.1) (c := p.2) hp).2
    · show ∃ c, cenv.cells.lookup y = some c
      have key : ∀ k, cenv.kindOf y = some k → (k = .cell ∨ k = .free) → ∃ c, cenv.cells.lookup y = some c := fun k hk hk' => by
        unfold Env.kindOf at hk
        rw [hsc] at hk
        obtain ⟨k', e, r⟩ := lookup_relS hk
        have : k' = .cell ∨ k' = .free := by
          rcases r with rfl | ⟨rfl, _⟩
          · exact hk'
          · exact .inr rfl
        rcases this with rfl | rfl
        · obtain ⟨c, hm⟩ := cells_has (n := (s.heap.push { cls := .type "dict", data := .dict #[] }).objs.size) (acc := cloFrom X.env.cells scope.names []) (PySem.mem_of_lookup e)
          obtain ⟨c', e'⟩ := mem_lookup hm
          exact ⟨c', by rw [hcl]; exact e'⟩
        · obtain ⟨c, h1, _⟩ := look e
          exact ⟨c, h1⟩
      rcases hy with hy | hy
      · exact key _ hy (.inl rfl)
      · exact key _ hy (.inr rfl)
    · have z : (scope.names.lookup y == some NameKind.cell) = true := z
      have z : scope.names.lookup y = some .cell := by simpa using z
      have e : cenv.cells.lookup y = some c := e
      rw [hcl] at e
      rcases cells_mem (PySem.mem_of_lookup e) with hm | ⟨_, h2, _⟩
      · rcases cloFrom_mem hm with hm | ⟨h1, _⟩
        · cases hm
        · have q := ok.uniq _ h1
          rw [z] at q; cases q
      · rw [Heap.size_push] at h2
        exact Nat.le_of_succ_le h2
    · show b ≠ cenv.locals
      rw [hL]; exact Nat.ne_of_lt (hfp b hb).2
    · have e : cenv.cells.lookup y = some c := e
      rcases mem e with ⟨h1, _⟩ | ⟨h1, _⟩
      · exact (hfp b hb).1.2.2.2.2.1 y c h1 z
      · have h2 : s.heap.objs.size + 1 ≤ b := by rw [← z]; exact h1
        exact absurd (Nat.lt_of_lt_of_le (hfp b hb).2 (Nat.le_of_succ_le h2)) (Nat.lt_irrefl _)
    · rcases (hfp b hb).1.2.2.2.1 with z | z
      · exact I.ok.noex b o e z
      · rw [(I.ok.bs b o e).1] at z; cases z
    · rcases List.mem_cons.mp (I.stkSub b z) with z | z
      · exact (hfp b hb).1.2.1 z
      · exact (hfp b hb).1.2.2.1 z
    · rcases mem e2 with ⟨h1, _⟩ | ⟨h1, _⟩
      · exact I.ok.hcN i y c e1 h1 hx
      · obtain ⟨v, q⟩ := I.hct c hx
        exact absurd (Nat.lt_of_lt_of_le (I.hok.lt q) (Nat.le_of_succ_le h1)) (Nat.lt_irrefl _)
  refine ⟨okB, rfl, I.bare, Un.kept kp, ⟨fun _ => none, ?_, fun i y av e1 e2 e3 => ?_⟩, fun y c e => ?_, ?_, fun y c e hx => ?_, I.hct, fun p hp => ?_, I.hok.kept kp, by rw [wipe_length]; exact I.len⟩
  · show Heap.Ns _ cenv.locals _
    rw [hL]
    exact Heap.Ns.keeps (Heap.Ns.new ..) fun b o e => pushCells_keeps _ _ _ _ e
  · obtain ⟨e2, hne⟩ := wipe_some e2
    have hfr : scope.names.lookup y = some .free ∧ (cenv.kindOf y = some .cell ∨ cenv.kindOf y = some .free) := by
      have key : ∀ k, cenv.scope.names.lookup y = some k → k = .local ∨ k = .cell ∨ k = .free → scope.names.lookup y = some .free ∧ (cenv.kindOf y = some .cell ∨ cenv.kindOf y = some .free) := fun k hk hk' => by
        have hk0 := hk
        rw [hsc] at hk
        obtain ⟨k', e, r⟩ := lookup_relS hk
        have no : ¬ (k' = .local ∨ k' = .cell) := fun hh => by
          rcases ok.own _ (PySem.mem_of_lookup e) hh with e' | e'
          · obtain ⟨p, hp, hpy⟩ := List.mem_map.mp e'
            have e3 := ok.ix p hp
            have : p.1 = y := hpy
            rw [this] at e3
            exact hne (List.mem_map.mpr ⟨p, hp, nodup_ix hN e3 e1⟩)
          · exact e' (List.mem_of_getElem? e1)
        rcases r with rfl | ⟨rfl, rfl⟩
        · rcases hk' with rfl | rfl | rfl
          · exact absurd (.inl rfl) no
          · exact absurd (.inr rfl) no
          · exact ⟨e, .inr hk0⟩
        · exact ⟨e, .inl hk0⟩
      have e3 : Vis cenv.scope y := e3
      rcases e3 with e3 | e3 | e3
      · exact key _ e3 (.inl rfl)
      · exact key _ e3 (.inr (.inl rfl))
      · exact key _ e3 (.inr (.inr rfl))
    obtain ⟨m, hn, hl⟩ := I.loc
    have hvis : Vis X.env.scope y := (ok.free _ (PySem.mem_of_lookup hfr.1) rfl).elim (fun k => .inr (.inl k)) (fun k => .inr (.inr k))
    obtain ⟨w, r, q⟩ := hl i y av e1 e2 hvis
    refine ⟨w, r, .inr ⟨hfr.2, ?_⟩⟩
    obtain ⟨c, h1, h2⟩ := look hfr.1
    rcases q with ⟨k, _⟩ | ⟨_, c', e', z⟩
    · have k : X.env.scope.names.lookup y = some .local := k
      rcases ok.free _ (PySem.mem_of_lookup hfr.1) rfl with k' | k' <;> rw [show X.env.scope.names.lookup y = _ from k'] at k <;> cases k
    · rw [h2] at e'; cases e'
      exact ⟨c, h1, z.keeps kp⟩
  · have e : cenv.cells.lookup y = some c := e
    rcases mem e with ⟨h1, _⟩ | ⟨_, z⟩
    · obtain ⟨w, z⟩ := I.cell y c h1
      exact ⟨w, z.keeps kp⟩
    · exact ⟨_, z⟩
  · show H cenv.locals = none
    rw [hL]; exact I.hok.fresh (Nat.le_refl _)
  · have e : cenv.cells.lookup y = some c := e
    rcases mem e with ⟨h1, _⟩ | ⟨h1, _⟩
    · exact I.freeC y c h1 hx
    · exact I.hok.fresh (Nat.le_of_succ_le h1)
  · exact absurd (show p ∈ ([] : List (Addr × Obj)) ++ [] from hp) (by simp)

/-- an item appended to a tracked list -/
theorem app_ok {E : Value → Shared → Prop} {D : Addr} {xs : List V} {y : V} {v : Value} {Q : Value → Shared → Prop} (I : Inv X pins σ H s) (hD : H D = some (.lst xs)) (hz : xs.length < sizeLine) (r : RelV y v)
    (h : ∀ s', Inv X pins σ (upd H D (.lst (xs ++ [y]))) s' → Q .none s') : wpAny (model X.prog X.w) X.A (call (.builtin "list.append") [.ref D, v]) Q E s := by
  obtain ⟨hz', its, n, ri, e⟩ := I.hok D _ hD
  have hl := ri.length
  refine append_at (hsz := by rw [List.size_toArray]; omega) e fun h' sb ho' => ?_
  refine h { s with heap := h' } (I.write (t' := s.toks) (by rw [hD]; trivial) (.inl rfl) (fun b u hb q => (sb.2 b hb).trans q) ⟨_, ho'⟩ ⟨by rw [List.length_append]; exact hz, its ++ [v], n + 1, ri.append (.cons r .nil), ?_⟩)
  rw [ho']
  simp

/-- a clause's tests -/
def PTs (X : Cx) (ifs : List Expr) (t : TT) : Prop :=
  ∀ (pins : List (Addr × Obj)) (s : Shared) (σ : St) (H : Hp) (Q : Bool → Hp → Prop), Inv X pins σ H s → t σ H Q →
    wpAny (model X.prog X.w) X.A (forIn ifs true fun c r => if r = true then do let ok ← isTrue c X.env (eval c X.env); pure (ForInStep.yield ok) else pure (ForInStep.yield r)) (TP X pins σ Q) X.xe s
def tYes : TT := fun _ H Q => Q true H
theorem pts_nil : PTs X [] tYes := fun _ _ _ H _ I h => wpAny_tests_nil ⟨H, I, h⟩
theorem pts_one {c : Expr} {t : TT} (h : PT X c t) : PTs X [c] t := fun pins s σ H Q I hw => wpAny_tests_one (h pins s σ H Q I hw)
end

theorem thnF {α : Type} {t : Sem α} {Q Q' : α → Shared → Prop} {M : Model} {A : Around} {E : Value → Shared → Prop} {s : Shared} (h : wpAny M A t Q (fun _ _ => False) s) (hQ : ∀ a s, Q a s → Q' a s) : wpAny M A t Q' E s := wpAny_mono h hQ fun _ _ z => False.elim z

/-- the loop of a list comprehension's block, the target of any form (codeAny_compLoop_tests asks a target that no tuple goes to; statement and proof follow it, PyProof/CompMap.lean:41-61, with the step letOwnedTupleGo kept) -/
theorem compLoop_any {prog : Program} {w : World} {A : Around} {R : Result → Shared → Prop} {s : Shared} {elt target iter : Expr} {ifs : List Expr} {scope : Scope} {pos : Pos} {it acc : Value} {env : Env} (I : Nat → Shared → Prop)
    (turn : ∀ n s, I n s → wpAny (model prog w) A (pyNext it) (fun r s₁ => match r with
      | none => R (.ok .next) s₁
      | some v => wpAny (model prog w) A (letOwnedTupleGo target it v) (fun _ s₁' => wpAny (model prog w) A (assign target env v) (fun _ s₂ =>
          wpAny (model prog w) A (forIn ifs true fun c r => if r = true then do let ok ← isTrue c env (eval c env); pure (ForInStep.yield ok) else pure (ForInStep.yield r)) (fun ok s₃ =>
            if ok = true then wpAny (model prog w) A (eval elt env) (fun x s₄ =>
              wpAny (model prog w) A (call (.builtin "list.append") [acc, x]) (fun _ s₅ => ∃ m, m < n ∧ I m s₅) (notedBy (model prog w) A env fun e s' => R (.error e) s') s₄) (notedBy (model prog w) A env fun e s' => R (.error e) s') s₃
            else ∃ m, m < n ∧ I m s₃) (notedBy (model prog w) A env fun e s' => R (.error e) s') s₂) (notedBy (model prog w) A env fun e s' => R (.error e) s') s₁') (notedBy (model prog w) A env fun e s' => R (.error e) s') s₁) (notedBy (model prog w) A env fun e s' => R (.error e) s') s)
    (n : Nat) (h : I n s) :
    codeAny (model prog w) A (.compLoop (.ListComp elt [⟨target, iter, ifs, 0⟩] scope pos) 0 it acc env) R s := by
  refine codeAny_loop rfl I (fun n s hI => ?_) n h
  show wpAny _ A ((compTurn (.ListComp elt [⟨target, iter, ifs, 0⟩] scope pos) 0 it acc env).onRaise (fun x => do noteFrame x env; theTreesLotGoes x)) _ _ s
  refine wpAny_noted ?_
  rw [compTurn_list]
  refine wpAny_bind (wpAny_standAt (wpAny_bind (wpAny_mono (turn n s hI) (fun r s₁ h₁ => ?_) fun _ _ h' => h')))
  cases r with
  | none => exact wpAny_pure h₁
  | some v =>
    refine wpAny_bind (wpAny_mono h₁ (fun _ s₁' h₁' => ?_) fun _ _ h' => h')
    refine wpAny_bind (wpAny_mono h₁' (fun _ s₂ h₂ => wpAny_bind (wpAny_mono h₂ (fun ok s₃ h₃ => ?_) fun _ _ h' => h')) fun _ _ h' => h')
    cases ok with
    | false => exact wpAny_pure ⟨rfl, h₃⟩
    | true =>
      exact wpAny_bind (wpAny_bind (wpAny_mono h₃ (fun x s₄ h₄ => wpAny_bind (wpAny_mono h₄ (fun _ s₅ h₅ => wpAny_pure (wpAny_pure ⟨rfl, h₅⟩)) fun _ _ h' => h')) fun _ _ h' => h'))

section
variable {X : Cx}
/-- [elt for target in iter if ..]: D the new list; W by the turn and a measure, Nx what a turn is to reach -/
def tLc (wi : TI) (g : TG) (tt : TT) (te : TE) (vs : List Nat) : TE := fun σ H Q => wi σ H fun J H1 => ∀ D, H1 D = none → ∃ W : Nat → Nat → Hp → Prop, (∃ m, W 0 m (upd H1 D (.lst []))) ∧ ∀ i m H, W i m H →
  (J.stop i H ∧ Q (.ref D) H) ∨ (J.go i H ∧ ∃ Nx : Hp → Prop, (∀ H', Nx H' → ∃ m', m' < m ∧ W (i + 1) m' H') ∧ ∀ x H', J.yld i H x H' → g x (wipe σ vs) H' fun σ2 H2 => wipe σ2 vs = wipe σ vs ∧ tt σ2 H2 fun b H3 =>
    if b = true then te σ2 H3 fun y H4 => ∃ acc, H4 D = some (.lst acc) ∧ acc.length < sizeLine ∧ Nx (upd H4 D (.lst (acc ++ [y]))) else Nx H3)
theorem lc_core {pins : List (Addr × Obj)} {s : Shared} {σ : St} {H : Hp} {Q : VK} {elt tg iter : Expr} {ifs : List Expr} {scope : Scope} {own : List (Str × Nat)} {pos pos' : Pos} {wi : TI} {g : TG} {tt : TT} {te : TE} {use : Option (Value → Sem Unit)} {Qf : Value → Shared → Prop}
    (hc : X.calm = true) (hN : X.N.Nodup) (I : Inv X pins σ H s) (hi : PI X tg iter wi) (ok : BlkOk X.N X.env.scope scope own)
    (hg : ∀ (s : Shared) (H : Hp) (C : Addr) (hC : C = s.heap.objs.size) (fp : List Addr), PG (X.blk s H scope (compEnvC scope (cellsFrom (s.heap.objs.size + 1) scope.names (cloFrom X.env.cells scope.names [])) C X.env) fp) tg g) (ht : ∀ (s : Shared) (H : Hp) (C : Addr) (hC : C = s.heap.objs.size) (fp : List Addr), PTs (X.blk s H scope (compEnvC scope (cellsFrom (s.heap.objs.size + 1) scope.names (cloFrom X.env.cells scope.names [])) C X.env) fp) ifs tt)
    (he : ∀ (s : Shared) (H : Hp) (C : Addr) (hC : C = s.heap.objs.size) (fp : List Addr), PE (X.blk s H scope (compEnvC scope (cellsFrom (s.heap.objs.size + 1) scope.names (cloFrom X.env.cells scope.names [])) C X.env) fp) elt te) (hs : ∀ x, foldedSetIterable iter X.env x = pure x)
    (h : tLc wi g tt te (own.map (·.2)) σ H Q)
    (hRR : ∀ D C s' m H', Inv X pins σ H' s' → Q (.ref D) H' → s'.heap.Ns C m → FpOk X pins H' C → compPost (model X.prog X.w) X.A X.xe use Qf (.ref D) C (.ok .next) s') :
    wpAny (model X.prog X.w) X.A (comprehension (.ListComp elt [⟨tg, iter, ifs, 0⟩] scope pos) scope X.env pos' (newList []) false (eval iter X.env) use) Qf X.xe s := by
  have hfree : ∀ y ∈ scope.names, y.2 = .free → ∃ c, X.env.cells.lookup y.1 = some c := fun y hy e => by
    rcases ok.free y hy e with k | k
    · exact I.ok.has _ (.inl k)
    · exact I.ok.has _ (.inr k)
  refine wpAny_comprehension_free (use := use) rfl hs (closure_ok hfree) ok.kind (fun y hy e => by rw [ok.uniq y hy, e])
    (thn (hi pins s σ H _ I h) fun xv s1 hx => thn hx fun itv s2 h2 => ?_)
  obtain ⟨it, fp, tn, J, H2, e, I2, T, st2, f2, q⟩ := h2
  subst e
  refine wpAny_newObj_type (newEnv_comp ?_) (by show 0 ≤ sizeLine; decide)
  generalize hD : s2.heap.objs.size = D
  have hDn : H2 D = none := I2.hok.fresh (Nat.le_of_eq hD)
  obtain ⟨W, ⟨m0, w0⟩, turn⟩ := q D hDn
  -- the new list
  generalize hs3 : ({ s2 with heap := s2.heap.push { cls := .type "list", data := .seq ([] : List Value).toArray } } : Shared) = s3
  have I3 : Inv X pins σ (upd H2 D (.lst [])) s3 := by
    rw [← hs3]
    refine I2.laid (t' := s2.toks) (fun b o e => Heap.get?_push_of_some _ e) (Nat.le_of_eq hD) ⟨Nat.zero_le _, [], 0, .nil, ?_⟩
    rw [← hD]
    exact Heap.get?_push_size _ rfl
  have h3 : s3.heap = s2.heap.push { cls := .type "list", data := .seq ([] : List Value).toArray } := by rw [← hs3]
  have sz : ∀ b ∈ fp, b < s2.heap.objs.size := fun b hb => by
    obtain ⟨o, e, _⟩ := T.obj _ _ st2 b hb
    exact Heap.lt_size e
  have f3 : ∀ b ∈ fp, FpOk X pins (upd H2 D (.lst [])) b ∧ b < s3.heap.objs.size := fun b hb => by
    have hlt := sz b hb
    refine ⟨⟨?_, (f2 b hb).2⟩, by rw [h3, Heap.size_push]; exact Nat.lt_succ_of_lt hlt⟩
    rw [upd_ne (by rw [← hD]; exact Nat.ne_of_lt hlt)]
    exact (f2 b hb).1
  have st3 : tn 0 s3.heap := T.keep _ _ _ st2 fun b _ o e => by rw [h3]; exact Heap.get?_push_of_some _ e
  have I4 := block_start I3 ok hN f3
  have pg := hg s3 (upd H2 D (.lst [])) s3.heap.objs.size rfl fp
  have pt := ht s3 (upd H2 D (.lst [])) s3.heap.objs.size rfl fp
  have pe := he s3 (upd H2 D (.lst [])) s3.heap.objs.size rfl fp
  show codeAny _ _ (.compStart (.ListComp elt [⟨tg, iter, ifs, 0⟩] scope pos) 0 (.ref it) (.ref D) (compEnvC scope (cellsFrom (s3.heap.objs.size + 1) scope.names (cloFrom X.env.cells scope.names [])) s3.heap.objs.size X.env)) (compPost (model X.prog X.w) X.A X.xe use Qf (.ref D) s3.heap.objs.size) { s3 with heap := pushCells (s3.heap.push { cls := .type "dict", data := .dict #[] }) scope.names }
  have nfp : ∀ b ∈ fp, (upd H2 D (.lst [])) b = none := fun b hb => (f3 b hb).1.1
  generalize hce : compEnvC scope (cellsFrom (s3.heap.objs.size + 1) scope.names (cloFrom X.env.cells scope.names [])) s3.heap.objs.size X.env = ce at I4 pg pt pe ⊢
  have cL : ce.locals = s3.heap.objs.size := by subst hce; rfl
  generalize hH3 : upd H2 D (.lst []) = H3 at I3 I4 pg pt pe w0 nfp f3
  generalize hs4 : ({ s3 with heap := pushCells (s3.heap.push { cls := .type "dict", data := .dict #[] }) scope.names } : Shared) = s4 at I4 ⊢
  have st4 : tn 0 s4.heap := T.keep _ _ _ st3 fun b _ o e => by rw [← hs4]; exact pushCells_keeps _ _ _ _ (Heap.get?_push_of_some _ e)
  have stat : ∀ {σ' : St} {H' : Hp} {s' : Shared}, Inv (X.blk s3 H3 scope ce fp) [] σ' H' s' → (∀ b ∈ fp, H' b = none) → ∀ b ∈ fp, FpOk (X.blk s3 H3 scope ce fp) [] H' b := fun {σ' H' s'} I' hn b hb =>
    ⟨hn b hb, (I'.ok.exf b hb).1, I'.ok.exfs b hb, .inl hb, fun x c e => (I'.ok.exf b hb).2 x c e, fun p hp => absurd (show p ∈ ([] : List (Addr × Obj)) ++ [] from hp) (by simp)⟩
  have loop : codeAny (model X.prog X.w) X.A (.compLoop (.ListComp elt [⟨tg, iter, ifs, 0⟩] scope pos) 0 (.ref it) (.ref D) ce) (compPost (model X.prog X.w) X.A X.xe use Qf (.ref D) s3.heap.objs.size) s4 := by
    refine compLoop_any (fun n s' => ∃ i H', Inv (X.blk s3 H3 scope ce fp) [] (wipe σ (own.map (·.2))) H' s' ∧ tn i s'.heap ∧ (∀ b ∈ fp, H' b = none) ∧ W i n H') ?_ m0 ⟨0, H3, I4, st4, nfp, w0⟩
    rintro n s5 ⟨i, H5, I5, st5, n5, w5⟩
    rcases turn i n H5 w5 with ⟨stop, qq⟩ | ⟨go, Nx, hNx, step⟩
    · have td := T.done (X.blk s3 H3 scope ce fp) rfl rfl rfl hc i [] s5 _ H5 (fun _ _ => False) I5 (stat I5 n5) st5 stop
      refine thnF td fun r s6 ⟨hr, I6⟩ => ?_
      subst hr
      -- back in the def's context
      have I7 : Inv X pins σ H5 s6 := I3.call' (ch := fp) I6.os I6.base I6.hok I6.bare fun b hb => ⟨(f3 b hb).1.2.2.2.1, (f3 b hb).1.2.1, (f3 b hb).1.2.2.2.2.1, (f3 b hb).1.2.2.2.2.2⟩
      have nC : H5 s3.heap.objs.size = none := by
        have z : H5 ce.locals = none := I6.free
        rw [cL] at z
        exact z
      obtain ⟨m, hn, _⟩ := I6.loc
      have hn : s6.heap.Ns ce.locals m := hn
      rw [cL] at hn
      exact hRR D s3.heap.objs.size s6 m H5 I7 qq hn (I3.fpOk (Nat.le_refl _) nC)
    · have ti := T.item (X.blk s3 H3 scope ce fp) rfl rfl rfl hc i [] s5 _ H5 (fun _ _ => False) I5 (stat I5 n5) st5 go
      refine thnF ti fun r s6 ⟨u, hr, h6⟩ => ?_
      subst hr
      refine thnF h6 fun _ s7 ⟨x, H7, I7, r7, y7, st7, n7⟩ => ?_
      have I7' := I7.pinned (stat I7 n7) (T.obj _ _ st7)
      refine thnF (pg _ s7 _ H7 x u _ I7' r7 (step x H7 y7)) fun _ s8 ⟨σ8, H8, I8, hw8, q8⟩ => ?_
      refine thnF (pt _ s8 σ8 H8 _ I8 q8) fun b s9 ⟨H9, I9, q9⟩ => ?_
      -- the turn's end
      have fin : ∀ {s' : Shared} {H' : Hp}, Inv (X.blk s3 H3 scope ce fp) ([] ++ pinsAt fp s7.heap) σ8 H' s' → Nx H' → ∃ m, m < n ∧ ∃ i H', Inv (X.blk s3 H3 scope ce fp) [] (wipe σ (own.map (·.2))) H' s' ∧ tn i s'.heap ∧ (∀ b ∈ fp, H' b = none) ∧ W i m H' := fun {s' H'} I' nx => by
        obtain ⟨m', hm, w'⟩ := hNx H' nx
        have pin' : ∀ b ∈ fp, ∀ o, s7.heap.get? b = some o → s'.heap.get? b = some o ∧ H' b = none := fun b hb o e =>
          let z := I'.pin (b, o) (List.mem_append_right _ (List.mem_append_right _ (mem_pinsAt hb e)))
          ⟨z.1, z.2.1⟩
        have hl : (wipe σ (own.map (·.2))).length = σ8.length := by rw [← hw8, wipe_length]
        refine ⟨m', hm, i + 1, H', (I'.unpinned (pins := [])).weak hl (fun j v e => ?_), T.keep _ _ _ st7 fun b hb o e => (pin' b hb o e).1, fun b hb => ?_, w'⟩
        · rw [← hw8] at e
          exact (wipe_some e).1
        · obtain ⟨o, e, _⟩ := T.obj _ _ st7 b hb
          exact (pin' b hb o e).2
      cases b with
      | false =>
        simp only [Bool.false_eq_true, if_false] at q9 ⊢
        exact fin I9 q9
      | true =>
        simp only [if_true] at q9 ⊢
        refine thnF (pe _ s9 σ8 H9 _ I9 q9) fun z s10 ⟨yv, H10, I10, r10, acc, hD10, hz10, nx⟩ => ?_
        exact app_ok (X := X.blk s3 H3 scope ce fp) I10 hD10 hz10 r10 fun s11 I11 => fin I11 nx
  exact codeAny_compStart_list loop (T.self X.A 0 _ _ _ st4 loop)
/-- as a value -/
theorem pe_lc {elt tg iter : Expr} {ifs : List Expr} {scope : Scope} {own : List (Str × Nat)} {pos : Pos} {wi : TI} {g : TG} {tt : TT} {te : TE} (hc : X.calm = true) (hN : X.N.Nodup) (hi : PI X tg iter wi) (ok : BlkOk X.N X.env.scope scope own)
    (hg : ∀ (s : Shared) (H : Hp) (C : Addr) (hC : C = s.heap.objs.size) (fp : List Addr), PG (X.blk s H scope (compEnvC scope (cellsFrom (s.heap.objs.size + 1) scope.names (cloFrom X.env.cells scope.names [])) C X.env) fp) tg g) (ht : ∀ (s : Shared) (H : Hp) (C : Addr) (hC : C = s.heap.objs.size) (fp : List Addr), PTs (X.blk s H scope (compEnvC scope (cellsFrom (s.heap.objs.size + 1) scope.names (cloFrom X.env.cells scope.names [])) C X.env) fp) ifs tt)
    (he : ∀ (s : Shared) (H : Hp) (C : Addr) (hC : C = s.heap.objs.size) (fp : List Addr), PE (X.blk s H scope (compEnvC scope (cellsFrom (s.heap.objs.size + 1) scope.names (cloFrom X.env.cells scope.names [])) C X.env) fp) elt te) (hs : ∀ x, foldedSetIterable iter X.env x = pure x := by intro _; rfl) :
    PE X (.ListComp elt [⟨tg, iter, ifs, 0⟩] scope pos) (tLc wi g tt te (own.map (·.2))) := by
  intro pins s σ H Q I h
  rw [eval_ListComp]
  refine lc_core hc hN I hi ok hg ht he hs h fun D C s' m H' I' q hn f => ⟨m, hn, fun h'' sb => ?_⟩
  obtain ⟨f0, f1, f2, f3, f4, f5⟩ := f
  exact ⟨.ref D, H', I'.turned (t' := s'.toks) (fun b o hb e => (sb.2 b hb).trans e) f0 f1 f3 f4 f5, rfl, q⟩
end

/-! ### the forms one uses -/
/-- over a range: Pv by the turn and the heap (the new list at D within) -/
theorem lc_range {lo : Int} {n : Nat} {g : TG} {tt : TT} {te : TE} {vs : List Nat} {σ : St} {H1 : Hp} {D : Addr} {Qd : Hp → Prop} (Pv : Nat → Hp → Prop) (h0 : Pv 0 (upd H1 D (.lst [])))
    (hs : ∀ i H, i < n → Pv i H → g (.int (lo + i)) (wipe σ vs) H fun σ2 H2 => wipe σ2 vs = wipe σ vs ∧ tt σ2 H2 fun b H3 =>
      if b = true then te σ2 H3 fun y H4 => ∃ acc, H4 D = some (.lst acc) ∧ acc.length < sizeLine ∧ Pv (i + 1) (upd H4 D (.lst (acc ++ [y]))) else Pv (i + 1) H3) (hd : ∀ H, Pv n H → Qd H) :
    ∃ W : Nat → Nat → Hp → Prop, (∃ m, W 0 m (upd H1 D (.lst []))) ∧ ∀ i m H, W i m H →
      ((Itr lo n).stop i H ∧ Qd H) ∨ ((Itr lo n).go i H ∧ ∃ Nx : Hp → Prop, (∀ H', Nx H' → ∃ m', m' < m ∧ W (i + 1) m' H') ∧ ∀ x H', (Itr lo n).yld i H x H' → g x (wipe σ vs) H' fun σ2 H2 => wipe σ2 vs = wipe σ vs ∧ tt σ2 H2 fun b H3 =>
        if b = true then te σ2 H3 fun y H4 => ∃ acc, H4 D = some (.lst acc) ∧ acc.length < sizeLine ∧ Nx (upd H4 D (.lst (acc ++ [y]))) else Nx H3) := by
  refine ⟨fun i m H => m = n - i ∧ i ≤ n ∧ Pv i H, ⟨n, by simp, Nat.zero_le _, h0⟩, ?_⟩
  rintro i m H ⟨rfl, hi, p⟩
  by_cases hlt : i < n
  · refine .inr ⟨hlt, Pv (i + 1), fun H' p' => ⟨n - (i + 1), by omega, rfl, hlt, p'⟩, fun x H' y => ?_⟩
    obtain ⟨e, y⟩ := y
    subst e y
    exact hs i _ hlt p
  · have e : i = n := by omega
    subst e
    exact .inl ⟨Nat.le_refl _, hd H p⟩
/-- over a list that the block leaves as it is -/
theorem lc_list {K : PySem.W.Frag} {a : Addr} {xs : List V} {g : TG} {tt : TT} {te : TE} {vs : List Nat} {σ : St} {H1 : Hp} {D : Addr} {Qd : Hp → Prop} (Pv : Nat → Hp → Prop) (h0 : Pv 0 (upd H1 D (.lst []))) (hl : ∀ i H, i ≤ xs.length → Pv i H → SqL K H a xs)
    (hs : ∀ i x H, xs[i]? = some x → Pv i H → g x (wipe σ vs) H fun σ2 H2 => wipe σ2 vs = wipe σ vs ∧ tt σ2 H2 fun b H3 =>
      if b = true then te σ2 H3 fun y H4 => ∃ acc, H4 D = some (.lst acc) ∧ acc.length < sizeLine ∧ Pv (i + 1) (upd H4 D (.lst (acc ++ [y]))) else Pv (i + 1) H3) (hd : ∀ H, Pv xs.length H → Qd H) :
    ∃ W : Nat → Nat → Hp → Prop, (∃ m, W 0 m (upd H1 D (.lst []))) ∧ ∀ i m H, W i m H →
      ((Itl K a).stop i H ∧ Qd H) ∨ ((Itl K a).go i H ∧ ∃ Nx : Hp → Prop, (∀ H', Nx H' → ∃ m', m' < m ∧ W (i + 1) m' H') ∧ ∀ x H', (Itl K a).yld i H x H' → g x (wipe σ vs) H' fun σ2 H2 => wipe σ2 vs = wipe σ vs ∧ tt σ2 H2 fun b H3 =>
        if b = true then te σ2 H3 fun y H4 => ∃ acc, H4 D = some (.lst acc) ∧ acc.length < sizeLine ∧ Nx (upd H4 D (.lst (acc ++ [y]))) else Nx H3) := by
  refine ⟨fun i m H => m = xs.length - i ∧ i ≤ xs.length ∧ Pv i H, ⟨xs.length, by simp, Nat.zero_le _, h0⟩, ?_⟩
  rintro i m H ⟨rfl, hi, p⟩
  have q := hl i H hi p
  by_cases hlt : i < xs.length
  · refine .inr ⟨⟨xs, xs[i], q, by simp [hlt]⟩, Pv (i + 1), fun H' p' => ⟨xs.length - (i + 1), by omega, rfl, hlt, p'⟩, fun x H' y => ?_⟩
    obtain ⟨e, y⟩ := y
    subst e
    exact hs i x _ (y xs q) p
  · have e : i = xs.length := by omega
    subst e
    exact .inl ⟨⟨xs, q, Nat.le_refl _⟩, hd H p⟩
def blkC (N : List Str) (sc scope : Scope) (own : List (Str × Nat)) : Bool :=
  (match scope.kind with | .function => true | _ => false) && (scope.names.all fun y => decide (scope.names.lookup y.1 = some y.2)) && (own.all fun p => decide (N[p.2]? = some p.1)) &&
    (scope.names.all fun y => match y.2 with
      | .free => (match sc.names.lookup y.1 with | some .cell => true | some .free => true | _ => false)
      | .local => decide (y.1 ∈ own.map (·.1)) || decide (y.1 ∉ N)
      | .cell => decide (y.1 ∈ own.map (·.1)) || decide (y.1 ∉ N)
      | _ => true)
theorem blkOk_by {N : List Str} {sc scope : Scope} {own : List (Str × Nat)} (h : blkC N sc scope own = true) : BlkOk N sc scope own := by
  unfold blkC at h
  simp only [Bool.and_eq_true, List.all_eq_true, decide_eq_true_eq] at h
  obtain ⟨⟨⟨h1, h2⟩, h3⟩, h4⟩ := h
  refine ⟨?_, h2, h3, fun y hy e => ?_, fun y hy e => ?_⟩
  · split at h1
    · assumption
    · cases h1
  · have q := h4 y hy
    simp only [e] at q
    split at q <;> first | exact .inl (by assumption) | exact .inr (by assumption) | cases q
  · have q := h4 y hy
    rcases e with e | e <;> (simp only [e, Bool.or_eq_true, decide_eq_true_eq] at q; exact q)
end L2

namespace L2
open PySem PySem.Spec PyProof.Rows

section
variable {prog : Program} {w : World} {A : Around} {R : Result → Shared → Prop} {s : Shared} {elt t0 i0 t1 i1 : Expr} {ifs0 ifs1 : List Expr} {scope : Scope} {pos : Pos} {it acc : Value} {env : Env}
end

section
variable {X : Cx}
/-- [elt for tg in iter if .. for tg1 in iter1 if ..]: behind the first clause's store and tests the second source's own loop, from which Nx is reached. vs: the block's names; vs1: those of the second target -/
def tLc2 (wi : TI) (g : TG) (tt : TT) (wi1 : TI) (g1 : TG) (tt1 : TT) (te : TE) (vs vs1 : List Nat) : TE := fun σ H Q => wi σ H fun J H1 => ∀ D, H1 D = none → ∃ W : Nat → Nat → Hp → Prop, (∃ m, W 0 m (upd H1 D (.lst []))) ∧ ∀ i m H, W i m H →
  (J.stop i H ∧ Q (.ref D) H) ∨ (J.go i H ∧ ∃ Nx : Hp → Prop, (∀ H', Nx H' → ∃ m', m' < m ∧ W (i + 1) m' H') ∧ ∀ x H', J.yld i H x H' → g x (wipe σ vs) H' fun σ2 H2 => wipe σ2 vs = wipe σ vs ∧ tt σ2 H2 fun b H3 =>
    if b = true then wi1 σ2 H3 fun J1 H4 => ∃ W1 : Nat → Nat → Hp → Prop, (∃ m, W1 0 m H4) ∧ ∀ j k H, W1 j k H →
      (J1.stop j H ∧ Nx H) ∨ (J1.go j H ∧ ∃ Nx1 : Hp → Prop, (∀ H', Nx1 H' → ∃ k', k' < k ∧ W1 (j + 1) k' H') ∧ ∀ x H', J1.yld j H x H' → g1 x (wipe σ2 vs1) H' fun σ3 H5 => wipe σ3 vs1 = wipe σ2 vs1 ∧ tt1 σ3 H5 fun b H6 =>
        if b = true then te σ3 H6 fun y H7 => ∃ acc, H7 D = some (.lst acc) ∧ acc.length < sizeLine ∧ Nx1 (upd H7 D (.lst (acc ++ [y]))) else Nx1 H6)
    else Nx H3)
end
end L2

namespace L2
open PySem PySem.Spec PyProof.Rows

/-! ### lists of pairs as tables -/
section
variable {κ : Type} [DecidableEq κ]
def valV (kvs : List (κ × V)) (k : κ) : Option V := (kvs.find? fun kv => decide (kv.1 = k)).map (·.2)
/-- in its place, or at the end -/
def putK (kvs : List (κ × V)) (k : κ) (v : V) : List (κ × V) :=
  if (kvs.any fun kv => decide (kv.1 = k)) = true then kvs.map (fun kv => if kv.1 = k then (kv.1, v) else kv) else kvs ++ [(k, v)]
def dropK (kvs : List (κ × V)) (k : κ) : List (κ × V) := kvs.filter fun kv => decide (kv.1 ≠ k)

theorem valV_pos {p : κ × V} {r : List (κ × V)} {k : κ} (e : p.1 = k) : valV (p :: r) k = some p.2 := by simp [valV, List.find?_cons, e]
theorem valV_neg {p : κ × V} {r : List (κ × V)} {k : κ} (e : ¬ p.1 = k) : valV (p :: r) k = valV r k := by simp [valV, List.find?_cons, e]
theorem valV_any (k : κ) : ∀ kvs : List (κ × V), (kvs.any fun kv => decide (kv.1 = k)) = (valV kvs k).isSome
  | [] => rfl
  | p :: r => by
    rw [List.any_cons]
    by_cases e : p.1 = k
    · simp only [valV_pos e, decide_eq_true e, Bool.true_or, Option.isSome_some]
    · rw [valV_neg e, decide_eq_false e, Bool.false_or]; exact valV_any k r
theorem RelO.isSome_eq {o : Option V} {u : Option Value} (r : RelO o u) : o.isSome = u.isSome := by
  cases o with
  | none => cases u with
    | none => rfl
    | some _ => exact (show False from r).elim
  | some _ => cases u with
    | none => exact (show False from r).elim
    | some _ => rfl
theorem RelO.getD {o : Option V} {u : Option Value} {d : V} {d' : Value} (r : RelO o u) (rd : RelV d d') : RelV (o.getD d) (u.getD d') := by
  cases o with
  | none => cases u with
    | none => exact rd
    | some _ => exact (show False from r).elim
  | some _ => cases u with
    | none => exact (show False from r).elim
    | some _ => exact r

/-- raw tables of the same keys -/
theorem KV.val {kvs : List (κ × V)} {vs : List (κ × Value)} (r : KV kvs vs) (k : κ) : RelO (valV kvs k) (valueAt vs k) := by
  unfold KV at r
  induction r with
  | nil => exact True.intro
  | @cons p q ps qs h t ih =>
    obtain ⟨h1, h2⟩ := h
    by_cases e : p.1 = k
    · have e' : q.1 = k := h1.symm.trans e
      have b : valueAt (q :: qs) k = some q.2 := by simp [valueAt, List.find?_cons, e']
      rw [valV_pos e, b]; exact h2
    · have e' : ¬ q.1 = k := fun z => e (h1.trans z)
      have b : valueAt (q :: qs) k = valueAt qs k := by simp [valueAt, List.find?_cons, e']
      rw [valV_neg e, b]; exact ih
theorem KV.any {kvs : List (κ × V)} {vs : List (κ × Value)} (r : KV kvs vs) (k : κ) : (kvs.any fun kv => decide (kv.1 = k)) = vs.any fun kv => decide (kv.1 = k) := by
  unfold KV at r
  induction r with
  | nil => rfl
  | cons h t ih => rw [List.any_cons, List.any_cons, ih, h.1]
theorem KV.repl {kvs : List (κ × V)} {vs : List (κ × Value)} (r : KV kvs vs) (k : κ) {y : V} {u : Value} (ry : RelV y u) :
    KV (kvs.map fun kv => if kv.1 = k then (kv.1, y) else kv) (vs.map fun kv => if kv.1 = k then (kv.1, u) else kv) := by
  unfold KV at r ⊢
  induction r with
  | nil => exact .nil
  | @cons p q ps qs h t ih =>
    rw [List.map_cons, List.map_cons]
    refine .cons ?_ ih
    obtain ⟨h1, h2⟩ := h
    by_cases e : p.1 = k
    · rw [if_pos e, if_pos (h1.symm.trans e)]; exact ⟨h1, ry⟩
    · rw [if_neg e, if_neg (fun z => e (h1.trans z))]; exact ⟨h1, h2⟩
theorem KV.put {kvs : List (κ × V)} {vs : List (κ × Value)} (r : KV kvs vs) (k : κ) {y : V} {u : Value} (ry : RelV y u) : KV (putK kvs k y) (stored vs k u) := by
  unfold putK stored
  rw [r.any k]
  by_cases e : (vs.any fun kv => decide (kv.1 = k)) = true
  · rw [if_pos e, if_pos e]; exact r.repl k ry
  · rw [if_neg e, if_neg e]; exact Paired.snoc r ⟨rfl, ry⟩
theorem KV.drop {kvs : List (κ × V)} {vs : List (κ × Value)} (r : KV kvs vs) (k : κ) : KV (dropK kvs k) (without vs k) := by
  unfold KV at r ⊢
  unfold dropK without
  induction r with
  | nil => exact .nil
  | @cons p q ps qs h t ih =>
    obtain ⟨h1, h2⟩ := h
    rw [List.filter_cons, List.filter_cons]
    by_cases e : p.1 = k
    · have a : ¬ decide (p.1 ≠ k) = true := by simp [e]
      have b : ¬ decide (q.1 ≠ k) = true := by simp [h1.symm.trans e]
      rw [if_neg a, if_neg b]; exact ih
    · have e' : ¬ q.1 = k := fun z => e (h1.trans z)
      have a : decide (p.1 ≠ k) = true := by simp [e]
      have b : decide (q.1 ≠ k) = true := by simp [e']
      rw [if_pos a, if_pos b]; exact .cons ⟨h1, h2⟩ ih
theorem KV.keys {kvs : List (κ × V)} {vs : List (κ × Value)} (r : KV kvs vs) : kvs.map (·.1) = vs.map (·.1) := by
  unfold KV at r
  induction r with
  | nil => rfl
  | cons h t ih => rw [List.map_cons, List.map_cons, ih, h.1]
theorem KV.length {kvs : List (κ × V)} {vs : List (κ × Value)} (r : KV kvs vs) : kvs.length = vs.length := Paired.length r
end


/-! ### a tracked dict, its keys ints and texts or tuples of these -/
theorem kV_is {P : Program} {w : World} {k : Key} {u : Value} (r : RelV (kV k) u) : (mixKind P w).is k u = true := by
  cases k with
  | inl i => obtain ⟨t, e⟩ := (show ∃ t, u = Value.int i t from r); subst e; exact mixKind_int P w i t
  | inr x => obtain ⟨t, e⟩ := (show ∃ t, u = Value.str x t from r); subst e; exact mixKind_str P w x t
theorem items_are {P : Program} {w : World} : ∀ {ks : List Key} {us : List Value}, Vals (ks.map kV) us → ItemsAre (mixKind P w) ks us
  | [], _, r => by rw [List.map_nil] at r; cases r; exact .nil
  | k :: ks, _, r => by
    rw [List.map_cons] at r
    cases r with
    | cons h t => exact .cons (kV_is h) (items_are t)

/-- raw entries of a dict with tuple keys -/
abbrev KT (H : Hp) : List (List Key × V) → List (List Key × Addr × Value) → Prop := Paired fun p q => p.1 = q.1 ∧ H q.2.1 = some (.tup (p.1.map kV)) ∧ RelV p.2 q.2.2
theorem KT.val {H : Hp} {kvs : List (List Key × V)} {xs : List (List Key × Addr × Value)} (r : KT H kvs xs) (k : List Key) : RelO (valV kvs k) ((atKey xs k).map (·.2)) := by
  induction r with
  | nil => exact True.intro
  | @cons p q ps qs h t ih =>
    obtain ⟨h1, _, h2⟩ := h
    by_cases e : p.1 = k
    · have e' : q.1 = k := h1.symm.trans e
      have b : atKey (q :: qs) k = some q.2 := by simp [atKey, List.find?_cons, e']
      rw [valV_pos e, b]; exact h2
    · have e' : ¬ q.1 = k := fun z => e (h1.trans z)
      have b : atKey (q :: qs) k = atKey qs k := by simp [atKey, List.find?_cons, e']
      rw [valV_neg e, b]; exact ih
theorem KT.repl {H : Hp} {kvs : List (List Key × V)} {xs : List (List Key × Addr × Value)} (r : KT H kvs xs) (k : List Key) {y : V} {u : Value} (ry : RelV y u) :
    KT H (kvs.map fun kv => if kv.1 = k then (kv.1, y) else kv) (xs.map (putAt k u)) := by
  induction r with
  | nil => exact .nil
  | @cons p q ps qs h t ih =>
    rw [List.map_cons, List.map_cons]
    refine .cons ?_ ih
    obtain ⟨h1, h2, h3⟩ := h
    unfold putAt
    by_cases e : p.1 = k
    · rw [if_pos e, if_pos (h1.symm.trans e)]; exact ⟨h1, h2, ry⟩
    · rw [if_neg e, if_neg (fun z => e (h1.trans z))]; exact ⟨h1, h2, h3⟩
theorem KT.put {H : Hp} {kvs : List (List Key × V)} {xs : List (List Key × Addr × Value)} (r : KT H kvs xs) (k : List Key) {b : Addr} {y : V} {u : Value} (hb : H b = some (.tup (k.map kV))) (ry : RelV y u) :
    KT H (putK kvs k y) (storedH xs k b u) := by
  have e : (kvs.any fun kv => decide (kv.1 = k)) = (atKey xs k).isSome := by
    rw [valV_any, (r.val k).isSome_eq, Option.isSome_map]
  unfold putK storedH
  rw [e]
  by_cases q : (atKey xs k).isSome = true
  · rw [if_pos q, if_pos q]; exact r.repl k ry
  · rw [if_neg q, if_neg q]; exact Paired.snoc r ⟨rfl, hb, ry⟩
theorem KT.keeps {H H' : Hp} {kvs : List (List Key × V)} {xs : List (List Key × Addr × Value)} (r : KT H kvs xs) (ht : ∀ b ys, H b = some (.tup ys) → H' b = some (.tup ys)) : KT H' kvs xs :=
  Paired.mapP r fun _ _ z => ⟨z.1, ht _ _ z.2.1, z.2.2⟩

section
variable {P : Program} {w : World} {H : Hp} {h : Heap} {a : Addr}
/-- a tracked tuple of ints and texts is a key -/
theorem key_of {ks : List Key} (ok : HOk P w H h) (e : H a = some (.tup (ks.map kV))) : (tupleKind (mixKind P w)).is h ks a := by
  obtain ⟨_, its, r, o, h1, h2, n, h3⟩ := (show ObjOk P w H h a (.tup (ks.map kV)) from ok a _ e)
  exact ⟨o, its.toArray, n, h1, h2, h3, by simpa using items_are r⟩
end

/-- what the dict at a holds at the key y -/
def DGet (H : Hp) (a : Addr) (y : V) (r : Option V) : Prop :=
  (∃ kvs k, Rd H a (.dK kvs) ∧ y = kV k ∧ r = valV kvs k) ∨ ∃ kvs k b, Rd H a (.dT kvs) ∧ y = .ref b ∧ H b = some (.tup (k.map kV)) ∧ r = valV kvs k
/-- the heap behind a[y] = v -/
def DPut (H : Hp) (a : Addr) (y v : V) (H' : Hp) : Prop :=
  (∃ kvs k, H a = some (.dK kvs) ∧ y = kV k ∧ kvs.length < sizeLine ∧ H' = upd H a (.dK (putK kvs k v))) ∨
  ∃ kvs k b, H a = some (.dT kvs) ∧ y = .ref b ∧ H b = some (.tup (k.map kV)) ∧ kvs.length < sizeLine ∧ H' = upd H a (.dT (putK kvs k v))
theorem DGet.k {H : Hp} {a : Addr} {kvs : List (Key × V)} {k : Key} (e : H a = some (.dK kvs)) : DGet H a (kV k) (valV kvs k) := .inl ⟨kvs, k, .inl e, rfl, rfl⟩
theorem DGet.t {H : Hp} {a b : Addr} {kvs : List (List Key × V)} {k : List Key} (e : H a = some (.dT kvs)) (eb : H b = some (.tup (k.map kV))) : DGet H a (.ref b) (valV kvs k) := .inr ⟨kvs, k, b, .inl e, rfl, eb, rfl⟩
theorem DPut.k {H : Hp} {a : Addr} {kvs : List (Key × V)} {k : Key} {v : V} (e : H a = some (.dK kvs)) (hl : kvs.length < sizeLine) : DPut H a (kV k) v (upd H a (.dK (putK kvs k v))) := .inl ⟨kvs, k, e, rfl, hl, rfl⟩
theorem DPut.t {H : Hp} {a b : Addr} {kvs : List (List Key × V)} {k : List Key} {v : V} (e : H a = some (.dT kvs)) (eb : H b = some (.tup (k.map kV))) (hl : kvs.length < sizeLine) :
    DPut H a (.ref b) v (upd H a (.dT (putK kvs k v))) := .inr ⟨kvs, k, b, e, rfl, eb, hl, rfl⟩


section
variable {X : Cx} {pins : List (Addr × Obj)} {σ : St} {H : Hp} {s : Shared} {a : Addr} {y v : V} {u r : Value} {o : Option V} {A : Around} {E : Value → Shared → Prop}

theorem Inv.big (I : Inv X pins σ H s) : sysModules < s.heap.objs.size := by
  have h : mainGlobals < s.heap.objs.size := (I.mod.glob.keeps I.bk).lt
  exact Nat.lt_trans (by decide) h

end

section
variable {X : Cx} {pins : List (Addr × Obj)} {σ : St} {H : Hp} {s : Shared} {a : Addr} {kvs : List (Key × V)} {k : Key} {u : Value} {A : Around} {E : Value → Shared → Prop}
end


/-! ### readings and rules -/
/-- the element of a subscription, not a slice -/
def NoSl (i : Expr) : Prop := ∀ ov iv, subscripted i false ov iv = operate [ov, iv] (getItem ov iv)
/-- d[y] -/
def tDGet (td ty : TE) : TE := fun σ H Q => td σ H fun x H1 => ty σ H1 fun y H2 => ∃ a v, x = .ref a ∧ DGet H2 a y (some v) ∧ Q v H2
/-- y in d, y not in d -/
def tDIn (ty td : TE) : TE := fun σ H Q => ty σ H fun y H1 => td σ H1 fun x H2 => ∃ a o, x = .ref a ∧ DGet H2 a y o ∧ Q (.bl o.isSome) H2
def tDNotIn (ty td : TE) : TE := fun σ H Q => ty σ H fun y H1 => td σ H1 fun x H2 => ∃ a o, x = .ref a ∧ DGet H2 a y o ∧ Q (.bl (!o.isSome)) H2
/-- d[y] = v -/
def sDPut (td ty tv : TE) : TS := fun D σ H => tv σ H fun v H1 => td σ H1 fun x H2 => ty σ H2 fun y H3 => ∃ a H4, x = .ref a ∧ DPut H3 a y v H4 ∧ D.nx σ H4
/-- d[y] op= v -/
def sDAug (td ty tv : TE) (rd : V → V → Hp → VK → Prop) : TS := fun D σ H => td σ H fun x H1 => ty σ H1 fun y H2 => ∃ a v, x = .ref a ∧ DGet H2 a y (some v) ∧
  tv σ H2 fun y2 H3 => rd v y2 H3 fun z H4 => ∃ H5, DPut H4 a y z H5 ∧ D.nx σ H5
/-- del d[y] -/
def sDDel (td ty : TE) : TS := fun D σ H => td σ H fun x H1 => ty σ H1 fun y H2 => ∃ a kvs k, x = .ref a ∧ H2 a = some (.dK kvs) ∧ y = kV k ∧ (valV kvs k).isSome = true ∧ D.nx σ (upd H2 a (.dK (dropK kvs k)))

section
variable {X : Cx} {o i e value : Expr} {pos pos' tpos : Pos} {td ty tv : TE}
end


/-! ### displays -/
/-- {}, to be a dict of the kind that is wanted -/
def tDNewK : TE := fun _ H Q => ∀ p, H p = none → Q (.ref p) (upd H p (.dK []))
def tDNewT : TE := fun _ H Q => ∀ p, H p = none → Q (.ref p) (upd H p (.dT []))
section
variable {X : Cx} {pos : Pos}
end

/-- the pairs of a display, from the left -/
def tPairs : List (TE × TE) → St → Hp → (List (V × V) → Hp → Prop) → Prop
  | [], _, H, Q => Q [] H
  | (tk, tv) :: r, σ, H, Q => tk σ H fun x H1 => tv σ H1 fun y H2 => tPairs r σ H2 fun ps H3 => Q ((x, y) :: ps) H3
abbrev VV : List (V × V) → List (Value × Value) → Prop := Paired fun p q => RelV p.1 q.1 ∧ RelV p.2 q.2
def PPs (X : Cx) (pos : Pos) (keys : List (Option Expr)) (values : List Expr) (trs : List (TE × TE)) : Prop :=
  ∀ (pins : List (Addr × Obj)) (s : Shared) (σ : St) (H : Hp) (Q : List (V × V) → Hp → Prop), Inv X pins σ H s → tPairs trs σ H Q →
    wpAny (model X.prog X.w) X.A (evalPairs (pairTrees keys values X.env pos)) (fun vs s' => ∃ ps H', Inv X pins σ H' s' ∧ VV ps vs ∧ Q ps H') X.xe s
def mergeK (kvs more : List (Key × V)) : List (Key × V) := more.foldl (fun acc kv => putK acc kv.1 kv.2) kvs
/-- {k: v, ..} with keys ints and texts; the new dict stands empty while the pairs are made -/
def tDisp (trs : List (TE × TE)) : TE := fun σ H Q => ∀ p, H p = none → tPairs trs σ (upd H p (.dK [])) fun ps H2 => H2 p = some (.dK []) ∧ ∃ kvs : List (Key × V), ps = kvs.map (fun kv => (kV kv.1, kv.2)) ∧ kvs.length ≤ 15 ∧ Q (.ref p) (upd H2 p (.dK (mergeK [] kvs)))
/-! ### methods -/
/-- a method call o.m(e) of a built-in, with one argument: what must be seen of the text -/
structure M1 (X : Cx) (o : Expr) (m : Str) (apos : Pos) (e : Expr) (cpos : Pos) : Prop where
  base : attributeBase o m X.env (eval o X.env) = eval o X.env
  few : ((backTo cpos (starEach [e] X.env)).all (fun x => !x.1) && (backToKw cpos (keywordEach [] X.env)).all (fun x => x.1.isSome)
    && decide (([e] : List Expr).length + ([] : List Keyword).length + (if ([] : List Keyword).isEmpty then 0 else 1) < 30)) = true
  line : (apos.endLine == cpos.line) = true
  trees : backTo cpos (starEach [e] X.env) = [(false, eval e X.env)]
structure M2 (X : Cx) (o : Expr) (m : Str) (apos : Pos) (e f : Expr) (cpos : Pos) : Prop where
  base : attributeBase o m X.env (eval o X.env) = eval o X.env
  few : ((backTo cpos (starEach [e, f] X.env)).all (fun x => !x.1) && (backToKw cpos (keywordEach [] X.env)).all (fun x => x.1.isSome)
    && decide (([e, f] : List Expr).length + ([] : List Keyword).length + (if ([] : List Keyword).isEmpty then 0 else 1) < 30)) = true
  line : (apos.endLine == cpos.line) = true
  trees : backTo cpos (starEach [e, f] X.env) = [(false, eval e X.env), (false, eval f X.env)]

/-- a is a dict, whatever its keys -/
def IsD (H : Hp) (a : Addr) : Prop := (∃ kvs, Rd H a (.dK kvs)) ∨ ∃ kvs, Rd H a (.dT kvs)
section
variable {X : Cx} {pins : List (Addr × Obj)} {σ : St} {H : Hp} {s : Shared} {a : Addr} {y d : V} {u r : Value} {o : Option V} {A : Around} {E : Value → Shared → Prop}
end

def tDGet1 (td ty : TE) : TE := fun σ H Q => td σ H fun x H1 => ∃ a, x = .ref a ∧ IsD H1 a ∧ ty σ H1 fun y H2 => ∃ o, DGet H2 a y o ∧ Q (o.getD .non) H2
def tDGet2 (td ty tx : TE) : TE := fun σ H Q => td σ H fun x H1 => ∃ a, x = .ref a ∧ IsD H1 a ∧ ty σ H1 fun y H2 => tx σ H2 fun z H3 => ∃ o, DGet H3 a y o ∧ Q (o.getD z) H3
/-- d.pop(k): there; d.pop(k, x): there or not -/
def tDPop1 (td ty : TE) : TE := fun σ H Q => td σ H fun x H1 => ∃ a, x = .ref a ∧ IsD H1 a ∧ ty σ H1 fun y H2 => ∃ kvs k v, H2 a = some (.dK kvs) ∧ y = kV k ∧ valV kvs k = some v ∧ Q v (upd H2 a (.dK (dropK kvs k)))
def tDPop2 (td ty tx : TE) : TE := fun σ H Q => td σ H fun x H1 => ∃ a, x = .ref a ∧ IsD H1 a ∧ ty σ H1 fun y H2 => tx σ H2 fun z H3 => ∃ kvs k, H3 a = some (.dK kvs) ∧ y = kV k ∧
  (∀ v, valV kvs k = some v → Q v (upd H3 a (.dK (dropK kvs k)))) ∧ (valV kvs k = none → Q z H3)
section
variable {X : Cx} {o e f : Expr} {apos cpos : Pos} {td ty tx : TE}
end

/-! ### dict(d): a copy -/
section
variable {X : Cx} {pins : List (Addr × Obj)} {σ : St} {H : Hp} {s : Shared} {a : Addr} {kvs : List (Key × V)} {A : Around} {E : Value → Shared → Prop}
end


section
variable {X : Cx} {pins : List (Addr × Obj)} {σ : St} {H : Hp} {s : Shared} {a : Addr} {y : V} {u : Value} {A : Around} {E : Value → Shared → Prop}
end
end L2

namespace L2
open PySem PySem.Spec PyProof.Rows

section
variable {prog : Program} {w : World} {A : Around} {E : Value → Shared → Prop}
end

section
variable {X : Cx}
end
end L2

namespace L2
open PySem PySem.Spec PyProof.Rows

section
variable {X : Cx} {pins : List (Addr × Obj)} {σ : St} {H : Hp} {s : Shared} {h' : Heap}
/-! ### locking a thing while a statement runs -/
end
/-- the statement runs while the thing at d is locked (read, not written); d and what stands there are the reading's choice -/
def tLock (t : TS) : TS := fun D σ H => ∃ d u, H d = some u ∧ Mut (some u) ∧ ∀ od, t ⟨fun σ' H' => H' d = some (.frz od u) ∧ D.nx σ' (upd H' d u), fun v H' => H' d = some (.frz od u) ∧ D.rt v (upd H' d u), fun σ' H' => H' d = some (.frz od u) ∧ D.bk σ' (upd H' d u), fun σ' H' => H' d = some (.frz od u) ∧ D.ct σ' (upd H' d u)⟩ σ (upd H d (.frz od u))
def tLockE (t : TE) : TE := fun σ H Q => ∃ d u, H d = some u ∧ Mut (some u) ∧ ∀ od, t σ (upd H d (.frz od u)) fun v H' => H' d = some (.frz od u) ∧ Q v (upd H' d u)
section
variable {X : Cx}
/-! ### one iterator just laid -/
end

/-! ### range with a step -/
/-- lo, lo + c, .. (n of them) -/
def Itc (lo c : Int) (n : Nat) : It := ⟨fun i _ => i < n, fun i H x H' => H' = H ∧ x = .int (lo + (i : Nat) * c), fun i _ => n ≤ i⟩
/-- range(i, j, c): small bounds, n items -/
def RgC (i j c : Int) (n : Nat) : Prop := c ≠ 0 ∧ c.natAbs < 1073741824 ∧ Builtin.Range.small i j c = true ∧ Builtin.Range.rangeSize i j c = n
theorem RgC.neg {i j : Int} (ha : -(2 ^ 62) ≤ i) (ha' : i < 2 ^ 62) (hb : -(2 ^ 62) ≤ j) (hb' : j < 2 ^ 62) : RgC i j (-1) (i - j).toNat :=
  ⟨by decide, by decide, PySem.W.small_down ha ha' hb hb', PySem.W.rangeSize_downNat i j⟩
def iRng3 (ta : TA) : TI := fun σ H R => ta σ H fun vs H1 => ∃ (i j c : Int) (n : Nat), vs = [.int i, .int j, .int c] ∧ RgC i j c n ∧ R (Itc i c n) H1
section
variable {X : Cx} {tg : Expr}
end
/-! ### reversed(list) -/
/-- the list at a (n items at the start, which the loop leaves there), from its end -/
def Itv (K : PySem.W.Frag) (a : Addr) (n : Nat) : It :=
  ⟨fun i H => i < n ∧ ∃ (xs : List V) (x : V), SqL K H a xs ∧ xs[n - 1 - i]? = some x, fun i H x H' => H' = H ∧ ∀ xs, SqL K H a xs → xs[n - 1 - i]? = some x, fun i _ => n ≤ i⟩
def iRev (K : PySem.W.Frag) (ta : TA) : TI := fun σ H R => ta σ H fun vs H1 => ∃ (a : Addr) (xs : List V), vs = [.ref a] ∧ SqL K H1 a xs ∧ R (Itv K a xs.length) H1
section
variable {X : Cx} {tg : Expr}
end

/-! ### a str -/
def Its (x : Str) : It := ⟨fun i _ => i < x.cps.size, fun i H v H' => H' = H ∧ ∃ c, x.cps[i]? = some c ∧ v = .str ⟨#[c]⟩, fun i _ => x.cps.size ≤ i⟩
def iStr (te : TE) : TI := fun σ H R => te σ H fun v H1 => ∃ x, v = .str x ∧ R (Its x) H1
/-! ### a dict's keys: any dict's entries -/
section
variable {prog : Program} {w : World} {A : Around} {E : Value → Shared → Prop} {s : Shared}
end

/-! ### a locked dict -/
section
variable {X : Cx} {pins : List (Addr × Obj)} {σ : St} {H : Hp} {s : Shared} {d : Addr} {o : Obj}
end

/-- the keys of the locked dict at d, in their order -/
def Itk (d : Addr) (o : Obj) (kvs : List (Key × V)) : It :=
  ⟨fun i H => H d = some (.frz o (.dK kvs)) ∧ i < kvs.length, fun i H x H' => H' = H ∧ ∃ k v, kvs[i]? = some (k, v) ∧ x = kV k, fun i H => H d = some (.frz o (.dK kvs)) ∧ kvs.length ≤ i⟩
/-- .. of tuple keys: the key's own tuple -/
def Itkt (d : Addr) (o : Obj) (kvs : List (List Key × V)) : It :=
  ⟨fun i H => H d = some (.frz o (.dT kvs)) ∧ i < kvs.length, fun i H x H' => H' = H ∧ ∃ (k : List Key) (v : V) (q : Addr), kvs[i]? = some (k, v) ∧ x = .ref q ∧ H q = some (.tup (k.map kV)), fun i H => H d = some (.frz o (.dT kvs)) ∧ kvs.length ≤ i⟩
/-- the values -/
def Itd (d : Addr) (o : Obj) (kvs : List (Key × V)) : It :=
  ⟨fun i H => H d = some (.frz o (.dK kvs)) ∧ i < kvs.length, fun i H x H' => H' = H ∧ ∃ k, kvs[i]? = some (k, x), fun i H => H d = some (.frz o (.dK kvs)) ∧ kvs.length ≤ i⟩
/-- the pairs, each a new tuple -/
def Iti (d : Addr) (o : Obj) (kvs : List (Key × V)) : It :=
  ⟨fun i H => H d = some (.frz o (.dK kvs)) ∧ i < kvs.length, fun i H x H' => ∃ T k v, kvs[i]? = some (k, v) ∧ x = .ref T ∧ H T = none ∧ H' = upd H T (.tup [kV k, v]), fun i H => H d = some (.frz o (.dK kvs)) ∧ kvs.length ≤ i⟩
section
variable {P : Program} {w : World} {K : PySem.W.Frag} {tg : Expr} {d : Addr} {o : Obj} {es : Array DictEntry} {ep : Nat}
end

/-! ### for k in d, d.keys(), d.values(), d.items() -/
/-- the dict is locked (tLock, or by the caller) -/
def iKeys (td : TE) : TI := fun σ H R => td σ H fun x H1 => ∃ d o, x = .ref d ∧ ((∃ kvs, H1 d = some (.frz o (.dK kvs)) ∧ R (Itk d o kvs) H1) ∨ ∃ kvs, H1 d = some (.frz o (.dT kvs)) ∧ R (Itkt d o kvs) H1)
def iVals (td : TE) : TI := fun σ H R => td σ H fun x H1 => ∃ d o kvs, x = .ref d ∧ H1 d = some (.frz o (.dK kvs)) ∧ R (Itd d o kvs) H1
def iItems (td : TE) : TI := fun σ H R => td σ H fun x H1 => ∃ d o kvs, x = .ref d ∧ H1 d = some (.frz o (.dK kvs)) ∧ R (Iti d o kvs) H1
def iKeysM (td : TE) : TI := fun σ H R => td σ H fun x H1 => ∃ d o kvs, x = .ref d ∧ H1 d = some (.frz o (.dK kvs)) ∧ R (Itk d o kvs) H1
section
variable {X : Cx} {tg e : Expr} {td : TE} {apos cpos : Pos}
end

/-! ### enumerate(list) -/
/-- the list at a as it stands at each turn, each item in a new pair -/
def Ite (K : PySem.W.Frag) (a : Addr) : It :=
  ⟨fun i H => ∃ (xs : List V) (x : V), SqL K H a xs ∧ xs[i]? = some x, fun i H v H' => ∃ T x, v = .ref T ∧ H T = none ∧ H' = upd H T (.tup [.int (i : Nat), x]) ∧ ∀ xs, SqL K H a xs → xs[i]? = some x, fun i H => ∃ xs : List V, SqL K H a xs ∧ xs.length ≤ i⟩
def iEnum (K : PySem.W.Frag) (ta : TA) : TI := fun σ H R => ta σ H fun vs H1 => ∃ a xs, vs = [.ref a] ∧ SqL K H1 a xs ∧ R (Ite K a) H1
/-! ### zip(list, list) -/
/-- the lists at a and b as they stand at each turn, the items in new pairs -/
def Itz (K : PySem.W.Frag) (a b : Addr) : It :=
  ⟨fun i H => ∃ (xs ys : List V) (x y : V), SqL K H a xs ∧ SqL K H b ys ∧ xs[i]? = some x ∧ ys[i]? = some y,
    fun i H v H' => ∃ T x y, v = .ref T ∧ H T = none ∧ H' = upd H T (.tup [x, y]) ∧ (∀ xs, SqL K H a xs → xs[i]? = some x) ∧ ∀ ys, SqL K H b ys → ys[i]? = some y,
    fun i H => ∃ xs ys : List V, SqL K H a xs ∧ SqL K H b ys ∧ (xs.length ≤ i ∨ ys.length ≤ i)⟩
def iZip (K : PySem.W.Frag) (ta : TA) : TI := fun σ H R => ta σ H fun vs H1 => ∃ a b xs ys, vs = [.ref a, .ref b] ∧ SqL K H1 a xs ∧ SqL K H1 b ys ∧ R (Itz K a b) H1
end L2

section 
namespace Bits
open PySem PyProof.Rows

end Bits
end 

section 
namespace TL
open PySem PySem.Builtin PySem.Builtin.Str PySem.StrLaws

abbrev tl (x : Str) : List Nat := x.cps.toList
/-! ### the list functions -/
/-- S stands at the head of l -/
def pre (S l : List Nat) : Bool := l.take S.length == S
/-- l cut at each S from the left; k signs are still to be passed over -/
def spl (S : List Nat) : Nat → List Nat → List Nat → List (List Nat)
  | _, acc, [] => [acc]
  | 0, acc, c :: r => if pre S (c :: r) = true then acc :: spl S (S.length - 1) [] r else spl S 0 (acc ++ [c]) r
  | k + 1, acc, _ :: r => spl S k acc r
/-- what stands before the first S, and behind it -/
def par (S : List Nat) : List Nat → List Nat → Option (List Nat × List Nat)
  | _, [] => none
  | acc, c :: r => if pre S (c :: r) = true then some (acc, (c :: r).drop S.length) else par S (acc ++ [c]) r

/-! ### the model's split and partition are these -/
/-! ### computing spl and par -/
/-- joined lists -/
def joinL (S : List Nat) : List (List Nat) → List Nat
  | [] => []
  | [p] => p
  | p :: q :: r => p ++ (S ++ joinL S (q :: r))
/-! ### digits -/
/-- the signs of a number -/
def numL (n : Nat) : List Nat := (Nat.toDigits 10 n).map Char.toNat
/-! ### words: x.split() -/
def wstep (st : List (List Nat) × List Nat) (c : Nat) : List (List Nat) × List Nat :=
  if Unicode.isSpace c = true then (if st.2 = [] then st else (st.1 ++ [st.2], [])) else (st.1, st.2 ++ [c])
def wfin (st : List (List Nat) × List Nat) : List (List Nat) := if st.2 = [] then st.1 else st.1 ++ [st.2]
end TL
end 

namespace L2
open PySem PySem.Spec PyProof.Rows

/-- a new list of texts, tracked -/
def rNewStrs (ys : List Str) : Hp → VK → Prop := fun H Q => ∀ p, H p = none → Q (.ref p) (upd H p (.lst (ys.map V.str)))

section
variable {X : Cx} {pins : List (Addr × Obj)} {σ : St} {H : Hp} {s : Shared} {Q : VK}
end

section
variable {X : Cx}

/-! ### of a text alone -/
/-! ### of a text and a text -/
end

section
variable {X : Cx} {o e : Expr} {to te : TE}
def tM0 (r : V → List V → Hp → VK → Prop) (to : TE) : TE := fun σ H Q => to σ H fun x H1 => (∃ a, x = .str a) ∧ r x [] H1 Q
def tM1 (r : V → List V → Hp → VK → Prop) (to te : TE) : TE := fun σ H Q => to σ H fun x H1 => (∃ a, x = .str a) ∧ te σ H1 fun y H2 => r x [y] H2 Q
end
end L2

namespace L2
open PySem PySem.Spec PyProof.Rows

section
variable {X : Cx}
end

/-! ### slices of a text -/
/-- a part, clipped, as the text's slice reckons it -/
def clipS (n d : Nat) : Option Int → Int
  | none => (d : Int)
  | some i => max 0 (min (if i < 0 then i + (n : Int) else i) (n : Int))
/-- z[lo:hi] -/
def cutS (z : Str) (lo hi : Option Int) : Str :=
  ⟨((z.cps.toList.drop (HT.sIx z.length 0 lo)).take (HT.sIx z.length z.length hi - HT.sIx z.length 0 lo)).toArray⟩
def rSlS : V → Option Int → Option Int → Hp → VK → Prop := fun x lo hi H Q => ∃ z, x = .str z ∧ z.length ≤ sizeLine ∧ Q (.str (cutS z lo hi)) H
end L2

namespace Att
open PySem PySem.W PySem.Calls PyProof.Rows

/-! ### the script -/
theorem ints_of_wellAll {P : Params} {h : Heap} : ∀ (ns : List Int) (vs : List Value), WellAll P h vs (ns.map WData.int) → IntsAre vs ns := by
  intro ns
  induction ns with
  | nil =>
    intro vs w
    rw [List.map_nil] at w
    cases w
    exact .nil
  | cons n ns ih =>
    intro vs w
    rw [List.map_cons] at w
    cases w with
    | cons a b =>
      cases a
      exact .cons _ _ (ih _ b)

theorem script_of {l : OpenLaw} {n : Nat} (hn : l.most = some n) {P : Params} {h : Heap} {args : List WData} {vals : List Value}
    (hpre : l.row.toRowW.claim.pre args = true) (hwl : WellAll P h vals args) :
    ∃ a vs ns, vals = [Value.ref a] ∧ args = [WData.list (ns.map WData.int)] ∧ h.get? a = some { cls := .type "list", data := .seq vs.toArray } ∧ IntsAre vs ns ∧ ns.length ≤ n := by
  have hsh : WShape.hasAll [] args [.list .int] = true := (pre_splitW hpre).1
  have hc : l.pre.holds [] { args := args } = true := (pre_splitW hpre).2
  obtain ⟨d, r, rfl, h1, h2⟩ := hasAllW_cons hsh
  obtain rfl := hasAllW_nil h2
  obtain ⟨xs, rfl, h3⟩ := hasW_list h1
  obtain ⟨ns, rfl⟩ := items_int h3
  have hlen : ns.length ≤ n := by
    unfold OpenLaw.pre at hc
    have h4 : (WTm.not (.lt (.lit (.int (n : Int))) (.len (.arg 0)))).holds [] { args := [.list (ns.map .int)] } = true := by
      have h4 := (holds_andW hc).1
      rw [hn] at h4
      exact h4
    have h5 := condW_of h4 (w_not (w_lt w_lit (w_len_list (w_arg rfl))))
    rw [List.length_map] at h5
    refine Nat.le_of_not_lt fun q => ?_
    have q' : (n : Int) < ((ns.length : Nat) : Int) := by omega
    first
      | (rw [decide_eq_true q'] at h5; exact absurd h5 (by decide))
      | (simp at h5; omega)
  cases hwl with
  | cons w1 w2 =>
    cases w2
    cases w1 with
    | list ho hall => exact ⟨_, _, ns, rfl, rfl, ho, ints_of_wellAll ns _ hall, hlen⟩

theorem post_true (l : OpenLaw) (args : List WData) : l.row.toRowW.claim.post args (.bool true) args = true :=
  postW_of (r := l.row.toRowW) (X := (true == true))
    (show WShape.has [] (.bool true) .bool = true by first | rfl | decide | simp [WShape.has, WShape.arms, WShape.armsAll])
    (show (WTm.eq .res (.lit (.bool true))).value [] { args := args, res := some (.bool true), after := args } = some (.bool (true == true)) from w_eq_bool (w_res rfl) w_lit) rfl

/-! ### the attachment: holds_open's last premise (the goal 'hc' behind k_head) from a wpAny of the law's body -/
/-- the same from a codeAny of the CALL (for a layer whose function contracts speak of calls) -/
theorem attach_call {l : OpenLaw} {n : Nat} {q : Program} {loose : List Str} {XP : (Str → Option Value) → Heap → Prop} {YP : World → Heap → Prop} {d : DefRec}
    (hn : l.most = some n) (hdf : d.params.defaults = [])
    (call : ∀ (w : World) (s₀ s₁ : Shared) (mg mb : Str → Option Value) (fa : Addr) (o : Obj) (pm cd doc : Value) (a : Addr) (vs : List Value) (ns : List Int),
      Ground q loose [] XP w s₀ mg mb s₁.heap → YP w s₁.heap →
      s₁.heap.get? fa = some o → o.data = .func (docDef d.name d.params d.body d.scope pm cd doc) → s₁.heap.CodeRec cd d.name → mg d.name = some (.ref fa) →
      s₁.heap.get? a = some { cls := .type "list", data := .seq vs.toArray } → IntsAre vs ns → ns.length ≤ n → s₁.gens = #[] →
      codeAny (model l.prog w) callerA (.call (.ref fa) ⟨[.ref a], []⟩) (fun r s' => r = .ok (.ret (.bool true)) ∧ OldK s₁.heap s'.heap ∧ s'.os = s₁.os ∧ AllBare s'.gens) s₁) :
    WalkO q loose XP YP l.row.toRowW d [] (fun f vs => PySem.call f vs) := by
  intro w s₀ s₁ mg mb G Y fa o pm cd doc dV kV ho hd hcd hD hmg hg args vals as hpre hlay hrd hwl hlo
  obtain rfl : dV = .none := Dflts.none hD hdf
  obtain rfl : kV = .none := Dflts.noKw hD
  obtain ⟨a, vs, ns, rfl, rfl, hobj, hints, hlen⟩ := script_of hn hpre hwl
  refine enter_call (codeAny_mono (call w s₀ s₁ mg mb fa o pm cd doc a vs ns G Y ho (fd_plain hd) hcd hmg hobj hints hlen hg) fun r s' hq => ?_)
  obtain ⟨rfl, h2, h3, h4⟩ := hq
  exact ⟨.inl ⟨.bool true, .bool true, [], rfl, fun _ => rfl, .bool true, post_true l _, fun _ => ⟨List.Pairwise.nil, fun _ hm => (nomatch hm)⟩⟩, h2, h3, h4⟩

/-! ### rules over ANY heap (no ledger) from facts about the written part K: the library's own take a ledger (News) for what they write -/
section
variable {prog : Program} {w : World} {A : Around} {E : Value → Shared → Prop} {s : Shared} {K : Frag}

/-! the whole heap as the ledger: makes every rule that writes through a ledger a rule over any heap -/
def noObjs (h : Heap) : Heap := { h with objs := #[] }
def ledger (h : Heap) (L d : Addr) : List (Addr × Obj) := (List.range h.objs.size).filterMap fun a => if a = L ∨ a = d then none else (h.get? a).map fun o => (a, o)
end
end Att

namespace L2
open PySem PySem.Spec PyProof.Rows

theorem vals_ints : ∀ {vs : List Value} {ns : List Int}, IntsAre vs ns → Vals (ns.map V.int) vs
  | _, _, .nil => .nil
  | _, _, .cons n t h => .cons ⟨t, rfl⟩ (vals_ints h)

/-- nothing is tracked but the script, known to the object (or it is an object of the module) -/
def Only (H : Hp) : Prop := ∀ b, H b = none ∨ ∃ o xs, H b = some (.frz o (.lst xs))

end L2

namespace L2
open PySem PySem.Spec PyProof.Rows

abbrev KOf {K : PySem.W.Frag} {h : Heap} (_ : K.In h) : PySem.W.Frag := K

end L2

/- THE LAST THEOREM (shape; LID, My.* are yours):
   My.Adr: a structure of the addresses that your layer names (classes, functions); My.Txt K t: a structure (Prop) of the equations over K;
   My.txt_mk : {K} {implicit addresses ..} (e1 : nsIn K mainGlobals "law" = some (some (.ref f))) (e2 : K.lookup f = some ⟨oc, od, .func (fnOf "law" "law" params body scope dV kV doc pm an cdv ct), sl⟩) (e3 : codeIn K cdv "law" = true) .. : ∃ t, My.Txt K t

(the tactic k_is has no namespace: write k_is) -/

/-! SHORT WORDS over the layer: a def of the text, its body, what a loop and a test want. -/
namespace L2
open PySem PySem.Spec PyProof.Rows

/-! ### the text by places -/
/-- the j-th statement of a class's body -/
def inClass (s : Stmt) (j : Nat) : Stmt := match s with
  | .ClassDef _ _ _ body _ _ _ _ _ _ _ => body.getD j (.Pass ⟨0, 0, 0, 0⟩)
  | _ => .Pass ⟨0, 0, 0, 0⟩
def defArgs (s : Stmt) : Arguments := match s with
  | .FunctionDef _ a _ _ _ _ _ _ _ _ => a
  | _ => { posonlyargs := [], args := [], vararg := none, kwonlyargs := [], kw_defaults := [], kwarg := none, defaults := [] }
def defBody (s : Stmt) : List Stmt := match s with
  | .FunctionDef _ _ b _ _ _ _ _ _ _ => b
  | _ => []
def defScope (s : Stmt) : Scope := match s with
  | .FunctionDef _ _ _ _ _ _ sc _ _ _ => sc
  | _ => { kind := .function, names := [], isGenerator := false, isCoroutine := false }

/-! ### no exception leaves a def -/
abbrev CX0 : CXT := fun _ _ _ _ _ _ => False
abbrev E0 : XK := fun _ _ _ => False
/-! ### a def (or method) of the text as it stands behind the top -/
structure Fun (K : PySem.W.Frag) (x qual : Str) (st : Stmt) (f : Addr) (fd : FuncData) : Prop where
  ex : ∃ (oc : Value) (od : Option Addr) (kV doc pm : Value) (an : Option Addr) (cdv ct : Value) (osl : Array (Option Value)),
    fd = PySem.W.fnOf x qual (defArgs st) (defBody st) (defScope st) .none kV doc pm an cdv ct ∧ K.lookup f = some ⟨oc, od, .func fd, osl⟩ ∧ PySem.W.codeIn K cdv qual = true
  kp : PySem.W.keepIn K (.ref f) = true
section
variable {P : Program} {w : World} {K : PySem.W.Frag} {mg : Str → Option Value} {base : Heap}
/-- THE RULE for a def: its body as a term of rules, and the reading of that term -/
theorem Fun.ok {x qual : Str} {st : Stmt} {f : Addr} {fd : FuncData} {N ps : List Str} {k : Nat} {sp : Sp} (F : Fun K x qual st f fd) (S : FnScope N ps (defScope st)) (len : ∀ vs H Q E, sp vs H Q E → vs.length = ps.length)
    (hbody : ∀ (cdv : Value) (A : Around) (outer : List Env) (s : Shared) (H : Hp) (vs : List V) (Q : VK) (E : XK), Room k (A.deeper (envOfC qual (defScope st) s.heap.objs.size f cdv)) → sp vs H Q E →
      ∃ t, PSs (cxOf CX0 P w K mg base N qual (defScope st) f cdv A outer s H E).nox (defBody st) t ∧ t { nx := fun _ H' => Q .non H', rt := Q } (start N vs) H) : FnOk P w K mg base CX0 (k + 1) f fd ps sp := by
  obtain ⟨oc, od, kV, doc, pm, an, cdv, ct, osl, rfl, lk, hcd⟩ := F.ex
  refine fn_of lk hcd S len fun A outer s H vs Q E hr hsp => ?_
  obtain ⟨t, h, q⟩ := hbody cdv A outer s H vs Q E hr hsp
  exact ⟨t, h.nox, q⟩
/-- how its arguments bind (no defaults): h is «fun _ _ _ _ _ _ us hl => match us, hl with | [_, _], _ => rfl», one _ a parameter -/
theorem Fun.binds {x qual : Str} {st : Stmt} {f : Addr} {fd : FuncData} {ps : List Str} (F : Fun K x qual st f fd)
    (h : ∀ (kV doc pm : Value) (an : Option Addr) (cdv ct : Value) (us : List Value), us.length = ps.length → bindArgs (PySem.W.fnOf x qual (defArgs st) (defBody st) (defScope st) .none kV doc pm an cdv ct) ⟨us, []⟩ = pure (ps.zip us)) : Binds K fd ps [] := by
  obtain ⟨oc, od, kV, doc, pm, an, cdv, ct, osl, rfl, lk, hcd⟩ := F.ex
  exact .all (h kV doc pm an cdv ct)
theorem fun_mk {x qual : Str} {st : Stmt} {f : Addr} {oc : Value} {od an : Option Addr} {osl : Array (Option Value)} {kV doc pm cdv ct : Value} (l : K.lookup f = some ⟨oc, od, .func (PySem.W.fnOf x qual (defArgs st) (defBody st) (defScope st) .none kV doc pm an cdv ct), osl⟩)
    (c : PySem.W.codeIn K cdv qual = true) (k : PySem.W.keepIn K (.ref f) = true) : Fun K x qual st f (PySem.W.fnOf x qual (defArgs st) (defBody st) (defScope st) .none kV doc pm an cdv ct) := ⟨⟨oc, od, kV, doc, pm, an, cdv, ct, osl, rfl, l, c⟩, k⟩
end
/-! ### expressions in short: the name that stands in the i-th slot -/
section
variable {X : Cx}
theorem pv (i : Nat) {x : Str} {pos : Pos} (hN : X.N[i]? = some x := by rfl) (hv : Vis X.env.scope x := by first | exact Or.inl rfl | exact Or.inr (Or.inl rfl) | exact Or.inr (Or.inr rfl)) (hd : (x == ("__debug__" : Str)) = false := by decide)
    (hcd : (x == ("__classdict__" : Str)) = false := by decide) : PE X (.Name x pos) (tVar i) := pe_var hN hv hd hcd
end

/-! ### tests -/
theorem iteF {A B : Prop} (h : B) : if false = true then A else B := by
  rw [if_neg Bool.false_ne_true]
  exact h
theorem iteT {A B : Prop} (h : A) : if true = true then A else B := by
  rw [if_pos rfl]
  exact h
theorem ite2 {c A B : Prop} [Decidable c] (h1 : c → A) (h2 : ¬ c → B) : if c then A else B := by
  by_cases h : c
  · rw [if_pos h]
    exact h1 h
  · rw [if_neg h]
    exact h2 h
theorem iteNS {c A B : Prop} [Decidable c] (hc : c) (h : B) : if (!decide c) = true then A else B := by
  rw [decide_eq_true hc]
  exact iteF h

/-! ### heaps -/
/-- all that was tracked is as it was -/
def Same (H H' : Hp) : Prop := ∀ b o, H b = some o → H' b = some o
theorem Same.refl (H : Hp) : Same H H := fun _ _ h => h
theorem Same.trans {H H1 H2 : Hp} (a : Same H H1) (b : Same H1 H2) : Same H H2 := fun c o h => b c o (a c o h)
theorem Same.free {H H' : Hp} (e : Same H H') {l : Addr} (h : H' l = Option.none) : H l = Option.none := by
  cases q : H l with
  | none => rfl
  | some o =>
    rw [e l o q] at h
    cases h
theorem Same.seq {K : PySem.W.Frag} {H H' : Hp} {a : Addr} {xs : List V} (e : Same H H') (h : SqL K H a xs) : SqL K H' a xs := by
  rcases h with (h | ⟨o, h⟩) | h
  · exact .inl (.inl (e _ _ h))
  · exact .inl (.inr ⟨o, e _ _ h⟩)
  · exact .inr h

/-! ### a dict's pairs: keys that differ -/
section
variable {κ : Type} [DecidableEq κ]
end
/-! ### lists -/
/-- a new instance and its __init__ leave all that was tracked as it was -/
theorem Same.made {H H1 : Hp} {x dx C : Addr} (nx : H x = Option.none) (nd : H dx = Option.none) (k : ∀ b o, (upd (upd H dx (.own x)) x (.ins C dx [])) b = some o → b ≠ x → H1 b = some o) : Same H H1 := fun b o e =>
  k b o (by rw [upd_ne (ne_of_none e nx), upd_ne (ne_of_none e nd)]; exact e) (ne_of_none e nx)
end L2

set_option Elab.async false
set_option linter.all false
set_option maxRecDepth 100000
/-! Errors on their way, by hand: an error's object, its newest entry, what each station changes. -/
namespace L2
open PySem PySem.Spec PyProof.Rows

theorem dict_mapF (o : Obj) (f) : (o.mapFields f).dict = o.dict := by
  obtain ⟨c, d, dt, s0⟩ := o
  cases dt <;> rfl

/-- an error stands at ea: its class, its dict, its arguments, and its newest entry with its flag (none: it has none yet) -/
def Exc (h : Heap) (ea : Addr) (cls : Value) (d : Option Addr) (a0 : Value) (tr : Option (Addr × Value)) : Prop :=
  ∃ oe vs, h.get? ea = some oe ∧ oe.cls = cls ∧ oe.dict = d ∧ oe.data = .fields vs ∧ vs[0]? = some a0 ∧
    match tr with
    | none => vs[1]? = some .none
    | some (T, fl) => vs[1]? = some (.ref T) ∧ T ≠ ea ∧ ∃ oT ts, h.get? T = some oT ∧ oT.data = .fields ts ∧ ts[3]? = some fl
theorem Exc.there {h : Heap} {ea : Addr} {cls a0 : Value} {d : Option Addr} {tr : Option (Addr × Value)} (x : Exc h ea cls d a0 tr) : ∃ oe vs, h.get? ea = some oe ∧ oe.cls = cls ∧ oe.data = .fields vs :=
  let ⟨oe, vs, a, b, _, c, _⟩ := x; ⟨oe, vs, a, b, c⟩
/-- the addresses that it changes -/
def trA : Option (Addr × Value) → List Addr
  | none => []
  | some (T, _) => [T]

section
variable {M : Model} {A : Around} {E : Value → Shared → Prop} {s : Shared}
theorem entryX {base : Heap} {env : Env} {outer : List Env} {L ea : Addr} {oe : Obj} {vs : Array Value} {head : Value} {hadNext : Bool} {Q : Unit → Shared → Prop}
    (hfr : A.frames = some (env :: outer)) (hl : s.heap.FunFrames base (env :: outer)) (hf : env.frame = some L) (he : s.heap.get? ea = some oe) (hd : oe.data = .fields vs) (hsz : 1 < vs.size)
    (h : ∀ h', (∀ b o, b ≠ ea → b ∉ (env :: outer).filterMap (·.frame) → s.heap.get? b = some o → h'.get? b = some o) → s.heap.UpToSlots h' →
      h'.get? ea = some (oe.mapFields (·.setIfInBounds 1 (.ref s.heap.objs.size))) → (∃ oT ts, h'.get? s.heap.objs.size = some oT ∧ oT.data = .fields ts ∧ ts[3]? = some (rawInt L)) → s.heap.objs.size ≠ ea → Q () { s with heap := h' }) :
    wpAny M A (do let a ← frameOf env; let pl ← entryPlaceOf L hadNext; let b ← EntryCells.newEntry head a .none (rawInt L) .none pl; setField (.ref ea) 1 b) Q E s := by
  have hene : ea ∉ (env :: outer).filterMap (·.frame) := fun hm => by
    obtain ⟨_, o, ho, hnf⟩ := hl.mem hm
    rw [he] at ho; injection ho with ho; subst ho; exact hnf vs hd
  refine wpAny_bind (wpAny_frameOf_fun hfr hl hf fun h₁ hs₁ => ?_)
  refine wpAny_bind (wpAny_entryPlaceOf fun pl hpl => ?_)
  unfold EntryCells.newEntry newFields
  refine wpAny_bind (wpAny_newObj_type ?_ (hpl.sizeOk5 _ _ _ _ _))
  have he₁ : h₁.get? ea = some oe := (hs₁.2.1 ea hene).trans he
  have he₂ := Heap.get?_push_of_some (h := h₁) { cls := .type "traceback", dict := none, data := .fields ([head, .ref L, .none, rawInt L, .none] ++ (if pl.isEmpty then List.replicate 6 Value.none else pl)).toArray } he₁
  refine wpAny_setField he₂ hd hsz ?_
  have hTe : h₁.objs.size ≠ ea := Nat.ne_of_gt (Heap.lt_size he₁)
  have hd₃ := Obj.data_mapFields hd (·.setIfInBounds 1 (Value.ref h₁.objs.size))
  have he₃ := Heap.get?_update_self (Obj.mapFields (·.setIfInBounds 1 (Value.ref h₁.objs.size))) he₂ (Obj.isFreed_of_fields hd₃)
  have hT₃ := (Heap.get?_update_other (h₁.push { cls := .type "traceback", dict := none, data := .fields ([head, .ref L, .none, rawInt L, .none] ++ (if pl.isEmpty then List.replicate 6 Value.none else pl)).toArray })
    (Obj.mapFields (·.setIfInBounds 1 (Value.ref h₁.objs.size))) (Ne.symm hTe)).trans (Heap.get?_push_size h₁ rfl)
  have keep : ∀ b o, b ≠ ea → h₁.get? b = some o →
      ((h₁.push { cls := .type "traceback", dict := none, data := .fields ([head, .ref L, .none, rawInt L, .none] ++ (if pl.isEmpty then List.replicate 6 Value.none else pl)).toArray }).update ea (Obj.mapFields (·.setIfInBounds 1 (Value.ref h₁.objs.size)))).get? b = some o :=
    fun b o hbe hb => by
      rw [Heap.get?_update_other _ _ (Ne.symm hbe)]
      exact Heap.get?_push_of_some _ hb
  have noRecord : ∀ b o, s.heap.get? b = some o → (∀ vs, o.data ≠ .fields vs) → b ≠ ea := fun b o hb hnf q => by
    rw [q, he] at hb; injection hb with hb; subst hb; exact hnf vs hd
  have hz := hs₁.1
  refine h _ (fun b o hbe hbf hb => keep b o hbe ((hs₁.2.1 b hbf).trans hb)) (fun b o hb hnf => ?_) (by rw [← hz]; exact he₃) ?_ (by rw [← hz]; exact hTe)
  · obtain ⟨sl, hs⟩ := hs₁.2.2 b o hb
    exact ⟨sl, keep b _ (noRecord b o hb hnf) hs⟩
  · rw [← hz]
    exact ⟨_, _, hT₃, rfl, by first | (simp; done) | (rcases hpl with rfl | ⟨_, _, _, _, _, _, _, rfl⟩ <;> simp)⟩

/-- what a station leaves: all but the frames, the error and its entry as it was -/
structure Flew (fr : List Addr) (ea : Addr) (old : List Addr) (h h' : Heap) : Prop where
  keep : ∀ b o, b ≠ ea → b ∉ old → b ∉ fr → h.get? b = some o → h'.get? b = some o
  up : h.UpToSlots h'
theorem Flew.refl {fr : List Addr} {ea : Addr} {old : List Addr} {h : Heap} : Flew fr ea old h h := ⟨fun _ _ _ _ _ e => e, .refl _⟩

/-- the frame is noted -/
theorem noteX {base : Heap} {env : Env} {outer : List Env} {L ea : Addr} {cls a0 : Value} {d : Option Addr} {tr : Option (Addr × Value)} {Q : Unit → Shared → Prop}
    (hfr : A.frames = some (env :: outer)) (hl : s.heap.FunFrames base (env :: outer)) (hf : env.frame = some L) (x : Exc s.heap ea cls d a0 tr) (hn : tr = none ∨ ∃ T, tr = some (T, .none))
    (h : ∀ h', Exc h' ea cls d a0 (some (s.heap.objs.size, rawInt L)) → Flew ((env :: outer).filterMap (·.frame)) ea (trA tr) s.heap h' → Q () { s with heap := h' }) : wpAny M A (noteFrame (.ref ea) env) Q E s := by
  obtain ⟨oe, vs, he, hc, hdd, hd, h0, ht⟩ := x
  unfold noteFrame
  simp only [hf]
  rcases hn with rfl | ⟨T, rfl⟩
  · refine wpAny_bind (wpAny_field he hd ht ?_)
    rw [if_neg (by decide)]
    refine entryX hfr hl hf he hd (Array.getElem?_eq_some_iff.mp ht).1 fun h' k u e1 e2 ne => h h' ?_ ⟨fun b o hb _ hf' e => k b o hb hf' e, u⟩
    refine ⟨_, _, e1, (Obj.cls_mapFields _ _).trans hc, (dict_mapF _ _).trans hdd, Obj.data_mapFields hd _, by rw [Array.getElem?_setIfInBounds_ne (by decide)]; exact h0, ?_⟩
    exact ⟨by simp [(Array.getElem?_eq_some_iff.mp ht).1], ne, e2⟩
  · obtain ⟨h1, hTe, oT, ts, hT, hdT, h3⟩ := ht
    refine wpAny_bind (wpAny_field he hd h1 ?_)
    rw [if_pos (show (Value.ref T != Value.none) = true from by simp)]
    refine wpAny_bind (wpAny_field hT hdT h3 ?_)
    rw [if_neg (show ¬ ((Value.none == rawInt L) = true) from by simp [rawInt])]
    refine wpAny_bind (wpAny_setField hT hdT (Array.getElem?_eq_some_iff.mp h3).1 ?_)
    have other : ∀ b, b ≠ T → (s.heap.update T (Obj.mapFields (·.setIfInBounds 3 Value.none))).get? b = s.heap.get? b := fun b hb => Heap.get?_update_other _ _ (Ne.symm hb)
    have noRecord : ∀ b o, s.heap.get? b = some o → (∀ vs, o.data ≠ .fields vs) → b ≠ T := fun b o hb hnf q => by
      rw [q, hT] at hb; injection hb with hb; subst hb; exact hnf ts hdT
    have hz : (s.heap.update T (Obj.mapFields (·.setIfInBounds 3 Value.none))).objs.size = s.heap.objs.size := Heap.size_after_update ..
    refine entryX (s := { s with heap := s.heap.update T (Obj.mapFields (·.setIfInBounds 3 Value.none)) }) hfr (hl.of_keeps fun b o hb hnf => ⟨o, (other b (noRecord b o hb hnf)).trans hb, rfl⟩) hf ((other ea (Ne.symm hTe)).trans he) hd (Array.getElem?_eq_some_iff.mp h1).1
      fun h' k u e1 e2 ne => h h' ?_ ⟨fun b o hb ho hf' e => k b o hb hf' ((other b (fun z => ho (by rw [z]; exact .head _))).trans e), fun b o e hnf => u b o ((other b (noRecord b o e hnf)).trans e) hnf⟩
    have e1' : h'.get? ea = some (oe.mapFields (·.setIfInBounds 1 (.ref s.heap.objs.size))) := by
      have := e1
      rw [show ({ s with heap := s.heap.update T (Obj.mapFields (·.setIfInBounds 3 Value.none)) } : Shared).heap.objs.size = s.heap.objs.size from hz] at this
      exact this
    have e2' := e2
    rw [show ({ s with heap := s.heap.update T (Obj.mapFields (·.setIfInBounds 3 Value.none)) } : Shared).heap.objs.size = s.heap.objs.size from hz] at e2' ne
    refine ⟨_, _, e1', (Obj.cls_mapFields _ _).trans hc, (dict_mapF _ _).trans hdd, Obj.data_mapFields hd _, by rw [Array.getElem?_setIfInBounds_ne (by decide)]; exact h0, ?_⟩
    exact ⟨by simp [(Array.getElem?_eq_some_iff.mp h1).1], ne, e2'⟩
/-- the frame is noted already -/
theorem noteX_again {env : Env} {L ea T : Addr} {cls a0 : Value} {d : Option Addr} {Q : Unit → Shared → Prop} (hf : env.frame = some L) (x : Exc s.heap ea cls d a0 (some (T, rawInt L))) (h : Q () s) : wpAny M A (noteFrame (.ref ea) env) Q E s := by
  obtain ⟨oe, vs, he, hc, hdd, hd, h0, h1, hTe, oT, ts, hT, hdT, h3⟩ := x
  unfold noteFrame
  simp only [hf]
  refine wpAny_bind (wpAny_field he hd h1 ?_)
  rw [if_pos (show (Value.ref T != Value.none) = true from by simp)]
  refine wpAny_bind (wpAny_field hT hdT h3 ?_)
  rw [if_pos (show (rawInt L == rawInt L) = true from by simp)]
  exact wpAny_pure h
/-- the flag is set -/
theorem flightX {ea T : Addr} {cls a0 fl : Value} {d : Option Addr} {L : Option Addr} {fr : List Addr} {Q : Unit → Shared → Prop} (x : Exc s.heap ea cls d a0 (some (T, fl)))
    (h : ∀ h', Exc h' ea cls d a0 (some (T, L.elim .none fun f => rawInt f)) → Flew fr ea [T] s.heap h' → Q () { s with heap := h' }) : wpAny M A (setFlight (.ref ea) L) Q E s := by
  obtain ⟨oe, vs, he, hc, hdd, hd, h0, h1, hTe, oT, ts, hT, hdT, h3⟩ := x
  have hsz3 : 3 < ts.size := (Array.getElem?_eq_some_iff.mp h3).1
  have other : ∀ b, b ≠ T → (s.heap.update T (Obj.mapFields (·.setIfInBounds 3 (L.elim Value.none fun f => rawInt f)))).get? b = s.heap.get? b :=
    fun b hb => Heap.get?_update_other _ _ (Ne.symm hb)
  have noRecord : ∀ b o, s.heap.get? b = some o → (∀ vs, o.data ≠ .fields vs) → b ≠ T := fun b o hb hnf q => by
    rw [q, hT] at hb; injection hb with hb; subst hb; exact hnf ts hdT
  unfold setFlight
  refine wpAny_bind (wpAny_field he hd h1 ?_)
  rw [if_pos (show (Value.ref T != Value.none) = true from by simp)]
  refine wpAny_setField hT hdT hsz3 (h _ ?_ ⟨fun b o _ hb _ e => (other b (fun z => hb (by rw [z]; exact .head _))).trans e, fun b o e hnf => ⟨o.slots, (other b (noRecord b o e hnf)).trans e⟩⟩)
  exact ⟨oe, vs, (other ea (Ne.symm hTe)).trans he, hc, hdd, hd, h0, h1, hTe, _, _, Heap.get?_update_self _ hT (Obj.isFreed_of_fields (Obj.data_mapFields hdT _)), Obj.data_mapFields hdT _, by simp [hsz3]⟩
end
end L2

set_option Elab.async false
set_option linter.all false
set_option maxRecDepth 100000
namespace L2
open PySem PySem.Spec PyProof.Rows

/-! ### an error passes: what is tracked stays -/
section
variable {X : Cx} {pins : List (Addr × Obj)} {σ : St} {H : Hp} {s : Shared} {h' : Heap} {ea : Addr} {old : List Addr}
theorem Inv.flown (I : Inv X pins σ H s) (fe : FpOk X pins H ea) (fo : ∀ b ∈ old, FpOk X pins H b) (F : Flew (frs X.stack) ea old s.heap h') : Inv X pins σ H { s with heap := h' } := by
  have fc : ∀ b ∈ ea :: old, FpOk X pins H b := fun b hb => (List.mem_cons.mp hb).elim (fun z => z ▸ fe) (fo b)
  have nch : ∀ b u, H b = some u → b ∉ ea :: old := fun b u e z => by rw [(fc b z).1] at e; cases e
  have ne : ∀ b, b ∉ ea :: old → b ≠ ea ∧ b ∉ old := fun b hb => ⟨fun z => hb (by rw [z]; exact .head _), fun z => hb (.tail _ z)⟩
  have nfr : ∀ b, b ≠ X.env.locals → b ∉ X.fs → b ∉ frs X.stack := fun b h1 h2 z => (List.mem_cons.mp (I.stkSub b z)).elim h1 h2
  have rec' : ∀ b, b ∈ frs X.stack → ∀ o, s.heap.get? b = some o → ∃ sl, h'.get? b = some { o with slots := sl } := fun b hb o e => by
    obtain ⟨_, o', ho', hd⟩ := I.stack.mem hb
    rw [e] at ho'; cases ho'
    exact F.up b o e hd
  refine I.step (t' := s.toks) (g' := s.gens) (d' := s.drawn) (ch := ea :: old) (fun b hb => ⟨(fc b hb).2.2.2.1, (fc b hb).2.1, (fc b hb).2.2.2.2.1, (fc b hb).2.2.2.2.2⟩)
    (fun b o h1 h2 h3 e _ => F.keep b o (ne b h3).1 (ne b h3).2 (nfr b h1 h2) e) (fun b o h1 h2 h3 e n => ?_) (fun _ _ _ _ n => n) (fun b o h3 e => ?_) (fun _ _ e => e) (fun _ _ _ e => e) (fun _ v e => ⟨v, e⟩) (fun b ps e => ⟨#[], by rw [e]; simp⟩)
    (fun m hm => F.up.ns hm) (fun b u e => ?_) I.bare
  · obtain ⟨_, o', ho', hd⟩ := I.funs.mem h2
    rw [e] at ho'; cases ho'
    exact F.up b o e hd
  · by_cases hb : b ∈ frs X.stack
    · obtain ⟨sl, q⟩ := rec' b hb o e
      exact ⟨_, q⟩
    · exact ⟨o, F.keep b o (ne b h3).1 (ne b h3).2 hb e⟩
  · refine (I.hok b u e).stay (fun c v hc q => ?_) (fun _ q => q) fun _ _ q => q
    have tc : ∃ z, H c = some z := by
      rcases hc with z | z
      · exact ⟨u, by rw [z]; exact e⟩
      · exact ⟨_, z⟩
    obtain ⟨z, ez⟩ := tc
    have n := ne c (nch c z ez)
    exact F.keep c v n.1 n.2 (fun hb => by rw [I.stkFree c hb] at ez; cases ez) q
end

/-! ### an error in a frame -/
/-- the flag: no entry yet, or an entry that no frame holds, or this frame's -/
def TrOk (env : Env) (tr : Option (Addr × Value)) : Prop := tr = none ∨ (∃ T, tr = some (T, .none)) ∨ ∃ T L, env.frame = some L ∧ tr = some (T, rawInt L)
/-- an error flies in this frame -/
structure Fl (X : Cx) (pins : List (Addr × Obj)) (σ : St) (H : Hp) (s : Shared) (ea : Addr) (cls : Value) (d : Option Addr) (a0 : Value) (tr : Option (Addr × Value)) : Prop where
  inv : Inv X pins σ H s
  exc : Exc s.heap ea cls d a0 tr
  tro : TrOk X.env tr
  fe : FpOk X pins H ea
  ft : ∀ T ∈ trA tr, FpOk X pins H T
/-- what an error does that flies in this frame reaches what is wanted -/
def Throws (X : Cx) (Rk : St → XK) : Prop := ∀ pins σ H s ea cls d a0 tr, Fl X pins σ H s ea cls d a0 tr → Rk σ cls d H → X.xe (.ref ea) s
/-- an error has left a callee -/
def CXo (P : Program) (w : World) : CXT := fun outer H s E e s' => ∃ (ea T : Addr) (cls : Value) (d : Option Addr) (a0 : Value) (H' : Hp), e = .ref ea ∧ s'.os = s.os ∧ AllBare s'.gens ∧ Un (frs outer) [] H H' s.heap s'.heap ∧ HOk P w H' s'.heap ∧
  Exc s'.heap ea cls d a0 (some (T, .none)) ∧ s.heap.get? ea = none ∧ s.heap.get? T = none ∧ H' ea = none ∧ H' T = none ∧ E cls d H'

section
variable {X : Cx} {pins : List (Addr × Obj)} {σ : St} {H : Hp} {s s' : Shared}
/-- a new address, not there ahead of the call -/
theorem Inv.fpNew {H' : Hp} {b : Addr} (I : Inv X pins σ H s) (hb : s.heap.get? b = none) (hn : H' b = none) : FpOk X pins H' b := by
  refine ⟨hn, fun z => ?_, fun z => ?_, ?_, fun x c e z => ?_, fun p hp z => ?_⟩
  · obtain ⟨m, ⟨o, _, _, ho, _⟩, _⟩ := I.loc
    rw [z, ho] at hb; cases hb
  · obtain ⟨_, o, ho, _⟩ := I.funs.mem z
    rw [ho] at hb; cases hb
  · by_cases hx : b ∈ X.ex
    · exact .inl hx
    · refine .inr ?_
      cases q : X.s_0.heap.get? b with
      | none => rfl
      | some o =>
        obtain ⟨o', e⟩ := I.base.there b o q hx
        rw [e] at hb; cases hb
  · obtain ⟨v, o, ho, _⟩ := I.cell x c e
    rw [z] at ho; rw [ho] at hb; cases hb
  · have := (I.pin p hp).1
    rw [z, hb] at this; cases this
/-- a callee's error, in this frame -/
theorem CXo.fl {E : XK} {e : Value} (I : Inv X pins σ H s) (h : CXo X.prog X.w X.stack H s E e s') : ∃ ea T cls d a0 H', e = .ref ea ∧ Fl X pins σ H' s' ea cls d a0 (some (T, .none)) ∧ E cls d H' := by
  obtain ⟨ea, T, cls, d, a0, H', rfl, os, bare, un, hok, x, ne, nT, he, hT, hE⟩ := h
  refine ⟨ea, T, cls, d, a0, H', rfl, ⟨I.call' (ch := []) os un hok bare (fun b z => absurd z List.not_mem_nil), x, .inr (.inl ⟨T, rfl⟩), I.fpNew ne he, fun T' hT' => ?_⟩, hE⟩
  have : T' = T := by simpa [trA] using hT'
  subst this
  exact I.fpNew nT hT
theorem Throws.of_call {Rk : St → XK} {e : Value} (th : Throws X Rk) (I : Inv X pins σ H s) (h : CXo X.prog X.w X.stack H s (Rk σ) e s') : X.xe e s' := by
  obtain ⟨ea, T, cls, d, a0, H', rfl, F, hE⟩ := h.fl I
  exact th pins σ H' s' ea cls d a0 _ F hE
variable {ea : Addr} {cls a0 : Value} {d : Option Addr} {tr : Option (Addr × Value)}
/-- the frame is noted -/
theorem Fl.notes {A : Around} {L : Addr} {Q : Unit → Shared → Prop} {E : Value → Shared → Prop} {M : Model} (F : Fl X pins σ H s ea cls d a0 tr) (hA : A.frames = some X.stack) (hst : X.stack = X.env :: X.outer) (hf : X.env.frame = some L)
    (h : ∀ s' T, s'.os = s.os → Fl X pins σ H s' ea cls d a0 (some (T, rawInt L)) → Q () s') : wpAny M A (noteFrame (.ref ea) X.env) Q E s := by
  have mk : ∀ tr, Exc s.heap ea cls d a0 tr → (tr = none ∨ ∃ T, tr = some (T, .none)) → (∀ T ∈ trA tr, FpOk X pins H T) → wpAny M A (noteFrame (.ref ea) X.env) Q E s := fun tr x hn ft => by
    refine noteX (base := X.base) (outer := X.outer) (by rw [hA, hst]) (by rw [← hst]; exact F.inv.stack) hf x hn fun h' x1 f1 => ?_
    refine h { s with heap := h' } s.heap.objs.size rfl ⟨F.inv.flown F.fe ft (by rw [hst]; exact f1), x1, .inr (.inr ⟨_, L, hf, rfl⟩), F.fe, fun T hT => ?_⟩
    have : T = s.heap.objs.size := by simpa [trA] using hT
    subst this
    exact F.inv.fpOk (Nat.le_refl _) (F.inv.hok.fresh (Nat.le_refl _))
  obtain ⟨I, x, tro, fe, ft⟩ := id F
  rcases tro with rfl | ⟨T, rfl⟩ | ⟨T, L', hL, rfl⟩
  · exact mk _ x (.inl rfl) ft
  · exact mk _ x (.inr ⟨T, rfl⟩) ft
  · rw [hf] at hL; cases hL
    exact noteX_again hf x (h s T rfl F)
/-- its flag is set -/
theorem Fl.flies {A : Around} {L : Option Addr} {T : Addr} {fl : Value} {Q : Unit → Shared → Prop} {E : Value → Shared → Prop} {M : Model} (F : Fl X pins σ H s ea cls d a0 (some (T, fl))) (hL : L = none ∨ L = X.env.frame)
    (h : ∀ s', s'.os = s.os → Fl X pins σ H s' ea cls d a0 (some (T, L.elim .none fun f => rawInt f)) → Q () s') : wpAny M A (setFlight (.ref ea) L) Q E s := by
  refine flightX (fr := frs X.stack) F.exc fun h' x1 f1 => ?_
  refine h { s with heap := h' } rfl ⟨F.inv.flown F.fe (fun b hb => F.ft b (by simpa [trA] using hb)) f1, x1, ?_, F.fe, F.ft⟩
  rcases hL with rfl | rfl
  · exact .inr (.inl ⟨T, rfl⟩)
  · cases hf : X.env.frame with
    | none => exact .inr (.inl ⟨T, rfl⟩)
    | some L => exact .inr (.inr ⟨T, L, hf, rfl⟩)
/-- it leaves the frame -/
theorem Fl.leaves {A : Around} {L : Addr} {Q : Unit → Shared → Prop} {E : Value → Shared → Prop} {M : Model} (F : Fl X pins σ H s ea cls d a0 tr) (hA : A.frames = some X.stack) (hst : X.stack = X.env :: X.outer) (hf : X.env.frame = some L)
    (h : ∀ s' T, Fl X pins σ H s' ea cls d a0 (some (T, .none)) → Q () s') : wpAny M A (leaving X.env (.ref ea)) Q E s := by
  unfold leaving
  refine wpAny_bind (F.notes hA hst hf fun s1 T _ F1 => F1.flies (.inl rfl) fun s2 _ F2 => h s2 T F2)
end

/-- an error that leaves a def -/
theorem throws_fn {P : Program} {w : World} {K : PySem.W.Frag} {mg : Str → Option Value} {base : Heap} {N : List Str} {qual : Str} {scope : Scope} {f : Addr} {cd : Value} {A : Around} {outer : List Env} {s : Shared} {H : Hp} {E : XK} :
    Throws (cxOf (CXo P w) P w K mg base N qual scope f cd A outer s H E) fun _ => E := fun pins σ H1 s1 ea cls d a0 tr F hE => by
  refine F.leaves F.inv.ok.frames rfl rfl fun s2 T F2 => ?_
  have yo : ∀ {b}, FpOk (cxOf (CXo P w) P w K mg base N qual scope f cd A outer s H E) pins H1 b → s.heap.get? b = none := fun q => by
    rcases q.2.2.2.1 with z | z
    · exact absurd z List.not_mem_nil
    · exact z
  exact ⟨ea, T, cls, d, a0, H1, rfl, F2.inv.os, F2.inv.bare, F2.inv.base, F2.inv.hok, F2.exc, yo F2.fe, yo (F2.ft T (by simp [trA])), F2.fe.1, (F2.ft T (by simp [trA])).1, hE⟩
theorem passes_fn {P : Program} {w : World} {K : PySem.W.Frag} {mg : Str → Option Value} {base : Heap} {N : List Str} {qual : Str} {scope : Scope} {f : Addr} {cd : Value} {A : Around} {outer : List Env} {s : Shared} {H : Hp} {E : XK} :
    PassesOwn (model P w) (cxOf (CXo P w) P w K mg base N qual scope f cd A outer s H E).A (cxOf (CXo P w) P w K mg base N qual scope f cd A outer s H E).env (cxOf (CXo P w) P w K mg base N qual scope f cd A outer s H E).xe := PassesOwn.leaving
end L2

set_option Elab.async false
set_option linter.all false
set_option maxRecDepth 100000
namespace L2
open PySem PySem.Spec PyProof.Rows

/-! ### own classes of errors -/
theorem exc_of_in {K : PySem.W.Frag} {h : Heap} {C : Addr} {bmB : List Value} {newId : String} (X : K.In h) (q : PySem.W.excIn K C bmB newId = true) :
    ∃ bm N nm q bs hdct sn sub ab col dd k0 k1 k2 k3 k5 mN, h.get? C = some (excClassObj nm q C N bs bm hdct sn sub ab col dd k0 k1 k2 k3 k5 newId) ∧ h.Ns N mN ∧ mN "__init__" = none ∧ OwnTail h bmB bm := by
  unfold PySem.W.excIn at q
  split at q
  · rename_i dd cd sl ho
    split at q
    · rename_i C' bm k0 k1 k2 k3 n k5 hm hs
      simp only [Bool.and_eq_true, beq_iff_eq, Bool.not_eq_true'] at q
      obtain ⟨⟨⟨⟨⟨rfl, rfl⟩, hdel⟩, ht⟩, hok⟩, hni⟩ := q
      obtain ⟨nm, bs, mro, ns, qn, hd, sn, sub, ab, col, del⟩ := cd
      dsimp only at hm hdel hok hni
      subst hm hdel
      have hsl : sl = #[k0, k1, k2, k3, some (.builtin n), k5] := by
        obtain ⟨l⟩ := sl
        simp only at hs
        rw [hs]
      subst hsl
      exact ⟨bm, ns, nm, qn, bs, hd, sn, sub, ab, col, dd, k0, k1, k2, k3, k5, _, X _ _ ho, .of_isNs (PySem.W.isNs_of_in X hok), PySem.W.nsMap_none_of_in X hok hni, PySem.W.tail_of_in X ht⟩
    · cases q
  · cases q

section
variable {X : Cx} {Rk : St → XK}
/-- raise C(..) -/
def tRaise (C : Addr) (Rk : St → XK) (t : TA) : TS := fun _ σ H => t σ H fun vs H1 => vs.length ≤ sizeLine ∧ Rk σ (.ref C) none H1
theorem ps_raise {x : Str} {C : Addr} {e : Expr} {es : List Expr} {np cpos pos : Pos} {t : TA} {bmB : List Value} {B newId initId : String} (hc : X.calm = true) (hg : Gl X x) (hm : X.mg x = some (.ref C)) (q : PySem.W.excIn X.K C bmB newId = true)
    (FB : ExcBaseFacts B newId initId bmB) (th : Throws X Rk) (ha : PA X (e :: es) t) (hdb : (x == ("__debug__" : Str)) = false := by decide)
    (he : starEach (e :: es) X.env = (false, eval e X.env) :: starEach es X.env := by rfl) (hpl : (backTo cpos (starEach es X.env)).any (·.1) = false := by rfl) :
    PS X (.Raise (some (.Call (.Name x np) (e :: es) [] cpos)) none pos) (tRaise C Rk t) := by
  intro pins s σ H D I h
  obtain ⟨tl, N, nm, q', bs, hdct, sn, sub, ab, col, dd, k0, k1, k2, k3, k5, mN, hC, hN, hni, T⟩ := exc_of_in I.mod.kin q
  refine wpAny_Raise_call_subT (C := C) (nm := nm) (q := q') (N := N) (bs := bs) (bm := tl) (hdct := hdct) (sn := sn) (sub := sub) (ab := ab) (col := col) (dd := dd) (k0 := k0) (k1 := k1) (k2 := k2) (k3 := k3) (k5 := k5)
    FB (mN := mN) (T.hasType FB.hasBase) (I.ok.hd hc) (by rw [he]; show (false || (backTo cpos (starEach es X.env)).any (·.1)) = false; rw [hpl]; rfl) hni (ld_glob I hg hm ⟨rfl, ?_⟩ hdb)
  have hq := ha cpos pins s σ H _ I h
  rw [he] at hq ⊢
  refine Calls.evalArgs_plain (wpAny_mono hq (fun us s2 ⟨vs, H2, I2, r, hz, q2⟩ => ?_) fun _ _ y => y)
  refine ⟨rfl, by rw [← r.length]; exact hz, I2.bk _ _ hC, hN.keeps I2.bk, T.keeps I2.bk, fun h' ea hx => ?_⟩
  obtain ⟨t, ht, _, _⟩ := hx.there
  refine th pins σ H2 { s2 with heap := h' } ea (.ref C) none (.ref t) none ⟨I2.kept (t' := s2.toks) hx.keeps, ⟨_, _, ht, rfl, rfl, rfl, rfl, rfl⟩, .inl rfl, I2.fpNew hx.new ?_, fun T hT => absurd hT List.not_mem_nil⟩ q2
  cases z : H2 ea with
  | none => rfl
  | some u =>
    have := (I2.hok ea u z)
    have e1 : ∃ o, s2.heap.get? ea = some o := by
      cases u with
      | lst xs => obtain ⟨_, _, _, _, e⟩ := this; exact ⟨_, e⟩
      | tup xs => obtain ⟨_, _, _, _, e, _⟩ := this; exact ⟨_, e⟩
      | dK kvs => obtain ⟨_, _, _, _, o, _, _, e, _⟩ := this; exact ⟨_, e⟩
      | dT kvs => obtain ⟨_, _, _, _, o, _, _, e, _⟩ := this; exact ⟨_, e⟩
      | set S n => obtain ⟨o, _, _, _, e, _⟩ := this; exact ⟨_, e⟩
      | ins C dx fs => obtain ⟨_, _, _, e, _⟩ := this; exact ⟨_, e⟩
      | own y => obtain ⟨_, e⟩ := this; exact ⟨_, e⟩
      | xd fs => obtain ⟨_, ⟨_, _, _, e, _⟩, _⟩ := this; exact ⟨_, e⟩
      | rng lo hi => obtain ⟨_, _, _, e⟩ := this; exact ⟨_, e⟩
      | frz ob u => obtain ⟨e, _⟩ := this; exact ⟨_, e⟩
      | tbl ps => exact ⟨_, this⟩
      | met f y => exact ⟨_, this⟩
      | cel v => obtain ⟨_, _, o, e, _⟩ := this; exact ⟨_, e⟩
      | ext φ => obtain ⟨_, ⟨_, e⟩, _⟩ := this; exact ⟨_, e⟩
    obtain ⟨o, e⟩ := e1
    rw [hx.new] at e; cases e
end

/-! ### except -/
/-- whether a clause takes an error of a class -/
def Mat (K : PySem.W.Frag) (spec cls : Value) (b : Bool) : Prop := ∀ (M : Model) (A : Around) (E : Value → Shared → Prop) (s : Shared) (ea : Addr) (oe : Obj) (Q : Bool → Shared → Prop), K.In s.heap → s.heap.get? ea = some oe → oe.cls = cls → Q b s → wpAny M A (excMatches (.ref ea) spec) Q E s
/-- the mro's tail of an own class of errors -/
def mroIn (K : PySem.W.Frag) (C : Addr) : List Value := match K.lookup C with
  | some ⟨_, _, .cls cd, _⟩ => cd.mro.tail
  | _ => []
theorem mat_own {K : PySem.W.Frag} {C D : Addr} {bmB bmD : List Value} {newId newD : String} {b : Bool} (q : PySem.W.excIn K C bmB newId = true) (qD : PySem.W.excIn K D bmD newD = true) (hbD : bmD.contains (.type "BaseException") = true)
    (hb : (Value.ref C :: mroIn K C).contains (.ref D) = b) : Mat K (.ref D) (.ref C) b := by
  intro M A E s ea oe Q KX he hcls hq
  obtain ⟨h, g, d, t, os⟩ := s
  have hmro : ∀ {bm N nm q bs hdct sn sub ab col dd k0 k1 k2 k3 k5 newId}, h.get? C = some (excClassObj nm q C N bs bm hdct sn sub ab col dd k0 k1 k2 k3 k5 newId) → mroIn K C = bm := fun {bm N nm q' bs hdct sn sub ab col dd k0 k1 k2 k3 k5 nid} e => by
    unfold PySem.W.excIn at q
    unfold mroIn
    split at q
    · rename_i dd' cd sl ho
      rw [ho]
      have := KX _ _ ho
      rw [e] at this
      cases this
      rfl
    · cases q
  obtain ⟨bm, N, nm, q', bs, hdct, sn, sub, ab, col, dd, k0, k1, k2, k3, k5, mN, hC, hN, hni, T⟩ := exc_of_in KX q
  obtain ⟨bm2, N2, nm2, q2, bs2, hdct2, sn2, sub2, ab2, col2, dd2, l0, l1, l2, l3, l5, mN2, hD, hN2, hni2, T2⟩ := exc_of_in KX qD
  rw [hmro hC] at hb
  have hcB : (Value.ref D :: bm2).contains (.type "BaseException") = true := by rw [List.contains_cons, T2.hasType hbD, Bool.or_true]
  have f := tc_notTuple
  unfold excMatches
  repeat (first | (with_reducible refine wpAny_loadPart_at he ?_; rw [hcls]) | with_reducible refine wpAny_loadPart_at hD ?_ | (with_reducible refine wpAny_isSubtype_exc hD ?_; rw [hcB]) | (with_reducible refine wpAny_isSubtype_exc hC ?_; rw [hb]) | wp_step)
  cases b <;> (wp_walk; exact hq)

/-- within an except suite: the error and its entry are pinned, something is handled -/
abbrev Cx.sut (X : Cx) (ea : Addr) (oe : Obj) (T : Addr) (oT : Obj) : Cx := { X with A := X.A.mark (some (.ref ea)), calm := false, pn := X.pn ++ [(ea, oe), (T, oT)] }
structure Sut (X : Cx) (ea : Addr) (oe : Obj) (T : Addr) (oT : Obj) (cls : Value) (d : Option Addr) (a0 : Value) : Prop where
  hd : X.calm = true → X.A.handled = none
  ex : ∀ h : Heap, h.get? ea = some oe → h.get? T = some oT → Exc h ea cls d a0 (some (T, .none))
  yo : (ea ∈ X.ex ∨ X.s_0.heap.get? ea = none) ∧ (T ∈ X.ex ∨ X.s_0.heap.get? T = none)
  cl : ∀ x c, X.env.cells.lookup x = some c → c ≠ ea ∧ c ≠ T
  pn : ∀ p ∈ X.pn, p.1 ≠ ea ∧ p.1 ≠ T
section
variable {X : Cx} {pins : List (Addr × Obj)} {σ : St} {H : Hp} {s : Shared} {ea T : Addr} {oe oT : Obj} {cls a0 : Value} {d : Option Addr}
theorem Inv.unsut (I : Inv (X.sut ea oe T oT) pins σ H s) (hd : X.calm = true → X.A.handled = none) : Inv X pins σ H s :=
  ⟨⟨I.ok.mod, I.ok.kind, I.ok.glob, I.ok.blt, I.ok.above, I.ok.inj, I.ok.has, I.ok.cab, hd, I.ok.frames, I.ok.stk, I.ok.exf, I.ok.bs, I.ok.bsz, I.ok.noex, I.ok.exfs, I.ok.funs, I.ok.frf, I.ok.hcN⟩,
    I.os, I.bare, I.base, I.loc, I.cell, I.free, I.freeC, I.hct, fun p hp => I.pin p ((List.mem_append.mp hp).elim (fun z => List.mem_append_left _ (List.mem_append_left _ z)) fun z => List.mem_append_right _ z), I.hok, I.len⟩
end
end L2

set_option Elab.async false
set_option linter.all false
set_option maxRecDepth 100000
namespace L2
open PySem PySem.Spec PyProof.Rows

section
variable {X : Cx} {pins : List (Addr × Obj)} {σ : St} {H : Hp} {s : Shared} {ea T : Addr} {oe oT : Obj} {cls a0 : Value} {d : Option Addr} {Rk : St → XK}
theorem SP.unsut {D : Ends} {f : Flow} (hd : X.calm = true → X.A.handled = none) (h : SP (X.sut ea oe T oT) pins D f s) : SP X pins D f s := by
  cases f with
  | next => obtain ⟨σ', H', I, q⟩ := h; exact ⟨σ', H', I.unsut hd, q⟩
  | brk => obtain ⟨σ', H', I, q⟩ := h; exact ⟨σ', H', I.unsut hd, q⟩
  | cont => obtain ⟨σ', H', I, q⟩ := h; exact ⟨σ', H', I.unsut hd, q⟩
  | ret u => obtain ⟨v, σ', H', I, r, q⟩ := h; exact ⟨v, σ', H', I.unsut hd, r, q⟩
/-- the suite's state -/
theorem Inv.sut (I : Inv X pins σ H s) (fe : FpOk X pins H ea) (ft : FpOk X pins H T) (he : s.heap.get? ea = some oe) (hT : s.heap.get? T = some oT) (ne : ∀ v, oe.data ≠ .cell v) (nT : ∀ v, oT.data ≠ .cell v) : Inv (X.sut ea oe T oT) pins σ H s := by
  refine ⟨⟨I.ok.mod, I.ok.kind, I.ok.glob, I.ok.blt, I.ok.above, I.ok.inj, I.ok.has, I.ok.cab, (fun z => absurd z Bool.false_ne_true), I.ok.frames, I.ok.stk, I.ok.exf, I.ok.bs, I.ok.bsz, I.ok.noex, I.ok.exfs, I.ok.funs, I.ok.frf, I.ok.hcN⟩,
    I.os, I.bare, I.base, I.loc, I.cell, I.free, I.freeC, I.hct, fun p hp => ?_, I.hok, I.len⟩
  rcases List.mem_append.mp hp with hp | hp
  · rcases List.mem_append.mp hp with hp | hp
    · exact I.pin p (List.mem_append_left _ hp)
    · rcases List.mem_cons.mp hp with rfl | hp
      · exact ⟨he, fe.1, fe.2.1, fe.2.2.1, ne⟩
      · rcases List.mem_cons.mp hp with rfl | hp
        · exact ⟨hT, ft.1, ft.2.1, ft.2.2.1, nT⟩
        · exact absurd hp List.not_mem_nil
  · exact I.pin p (List.mem_append_right _ hp)
theorem FpOk.unsut {b : Addr} (f : FpOk (X.sut ea oe T oT) pins H b) : FpOk X pins H b :=
  ⟨f.1, f.2.1, f.2.2.1, f.2.2.2.1, f.2.2.2.2.1, fun p hp => f.2.2.2.2.2 p ((List.mem_append.mp hp).elim (fun z => List.mem_append_left _ (List.mem_append_left _ z)) fun z => List.mem_append_right _ z)⟩
/-- raise, alone, in the suite -/
def tAgain (Rk : St → XK) (cls : Value) (d : Option Addr) : TS := fun _ σ H => Rk σ cls d H
theorem ps_reraise {pos : Pos} (S : Sut X ea oe T oT cls d a0) (th : Throws X Rk) : PS (X.sut ea oe T oT) (.Raise none none pos) (tAgain Rk cls d) := by
  intro pins s σ H D I h
  have pe := I.pin (ea, oe) (List.mem_append_left _ (List.mem_append_right _ (.head _)))
  have pT := I.pin (T, oT) (List.mem_append_left _ (List.mem_append_right _ (.tail _ (.head _))))
  have x := S.ex s.heap pe.1 pT.1
  -- the pins of the loops around are no part of the error
  have fp : ∀ {b : Addr} {o : Obj}, s.heap.get? b = some o ∧ H b = none ∧ b ≠ X.env.locals ∧ b ∉ X.fs ∧ (∀ v, o.data ≠ .cell v) → (b ∈ X.ex ∨ X.s_0.heap.get? b = none) → (∀ x c, X.env.cells.lookup x = some c → c ≠ b) → (∀ p ∈ X.pn, p.1 ≠ b) → FpOk X [] H b :=
    fun q y c pn => ⟨q.2.1, q.2.2.1, q.2.2.2.1, y, c, fun p hp => pn p (by simpa using hp)⟩
  have fe := fp pe S.yo.1 (fun x c e => (S.cl x c e).1) fun p hp => (S.pn p hp).1
  have fT := fp pT S.yo.2 (fun x c e => (S.cl x c e).2) fun p hp => (S.pn p hp).2
  have I0 : Inv X [] σ H s := (I.unsut S.hd).pins_of fun p hp => absurd hp List.not_mem_nil
  have F : Fl X [] σ H s ea cls d a0 (some (T, .none)) := ⟨I0, x, .inr (.inl ⟨T, rfl⟩), fe, fun T' hT' => by
    have : T' = T := by simpa [trA] using hT'
    subst this; exact fT⟩
  rw [arm_exec_Raise]
  refine wpAny_bind (wpAny_standAt ?_)
  obtain ⟨oe', vs, he, hc, hdd, hd, h0, h1, hTe, oT', ts, hT, hdT, h3⟩ := x
  show wpAny _ _ (raiseStmt X.env none none) _ _ s
  unfold raiseStmt
  refine wpAny_bind (wpAny_handled ?_)
  show wpAny _ _ (rule "raise.bare" >>= _) _ _ s
  refine wpAny_bind (wpAny_rule (wpAny_bind (wpAny_field he hd h1 ?_)))
  rw [if_neg (show ¬ ((Value.ref T == Value.none) = true) from by simp)]
  refine wpAny_bind (F.flies (.inr rfl) fun s2 _ F2 => wpAny_throw ?_)
  exact th [] σ H s2 ea cls d a0 _ F2 h
end

/-! ### the clauses -/
abbrev TH := Ends → St → Hp → Addr → Value → Option Addr → Prop
def PH (X : Cx) (hs : List ExceptHandler) (t : TH) : Prop := ∀ (pins : List (Addr × Obj)) (s : Shared) (σ : St) (H : Hp) (D : Ends) (ea : Addr) (cls : Value) (d : Option Addr) (a0 : Value) (T : Addr),
  Fl X pins σ H s ea cls d a0 (some (T, .none)) → t D σ H ea cls d → wpAny (model X.prog X.w) X.A (handleBy (.ref ea) X.env hs) (SP X pins D) X.xe s
def hNil (Rk : St → XK) : TH := fun _ σ H _ cls d => Rk σ cls d H
def hCons (K : PySem.W.Frag) (C : Addr) (ts : Addr → Value → Option Addr → TS) (tr : TH) : TH := fun D σ H ea cls d => ∃ b, Mat K (.ref C) cls b ∧ if b = true then ts ea cls d D σ H else tr D σ H ea cls d
section
variable {X : Cx} {Rk : St → XK}
theorem ph_nil (th : Throws X Rk) : PH X [] (hNil Rk) := by
  intro pins s σ H D ea cls d a0 T F h
  refine wpAny_handleBy_nil ?_
  obtain ⟨oe', vs, he, hc, hdd, hd, h0, h1, hTe, oT', ts, hT, hdT, h3⟩ := id F.exc
  unfold PySem.passOn
  refine wpAny_bind (wpAny_field he hd h1 ?_)
  rw [if_neg (show ¬ ((Value.ref T == Value.none) = true) from by simp)]
  refine wpAny_bind (F.flies (.inr rfl) fun s2 _ F2 => wpAny_throw ?_)
  exact th pins σ H s2 ea cls d a0 _ F2 h
theorem ph_cons {C : Addr} {x : Str} {np pos : Pos} {b0 : Stmt} {suite : List Stmt} {rest : List ExceptHandler} {ts : Addr → Value → Option Addr → TS} {tr : TH} (hg : Gl X x) (hm : X.mg x = some (.ref C))
    (hpo : ∀ ea : Addr, PassesOwnAt (model X.prog X.w) (X.A.mark (some (.ref ea))) X.A X.env X.xe)
    (hs : ∀ (ea T : Addr) (oe oT : Obj) (cls : Value) (d : Option Addr) (a0 : Value), Sut X ea oe T oT cls d a0 → PSs (X.sut ea oe T oT) (b0 :: suite) (ts ea cls d)) (hr : PH X rest tr) (hdb : (x == ("__debug__" : Str)) = false := by decide) :
    PH X (.ExceptHandler (some (.Name x np)) none (b0 :: suite) pos :: rest) (hCons X.K C ts tr) := by
  intro pins s σ H D ea cls d a0 T F h
  obtain ⟨b, hmat, h⟩ := h
  have mkS : ∀ {s1 : Shared}, Fl X pins σ H s1 ea cls d a0 (some (T, .none)) → ∃ oe oT, Inv (X.sut ea oe T oT) pins σ H s1 ∧ Sut X ea oe T oT cls d a0 ∧ s1.heap.get? ea = some oe ∧ oe.cls = cls := fun {s1} F1 => by
    obtain ⟨oe, vs, he, hc, hdd, hd, h0, h1, hTe, oT, tv, hT, hdT, h3⟩ := id F1.exc
    have fT := F1.ft T (by simp [trA])
    refine ⟨oe, oT, F1.inv.sut F1.fe fT he hT (fun v z => by rw [hd] at z; cases z) (fun v z => by rw [hdT] at z; cases z), ⟨F1.inv.ok.hd, fun h' e1 e2 => ⟨oe, vs, e1, hc, hdd, hd, h0, h1, hTe, oT, tv, e2, hdT, h3⟩, ⟨F1.fe.2.2.2.1, fT.2.2.2.1⟩, fun x c e => ⟨F1.fe.2.2.2.2.1 x c e, fT.2.2.2.2.1 x c e⟩, fun p hp => ⟨F1.fe.2.2.2.2.2 p (List.mem_append_left _ hp), fT.2.2.2.2.2 p (List.mem_append_left _ hp)⟩⟩, he, hc⟩
  obtain ⟨oe, oT, Is, S, he, hc⟩ := mkS F
  refine wpAny_handleBy_cons (codeAny_handlers_test (ld_glob (X := X.sut ea oe T oT) Is hg hm ?_ hdb)) (by intro q; cases q)
  refine hmat _ _ _ s ea oe _ F.inv.kIn he hc ?_
  cases b with
  | false => exact hr pins s σ H D ea cls d a0 T F (by simpa using h)
  | true =>
    refine codeAny_handlers_suite (F.flies (.inl rfl) fun s1 _ F1 => ?_)
    obtain ⟨oe1, oT1, Is1, S1, he1, hc1⟩ := mkS F1
    refine wpAny_passesOwnAt (hpo ea) (thn (hs ea T oe1 oT1 cls d a0 S1 pins s1 σ H D Is1 (by simpa using h)) fun f s2 q => ?_)
    exact q.unsut F.inv.ok.hd
end

/-! ### try -/
abbrev Cx.wi (X : Cx) (xe' : Value → Shared → Prop) (pn' : List (Addr × Obj)) : Cx := { X with xe := xe', pn := X.pn ++ pn' }
section
variable {X : Cx} {pins pins' : List (Addr × Obj)} {σ : St} {H : Hp} {s : Shared} {xe' : Value → Shared → Prop} {pn' : List (Addr × Obj)}
theorem Inv.wi (I : Inv X pn' σ H s) : Inv (X.wi xe' pn') [] σ H s :=
  ⟨⟨I.ok.mod, I.ok.kind, I.ok.glob, I.ok.blt, I.ok.above, I.ok.inj, I.ok.has, I.ok.cab, I.ok.hd, I.ok.frames, I.ok.stk, I.ok.exf, I.ok.bs, I.ok.bsz, I.ok.noex, I.ok.exfs, I.ok.funs, I.ok.frf, I.ok.hcN⟩,
    I.os, I.bare, I.base, I.loc, I.cell, I.free, I.freeC, I.hct, fun p hp => I.pin p (by rw [List.append_nil] at hp; exact hp), I.hok, I.len⟩
theorem Inv.unwi (I : Inv (X.wi xe' pn') pins' σ H s) : Inv X pn' σ H s :=
  ⟨⟨I.ok.mod, I.ok.kind, I.ok.glob, I.ok.blt, I.ok.above, I.ok.inj, I.ok.has, I.ok.cab, I.ok.hd, I.ok.frames, I.ok.stk, I.ok.exf, I.ok.bs, I.ok.bsz, I.ok.noex, I.ok.exfs, I.ok.funs, I.ok.frf, I.ok.hcN⟩,
    I.os, I.bare, I.base, I.loc, I.cell, I.free, I.freeC, I.hct, fun p hp => I.pin p (List.mem_append_left _ hp), I.hok, I.len⟩
theorem FpOk.unwi {b : Addr} (f : FpOk (X.wi xe' pn') pins' H b) : FpOk X pn' H b := ⟨f.1, f.2.1, f.2.2.1, f.2.2.2.1, f.2.2.2.2.1, fun p hp => f.2.2.2.2.2 p (List.mem_append_left _ hp)⟩
theorem SP.unwi {D : Ends} {f : Flow} (h : SP (X.wi xe' pn') pins' D f s) : SP X pn' D f s := by
  cases f with
  | next => obtain ⟨σ', H', I, q⟩ := h; exact ⟨σ', H', I.unwi, q⟩
  | brk => obtain ⟨σ', H', I, q⟩ := h; exact ⟨σ', H', I.unwi, q⟩
  | cont => obtain ⟨σ', H', I, q⟩ := h; exact ⟨σ', H', I.unwi, q⟩
  | ret u => obtain ⟨v, σ', H', I, r, q⟩ := h; exact ⟨v, σ', H', I.unwi, r, q⟩
/-- try: body, its errors to the clauses -/
def tTry (tb : (St → XK) → TS) (th : TH) : TS := fun D σ H => tb (fun σ' cls d H' => ∀ ea, H' ea = none → th D σ' H' ea cls d) D σ H
theorem ps_try {body : List Stmt} {h0 : ExceptHandler} {hs : List ExceptHandler} {pos : Pos} {tb : (St → XK) → TS} {th : TH}
    (hb : ∀ (xe' : Value → Shared → Prop) (pn' : List (Addr × Obj)) (Rk' : St → XK), Throws (X.wi xe' pn') Rk' → PassesOwn (model X.prog X.w) X.A X.env xe' → PSs (X.wi xe' pn') body (tb Rk')) (hh : PH X (h0 :: hs) th)
    (hst : X.stack = X.env :: X.outer := by rfl) (hf : X.env.frame = some X.env.locals := by rfl) : PS X (.Try body (h0 :: hs) [] [] pos) (tTry tb th) := by
  intro pins s σ H D I h
  refine wpAny_Try_except (wpAny_mono (hb (fun e s1 => wpAny (model X.prog X.w) X.A (noteFrame e X.env) (fun _ s2 => wpAny (model X.prog X.w) X.A (setFlight e none) (fun _ s3 => wpAny (model X.prog X.w) X.A (handleBy e X.env (h0 :: hs)) (SP X pins D) X.xe s3) X.xe s2) X.xe s1) pins
    (fun σ' cls d H' => ∀ ea, H' ea = none → th D σ' H' ea cls d) ?_ PassesOwn.looking [] s σ H D I.wi h) (fun f s1 q => ?_) fun e s1 q => q)
  · intro pins' σ' H' s' ea cls d a0 tr F q
    have F' : Fl X pins σ' H' s' ea cls d a0 tr := ⟨F.inv.unwi, F.exc, F.tro, F.fe.unwi, fun T hT => (F.ft T hT).unwi⟩
    exact F'.notes F'.inv.ok.frames hst hf fun s1 T _ F1 => F1.flies (.inl rfl) fun s2 _ F2 => hh pins s2 σ' H' D ea cls d a0 T F2 (q ea F2.fe.1)
  · have q' := SP.unwi q
    cases f with
    | next => exact wpAny_execs_nil q'
    | brk => exact q'
    | cont => exact q'
    | ret u => exact q'
end

/-! ### calls whose errors are seen -/
def tCallX (sp : Sp) (dvs : List V) (Rk : St → XK) (t : TA) : TE := fun σ H Q => t σ H fun vs H1 => sp (vs ++ dvs) H1 Q (Rk σ)
def tMethX (C : Addr) (m : Str) (sp : Sp) (dvs : List V) (Rk : St → XK) (ta : TE) (t : TA) : TE := fun σ H Q => ta σ H fun x H1 => ∃ a dx fs, x = .ref a ∧ H1 a = some (.ins C dx fs) ∧ fs.lookup m = none ∧
  t σ H1 fun vs H2 => sp (x :: (vs ++ dvs)) H2 Q (Rk σ)
section
variable {X : Cx} {k : Nat} {f C : Addr} {fd : FuncData} {ps : List Str} {sp : Sp} {dvs : List V} {ds : List Value} {Rk : St → XK} {x m : Str} {p pos apos : Pos} {e o : Expr} {es : List Expr} {ta : TE} {t : TA}
theorem run_fnX {pins : List (Addr × Obj)} {σ : St} {H : Hp} {s : Shared} {Q : VK} {us : List Value} {vs : List V} (F : FnOk X.prog X.w X.K X.mg X.base (CXo X.prog X.w) k f fd ps sp) (hr : Room k X.A) (hb : Binds X.K fd ps ds) (hd : Vals dvs ds) (th : Throws X Rk)
    (I : Inv X pins σ H s) (r : Vals vs us) (h : sp (vs ++ dvs) H Q (Rk σ)) : wpAny (model X.prog X.w) X.A (call (.ref f) us) (EP X pins σ Q) X.xe s := by
  have r2 : Vals (vs ++ dvs) (us ++ ds) := r.append hd
  have hl : (us ++ ds).length = ps.length := by rw [← r2.length]; exact F.len _ _ _ _ h
  refine wpAny_call (codeAny_mono (F.run X.A X.stack s H ⟨us, []⟩ (us ++ ds) (vs ++ dvs) Q (Rk σ) hr I.env0 (hb s us I.kIn hl) r2 h) fun r s' hq => ?_)
  cases r with
  | error e => exact th.of_call I hq
  | ok fl =>
    cases fl with
    | ret u => exact I.after hq
    | next => exact False.elim hq
    | brk => exact False.elim hq
    | cont => exact False.elim hq
theorem pe_callX (F : FnOk X.prog X.w X.K X.mg X.base (CXo X.prog X.w) k f fd ps sp) (hr : Room k X.A) (hg : Gl X x) (hm : X.mg x = some (.ref f)) (hk : PySem.W.keepIn X.K (.ref f) = true) (hb : Binds X.K fd ps ds) (hd : Vals dvs ds) (th : Throws X Rk)
    (ha : PA X (e :: es) t) (hdb : (x == ("__debug__" : Str)) = false := by decide) (he : starEach (e :: es) X.env = (false, eval e X.env) :: starEach es X.env := by rfl) (hpl : (backTo pos (starEach es X.env)).any (·.1) = false := by rfl) :
    PE X (.Call (.Name x p) (e :: es) [] pos) (tCallX sp dvs Rk t) := by
  intro pins s σ H Q I h
  refine wpAny_Call_Name_kw (ld_glob I hg hm ?_ hdb)
  refine PySem.W.callWith_K (h₀ := X.base) I.ok.mod.kin hk (thn (ha pos pins s σ H _ I h) fun us s1 ⟨vs, H1, I1, r, q⟩ => ⟨I1.kIn, ?_⟩) he hpl
  exact run_fnX F hr hb hd th I1 r q
theorem pe_methX0 {pl : Sem Bool} (he : PE X o ta) (c : Cls X.K C) (hm : Meth X.K C m f) (F : FnOk X.prog X.w X.K X.mg X.base (CXo X.prog X.w) k f fd ps sp) (hr : Room k X.A) (hb : Binds X.K fd ps ds) (hd : Vals dvs ds) (th : Throws X Rk)
    (ht : eval (.Call (.Attribute o m apos) [] [] pos) X.env = (do
      let ov ← eval o X.env
      standAt apos.atName
      let (f, first) ← holding [ov] (getMethod ov m pl)
      callWith pos f first (backTo pos (starEach [] X.env)) (backToKw pos (keywordEach [] X.env))) := by rfl) :
    PE X (.Call (.Attribute o m apos) [] [] pos) (tMethX C m sp dvs Rk ta tNil) := by
  intro pins s σ H Q I h
  refine PySem.W.methodCall_KW (pl := pl) (thn (he pins s σ H _ I h) fun u s1 ⟨x, H1, I1, rx, a, dx, fs, ex, ea, l, q⟩ => ?_) ht
  subst ex
  obtain rfl : u = Value.ref a := rx
  refine getmeth_ok I1 ea c hm l ?_
  exact PySem.W.callWith_K0 (first := [.ref a]) I1.kIn hm.kp (run_fnX (us := [.ref a]) (vs := [.ref a]) F hr hb hd th I1 (.cons rfl .nil) q)
end
end L2

set_option Elab.async false
set_option linter.all false
set_option maxRecDepth 100000
namespace L2
open PySem PySem.Spec PyProof.Rows

/-! ### cells that stand in the heap -/
theorem storeName_free {M : Model} {A : Around} {E : Value → Shared → Prop} {s : Shared} {env : Env} {name : Str} {c : Addr} {v₀ : Option Value} {v : Value} {Q : Unit → Shared → Prop} (hk : env.scope.kind = .function) (hl : env.kindOf name = some .free)
    (hc : env.cells.lookup name = some c) (hv : s.heap.IsCell c v₀) (h : ∀ h', h'.IsCell c (some v) → Heap.SameBut c s.heap h' → Q () { s with heap := h' }) : wpAny M A (storeName env name v) Q E s := by
  unfold storeName
  simp only [hl, hk]
  exact wpAny_bind (wpAny_cellOf hc (wpAny_cellSet hv h))
section
variable {X : Cx} {pins : List (Addr × Obj)} {σ : St} {H : Hp} {s : Shared} {h' : Heap} {x : Str} {c : Addr} {pos : Pos}
/-- a cell is written -/
theorem Inv.wcel {t' : Nat} {w : Option V} {v : V} {u : Value} (I : Inv X pins σ H s) (hw : H c = some (.cel w)) (r : RelV v u) (z : h'.IsCell c (some u)) (sb : Heap.SameBut c s.heap h') : Inv X pins σ (upd H c (.cel (some v))) { s with heap := h', toks := t' } := by
  have ne : ∀ b o, H b = some o → (∀ w, o ≠ .cel w) → b ≠ c := fun b o e n q => by rw [q, hw] at e; cases e; exact n w rfl
  have nn : ∀ b, H b = none → b ≠ c := fun b e q => by rw [q, hw] at e; cases e
  refine I.un (t' := t') ⟨fun b o e n _ _ => (sb.2 b (nn b n)).trans e, fun b o e n _ _ => ⟨o.slots, (sb.2 b (nn b n)).trans e⟩, fun b o e n _ => by rw [upd_ne (nn b n)]; exact n, fun b o e _ => ?_,
    fun b xs e => by rw [upd_ne (ne b _ e (fun _ z => nomatch z))]; exact e, fun b o q e => by rw [upd_ne (ne b _ e (fun _ z => nomatch z))]; exact e, fun b ps e => ⟨#[], by rw [upd_ne (ne b _ e (fun _ z => nomatch z)), e]; simp⟩, fun b v' e => ?_⟩ fun b o e => ?_
  · by_cases hb : b = c
    · obtain ⟨o', e', _⟩ := z
      exact ⟨o', by rw [hb]; exact e'⟩
    · exact ⟨o, (sb.2 b hb).trans e⟩
  · by_cases hb : b = c
    · exact ⟨_, by rw [hb]; exact upd_same⟩
    · exact ⟨v', by rw [upd_ne hb]; exact e⟩
  · by_cases hb : b = c
    · rw [hb, upd_same] at e
      cases e
      rw [hb]
      exact ⟨some u, r, z⟩
    · rw [upd_ne hb] at e
      refine (I.hok b o e).stay (fun d v' hd q => (sb.2 d ?_).trans q) (fun d q => by rw [upd_ne (ne d _ q (fun _ z => nomatch z))]; exact q) fun d xs q => by rw [upd_ne (ne d _ q (fun _ z => nomatch z))]; exact q
      rcases hd with rfl | hd
      · exact hb
      · exact ne d _ hd (fun _ z => nomatch z)
def tCel (c : Addr) : TE := fun _ H Q => ∃ v, H c = some (.cel (some v)) ∧ Q v H
theorem ld_cel {E : Value → Shared → Prop} {v : V} {Q : Value → Shared → Prop} (I : Inv X pins σ H s) (hk : X.env.kindOf x = some .cell ∨ X.env.kindOf x = some .free) (hc : X.env.cells.lookup x = some c) (e : H c = some (.cel (some v)))
    (h : ∀ u, RelV v u → Q u s) (hcd : (x == ("__classdict__" : Str)) = false := by decide) : wpAny (model X.prog X.w) X.A (loadName X.env x) Q E s := by
  obtain ⟨ov, r, z⟩ := I.hok c _ e
  obtain ⟨u, rfl, r⟩ := r.some_of
  rcases hk with hk | hk
  · exact wpAny_loadName_cell I.ok.kind hk hc z (h u r)
  · exact wpAny_loadName_free I.ok.kind hk hc z (h u r) hcd
theorem pe_cel (hk : X.env.kindOf x = some .cell ∨ X.env.kindOf x = some .free) (hc : X.env.cells.lookup x = some c) (hd : (x == ("__debug__" : Str)) = false := by decide) (hcd : (x == ("__classdict__" : Str)) = false := by decide) :
    PE X (.Name x pos) (tCel c) := by
  intro pins s σ H Q I h
  obtain ⟨v, e, h⟩ := h
  exact wpAny_Name (ld_cel I hk hc e (fun u r => ⟨v, H, I, r, h⟩) hcd) hd
theorem st_cel {E : Value → Shared → Prop} {w : Option V} {v : V} {u : Value} {Q : Unit → Shared → Prop} (I : Inv X pins σ H s) (hk : X.env.kindOf x = some .cell ∨ X.env.kindOf x = some .free) (hc : X.env.cells.lookup x = some c) (e : H c = some (.cel w)) (r : RelV v u)
    (h : ∀ s', Inv X pins σ (upd H c (.cel (some v))) s' → Q () s') : wpAny (model X.prog X.w) X.A (storeName X.env x u) Q E s := by
  obtain ⟨ov, _, z⟩ := I.hok c _ e
  rcases hk with hk | hk
  · exact wpAny_storeName_cell I.ok.kind hk hc z fun h' z' sb => h _ (I.wcel (t' := s.toks) e r z' sb)
  · exact storeName_free I.ok.kind hk hc z fun h' z' sb => h _ (I.wcel (t' := s.toks) e r z' sb)
def gCel (c : Addr) : TG := fun v σ H Q => (∃ w, H c = some (.cel w)) ∧ Q σ (upd H c (.cel (some v)))
theorem pg_cel (hk : X.env.kindOf x = some .cell ∨ X.env.kindOf x = some .free) (hc : X.env.cells.lookup x = some c) : PG X (.Name x pos) (gCel c) := by
  intro pins s σ H v u Q I r h
  obtain ⟨⟨w, e⟩, h⟩ := h
  exact wpAny_assign_Name (st_cel I hk hc e r fun s' I' => ⟨σ, _, I', h⟩)
def tAugC (c : Addr) (te : TE) (ti : TIp) : TS := fun D σ H => ∃ x, H c = some (.cel (some x)) ∧ te σ H fun y H1 => ti x y H1 fun z H2 => (∃ w, H2 c = some (.cel w)) ∧ D.nx σ (upd H2 c (.cel (some z)))
end

/-! ### a def's context, its cells in the heap -/
def cxE (CX : CXT) (P : Program) (w : World) (K : PySem.W.Frag) (mg : Str → Option Value) (base : Heap) (N : List Str) (env : Env) (A : Around) (outer : List Env) (s : Shared) (H : Hp) (E : XK) (hc : List Addr) : Cx where
  prog := P
  w := w
  K := K
  mg := mg
  base := base
  A := A.deeper env
  N := N
  s_0 := s
  H_0 := H
  env := env
  outer := outer
  stack := env :: outer
  ex := []
  calm := true
  fn := fun _ => false
  pn := []
  xe := fun e s' => wpAny (model P w) (A.deeper env) (leaving env e) (fun _ s'' => CX outer H s E e s'') (fun e' s'' => CX outer H s E e' s'') s'
  hc := hc
section
variable {P : Program} {w : World} {K : PySem.W.Frag} {mg : Str → Option Value} {base : Heap} {N : List Str} {env : Env} {A : Around} {outer : List Env} {s : Shared} {H : Hp} {E : XK} {hc : List Addr} {L : Addr}
theorem throws_E (hf : env.frame = some L) : Throws (cxE (CXo P w) P w K mg base N env A outer s H E hc) fun _ => E := fun pins σ H1 s1 ea cls d a0 tr F hE => by
  refine F.leaves F.inv.ok.frames rfl hf fun s2 T F2 => ?_
  have yo : ∀ {b}, FpOk (cxE (CXo P w) P w K mg base N env A outer s H E hc) pins H1 b → s.heap.get? b = none := fun q => by
    rcases q.2.2.2.1 with z | z
    · exact absurd z List.not_mem_nil
    · exact z
  exact ⟨ea, T, cls, d, a0, H1, rfl, F2.inv.os, F2.inv.bare, F2.inv.base, F2.inv.hok, F2.exc, yo F2.fe, yo (F2.ft T (by simp [trA])), F2.fe.1, (F2.ft T (by simp [trA])).1, hE⟩
end
/-- the names' values at the entry -/
def startC (N ps : List Str) (vs : List V) : St := N.map fun x => (ps.zip vs).lookup x
theorem zip_lookup {x : Str} {v : V} : ∀ {ps : List Str} {vs : List V}, (ps.zip vs).lookup x = some v → ∃ i : Nat, ps[i]? = some x ∧ vs[i]? = some v
  | [], _, h => by simp at h
  | _ :: _, [], h => by simp at h
  | p :: ps, y :: vs, h => by
    rw [List.zip_cons_cons, List.lookup_cons] at h
    cases hb : x == p with
    | true =>
      rw [hb] at h
      exact ⟨0, by simp [(eq_of_beq hb).symm], by simpa using h⟩
    | false =>
      rw [hb] at h
      obtain ⟨i, h1, h2⟩ := zip_lookup h
      exact ⟨i + 1, by simpa using h1, by simpa using h2⟩
theorem startC_get {N ps : List Str} {vs : List V} {i : Nat} {x : Str} {v : V} (h1 : N[i]? = some x) (h2 : (startC N ps vs)[i]? = some (some v)) : ∃ j : Nat, ps[j]? = some x ∧ vs[j]? = some v := by
  unfold startC at h2
  rw [List.getElem?_map, h1] at h2
  exact zip_lookup (Option.some.inj h2)
theorem lookup_zipU {x : Str} {u : Value} : ∀ {ps : List Str} {us : List Value} {i : Nat}, ps.Nodup → ps[i]? = some x → us[i]? = some u → (ps.zip us).lookup x = some u
  | [], _, _, _, h, _ => by simp at h
  | _ :: _, [], _, _, _, h => by simp at h
  | p :: ps, y :: us, 0, nd, h1, h2 => by
    simp at h1 h2; subst h1 h2
    simp
  | p :: ps, y :: us, i + 1, nd, h1, h2 => by
    have hx : x ∈ ps := List.mem_of_getElem? (by simpa using h1)
    have ne : (x == p) = false := by
      rw [beq_eq_false_iff_ne]
      rintro rfl
      exact (List.nodup_cons.mp nd).1 hx
    rw [List.zip_cons_cons, List.lookup_cons, ne]
    exact lookup_zipU (List.nodup_cons.mp nd).2 (by simpa using h1) (by simpa using h2)

/-- a closure's scope: its names N (no cell among them), its parameters, the captured names ks -/
structure CloScope (N ps ks : List Str) (sc : Scope) : Prop where
  kind : sc.kind = .function
  co : sc.isCoroutine = false
  gen : sc.isGenerator = false
  nd : N.Nodup
  ndp : ps.Nodup
  loc : ∀ x ∈ N, sc.names.lookup x ≠ some .free
  par : ∀ x ∈ ps, sc.names.lookup x = some .local
  key : ∀ x ∈ ks, sc.names.lookup x = some .free
  free : ∀ y ∈ sc.names, y.2 = .free → y.1 ∈ ks
  cell : ∀ y ∈ sc.names, y.2 ≠ .cell
/-- a function's object; a code object -/
def cloO (f : Addr) (fd : FuncData) : HO := .ext fun h => ∃ oc od sl, h.get? f = some ⟨oc, od, .func fd, sl⟩
def codO (c : Addr) (qual : Str) : HO := .ext fun h => h.CodeRec (.ref c) qual
abbrev cloF (name qual : Str) (params : Arguments) (body : List Stmt) (scope : Scope) (cl : List (Str × Addr)) (doc pm : Value) (c' : Addr) (ctv : Value) : FuncData := PySem.W.fnX name qual params body scope cl .none .none doc pm none (.ref c') ctv
theorem cl_lookup {cl : List (Str × Addr)} {x : Str} {c : Addr} (h : cl.lookup x = some c) : x ∈ cl.map (·.1) ∧ c ∈ cl.map (·.2) :=
  ⟨List.mem_map.mpr ⟨(x, c), PySem.mem_of_lookup h, rfl⟩, List.mem_map.mpr ⟨(x, c), PySem.mem_of_lookup h, rfl⟩⟩
theorem cl_has {cl : List (Str × Addr)} {x : Str} (h : x ∈ cl.map (·.1)) : ∃ c, cl.lookup x = some c := by
  obtain ⟨p, hp, rfl⟩ := List.mem_map.mp h
  exact mem_lookup (c := p.2) hp
theorem cl_inj : ∀ {cl : List (Str × Addr)} {x y : Str} {c : Addr}, (cl.map (·.2)).Nodup → (x, c) ∈ cl → (y, c) ∈ cl → x = y
  | [], _, _, _, _, h, _ => absurd h List.not_mem_nil
  | p :: r, x, y, c, nd, h1, h2 => by
    have nd' : p.2 ∉ r.map (·.2) ∧ (r.map (·.2)).Nodup := List.nodup_cons.mp nd
    rcases List.mem_cons.mp h1 with e1 | e1 <;> rcases List.mem_cons.mp h2 with e2 | e2
    · rw [← e1] at e2; exact (Prod.mk.inj e2).1.symm
    · exact absurd (List.mem_map.mpr ⟨(y, c), e2, by rw [← e1]⟩) nd'.1
    · exact absurd (List.mem_map.mpr ⟨(x, c), e1, by rw [← e2]⟩) nd'.1
    · exact cl_inj nd'.2 e1 e2
/-- a closure stands: its object, its code, its cells -/
structure CloAt (H : Hp) (f : Addr) (fd : FuncData) (c' : Addr) (qual : Str) (cl : List (Str × Addr)) : Prop where
  fn : H f = some (cloO f fd)
  cd : H c' = some (codO c' qual)
  cs : ∀ p ∈ cl, ∃ v, H p.2 = some (.cel v)
  nd : (cl.map (·.2)).Nodup
/-- THE RULE: a closure, by its body -/
theorem clo_of {P : Program} {w : World} {K : PySem.W.Frag} {mg : Str → Option Value} {base : Heap} {k : Nat} {f c' : Addr} {name qual : Str} {params : Arguments} {body : List Stmt} {scope : Scope} {doc pm ctv : Value} {cl : List (Str × Addr)} {N ps : List Str} {sp : Sp} {CX : CXT}
    (S : CloScope N ps (cl.map (·.1)) scope) (len : ∀ vs H Q E, sp vs H Q E → vs.length = ps.length) (pre : ∀ vs H Q E, sp vs H Q E → CloAt H f (cloF name qual params body scope cl doc pm c' ctv) c' qual cl)
    (hbody : ∀ (A : Around) (outer : List Env) (s : Shared) (H : Hp) (vs : List V) (Q : VK) (E : XK), Room k (A.deeper (PySem.W.envX qual scope s.heap.objs.size f (.ref c') cl)) → sp vs H Q E →
      ∃ t, PSs (cxE CX P w K mg base N (PySem.W.envX qual scope s.heap.objs.size f (.ref c') cl) A outer s H E (cl.map (·.2))) body t ∧ t { nx := fun _ H' => Q .non H', rt := Q } (startC N ps vs) H) :
    FnOk P w K mg base CX (k + 1) f (cloF name qual params body scope cl doc pm c' ctv) ps sp := by
  refine ⟨len, fun A outer s H args us vs Q E hr e0 hb r hsp => ?_⟩
  have C := pre _ _ _ _ hsp
  have hl := len _ _ _ _ hsp
  have lim : s.heap.NoLimit := e0.mod.nolimit.keeps fun b o e => (e0.bs b o e).1
  obtain ⟨⟨oc, od, sl, ho⟩, _, _⟩ := e0.hok f _ C.fn
  obtain ⟨hcd, _, _⟩ := e0.hok c' _ C.cd
  have hloc : ∀ y ∈ ps.zip us, scope.names.lookup y.1 = some .local := fun ⟨n, v⟩ hy => S.par n (List.of_mem_zip hy).1
  refine codeAny_call_def (fd := cloF name qual params body scope cl doc pm c' ctv) (body := body) (binds := ps.zip us) hr.depth ho rfl lim hcd rfl hb S.cell hloc (fun h1 hns hk => ?_) S.co S.gen S.kind
  obtain ⟨t, ht, hq⟩ := hbody A outer s H vs Q E (hr.deeper _) hsp
  have I : Inv (cxE CX P w K mg base N (PySem.W.envX qual scope s.heap.objs.size f (.ref c') cl) A outer s H E (cl.map (·.2))) [] (startC N ps vs) H { s with heap := h1, toks := s.toks + (ps.zip us).length } := by
    refine ⟨⟨e0.mod, S.kind, rfl, rfl, Nat.le_refl _, fun x y c h1 h2 => cl_inj C.nd (PySem.mem_of_lookup h1) (PySem.mem_of_lookup h2), fun x hx => ?_, fun x c z _ => absurd z Bool.false_ne_true, fun _ => hr.hd, Around.frames_deeper e0.frames, .inr ⟨rfl, rfl⟩,
      fun b z => absurd z List.not_mem_nil, e0.bs, e0.bsz, fun b _ _ z => absurd z List.not_mem_nil, fun b z => absurd z List.not_mem_nil, e0.funs, e0.frf, fun i x c h1 h2 _ => ?_⟩,
      rfl, e0.bare, Un.kept hk, ⟨_, hns, fun i y v h1 h2 h3 => ?_⟩, fun x c h => ?_, e0.hok.fresh (Nat.le_refl _), fun x c h z => absurd (cl_lookup h).2 z, fun c hc => ?_, fun p hp => absurd (show p ∈ ([] : List (Addr × Obj)) from hp) (by simp), e0.hok.kept hk, by unfold startC; rw [List.length_map]; rfl⟩
    · have hx : scope.names.lookup x = some .cell ∨ scope.names.lookup x = some .free := hx
      rcases hx with hx | hx
      · exact absurd rfl (S.cell _ (PySem.mem_of_lookup hx))
      · exact cl_has (S.free _ (PySem.mem_of_lookup hx) rfl)
    · have a := S.loc x (List.mem_of_getElem? h1)
      exact absurd (S.key x (cl_lookup h2).1) a
    · obtain ⟨j, hj, hv⟩ := startC_get h1 h2
      obtain ⟨u, hu, rv⟩ := r.get hv
      refine ⟨u, rv, .inl ⟨S.par y (List.mem_of_getElem? hj), ?_⟩⟩
      show (ps.zip us).reverse.lookup y = some u
      rw [lookup_reverse_of_nodup _ (by
        rw [List.map_fst_zip (by rw [← hl, r.length]; exact Nat.le_refl _)]
        exact S.ndp)]
      exact lookup_zipU S.ndp hj hu
    · obtain ⟨v, e⟩ := C.cs _ (PySem.mem_of_lookup h)
      obtain ⟨ov, _, z⟩ := e0.hok c _ e
      exact ⟨ov, z.keeps hk⟩
    · obtain ⟨p, hp, rfl⟩ := List.mem_map.mp hc
      exact C.cs p hp
  refine wpAny_mono (ht [] _ (startC N ps vs) H _ I hq) (fun fl s' hs => ?_) fun e s' hs => hs
  have fin : ∀ {σ' : St} {H' : Hp} {v : V} {u : Value}, Inv (cxE CX P w K mg base N (PySem.W.envX qual scope s.heap.objs.size f (.ref c') cl) A outer s H E (cl.map (·.2))) [] σ' H' s' → RelV v u → Q v H' → CE outer P w H s Q u s' :=
    fun {σ' H' v u} J rv q => ⟨v, H', J.os, J.bare, J.base, J.hok, rv, q⟩
  cases fl with
  | ret u =>
    obtain ⟨v, σ', H', J, rv, q⟩ := hs
    exact fin J rv q
  | next =>
    obtain ⟨σ', H', J, q⟩ := hs
    exact fin (v := V.non) (u := Value.none) J rfl q
  | brk =>
    obtain ⟨_, _, _, q⟩ := hs
    exact False.elim q
  | cont =>
    obtain ⟨_, _, _, q⟩ := hs
    exact False.elim q
end L2

set_option Elab.async false
set_option linter.all false
set_option maxRecDepth 100000
namespace L2
open PySem PySem.Spec PyProof.Rows

/-! ### a def whose cells stand in the heap -/
/-- the cells at the entry -/
def Hcel (b : Str → Option V) : List (Str × Addr) → Hp → Hp
  | [], H => H
  | (x, c) :: r, H => upd (Hcel b r H) c (.cel (b x))
theorem Hcel_out {b : Str → Option V} {H : Hp} {a : Addr} : ∀ {cs : List (Str × Addr)}, a ∉ cs.map (·.2) → Hcel b cs H a = H a
  | [], _ => rfl
  | (x, c) :: r, h => by
    show upd (Hcel b r H) c _ a = _
    rw [upd_ne (fun z => h (by rw [z]; exact .head _))]
    exact Hcel_out fun z => h (.tail _ z)
theorem Hcel_in {b : Str → Option V} {H : Hp} {a : Addr} : ∀ {cs : List (Str × Addr)}, a ∈ cs.map (·.2) → ∃ x, (x, a) ∈ cs ∧ Hcel b cs H a = some (.cel (b x))
  | [], h => absurd h List.not_mem_nil
  | (x, c) :: r, h => by
    by_cases e : a = c
    · subst e
      exact ⟨x, .head _, upd_same⟩
    · obtain ⟨y, h1, h2⟩ := Hcel_in (b := b) (H := H) (cs := r) ((List.mem_cons.mp h).elim (fun z => absurd z e) id)
      exact ⟨y, .tail _ h1, by show upd (Hcel b r H) c _ a = _; rw [upd_ne e]; exact h2⟩
/-- the scope of such a def: its names N (no cell among them), its parameters -/
structure FnScopeC (N ps : List Str) (sc : Scope) : Prop where
  kind : sc.kind = .function
  co : sc.isCoroutine = false
  gen : sc.isGenerator = false
  nd : N.Nodup
  ndp : ps.Nodup
  ndn : (sc.names.map (·.1)).Nodup
  loc : ∀ x ∈ N, sc.names.lookup x ≠ some .cell
  par : ∀ x ∈ ps, sc.names.lookup x = some .local ∨ sc.names.lookup x = some .cell
  free : ∀ y ∈ sc.names, y.2 ≠ .free
theorem cellsFrom_key {x : Str} {c : Addr} : ∀ {names : List (Str × NameKind)} {n : Nat} {acc : List (Str × Addr)}, (x, c) ∈ cellsFrom n names acc → (x, c) ∈ acc ∨ (x, NameKind.cell) ∈ names
  | [], _, _, h => .inl h
  | (y, k) :: r, n, acc, h => by
    unfold cellsFrom at h
    by_cases hk : (k == NameKind.cell) = true
    · rw [if_pos hk] at h
      rcases cellsFrom_key h with h | h
      · rcases List.mem_cons.mp h with h | h
        · have e := Prod.mk.inj h
          refine .inr ?_
          rw [e.1, ← eq_of_beq hk]
          exact .head _
        · exact .inl h
      · exact .inr (.tail _ h)
    · rw [if_neg hk] at h
      exact (cellsFrom_key h).imp id (fun z => .tail _ z)
theorem lookup_of_nodup {β : Type} {x : Str} {v : β} : ∀ {l : List (Str × β)}, (l.map (·.1)).Nodup → (x, v) ∈ l → l.lookup x = some v
  | [], _, h => absurd h List.not_mem_nil
  | (y, u) :: r, nd, h => by
    rw [List.lookup_cons]
    rcases List.mem_cons.mp h with e | e
    · cases e; simp
    · have nd' := List.nodup_cons.mp nd
      have hx : x ∈ r.map (·.1) := List.mem_map.mpr ⟨_, e, rfl⟩
      have ne : (x == y) = false := by
        rw [beq_eq_false_iff_ne]
        intro z
        rw [z] at hx
        exact nd'.1 hx
      rw [ne]
      exact lookup_of_nodup nd'.2 e
theorem cellsFrom_keys : ∀ {names : List (Str × NameKind)} {n : Nat} {acc : List (Str × Addr)}, (names.map (·.1)).Nodup → (acc.map (·.1)).Nodup → (∀ x ∈ acc.map (·.1), x ∉ names.map (·.1)) → ((cellsFrom n names acc).map (·.1)).Nodup
  | [], _, _, _, h, _ => h
  | (y, k) :: r, n, acc, nd, na, dis => by
    have nd' := List.nodup_cons.mp nd
    unfold cellsFrom
    split
    · refine cellsFrom_keys nd'.2 ?_ fun x hx hr => ?_
      · exact List.nodup_cons.mpr ⟨fun z => dis y z (.head _), na⟩
      · rcases List.mem_cons.mp hx with e | e
        · rw [e] at hr; exact nd'.1 hr
        · exact dis x e (.tail _ hr)
    · exact cellsFrom_keys nd'.2 na fun x hx hr => dis x hx (.tail _ hr)
/-- what a bound name holds, and what its cell holds -/
theorem bindC_rel {kindOf : Str → Option NameKind} {ps : List Str} {vs : List V} {us : List Value} {x : Str} (nd : ps.Nodup) (r : Vals vs us) (hk : kindOf x ≠ some .local) : RelO ((ps.zip vs).lookup x) (bindC kindOf (ps.zip us) (fun _ => none) x) := by
  cases e : (ps.zip vs).lookup x with
  | some v =>
    obtain ⟨i, h1, h2⟩ := zip_lookup e
    obtain ⟨u, hu, rv⟩ := r.get h2
    rw [bindC_get nd h1 hu hk]
    exact rv
  | none =>
    rw [bindC_out]
    · trivial
    · intro u hu
      have h1 : x ∈ ps := (List.of_mem_zip hu).1
      have : ∀ {ps : List Str} {vs : List V} {us : List Value}, Vals vs us → (x, u) ∈ ps.zip us → (ps.zip vs).lookup x ≠ none := by
        intro ps vs us r
        induction r generalizing ps with
        | nil => intro h; simp at h
        | @cons v u' vs us rv r ih =>
          intro h
          cases ps with
          | nil => simp at h
          | cons p ps =>
            rw [List.zip_cons_cons, List.lookup_cons]
            rw [List.zip_cons_cons] at h
            cases hb : x == p with
            | true => simp
            | false =>
              rcases List.mem_cons.mp h with h | h
              · cases h; simp at hb
              · exact ih h
      exact this r hu e
/-- THE RULE: a def (or a method) of the text whose cells stand in the heap, by its body -/
theorem fn_ofC {CX : CXT} {P : Program} {w : World} {K : PySem.W.Frag} {mg : Str → Option Value} {base : Heap} {k : Nat} {f : Addr} {name qual : Str} {params : Arguments} {body : List Stmt} {scope : Scope} {dV kV doc pm cdv ct oc : Value} {an od : Option Addr}
    {osl : Array (Option Value)} {N ps : List Str} {sp : Sp} (lk : K.lookup f = some ⟨oc, od, .func (PySem.W.fnOf name qual params body scope dV kV doc pm an cdv ct), osl⟩) (hcd : PySem.W.codeIn K cdv qual = true) (S : FnScopeC N ps scope)
    (len : ∀ vs H Q E, sp vs H Q E → vs.length = ps.length)
    (hbody : ∀ (A : Around) (outer : List Env) (s : Shared) (H : Hp) (vs : List V) (Q : VK) (E : XK), Room k (A.deeper (envOfC qual scope s.heap.objs.size f cdv)) → sp vs H Q E →
      (∀ a, s.heap.objs.size ≤ a → H a = none) →
      ∃ t, PSs (cxE CX P w K mg base N (envOfC qual scope s.heap.objs.size f cdv) A outer s H E ((cellsFrom (s.heap.objs.size + 1) scope.names []).map (·.2))) body t ∧
        t { nx := fun _ H' => Q .non H', rt := Q } (startC N ps vs) (Hcel (fun x => (ps.zip vs).lookup x) (cellsFrom (s.heap.objs.size + 1) scope.names []) H)) :
    FnOk P w K mg base CX (k + 1) f (PySem.W.fnOf name qual params body scope dV kV doc pm an cdv ct) ps sp := by
  refine ⟨len, fun A outer s H args us vs Q E hr e0 hb r hsp => ?_⟩
  have hl := len _ _ _ _ hsp
  have KX : K.In s.heap := e0.mod.kin.keeps fun b o e => (e0.bs b o e).1
  have lim : s.heap.NoLimit := e0.mod.nolimit.keeps fun b o e => (e0.bs b o e).1
  have hkind : ∀ y ∈ ps.zip us, scope.names.lookup y.1 = some .local ∨ (scope.names.lookup y.1 = some .cell ∧ ((cellsFrom (s.heap.objs.size + 1) scope.names []).lookup y.1).isSome = true) := fun ⟨n, v⟩ hy => by
    rcases S.par n (List.of_mem_zip hy).1 with q | q
    · exact .inl q
    · exact .inr ⟨q, PySem.W.cellsFrom_some _ _ _ (.inl q)⟩
  refine codeAny_call_function hr.depth (KX _ _ lk) rfl S.co S.gen rfl (PySem.W.codeRec_of KX hcd) (hb _ _ _ _ ?_)
  refine wpAny_newFunctionEnv_cells S.kind hkind fun env he s1 x => ?_
  subst he
  refine ⟨lim.keeps x.toInCall.keep, codeAny_func ?_⟩
  have fresh : ∀ a, s.heap.objs.size ≤ a → H a = none := fun a ha => e0.hok.fresh ha
  obtain ⟨t, ht, hq⟩ := hbody A outer s H vs Q E (hr.deeper _) hsp fresh
  obtain ⟨h1, tk, rfl, hk⟩ := x.done
  have x : InCallC s s.heap.objs.size (bindL (envOfC qual scope s.heap.objs.size f cdv).kindOf (ps.zip us) fun _ => none) (cellsFrom (s.heap.objs.size + 1) scope.names []) (bindC (envOfC qual scope s.heap.objs.size f cdv).kindOf (ps.zip us) fun _ => none) { s with heap := h1, toks := tk } := x
  have ndk : ((cellsFrom (s.heap.objs.size + 1) scope.names []).map (·.1)).Nodup := cellsFrom_keys S.ndn List.nodup_nil fun _ h => absurd h List.not_mem_nil
  have cell : ∀ {y c}, (y, c) ∈ cellsFrom (s.heap.objs.size + 1) scope.names [] → h1.IsCell c (bindC (envOfC qual scope s.heap.objs.size f cdv).kindOf (ps.zip us) (fun _ => none) y) := fun {y c} hm => x.cell y c (lookup_of_nodup ndk hm)
  have kindc : ∀ {y c}, (y, c) ∈ cellsFrom (s.heap.objs.size + 1) scope.names [] → scope.names.lookup y = some .cell := fun {y c} hm => by
    rcases cellsFrom_key hm with z | z
    · exact absurd z List.not_mem_nil
    · exact lookup_of_nodup S.ndn z
  have above : ∀ {a}, a ∈ (cellsFrom (s.heap.objs.size + 1) scope.names []).map (·.2) → s.heap.objs.size < a := fun {a} ha => by
    obtain ⟨⟨y, c⟩, hm, rfl⟩ := List.mem_map.mp ha
    exact x.above y c hm
  have old : ∀ {a}, a < s.heap.objs.size → Hcel (fun x => (ps.zip vs).lookup x) (cellsFrom (s.heap.objs.size + 1) scope.names []) H a = H a := fun {a} ha => Hcel_out fun z => absurd (Nat.lt_trans ha (above z)) (Nat.lt_irrefl _)
  have oldT : ∀ {a o}, H a = some o → Hcel (fun x => (ps.zip vs).lookup x) (cellsFrom (s.heap.objs.size + 1) scope.names []) H a = some o := fun {a o} e => by rw [old (e0.hok.lt e)]; exact e
  have hokC : HOk P w (Hcel (fun x => (ps.zip vs).lookup x) (cellsFrom (s.heap.objs.size + 1) scope.names []) H) h1 := fun a o e => by
    by_cases ha : a ∈ (cellsFrom (s.heap.objs.size + 1) scope.names []).map (·.2)
    · obtain ⟨y, hm, e'⟩ := Hcel_in (b := fun x => (ps.zip vs).lookup x) (H := H) ha
      rw [e'] at e
      cases e
      exact ⟨_, bindC_rel S.ndp r (by show scope.names.lookup y ≠ _; rw [kindc hm]; decide), cell hm⟩
    · rw [Hcel_out ha] at e
      exact (e0.hok a o e).stay (fun b u _ q => hk b u q) (fun b q => oldT q) fun b xs q => oldT q
  have I : Inv (cxE CX P w K mg base N (envOfC qual scope s.heap.objs.size f cdv) A outer s H E ((cellsFrom (s.heap.objs.size + 1) scope.names []).map (·.2))) [] (startC N ps vs) (Hcel (fun x => (ps.zip vs).lookup x) (cellsFrom (s.heap.objs.size + 1) scope.names []) H) { s with heap := h1, toks := tk } := by
    refine ⟨⟨e0.mod, S.kind, rfl, rfl, Nat.le_refl _, fun y z c h1 h2 => name_of_addr x.apart (PySem.mem_of_lookup h1) (PySem.mem_of_lookup h2), fun y hy => ?_, fun y c z _ => absurd z Bool.false_ne_true, fun _ => hr.hd, Around.frames_deeper e0.frames, .inr ⟨rfl, rfl⟩,
      fun b z => absurd z List.not_mem_nil, e0.bs, e0.bsz, fun b _ _ z => absurd z List.not_mem_nil, fun b z => absurd z List.not_mem_nil, e0.funs, e0.frf, fun i y c h1 h2 _ => ?_⟩,
      rfl, e0.bare, ⟨fun b o e _ _ _ => hk b o e, fun b o e _ _ _ => ⟨o.slots, hk b o e⟩, fun b o e n _ => by rw [old (Heap.lt_size e)]; exact n, fun b o e _ => ⟨o, hk b o e⟩, fun b xs e => oldT e, fun b o u e => oldT e, fun b ps e => ⟨#[], by rw [show (_ : Option HO) = _ from oldT e]; simp⟩, fun b v e => ⟨v, oldT e⟩⟩,
      ⟨_, x.toInCall.ns, fun i y v h1 h2 h3 => ?_⟩, fun y c h => ⟨_, cell (PySem.mem_of_lookup h)⟩, ?_, fun y c h z => absurd (cl_lookup h).2 z, fun c hc => ?_, fun p hp => absurd (show p ∈ ([] : List (Addr × Obj)) from hp) (by simp), hokC, by unfold startC; rw [List.length_map]; rfl⟩
    · have hy : scope.names.lookup y = some .cell ∨ scope.names.lookup y = some .free := hy
      rcases hy with hy | hy
      · exact cell_has hy
      · exact absurd rfl (S.free _ (PySem.mem_of_lookup hy))
    · have a := S.loc y (List.mem_of_getElem? h1)
      exact absurd (kindc (PySem.mem_of_lookup h2)) a
    · obtain ⟨j, hj, hv⟩ := startC_get h1 h2
      obtain ⟨u, hu, rv⟩ := r.get hv
      have hloc : scope.names.lookup y = some .local := (S.par y (List.mem_of_getElem? hj)).elim id fun z => absurd z (S.loc y (List.mem_of_getElem? h1))
      exact ⟨u, rv, .inl ⟨hloc, bindL_get S.ndp hj hu hloc⟩⟩
    · show Hcel _ _ H s.heap.objs.size = none
      rw [Hcel_out fun z => absurd (above z) (Nat.lt_irrefl _)]
      exact fresh _ (Nat.le_refl _)
    · obtain ⟨y, _, e'⟩ := Hcel_in (b := fun x => (ps.zip vs).lookup x) (H := H) hc
      exact ⟨_, e'⟩
  refine wpAny_mono (ht [] _ (startC N ps vs) _ _ I hq) (fun fl s' hs => ?_) fun e s' hs => hs
  have fin : ∀ {σ' : St} {H' : Hp} {v : V} {u : Value}, Inv (cxE CX P w K mg base N (envOfC qual scope s.heap.objs.size f cdv) A outer s H E ((cellsFrom (s.heap.objs.size + 1) scope.names []).map (·.2))) [] σ' H' s' → RelV v u → Q v H' → CE outer P w H s Q u s' :=
    fun {σ' H' v u} J rv q => ⟨v, H', J.os, J.bare, J.base, J.hok, rv, q⟩
  cases fl with
  | ret u =>
    obtain ⟨v, σ', H', J, rv, q⟩ := hs
    exact fin J rv q
  | next =>
    obtain ⟨σ', H', J, q⟩ := hs
    exact fin (v := V.non) (u := Value.none) J rfl q
  | brk =>
    obtain ⟨_, _, _, q⟩ := hs
    exact False.elim q
  | cont =>
    obtain ⟨_, _, _, q⟩ := hs
    exact False.elim q
end L2

set_option Elab.async false
set_option linter.all false
set_option maxRecDepth 100000
namespace L2
open PySem PySem.Spec PyProof.Rows

/-! ### a def within a def -/
/-- what a def that makes defs needs of the text: its code's table at P -/
structure Nest (X : Cx) (c P : Addr) : Prop where
  code : X.env.code = .ref c
  hd : PySem.W.CodeHd X.base c P
  gP : mainGlobals ≠ P
  bt : X.base.BuiltinsAt X.mg P
/-- the table: nothing made yet, or the def's code -/
def Tab (H : Hp) (P : Addr) (pos : Pos) (qual : Str) : Prop := H P = some (.tbl #[]) ∨ ∃ c', H P = some (.tbl #[rawInt pos.line, rawInt pos.col, .ref c']) ∧ H c' = some (codO c' qual)
def tDef (i : Nat) (P : Addr) (name qual : Str) (params : Arguments) (body : List Stmt) (scope : Scope) (clos : List (Str × Addr)) (pos : Pos) : TS := fun D σ H => Tab H P pos qual ∧
  ∀ f c' doc pm ctv H', H f = none → (H c' = none ∨ H c' = some (codO c' qual)) → c' ≠ f → H' P = some (.tbl #[rawInt pos.line, rawInt pos.col, .ref c']) → H' c' = some (codO c' qual) → H' f = some (cloO f (cloF name qual params body scope clos doc pm c' ctv)) →
    (∀ b, b ≠ P → b ≠ c' → b ≠ f → H' b = H b) → D.nx (σ.set i (some (.ref f))) H'
theorem codO_ok {P : Program} {w : World} {H : Hp} {h : Heap} {c : Addr} {qual : Str} (x : h.CodeRec (.ref c) qual) : ObjOk P w H h c (codO c qual) := by
  obtain ⟨c2, oc, vs, t, e, ho, hd, hv⟩ := id x
  cases e
  refine ⟨x, ⟨oc, ho⟩, fun h1 h2 x1 k => ?_⟩
  obtain ⟨c2, oc, vs, t, e, ho, hd, hv⟩ := x1
  cases e
  exact ⟨c, oc, vs, t, rfl, k _ ho, hd, hv⟩
theorem cloO_ok {P : Program} {w : World} {H : Hp} {h : Heap} {f : Addr} {fd : FuncData} (x : ∃ oc od sl, h.get? f = some ⟨oc, od, .func fd, sl⟩) : ObjOk P w H h f (cloO f fd) := by
  obtain ⟨oc, od, sl, ho⟩ := id x
  refine ⟨x, ⟨_, ho⟩, fun h1 h2 y k => ?_⟩
  obtain ⟨oc, od, sl, e⟩ := y
  exact ⟨oc, od, sl, k _ e⟩
section
variable {X : Cx} {c P : Addr} {name qual : Str} {params : Arguments} {body : List Stmt} {scope : Scope} {clos : List (Str × Addr)} {pos : Pos} {i : Nat}
theorem ps_def (hN : X.N.Nodup) (hi : X.N[i]? = some name) (hx : X.env.scope.names.lookup name = some .local) (S : Nest X c P) (hq : qualnameIn X.env name name = qual) (hcl : closureFor scope X.env = pure clos) (hd0 : params.defaults = []) (hk0 : params.kw_defaults = []) (ha : annTrees params none X.env = []) :
    PS X (.FunctionDef name params body [] none [] scope none name pos) (tDef i P name qual params body scope clos pos) := by
  intro pins s σ H D I ⟨T, h⟩
  refine PySem.W.nestDef_K hd0 hk0 ha ?_
  rw [hq]
  have hgs := I.mod.glob.keeps I.bk
  have hC := S.hd.keeps I.bk
  have hB := S.bt.keeps I.bk
  -- the function is there, with its code: the rest
  have fin : ∀ (f c' : Addr) (doc pm ctv : Value) (h' : Heap) (tk : Nat) (ps' : Array Value), s.heap.objs.size ≤ f → (H c' = none ∧ s.heap.get? c' = none ∨ H c' = some (codO c' qual)) → c' ≠ f → (∃ ps, H P = some (.tbl ps) ∧ ∃ more, ps' = ps ++ more) → ps' = #[rawInt pos.line, rawInt pos.col, .ref c'] →
      (∀ b o, b ≠ P → s.heap.get? b = some o → h'.get? b = some o) → h'.get? P = some (PySem.W.tabObj ps') → h'.CodeRec (.ref c') qual → (∃ oc od sl, h'.get? f = some ⟨oc, od, .func (cloF name qual params body scope clos doc pm c' ctv), sl⟩) →
      wpAny (model X.prog X.w) X.A (storeName X.env name (.ref f)) (fun _ s'' => SP X pins D .next s'') X.xe { s with heap := h', toks := tk } := fun f c' doc pm ctv h' tk ps' hf hc ncf ⟨ps0, eP, more, em⟩ ep k1 k2 k3 k4 => by
    have nf : H f = none := I.hok.fresh hf
    have nPf : P ≠ f := ne_of_none eP nf
    have nPc : P ≠ c' := fun z => by
      rcases hc with ⟨z2, _⟩ | z2
      · rw [← z, eP] at z2; cases z2
      · rw [← z, eP] at z2; cases z2
    let H' : Hp := upd (upd (upd H P (.tbl ps')) c' (codO c' qual)) f (cloO f (cloF name qual params body scope clos doc pm c' ctv))
    have eF : H' f = some (cloO f (cloF name qual params body scope clos doc pm c' ctv)) := upd_same
    have eC : H' c' = some (codO c' qual) := by show upd _ f _ c' = _; rw [upd_ne ncf, upd_same]
    have eT : H' P = some (.tbl ps') := by show upd _ f _ P = _; rw [upd_ne nPf, upd_ne nPc, upd_same]
    have eO : ∀ b, b ≠ P → b ≠ c' → b ≠ f → H' b = H b := fun b h1 h2 h3 => by show upd _ f _ b = _; rw [upd_ne h3, upd_ne h2, upd_ne h1]
    have old : ∀ b o, H b = some o → b ≠ P → H' b = some o := fun b o e hb => by
      by_cases h2 : b = c'
      · rcases hc with ⟨z, _⟩ | z
        · rw [← h2, e] at z; cases z
        · rw [← h2, e] at z
          cases z
          rw [h2]
          exact eC
      · rw [eO b hb h2 (ne_of_none e nf)]; exact e
    have I' : Inv X pins σ H' { s with heap := h', toks := tk } := by
      refine I.un (t' := tk) ⟨fun b o e n _ _ => k1 b o (fun z => by rw [z, eP] at n; cases n) e, fun b o e n _ _ => ⟨o.slots, k1 b o (fun z => by rw [z, eP] at n; cases n) e⟩, fun b o e n _ => ?_, fun b o e _ => ?_, fun b xs e => old b _ e (fun z => by rw [z, eP] at e; cases e), fun b o u e => old b _ e (fun z => by rw [z, eP] at e; cases e), fun b ps e => ?_, fun b v e => ⟨v, old b _ e (fun z => by rw [z, eP] at e; cases e)⟩⟩ fun b o e => ?_
      · rw [eO b (fun z => by rw [z, eP] at n; cases n) (fun z => ?_) (fun z => by rw [z] at e; exact absurd (Nat.lt_of_lt_of_le (Heap.lt_size e) hf) (Nat.lt_irrefl _))]
        · exact n
        · rcases hc with ⟨_, z2⟩ | z2
          · rw [← z, e] at z2; cases z2
          · rw [← z, n] at z2; cases z2
      · by_cases hb : b = P
        · exact ⟨_, by rw [hb]; exact k2⟩
        · exact ⟨o, k1 b o hb e⟩
      · by_cases hb : b = P
        · rw [hb, eP] at e
          cases e
          exact ⟨more, by rw [hb, eT, em]⟩
        · exact ⟨#[], by rw [old b _ e hb]; simp⟩
      · by_cases hb : b = P
        · rw [hb, eT] at e
          cases e
          rw [hb]
          exact k2
        · by_cases hbf : b = f
          · rw [hbf, eF] at e
            cases e
            rw [hbf]
            exact cloO_ok k4
          · by_cases hbc : b = c'
            · rw [hbc, eC] at e
              cases e
              rw [hbc]
              exact codO_ok k3
            · rw [eO b hb hbc hbf] at e
              refine (I.hok b o e).stay (fun d u hd q => k1 d u ?_ q) (fun d q => old d _ q (fun z => by rw [z, eP] at q; cases q)) fun d xs q => old d _ q (fun z => by rw [z, eP] at q; cases q)
              rcases hd with rfl | hd
              · exact hb
              · intro z; rw [z, eP] at hd; cases hd
    refine store_ok I' hN hi (.inl hx) (v := .ref f) rfl (fun s' I2 => ⟨_, _, I2, h f c' doc pm ctv H' nf (hc.imp (fun z => z.1) id) ncf (by rw [eT, ep]) eC eF eO⟩) (.inr hx)
  rcases T with eP | ⟨c', eP, eC⟩
  · have oP : s.heap.get? P = some (PySem.W.tabObj #[]) := I.hok P _ eP
    refine PySem.W.makeFunction_K (mg := X.mg) hcl I.ok.glob hgs S.code hC oP trivial rfl S.gP hB fun c' ctv doc h' tk hx hge hlt hrec htb => ?_
    have hcf : c' ≠ h'.objs.size := Nat.ne_of_lt hlt
    refine fin h'.objs.size c' doc _ ctv _ tk (#[] ++ #[rawInt pos.line, rawInt pos.col, .ref c']) (Nat.le_trans hge (Nat.le_of_lt hlt)) (.inl ⟨I.hok.fresh hge, Heap.get?_none_of_le hge⟩) hcf ⟨_, eP, _, rfl⟩ (by simp) (fun b o hb e => Heap.get?_push_of_some _ (hx b o hb e)) (Heap.get?_push_of_some _ htb) ?_ ⟨_, _, _, Heap.get?_push_size _ rfl⟩
    obtain ⟨c2, oc, vs, t, e, ho, hd, hv⟩ := hrec
    exact ⟨c2, oc, vs, t, e, Heap.get?_push_of_some _ ho, hd, hv⟩
  · have oP : s.heap.get? P = some (PySem.W.tabObj #[rawInt pos.line, rawInt pos.col, .ref c']) := I.hok P _ eP
    obtain ⟨hrec, _, _⟩ := I.hok c' _ eC
    have hlt : c' < s.heap.objs.size := by
      obtain ⟨c2, oc, vs, t, e, ho, _⟩ := id hrec
      cases e
      exact Heap.lt_size ho
    refine PySem.W.makeFunction_hit (mg := X.mg) (cv := .ref c') hcl I.ok.glob hgs S.code hC oP trivial (by show (if _ then _ else _) = _; simp [rawInt]) hB fun ctv doc h' tk hk hsz => ?_
    refine fin h'.objs.size c' doc _ ctv _ tk _ hsz (.inr eC) (Nat.ne_of_lt (Nat.lt_of_lt_of_le hlt hsz)) ⟨_, eP, #[], by simp⟩ rfl (fun b o _ e => Heap.get?_push_of_some _ (hk b o e)) (Heap.get?_push_of_some _ (hk _ _ oP)) ?_ ⟨_, _, _, Heap.get?_push_size _ rfl⟩
    obtain ⟨c2, oc, vs, t, e, ho, hd, hv⟩ := hrec
    exact ⟨c2, oc, vs, t, e, Heap.get?_push_of_some _ (hk _ _ ho), hd, hv⟩
end
end L2

set_option Elab.async false
set_option linter.all false
set_option maxRecDepth 100000
namespace L2
open PySem PySem.Spec PyProof.Rows

theorem fnAt_of {P : Program} {w : World} {H : Hp} {h : Heap} {f : Addr} {fd : FuncData} (hok : HOk P w H h) (e : H f = some (cloO f fd)) : PySem.W.FnAt f h := by
  obtain ⟨⟨oc, od, sl, ho⟩, _, _⟩ := hok f _ e
  exact ⟨oc, od, fd, sl, ho⟩
/-- a promise, for weaker ends too -/
def spW (sp : Sp) : Sp := fun vs H Q E => ∃ (Q0 : VK) (E0 : XK), sp vs H Q0 E0 ∧ (∀ v H', Q0 v H' → Q v H') ∧ ∀ c d H', E0 c d H' → E c d H'
/-- what a function's value promises -/
def DoesF (P : Program) (w : World) (K : PySem.W.Frag) (mg : Str → Option Value) (base : Heap) (k : Nat) (f : Addr) (vs : List V) (H : Hp) (Q : VK) (E : XK) : Prop :=
  (∃ fd, H f = some (cloO f fd)) ∧ ∀ (A : Around) (outer : List Env) (s : Shared) (us : List Value), Room k A → Env0 P w K mg base A outer s H → Vals vs us → codeAny (model P w) A (.call (.ref f) ⟨us, []⟩) (CR (CXo P w) outer P w H s Q E) s
theorem DoesF.mono {P : Program} {w : World} {K : PySem.W.Frag} {mg : Str → Option Value} {base : Heap} {k : Nat} {f : Addr} {vs : List V} {H : Hp} {Q Q' : VK} {E E' : XK} (h : DoesF P w K mg base k f vs H Q E) (hQ : ∀ v H', Q v H' → Q' v H') (hE : ∀ c d H', E c d H' → E' c d H') : DoesF P w K mg base k f vs H Q' E' := by
  refine ⟨h.1, fun A outer s us hr he hv => codeAny_mono (h.2 A outer s us hr he hv) fun r s' z => ?_⟩
  cases r with
  | error e =>
    obtain ⟨ea, T, cls, d, a0, H', h1, h2, h3, h4, h5, h6, h7, h8, h9, h10, h11⟩ := z
    exact ⟨ea, T, cls, d, a0, H', h1, h2, h3, h4, h5, h6, h7, h8, h9, h10, hE _ _ _ h11⟩
  | ok fl =>
    cases fl with
    | ret u =>
      obtain ⟨v, H', h1, h2, h3, h4, h5, h6⟩ := z
      exact ⟨v, H', h1, h2, h3, h4, h5, hQ _ _ h6⟩
    | next => exact False.elim z
    | brk => exact False.elim z
    | cont => exact False.elim z
/-- .. how its parameters are bound, by what stands in the heap -/
theorem DoesF.ofH {P : Program} {w : World} {K : PySem.W.Frag} {mg : Str → Option Value} {base : Heap} {k : Nat} {f : Addr} {vs dvs : List V} {H : Hp} {Q : VK} {E : XK} {fd : FuncData} {ps : List Str} {sp : Sp} (h1 : H f = some (cloO f fd)) (h2 : FnOk P w K mg base (CXo P w) k f fd ps sp)
    (h3 : ∀ (s : Shared) (us : List Value), K.In s.heap → HOk P w H s.heap → Vals vs us → ∃ ds, Vals dvs ds ∧ BindsTo s fd ⟨us, []⟩ (ps.zip (us ++ ds))) (h4 : sp (vs ++ dvs) H Q E) : DoesF P w K mg base k f vs H Q E := by
  refine ⟨⟨fd, h1⟩, fun A outer s us hr he hv => ?_⟩
  obtain ⟨ds, rd, hb⟩ := h3 s us (he.mod.kin.keeps fun b o e => (he.bs b o e).1) he.hok hv
  exact h2.run A outer s H ⟨us, []⟩ (us ++ ds) (vs ++ dvs) Q E hr he hb (hv.append rd) h4
theorem DoesF.of {P : Program} {w : World} {K : PySem.W.Frag} {mg : Str → Option Value} {base : Heap} {k : Nat} {f : Addr} {vs : List V} {H : Hp} {Q : VK} {E : XK} {fd : FuncData} {ps : List Str} {sp : Sp} (h1 : H f = some (cloO f fd)) (h2 : FnOk P w K mg base (CXo P w) k f fd ps sp) (h3 : Binds K fd ps []) (h4 : sp vs H Q E) : DoesF P w K mg base k f vs H Q E :=
  DoesF.ofH (dvs := []) h1 h2 (fun s us hk _ hv => ⟨[], .nil, h3 s us hk (by rw [List.append_nil, ← hv.length]; exact h2.len _ _ _ _ h4)⟩) (by rw [List.append_nil]; exact h4)
/-- the text at hand -/
structure Cx.Is (X : Cx) (P : Program) (w : World) (K : PySem.W.Frag) (mg : Str → Option Value) (base : Heap) : Prop where
  p : X.prog = P
  w : X.w = w
  k : X.K = K
  g : X.mg = mg
  b : X.base = base
def tCallV (P : Program) (w : World) (K : PySem.W.Frag) (mg : Str → Option Value) (base : Heap) (k : Nat) (Rk : St → XK) (tf : TE) (t : TA) : TE := fun σ H Q => tf σ H fun x H1 => ∃ f fd0, x = .ref f ∧ H1 f = some (cloO f fd0) ∧ t σ H1 fun vs H2 => DoesF P w K mg base k f vs H2 Q (Rk σ)
def tFCall0 (P : Program) (w : World) (K : PySem.W.Frag) (mg : Str → Option Value) (base : Heap) (k : Nat) (Rk : St → XK) (m : Str) (ta : TE) : TE := fun σ H Q => ta σ H fun x H1 => ∃ a C dx fs f, x = .ref a ∧ H1 a = some (.ins C dx fs) ∧ Cls K C ∧ NoAttr K C m ∧ fs.lookup m = some (.ref f) ∧ DoesF P w K mg base k f [] H1 Q (Rk σ)
section
variable {X : Cx} {k : Nat} {Rk : St → XK} {x m : Str} {p pos apos : Pos} {e o : Expr} {es : List Expr} {tf ta : TE} {t : TA}
variable (P : Program) (w : World) (K : PySem.W.Frag) (mg : Str → Option Value) (base : Heap)
theorem run_does {pins : List (Addr × Obj)} {σ : St} {H : Hp} {s : Shared} {Q : VK} {us : List Value} {vs : List V} {f : Addr} (hr : Room k X.A) (th : Throws X Rk) (I : Inv X pins σ H s) (r : Vals vs us) (h : DoesF X.prog X.w X.K X.mg X.base k f vs H Q (Rk σ)) :
    wpAny (model X.prog X.w) X.A (call (.ref f) us) (EP X pins σ Q) X.xe s := by
  refine wpAny_call (codeAny_mono (h.2 X.A X.stack s us hr I.env0 r) fun r s' hq => ?_)
  cases r with
  | error e => exact th.of_call I hq
  | ok fl =>
    cases fl with
    | ret u => exact I.after hq
    | next => exact False.elim hq
    | brk => exact False.elim hq
    | cont => exact False.elim hq
/-- x(e, ..), x a name that holds a function -/
theorem pe_callV (hr : Room k X.A) (th : Throws X Rk) (hf : PE X (.Name x p) tf) (ha : PA X (e :: es) t) (he : starEach (e :: es) X.env = (false, eval e X.env) :: starEach es X.env := by rfl) (hpl : (backTo pos (starEach es X.env)).any (·.1) = false := by rfl) (is : X.Is P w K mg base := by exact ⟨rfl, rfl, rfl, rfl, rfl⟩) :
    PE X (.Call (.Name x p) (e :: es) [] pos) (tCallV P w K mg base k Rk tf t) := by
  obtain ⟨rfl, rfl, rfl, rfl, rfl⟩ := is
  intro pins s σ H Q I h
  refine wpAny_Call_Name_kw (thn (hf pins s σ H _ I h) fun u s1 ⟨v, H1, I1, rv, f, fd0, ev, ef, q⟩ => ?_)
  subst ev
  obtain rfl : u = Value.ref f := rv
  refine PySem.W.callWith_F (fnAt_of I1.hok ef) (thn (ha pos pins s1 σ H1 _ I1 q) fun us s2 ⟨vs, H2, I2, r, q2⟩ => ⟨?_, ?_⟩) he hpl
  · obtain ⟨⟨fd, e2⟩, _⟩ := q2
    exact fnAt_of I2.hok e2
  · exact run_does hr th I2 r q2
theorem getown_ok {E : Value → Shared → Prop} {pl : Sem Bool} {pins : List (Addr × Obj)} {σ : St} {H : Hp} {s : Shared} {a C dx f : Addr} {fs : List (Str × V)} {Q : Value × List Value → Shared → Prop} (I : Inv X pins σ H s) (e : H a = some (.ins C dx fs)) (c : Cls X.K C) (n : NoAttr X.K C m) (l : fs.lookup m = some (.ref f))
    (h : ∀ s', Inv X pins σ H s' → Q (.ref f, []) s') : wpAny (model X.prog X.w) X.A (getMethod (.ref a) m pl) Q E s := by
  obtain ⟨mA, O, r, _, _, _⟩ := ins_get I.hok e
  have hv := r m
  rw [l] at hv
  obtain ⟨u, hu, ru⟩ := RelO.some_of hv
  obtain rfl : u = Value.ref f := ru
  obtain ⟨od, J, hl⟩ := O.look
  refine PySem.W.method_usual (r := none) I.kIn J (PySem.W.plainGet_of (c.get m)).1 (PySem.W.plainGet_of (c.get m)).2 n rfl ?_
  exact get_map I.kIn O (c.get m) c.hd n hu rfl (h _ (I.tok _))
/-- o.m(), m an attribute that holds a function -/
theorem pe_fcall0 {pl : Sem Bool} (hr : Room k X.A) (th : Throws X Rk) (he : PE X o ta)
    (ht : eval (.Call (.Attribute o m apos) [] [] pos) X.env = (do
      let ov ← eval o X.env
      standAt apos.atName
      let (f, first) ← holding [ov] (getMethod ov m pl)
      callWith pos f first (backTo pos (starEach [] X.env)) (backToKw pos (keywordEach [] X.env))) := by rfl) (is : X.Is P w K mg base := by exact ⟨rfl, rfl, rfl, rfl, rfl⟩) :
    PE X (.Call (.Attribute o m apos) [] [] pos) (tFCall0 P w K mg base k Rk m ta) := by
  obtain ⟨rfl, rfl, rfl, rfl, rfl⟩ := is
  intro pins s σ H Q I h
  refine PySem.W.methodCall_KW (pl := pl) (thn (he pins s σ H _ I h) fun u s1 ⟨x, H1, I1, rx, a, C, dx, fs, f, ex, ea, c, n, l, q⟩ => ?_) ht
  subst ex
  obtain rfl : u = Value.ref a := rx
  refine getown_ok I1 ea c n l fun s2 I2 => ?_
  obtain ⟨⟨fd, e2⟩, _⟩ := id q
  exact PySem.W.callWith_F0 (first := []) (fnAt_of I2.hok e2) (run_does (us := []) hr th I2 .nil q)
end
end L2

set_option Elab.async false
set_option linter.all false
set_option maxRecDepth 100000
namespace L2
open PySem PySem.Spec PyProof.Rows

/-- nothing is tracked but the script and the tables of code -/
def OnlyT (tabs : List (Addr × Addr)) (a : Addr) (o : Obj) (xs : List V) (H : Hp) : Prop := ∀ b, H b = none ∨ (b = a ∧ H b = some (.frz o (.lst xs))) ∨ (b ∈ tabs.map (·.2) ∧ H b = some (.tbl #[]))
/-- the abstract heap at the law's call -/
def H00 (tabs : List (Addr × Addr)) (a : Addr) (o : Obj) (xs : List V) (inK : Bool) : Hp := fun b => if b ∈ tabs.map (·.2) then some (.tbl #[]) else if b = a then (if inK = true then none else some (.frz o (.lst xs))) else none

theorem law_callT {P : Program} {w : World} {K : PySem.W.Frag} {mg mb : Str → Option Value} {k : Nat} {fa a : Addr} {fd : FuncData} {x : Str} {sp : Sp} {s₁ : Shared} {vs : List Value} {ns : List Int} {tabs : List (Addr × Addr)}
    (KX : K.In s₁.heap) (hns : s₁.heap.Ns mainGlobals mg) (hb : s₁.heap.Ns builtinsNs mb) (hbb : ∀ x : Str, x ≠ "__name__" → mb x = bootBuiltins x) (hlim : s₁.heap.NoLimit) (hg : s₁.gens = #[])
    (hbm : ∃ bm ob, mg "__builtins__" = some (.ref bm) ∧ bm ≠ builtinsNs ∧ s₁.heap.get? bm = some ob ∧ ob.cls = .type "module" ∧ ob.dict = some builtinsNs ∧ ob.data = .plain)
    (hT : PySem.W.TabsAt tabs s₁.heap) (hK : PySem.W.noTabs K = true)
    (ha : s₁.heap.get? a = some { cls := .type "list", data := .seq vs.toArray }) (hi : IntsAre vs ns) (hl : ns.length ≤ sizeLine) (hr : Room k callerA)
    (F : ∀ base : Heap, K.In base → base.Ns mainGlobals mg → (∀ q ∈ tabs, PySem.W.CodeHd base q.1 q.2 ∧ mainGlobals ≠ q.2 ∧ base.BuiltinsAt mg q.2) → FnOk P w K mg base (CXo P w) k fa fd [x] sp) (hbind : ∀ (s : Shared) (u : Value), BindsTo s fd ⟨[u], []⟩ [(x, u)])
    (hsp : ∀ H : Hp, (∀ q ∈ tabs, H q.2 = some (.tbl #[])) → SqL K H a (ns.map V.int) → sp [.ref a] H (fun v _ => v = .bl true) fun _ _ _ => False) :
    codeAny (model P w) callerA (.call (.ref fa) ⟨[.ref a], []⟩) (fun r s' => r = .ok (.ret (.bool true)) ∧ OldK s₁.heap s'.heap ∧ s'.os = s₁.os ∧ AllBare s'.gens) s₁ := by
  have rv := vals_ints hi
  have lenV := hi.length
  have tabO : ∀ {b}, b ∈ tabs.map (·.2) → s₁.heap.get? b = some (PySem.W.tabObj #[]) := fun {b} hb => by
    obtain ⟨q, hq, rfl⟩ := List.mem_map.mp hb
    exact (hT q hq).2
  have noT : ∀ {b : Addr} {o : Obj}, s₁.heap.get? b = some o → o.cls ≠ .none → b ∉ tabs.map (·.2) := fun {b o} e n z => by
    rw [tabO z] at e; cases e; exact n rfl
  have naT : a ∉ tabs.map (·.2) := noT ha (fun z => nomatch z)
  -- from an abstract heap
  have core : ∀ H : Hp, OnlyT tabs a { cls := .type "list", data := .seq vs.toArray } (ns.map V.int) H → (∀ q ∈ tabs, H q.2 = some (.tbl #[])) → SqL K H a (ns.map V.int) → HOk P w H s₁.heap → (H a ≠ none → K.lookup a = none) →
      codeAny (model P w) callerA (.call (.ref fa) ⟨[.ref a], []⟩) (fun r s' => r = .ok (.ret (.bool true)) ∧ OldK s₁.heap s'.heap ∧ s'.os = s₁.os ∧ AllBare s'.gens) s₁ := by
    intro H hO hTb hS hok hKa
    have base_of : ∀ {b : Addr} {o : Obj}, s₁.heap.get? b = some o → H b = none → (hidT s₁.heap H).get? b = some o := fun e n => hidT_get e n
    have free : ∀ {b : Addr} {o : Obj}, s₁.heap.get? b = some o → b ≠ a → o ≠ PySem.W.tabObj #[] → H b = none := fun {b o} e n1 n2 => by
      rcases hO b with z | ⟨z, _⟩ | ⟨z, _⟩
      · exact z
      · exact absurd z n1
      · rw [tabO z] at e; cases e; exact absurd rfl n2
    have nea : ∀ {b : Addr} {o : Obj}, s₁.heap.get? b = some o → (∀ its n, o.data ≠ .seq its n) → b ≠ a := fun {b o} e n z => by rw [z, ha] at e; cases e; exact n _ _ rfl
    have noA : ∀ {b : Addr} {o : Obj} {es : Array DictEntry} {ep : Nat}, s₁.heap.get? b = some o → o.data = .dict es ep → H b = none := fun {b o es ep} e d =>
      free e (nea e (fun its n z => by rw [d] at z; cases z)) (fun z => by rw [z] at d; cases d)
    have nsK : ∀ {b : Addr} {m : Str → Option Value}, s₁.heap.Ns b m → (hidT s₁.heap H).Ns b m := fun {b m} ⟨o, es, ep, e, d, r⟩ => ⟨o, es, ep, base_of e (noA e d), d, r⟩
    have hKb : K.In (hidT s₁.heap H) := fun b o e => by
      refine base_of (KX b o e) ?_
      rcases hO b with z | ⟨z, z2⟩ | ⟨z, _⟩
      · exact z
      · rw [← z] at hKa
        rw [hKa (by rw [z2]; simp)] at e; cases e
      · have h2 := List.all_eq_true.mp hK (b, o) (PySem.W.mem_of_lookupK e)
        have h3 := KX b o e
        rw [tabO z] at h3
        cases h3
        exact absurd (show false = true from h2) Bool.false_ne_true
    have hM : Mod K mg (hidT s₁.heap H) := ⟨hKb, nsK hns, ⟨mb, nsK hb, hbb⟩, let ⟨mc, h1, h2⟩ := hlim; ⟨mc, nsK h1, h2⟩⟩
    have hTB : ∀ q ∈ tabs, PySem.W.CodeHd (hidT s₁.heap H) q.1 q.2 ∧ mainGlobals ≠ q.2 ∧ (hidT s₁.heap H).BuiltinsAt mg q.2 := fun q hq => by
      obtain ⟨o, ws, file, tf, flags, tg, inF, text, tt, e1, r1, r2, r⟩ := (hT q hq).1
      obtain ⟨bm, ob, b1, b2, b3, b4, b5, b6⟩ := hbm
      have nP : ∀ {b : Addr} {o : Obj}, s₁.heap.get? b = some o → o ≠ PySem.W.tabObj #[] → b ≠ q.2 := fun {b o} e n z => by rw [z, (hT q hq).2] at e; cases e; exact n rfl
      refine ⟨⟨o, ws, file, tf, flags, tg, inF, text, tt, base_of e1 (free e1 (nea e1 (fun its n z => by rw [r2] at z; cases z)) (fun z => by rw [z] at r1; cases r1)), r1, r2, r⟩, ?_, bm, ob, b1, b2, ?_, nP b3 (fun z => by rw [z] at b4; cases b4), base_of b3 (free b3 (nea b3 (fun its n z => by rw [b6] at z; cases z)) (fun z => by rw [z] at b4; cases b4)), b4, b5, b6⟩
      · obtain ⟨o, es, ep, e, d, _⟩ := hns
        exact nP e (fun z => by rw [z] at d; cases d)
      · intro z
        obtain ⟨o, es, ep, e, d, _⟩ := hns
        rw [z, e] at b3; cases b3; rw [b6] at d; cases d
    have e0 : Env0 P w K mg (hidT s₁.heap H) callerA [] s₁ H := ⟨rfl, hM, fun b o e => of_hidT e, Nat.le_of_eq (hidT_size _ _), trivial, fun b hb => absurd (show b ∈ ([] : List Addr) from hb) (by simp), hok, .of_eq hg⟩
    refine codeAny_mono ((F _ hKb (nsK hns) hTB).run callerA [] s₁ H ⟨[.ref a], []⟩ [.ref a] [.ref a] _ _ hr e0 (hbind s₁ (.ref a)) (.cons rfl .nil) (hsp H hTb hS)) fun r s' h => ?_
    cases r with
    | error e =>
      obtain ⟨_, _, _, _, _, _, _, _, _, _, _, _, _, _, _, _, z⟩ := h
      exact False.elim z
    | ok fl =>
      cases fl with
      | next => exact False.elim h
      | brk => exact False.elim h
      | cont => exact False.elim h
      | ret u =>
        obtain ⟨v, H', os, bare, un, hok', r', q⟩ := h
        have q' : v = .bl true := q
        subst q'
        obtain rfl : u = Value.bool true := r'
        have noF : ∀ b, b ∉ frs ([] : List Env) := fun b z => absurd (show b ∈ ([] : List Addr) from z) (by simp)
        have key : ∀ b o, s₁.heap.get? b = some o → s'.heap.get? b = some o ∨ (b ∈ tabs.map (·.2) ∧ o = PySem.W.tabObj #[] ∧ ∃ ps, s'.heap.get? b = some (PySem.W.tabObj ps)) := fun b o e => by
          rcases hO b with z | ⟨z, z2⟩ | ⟨z, z2⟩
          · exact .inl (un.keep b o e z (noF b) (by simp))
          · have z3 := un.frzs b _ _ z2
            obtain ⟨e1, _⟩ := hok b _ z2
            obtain ⟨e2, _⟩ := hok' b _ z3
            rw [e] at e1; cases e1
            exact .inl e2
          · obtain ⟨more, z3⟩ := un.tbls b _ z2
            have e1 := tabO z
            rw [e] at e1
            exact .inr ⟨z, Option.some.inj e1, _, hok' b _ z3⟩
        refine ⟨rfl, ⟨fun b o e => ?_, fun b o e => ?_⟩, os, bare⟩
        · rcases key b o e with z | ⟨z, rfl, ps, hP⟩
          · exact .inl z
          · obtain ⟨q, hq, rfl⟩ := List.mem_map.mp z
            exact .inr (.inl ⟨((hT q hq).1.tab (hT q hq).2).isCodeTable, rfl, #[], ps, rfl, by rw [Array.empty_append]; exact hP⟩)
        · rcases key b o e with z | ⟨_, _, ps, hP⟩
          · exact ⟨o, z⟩
          · exact ⟨_, hP⟩
  have tb : ∀ inK, ∀ q ∈ tabs, H00 tabs a { cls := .type "list", data := .seq vs.toArray } (ns.map V.int) inK q.2 = some (.tbl #[]) := fun inK q hq => if_pos (List.mem_map.mpr ⟨q, hq, rfl⟩)
  have only : ∀ inK, OnlyT tabs a { cls := .type "list", data := .seq vs.toArray } (ns.map V.int) (H00 tabs a { cls := .type "list", data := .seq vs.toArray } (ns.map V.int) inK) := fun inK b => by
    unfold H00
    by_cases h1 : b ∈ tabs.map (·.2)
    · exact .inr (.inr ⟨h1, if_pos h1⟩)
    · rw [if_neg h1]
      by_cases h2 : b = a
      · rw [if_pos h2]
        cases inK with
        | true => exact .inl rfl
        | false => exact .inr (.inl ⟨h2, rfl⟩)
      · rw [if_neg h2]; exact .inl rfl
  have okH : ∀ inK, HOk P w (H00 tabs a { cls := .type "list", data := .seq vs.toArray } (ns.map V.int) inK) s₁.heap := fun inK b u z => by
    rcases only inK b with z2 | ⟨e, z2⟩ | ⟨e, z2⟩
    · rw [z] at z2; cases z2
    · rw [z] at z2
      cases z2
      subst e
      exact ⟨ha, by rw [List.length_map]; exact hl, vs, _, rv, ha⟩
    · rw [z] at z2
      cases z2
      exact tabO e
  cases hk : K.lookup a with
  | some o =>
    have e := KX a o hk
    rw [ha] at e
    cases e
    refine core (H00 tabs a _ (ns.map V.int) true) (only true) (tb true) (.inr ⟨_, vs.toArray, _, hk, rfl, rfl, rfl, by rw [List.size_toArray, lenV]; exact hl, by simpa using rv⟩) (okH true) fun z => absurd (by unfold H00; rw [if_neg naT, if_pos rfl, if_pos rfl]) z
  | none =>
    refine core (H00 tabs a { cls := .type "list", data := .seq vs.toArray } (ns.map V.int) false) (only false) (tb false) (.inl (.inr ⟨{ cls := .type "list", data := .seq vs.toArray }, ?_⟩)) (okH false) fun _ => hk
    unfold H00; rw [if_neg naT, if_pos rfl, if_neg Bool.false_ne_true]

end L2

set_option Elab.async false
set_option linter.all false
set_option maxRecDepth 100000
namespace L2
open PySem PySem.Spec PyProof.Rows

/-! ### isinstance -/
theorem tyOf_kit {X : Cx} {pins : List (Addr × Obj)} {σ : St} {H : Hp} {s : Shared} {x : V} {u t : Value} (I : Inv X pins σ H s) (rx : RelV x u) (ty : TyOf X.K H x t) : ∃ Hh : Heap → Prop, PySem.W.KitX X.K u t Hh ∧ Hh s.heap ∧ u ≠ .builtin "__main__.__loader__#opaque" := by
  cases ty with
  | non => cases (show u = Value.none from rx); exact ⟨_, PySem.W.kitx_none, True.intro, fun z => nomatch z⟩
  | bl y => cases (show u = Value.bool y from rx); exact ⟨_, PySem.W.kitx_bool, True.intro, fun z => nomatch z⟩
  | int i => obtain ⟨t, q⟩ := (show ∃ t, u = Value.int i t from rx); cases q; exact ⟨_, PySem.W.kitx_int, True.intro, fun z => nomatch z⟩
  | str y => obtain ⟨t, q⟩ := (show ∃ t, u = Value.str y t from rx); cases q; exact ⟨_, PySem.W.kitx_str, True.intro, fun z => nomatch z⟩
  | flt y => obtain ⟨t, q⟩ := (show ∃ t, u = Value.float y t from rx); cases q; exact ⟨_, PySem.W.kitx_float, True.intro, fun z => nomatch z⟩
  | @lst a xs ea =>
    cases (show u = Value.ref a from rx)
    obtain ⟨_, _, n, _, h1⟩ := (show ObjOk X.prog X.w H s.heap a (.lst xs) from I.hok a _ ea)
    exact ⟨_, PySem.W.kitx_list, ⟨_, h1, rfl⟩, fun z => nomatch z⟩
  | @frz a ob xs ea =>
    cases (show u = Value.ref a from rx)
    obtain ⟨_, _, _, n, _, h1⟩ := (show ObjOk X.prog X.w H s.heap a (.frz ob (.lst xs)) from I.hok a _ ea)
    exact ⟨_, PySem.W.kitx_list, ⟨_, h1, rfl⟩, fun z => nomatch z⟩
  | @tup a xs ea =>
    cases (show u = Value.ref a from rx)
    obtain ⟨_, _, _, p⟩ := (show ObjOk X.prog X.w H s.heap a (.tup xs) from I.hok a _ ea)
    obtain ⟨o, h1, h2, _⟩ := p
    exact ⟨_, PySem.W.kitx_tuple, ⟨o, h1, h2⟩, fun z => nomatch z⟩
  | @dK a kvs ea =>
    cases (show u = Value.ref a from rx)
    obtain ⟨_, _, vs, _, p⟩ := (show ObjOk X.prog X.w H s.heap a (.dK kvs) from I.hok a _ ea)
    obtain ⟨o, es, ep, h1, h2, _⟩ := p
    exact ⟨_, PySem.W.kitx_dict, ⟨o, h1, h2.1⟩, fun z => nomatch z⟩
  | @dT a kvs ea =>
    cases (show u = Value.ref a from rx)
    obtain ⟨_, _, xs, _, o, es, ep, h1, h2, _⟩ := (show ObjOk X.prog X.w H s.heap a (.dT kvs) from I.hok a _ ea)
    exact ⟨_, PySem.W.kitx_dict, ⟨o, h1, h2.1⟩, fun z => nomatch z⟩
  | @ins a C dx fs ea cl ha hn htk hm =>
    cases (show u = Value.ref a from rx)
    obtain ⟨mA, O, _⟩ := ins_get I.hok ea
    obtain ⟨od, J, _⟩ := O.look
    exact ⟨_, PySem.W.kitx_own (cl.get _) cl.hd ha hn htk hm, J, fun z => nomatch z⟩
def rIsi (K : PySem.W.Frag) : List V → Hp → VK → Prop := fun xs H Q => ∃ x t b, TyOf K H x t ∧ Q (.bl b) H ∧
  ((∃ T : String, xs = [x, .ty T] ∧ PySem.W.kitOne K t (.type T) = some b) ∨ ∃ (p : Addr) (Ts : List String), xs = [x, .ref p] ∧ H p = some (.tup (Ts.map V.ty)) ∧ PySem.W.kitAny K t (Ts.map Value.type) = some b)
theorem vals_ty : ∀ {Ts : List String} {us : List Value}, Vals (Ts.map V.ty) us → us = Ts.map Value.type
  | [], _, .nil => rfl
  | T :: Ts, _, .cons r t => by
    obtain rfl := (show _ = Value.type T from r)
    rw [vals_ty t]; rfl
theorem cr_isi {X : Cx} : CallR X (.builtin "isinstance") (rIsi X.K) := by
  rintro pins s σ H vs us Q I r ⟨x, t, b, ty, q, h⟩
  rcases h with ⟨T, rfl, e⟩ | ⟨p, Ts, rfl, hp, e⟩
  · cases r with
    | @cons _ u _ us1 rx r1 =>
      cases r1 with
      | @cons _ c _ us2 rc r2 =>
        cases r2
        obtain rfl := (show c = Value.type T from rc)
        exact isinst_ok I rx ty e fun tk => ⟨.bl b, H, I.tok tk, rfl, q⟩
  · cases r with
    | @cons _ u _ us1 rx r1 =>
      cases r1 with
      | @cons _ c _ us2 rc r2 =>
        cases r2
        obtain rfl := (show c = Value.ref p from rc)
        obtain ⟨Hh, Z, hz, hx⟩ := tyOf_kit I rx ty
        obtain ⟨_, its, rv, o, ho, hc, n, hd⟩ := (show ObjOk X.prog X.w H s.heap p (.tup _) from I.hok p _ hp)
        obtain ⟨cls, dd, dt, sl⟩ := o
        dsimp only at hc hd
        subst hc hd
        rw [vals_ty rv] at ho
        exact PySem.W.kia_tup Z I.kIn hz ho e hx fun tk => ⟨.bl b, H, I.tok tk, rfl, q⟩
/-! ### errors that don't come -/
theorem pass_no {X : Cx} : Passes (CXo X.prog X.w) X E0 := fun _ _ _ _ _ _ _ h => by
  obtain ⟨_, _, _, _, _, _, _, _, _, _, _, _, _, _, _, _, z⟩ := h
  exact False.elim z
section
variable {P : Program} {w : World} {K : PySem.W.Frag} {mg : Str → Option Value} {base : Heap}
/-- THE RULE for a def, its errors seen -/
theorem Fun.okX {x qual : Str} {st : Stmt} {f : Addr} {fd : FuncData} {N ps : List Str} {k : Nat} {sp : Sp} (F : Fun K x qual st f fd) (S : FnScope N ps (defScope st)) (len : ∀ vs H Q E, sp vs H Q E → vs.length = ps.length)
    (hbody : ∀ (cdv : Value) (A : Around) (outer : List Env) (s : Shared) (H : Hp) (vs : List V) (Q : VK) (E : XK), Room k (A.deeper (envOfC qual (defScope st) s.heap.objs.size f cdv)) → sp vs H Q E →
      ∃ t, PSs (cxOf (CXo P w) P w K mg base N qual (defScope st) f cdv A outer s H E) (defBody st) t ∧ t { nx := fun _ H' => Q .non H', rt := Q } (start N vs) H) : FnOk P w K mg base (CXo P w) (k + 1) f fd ps sp := by
  obtain ⟨oc, od, kV, doc, pm, an, cdv, ct, osl, rfl, lk, hcd⟩ := F.ex
  exact fn_of lk hcd S len fun A outer s H vs Q E hr hsp => hbody cdv A outer s H vs Q E hr hsp
/-- .. its cells in the heap -/
theorem Fun.okC {x qual : Str} {st : Stmt} {f : Addr} {fd : FuncData} {N ps : List Str} {k : Nat} {sp : Sp} (F : Fun K x qual st f fd) (S : FnScopeC N ps (defScope st)) (len : ∀ vs H Q E, sp vs H Q E → vs.length = ps.length)
    (hbody : ∀ (cdv : Value) (A : Around) (outer : List Env) (s : Shared) (H : Hp) (vs : List V) (Q : VK) (E : XK), fd.code = cdv → Room k (A.deeper (envOfC qual (defScope st) s.heap.objs.size f cdv)) → sp vs H Q E → (∀ a, s.heap.objs.size ≤ a → H a = none) →
      ∃ t, PSs (cxE (CXo P w) P w K mg base N (envOfC qual (defScope st) s.heap.objs.size f cdv) A outer s H E ((cellsFrom (s.heap.objs.size + 1) (defScope st).names []).map (·.2))) (defBody st) t ∧
        t { nx := fun _ H' => Q .non H', rt := Q } (startC N ps vs) (Hcel (fun x => (ps.zip vs).lookup x) (cellsFrom (s.heap.objs.size + 1) (defScope st).names []) H)) : FnOk P w K mg base (CXo P w) (k + 1) f fd ps sp := by
  obtain ⟨oc, od, kV, doc, pm, an, cdv, ct, osl, rfl, lk, hcd⟩ := F.ex
  exact fn_ofC lk hcd S len fun A outer s H vs Q E hr hsp hfr => hbody cdv A outer s H vs Q E rfl hr hsp hfr
end
end L2

set_option Elab.async false
set_option linter.all false
set_option maxRecDepth 100000
namespace L2
open PySem PySem.Spec PyProof.Rows
/-! ### xs[::-1] -/
def tRev (K : PySem.W.Frag) (te : TE) (tk : TO) : TE := fun σ H Q => te σ H fun x H1 => tk σ H1 fun o H2 => o = some (-1) ∧ ∃ a xs, x = .ref a ∧ SqL K H2 a xs ∧ ∀ p, H2 p = none → Q (.ref p) (upd H2 p (.lst xs.reverse))
theorem Vals.rev : ∀ {xs : List V} {us : List Value}, Vals xs us → Vals xs.reverse us.reverse
  | _, _, .nil => .nil
  | _, _, .cons r t => by
    rw [List.reverse_cons, List.reverse_cons]
    exact (Vals.rev t).append (.cons r .nil)
theorem pe_rev {X : Cx} {e st : Expr} {te : TE} {tk : TO} {pos p2 : Pos} (he : PE X e te) (hk : PO X (some st) tk) : PE X (.Subscript e (.Slice none none (some st) p2) pos) (tRev X.K te tk) := by
  intro pins s σ H Q I h
  refine Subscript_ (thn (he pins s σ H _ I h) fun v s1 ⟨x, H1, I1, r1, q1⟩ => ?_)
  refine wpAny_Slice ?_
  rw [evalPart_none]
  refine wpAny_pure ?_
  refine wpAny_pure ?_
  refine thn (hk pins s1 σ H1 _ I1 q1) fun vk s3 ⟨o, H3, I3, pk, q3⟩ => ?_
  obtain ⟨rfl, a, xs, rfl, hx, q⟩ := q3
  cases r1
  have I4 : Inv X pins σ H3 { s3 with heap := s3.heap.push { cls := .type "slice", data := .fields #[.none, .none, vk] } } := I3.kept (t' := s3.toks) fun b ob q => Heap.get?_push_of_some _ q
  obtain ⟨its, r, ht, hz⟩ := I4.list hx
  have hlen := r.length
  show wpAny (model X.prog X.w) X.A (subscriptTail e (.Slice none none (some st) p2) (.ref a) (.ref s3.heap.objs.size)) (EP X pins σ Q) X.xe { s3 with heap := s3.heap.push { cls := .type "slice", data := .fields #[.none, .none, vk] } }
  refine tail_any (T := "list") ht.isList.typeIs slot_list_getitem.lookup ?_ (ops := [.ref a, .ref s3.heap.objs.size]) rfl
  refine wpAny_getItem_list_slice ht.isList (Heap.IsSliceOf.new ..) .none .none pk (by simp) ?_ (by rw [List.size_toArray] <;> omega)
  rw [PySem.W.krv_pick]
  refine ⟨.ref _, _, I4.laid (t' := s3.toks) (o := .lst xs.reverse) (fun b ob q => Heap.get?_push_of_some _ q) (Nat.le_refl _) ?_, rfl, q _ (I4.hok.fresh (Nat.le_refl _))⟩
  exact ⟨by rw [List.length_reverse]; exact hz, _, 0, Vals.rev r, Heap.get?_push_size _ rfl⟩
/-! ### a, b, c = x, y, z -/
def tPar3 (i j k : Nat) (ta : TA) : TS := fun D σ H => ta σ H fun vs H1 => ∃ v w u, vs = [v, w, u] ∧ D.nx (((σ.set i (some v)).set j (some w)).set k (some u)) H1
end L2

set_option Elab.async false
set_option linter.all false
set_option maxRecDepth 100000
namespace L2
open PySem PySem.Spec PyProof.Rows
/-- the goal that k_head leaves, from the law's promise; the tables are told with it -/
theorem walk_ofT2 {l : PySem.W.OpenLaw} {n k : Nat} {q : Program} {loose : List Str} {XP : (Str → Option Value) → Heap → Prop} {YP : World → Heap → Prop} {d : DefRec} {K : Params → PySem.W.Frag} {sp : PySem.W.Frag → List (Addr × Addr) → Sp} {x : Str}
    (hn : l.most = some n) (hn2 : n ≤ sizeLine) (hdf : d.params.defaults = []) (hr : Room k callerA)
    (hY : ∀ (w : World) (h : Heap), YP w h → (K w.params).In h)
    (F : ∀ (w : World) (mean : ExcName → Option Value) (mg mb : Str → Option Value) (fa : Addr) (h : Heap), (K w.params).In h → Top q (PySem.W.looseW q loose) mean mg mb h → mg d.name = some (.ref fa) →
      PySem.W.noTabs (K w.params) = true ∧ ∃ (tabs : List (Addr × Addr)) (fd : FuncData), PySem.W.TabsAt tabs h ∧ (∀ (s : Shared) (u : Value), BindsTo s fd ⟨[u], []⟩ [(x, u)]) ∧
        ∀ base : Heap, (K w.params).In base → base.Ns mainGlobals mg → (∀ q ∈ tabs, PySem.W.CodeHd base q.1 q.2 ∧ mainGlobals ≠ q.2 ∧ base.BuiltinsAt mg q.2) → FnOk l.prog w (K w.params) mg base (CXo l.prog w) k fa fd [x] (sp (K w.params) tabs))
    (hsp : ∀ (K : PySem.W.Frag) (tabs : List (Addr × Addr)) (H : Hp) (a : Addr) (ns : List Int), ns.length ≤ n → (∀ q ∈ tabs, H q.2 = some (.tbl #[])) → SqL K H a (ns.map V.int) → sp K tabs [.ref a] H (fun v _ => v = .bl true) fun _ _ _ => False) :
    PySem.W.WalkO q loose XP YP l.row.toRowW d [] (fun f vs => PySem.call f vs) := by
  refine Att.attach_call hn hdf fun w s₀ s₁ mg mb fa o pm cd doc a vs ns G Y ho hd hcd hmg hobj hints hlen hg => ?_
  have KX := hY w _ Y
  obtain ⟨hK, tabs, fd, hT, hb, hF⟩ := F w _ mg mb fa _ KX G.T hmg
  exact law_callT KX G.T.g G.T.b G.T.builtins G.T.nolimit hg G.T.bmain hT hK hobj hints (Nat.le_trans hlen hn2) hr hF hb (fun H hT' hS => hsp _ tabs H a ns hlen hT' hS)
theorem tabIn_of {K : PySem.W.Frag} {x : Str} {f c P : Addr} {oc oc' : Value} {od od' : Option Addr} {fd : FuncData} {sl sl' : Array (Option Value)} {vs : Array Value} (h1 : PySem.W.nsIn K mainGlobals x = some (some (.ref f))) (h2 : K.lookup f = some ⟨oc, od, .func fd, sl⟩) (h3 : fd.code = .ref c)
    (h4 : K.lookup c = some ⟨oc', od', .fields vs, sl'⟩) (h5 : vs[11]? = some (.ref P)) : PySem.W.tabIn K x = some (c, P) := by
  unfold PySem.W.tabIn
  rw [h1]
  dsimp only
  rw [h2]
  dsimp only
  rw [h3]
  dsimp only
  rw [h4]
  dsimp only
  rw [h5]
end L2

set_option Elab.async false
set_option linter.all false
set_option maxRecDepth 100000
namespace L2
open PySem PySem.Spec PyProof.Rows
/-! ## Rows, whatever they are made of -/
/-- a Row's attributes -/
def rowF (f : Addr) (o : Bool) : List (Str × V) := [("tell", .ref f), ("over", .bl o)]
theorem toNe : ¬ (("tell" : Str) = "over") := by decide +kernel
theorem rowF_put (f : Addr) (o o' : Bool) : putF "over" (.bl o') (rowF f o) = rowF f o' := by
  show (if ("tell" : Str) = "over" then _ else (("tell" : Str), V.ref f) :: (if ("over" : Str) = "over" then [(("over" : Str), V.bl o')] else _)) = _
  rw [if_neg toNe, if_pos rfl]
  rfl
theorem rowF_mk (f : Addr) (o : Bool) : putF "over" (.bl o) (putF "tell" (.ref f) []) = rowF f o := by
  show (if ("tell" : Str) = "over" then _ else (("tell" : Str), V.ref f) :: putF "over" (.bl o) []) = _
  rw [if_neg toNe]
  rfl
theorem sizeL : 64 ≤ sizeLine := by decide
theorem sizeK : 1000 ≤ sizeLine := by decide
/-- the text at hand: what the promises of rows hang on -/
structure Tt where
  P : Program
  w : World
  K : PySem.W.Frag
  mg : Str → Option Value
  base : Heap
  C : Addr
  CO : Addr
abbrev Tt.does (t : Tt) (k : Nat) (f : Addr) (vs : List V) (H : Hp) (Q : VK) (E : XK) : Prop := DoesF t.P t.w t.K t.mg t.base k f vs H Q E
/-- draw, by what tell does -/
def spDraw (t : Tt) (n : Nat) : Sp := fun vs H Q E => ∃ (r dx f : Addr) (o : Bool), vs = [.ref r] ∧ H r = some (.ins t.C dx (rowF f o)) ∧ (o = true → E (.ref t.CO) none H) ∧
  (o = false → t.does n f [] H Q fun cls d H' => (cls = .ref t.CO ∧ ∃ dx', H' r = some (.ins t.C dx' (rowF f false)) ∧ E cls d (upd H' r (.ins t.C dx' (rowF f true)))) ∨ (Mat t.K (.ref t.CO) cls false ∧ E cls d H'))
theorem spDraw_mono {t : Tt} {n : Nat} {vs : List V} {H : Hp} {Q Q' : VK} {E E' : XK} (h : spDraw t n vs H Q E) (hQ : ∀ v H', Q v H' → Q' v H') (hE : ∀ c d H', E c d H' → E' c d H') : spDraw t n vs H Q' E' := by
  obtain ⟨r, dx, f, o, h1, h2, h3, h4⟩ := h
  refine ⟨r, dx, f, o, h1, h2, fun z => hE _ _ _ (h3 z), fun z => (h4 z).mono hQ fun c d H' q => ?_⟩
  rcases q with ⟨q1, dx', q2, q3⟩ | ⟨q1, q2⟩
  · exact .inl ⟨q1, dx', q2, hE _ _ _ q3⟩
  · exact .inr ⟨q1, hE _ _ _ q2⟩
theorem spDraw_row {t : Tt} {n : Nat} {r : Addr} {H : Hp} {Q : VK} {E : XK} (h : spDraw t n [.ref r] H Q E) : ∃ dx fs, H r = some (.ins t.C dx fs) ∧ fs.lookup ("draw" : Str) = none := by
  obtain ⟨r', dx, f, o, h1, h2, _⟩ := h
  cases h1
  exact ⟨dx, _, h2, rfl⟩

/-! ### footprints, steps -/
abbrev Ap := Addr → Prop
def isExt : HO → Bool
  | .ext _ => true
  | .tbl _ => true
  | .tup _ => true
  | _ => false
/-- they stand, and are neither code nor tuples (which never change) -/
def Stands (W : Ap) (H : Hp) : Prop := ∀ b, W b → ∃ o, H b = some o ∧ isExt o = false
/-- a step that writes into W and the log alone; W' is of W and of new addresses -/
structure Ext (W W' : Ap) (lg : Addr) (H H' : Hp) : Prop where
  keep : ∀ b o, H b = some o → ¬ W b → b ≠ lg → H' b = some o
  new : ∀ b, W' b → W b ∨ H b = none
  there : Stands W' H'
  live : ∀ b, H' b = none → H b = none
theorem Ext.out {W W' : Ap} {lg : Addr} {H H' : Hp} (x : Ext W W' lg H H') {b : Addr} {o : HO} (h : H b = some o) (n : ¬ W b) : ¬ W' b := fun z => by
  rcases x.new b z with y | y
  · exact n y
  · rw [h] at y; cases y
theorem Ext.trans {W W' W'' : Ap} {lg : Addr} {H H' H'' : Hp} (x : Ext W W' lg H H') (y : Ext W' W'' lg H' H'') : Ext W W'' lg H H'' where
  keep := fun b o e n l => y.keep b o (x.keep b o e n l) (x.out e n) l
  new := fun b z => by
    rcases y.new b z with h | h
    · exact x.new b h
    · exact .inr (x.live b h)
  there := y.there
  live := fun b z => x.live b (y.live b z)
/-- the tuples at ts are these -/
def Evs (H : Hp) (ts : List Addr) (ev : List (List V)) : Prop := ts.length = ev.length ∧ ∀ (i : Nat) t e, ts[i]? = some t → ev[i]? = some e → H t = some (.tup e)
theorem Evs.nil {H : Hp} : Evs H [] [] := ⟨rfl, fun i t e h => by simp at h⟩
theorem Evs.app {H : Hp} {ts us : List Addr} {ev ew : List (List V)} (a : Evs H ts ev) (b : Evs H us ew) : Evs H (ts ++ us) (ev ++ ew) := by
  refine ⟨by simp [a.1, b.1], fun i t e h1 h2 => ?_⟩
  by_cases hi : i < ts.length
  · rw [List.getElem?_append_left hi] at h1
    rw [List.getElem?_append_left (by rw [← a.1]; exact hi)] at h2
    exact a.2 i t e h1 h2
  · rw [List.getElem?_append_right (by omega)] at h1
    rw [List.getElem?_append_right (by rw [← a.1]; omega), ← a.1] at h2
    exact b.2 _ t e h1 h2
theorem Evs.there {H : Hp} {ts : List Addr} {ev : List (List V)} (a : Evs H ts ev) {t : Addr} (h : t ∈ ts) : ∃ e, H t = some (.tup e) := by
  obtain ⟨i, hi⟩ := List.mem_iff_getElem?.mp h
  have hl : i < ev.length := by rw [← a.1]; exact (List.getElem?_eq_some_iff.mp hi).1
  exact ⟨_, a.2 i t ev[i] hi (List.getElem?_eq_getElem hl)⟩
theorem Evs.kp {H H' : Hp} {ts : List Addr} {ev : List (List V)} (a : Evs H ts ev) (k : ∀ t ∈ ts, ∀ o, H t = some o → H' t = some o) : Evs H' ts ev :=
  ⟨a.1, fun i t e h1 h2 => k t (List.mem_of_getElem? h1) _ (a.2 i t e h1 h2)⟩
/-- a step and what it notes behind ls -/
structure Stp (W W' : Ap) (lg : Addr) (H H' : Hp) (ls ls' : List V) (ev : List (List V)) : Prop extends Ext W W' lg H H' where
  log : H' lg = some (.lst ls')
  ex : ∃ ts : List Addr, ls' = ls ++ ts.map V.ref ∧ Evs H' ts ev ∧ ∀ t ∈ ts, H t = none ∧ ¬ W' t ∧ t ≠ lg
theorem Stp.len {W W' : Ap} {lg : Addr} {H H' : Hp} {ls ls' : List V} {ev : List (List V)} (x : Stp W W' lg H H' ls ls' ev) : ls'.length = ls.length + ev.length := by
  obtain ⟨ts, h1, h2, _⟩ := x.ex
  rw [h1, List.length_append, List.length_map, h2.1]
theorem Stp.same {W : Ap} {lg : Addr} {H H' : Hp} {ls : List V} (h : Stands W H) (hl : H lg = some (.lst ls)) (s : Same H H') : Stp W W lg H H' ls ls [] :=
  { keep := fun b o e _ _ => s b o e, new := fun _ z => .inl z, there := fun b z => (h b z).imp fun o e => ⟨s _ _ e.1, e.2⟩, live := fun b z => s.free z, log := s _ _ hl, ex := ⟨[], by simp, Evs.nil, fun t h => absurd h List.not_mem_nil⟩ }
theorem Stp.refl {W : Ap} {lg : Addr} {H : Hp} {ls : List V} (h : Stands W H) (hl : H lg = some (.lst ls)) : Stp W W lg H H ls ls [] := Stp.same h hl (Same.refl H)
theorem Stp.trans {W W' W'' : Ap} {lg : Addr} {H H' H'' : Hp} {ls ls' ls'' : List V} {ev ew : List (List V)} (x : Stp W W' lg H H' ls ls' ev) (y : Stp W' W'' lg H' H'' ls' ls'' ew) : Stp W W'' lg H H'' ls ls'' (ev ++ ew) := by
  obtain ⟨ts, h1, h2, h3⟩ := x.ex
  obtain ⟨us, g1, g2, g3⟩ := y.ex
  refine { x.toExt.trans y.toExt with log := y.log, ex := ⟨ts ++ us, by rw [g1, h1]; simp, (h2.kp fun t ht o e => y.keep t o e (h3 t ht).2.1 (h3 t ht).2.2).app g2, fun t ht => ?_⟩ }
  rcases List.mem_append.mp ht with z | z
  · obtain ⟨o, e⟩ := h2.there z
    exact ⟨(h3 t z).1, y.toExt.out e (h3 t z).2.1, (h3 t z).2.2⟩
  · obtain ⟨e1, e2, e3⟩ := g3 t z
    exact ⟨x.live t e1, e2, e3⟩
/-- a write within W -/
theorem Stp.put {W : Ap} {lg a : Addr} {H : Hp} {ls : List V} {o : HO} (h : Stands W H) (hl : H lg = some (.lst ls)) (wl : ¬ W lg) (wa : W a) (no : isExt o = false) : Stp W W lg H (upd H a o) ls ls [] := by
  have na : lg ≠ a := fun z => wl (by rw [z]; exact wa)
  refine { keep := fun b o q n _ => by rw [upd_ne (fun y => n (by rw [y]; exact wa))]; exact q, new := fun _ z => .inl z, there := fun b z => ?_, live := fun b z => ?_, log := by rw [upd_ne na]; exact hl, ex := ⟨[], by simp, Evs.nil, fun t h => absurd h List.not_mem_nil⟩ }
  · by_cases h1 : b = a
    · rw [h1]; exact ⟨o, upd_same, no⟩
    · rw [upd_ne h1]; exact h b z
  · by_cases h1 : b = a
    · rw [h1, upd_same] at z; cases z
    · rw [upd_ne h1] at z; exact z
/-- a new object within W' -/
theorem Stp.alloc {W : Ap} {lg a : Addr} {H : Hp} {ls : List V} {o : HO} (h : Stands W H) (hl : H lg = some (.lst ls)) (ha : H a = none) (no : isExt o = false) : Stp W (fun b => W b ∨ b = a) lg H (upd H a o) ls ls [] := by
  refine { keep := fun b o q n _ => by rw [upd_ne (ne_of_none q ha)]; exact q, new := fun b z => z.imp id fun y => by rw [y]; exact ha, there := fun b z => ?_, live := fun b z => ?_, log := by rw [upd_ne (ne_of_none hl ha)]; exact hl, ex := ⟨[], by simp, Evs.nil, fun t h => absurd h List.not_mem_nil⟩ }
  · by_cases h1 : b = a
    · rw [h1]; exact ⟨o, upd_same, no⟩
    · rw [upd_ne h1]; exact h b (z.resolve_right h1)
  · by_cases h1 : b = a
    · rw [h1, upd_same] at z; cases z
    · rw [upd_ne h1] at z; exact z
/-- W' may be less -/
theorem Stp.less {W W' W2 : Ap} {lg : Addr} {H H' : Hp} {ls ls' : List V} {ev : List (List V)} (x : Stp W W' lg H H' ls ls' ev) (s : ∀ b, W2 b → W' b) : Stp W W2 lg H H' ls ls' ev := by
  obtain ⟨ts, h1, h2, h3⟩ := x.ex
  exact { keep := x.keep, new := fun b z => x.new b (s b z), there := fun b z => x.there b (s b z), live := x.live, log := x.log, ex := ⟨ts, h1, h2, fun t ht => ⟨(h3 t ht).1, fun z => (h3 t ht).2.1 (s t z), (h3 t ht).2.2⟩⟩ }
/-- with X beside W -/
theorem Stp.lift {W W' : Ap} {lg : Addr} {H H' : Hp} {ls ls' : List V} {ev : List (List V)} (x : Stp W W' lg H H' ls ls' ev) {X : Ap} (hX : Stands X H) (dX : ∀ b, X b → ¬ W b ∧ b ≠ lg) : Stp (fun b => W b ∨ X b) (fun b => W' b ∨ X b) lg H H' ls ls' ev := by
  obtain ⟨ts, h1, h2, h3⟩ := x.ex
  refine { keep := fun b o e n l => x.keep b o e (fun z => n (.inl z)) l, new := fun b z => ?_, there := fun b z => ?_, live := x.live, log := x.log, ex := ⟨ts, h1, h2, fun t ht => ⟨(h3 t ht).1, fun z => ?_, (h3 t ht).2.2⟩⟩ }
  · rcases z with z | z
    · exact (x.new b z).imp .inl id
    · exact .inl (.inr z)
  · rcases z with z | z
    · exact x.there b z
    · obtain ⟨o, e, n⟩ := hX b z
      exact ⟨o, x.keep b o e (dX b z).1 (dX b z).2, n⟩
  · rcases z with z | z
    · exact (h3 t ht).2.1 z
    · obtain ⟨o, e, n⟩ := hX t z
      rw [(h3 t ht).1] at e; cases e

/-! ### what a row will do -/
/-- what is told: a thing, or a new list, a new tuple -/
inductive Itm where
  | val (v : V)
  | lst (xs : List V)
  | tup (xs : List V)
/-- a draw's outcome, with what is noted by it (tuples, by their items) -/
inductive Out where
  | item (i : Itm) (ev : List (List V))
  | over (ev : List (List V))
def Out.ev : Out → List (List V)
  | .item _ e => e
  | .over e => e
/-- it stands at v, beside W and the log -/
def Itm.at (i : Itm) (lg : Addr) (W : Ap) (H : Hp) (v : V) : Prop := match i with
  | .val x => v = x
  | .lst xs => ∃ a, v = .ref a ∧ H a = some (.lst xs) ∧ ¬ W a ∧ a ≠ lg
  | .tup xs => ∃ a, v = .ref a ∧ H a = some (.tup xs) ∧ ¬ W a ∧ a ≠ lg
/-- .. and is of W, or new -/
def Itm.own (i : Itm) (W : Ap) (H : Hp) (v : V) : Prop := match i with
  | .val x => True
  | .lst xs => ∀ a, v = .ref a → H a = none ∨ W a
  | .tup xs => ∀ a, v = .ref a → H a = none ∨ W a
def Itm.told (i : Itm) (lg : Addr) (W : Ap) (H : Hp) (W' : Ap) (H' : Hp) (v : V) : Prop := i.at lg W' H' v ∧ i.own W H v
theorem Itm.at.step {i : Itm} {lg : Addr} {W W' : Ap} {H H' : Hp} {v : V} (h : i.at lg W H v) (x : Ext W W' lg H H') : i.at lg W' H' v := by
  cases i with
  | val _ => exact h
  | lst xs => obtain ⟨a, h1, h2, h3, h4⟩ := h; exact ⟨a, h1, x.keep _ _ h2 h3 h4, x.out h2 h3, h4⟩
  | tup xs => obtain ⟨a, h1, h2, h3, h4⟩ := h; exact ⟨a, h1, x.keep _ _ h2 h3 h4, x.out h2 h3, h4⟩
theorem Itm.own.pre {i : Itm} {lg : Addr} {W W' : Ap} {H H' : Hp} {v : V} (h : i.own W' H' v) (x : Ext W W' lg H H') : i.own W H v := by
  have k : ∀ a, H' a = none ∨ W' a → H a = none ∨ W a := fun a z => z.elim (fun y => .inl (x.live a y)) fun y => (x.new a y).symm
  cases i with
  | val _ => trivial
  | lst xs => exact fun a e => k a (h a e)
  | tup xs => exact fun a e => k a (h a e)
theorem Itm.told.pre {i : Itm} {lg : Addr} {W W1 W' : Ap} {H H1 H' : Hp} {v : V} (h : i.told lg W1 H1 W' H' v) (x : Ext W W1 lg H H1) : i.told lg W H W' H' v := ⟨h.1, h.2.pre x⟩
theorem Itm.told.post {i : Itm} {lg : Addr} {W W1 W' : Ap} {H H1 H' : Hp} {v : V} (h : i.told lg W H W1 H1 v) (x : Ext W1 W' lg H1 H') : i.told lg W H W' H' v := ⟨h.1.step x, h.2⟩
theorem Itm.told.lift {i : Itm} {lg : Addr} {W W' : Ap} {H H' : Hp} {v : V} (h : i.told lg W H W' H' v) {X : Ap} (hX : Stands X H) (dX : ∀ b, X b → ¬ W b ∧ b ≠ lg) : i.told lg (fun b => W b ∨ X b) H (fun b => W' b ∨ X b) H' v := by
  have k : ∀ a, H a = none ∨ W a → ¬ X a := fun a z y => z.elim (fun q => by obtain ⟨o, e, _⟩ := hX a y; rw [q] at e; cases e) (dX a y).1
  cases i with
  | val _ => exact ⟨h.1, trivial⟩
  | lst xs =>
    obtain ⟨⟨a, h1, h2, h3, h4⟩, h5⟩ := h
    exact ⟨⟨a, h1, h2, fun z => z.elim h3 (k a (h5 a h1)), h4⟩, fun b e => (h5 b e).imp id .inl⟩
  | tup xs =>
    obtain ⟨⟨a, h1, h2, h3, h4⟩, h5⟩ := h
    exact ⟨⟨a, h1, h2, fun z => z.elim h3 (k a (h5 a h1)), h4⟩, fun b e => (h5 b e).imp id .inl⟩
/-- what a row leans on: W it writes, R it reads -/
structure Bas (R W : Ap) (lg : Addr) (H : Hp) : Prop where
  wt : Stands W H
  rt : ∀ b, R b → ∃ o, H b = some o
  rn : ∀ b, R b → ∀ ps, H b ≠ some (.tbl ps)
  rw : ∀ b, R b → ¬ W b
  wl : ¬ W lg
  rl : ¬ R lg
theorem Bas.agree {R W : Ap} {lg : Addr} {H H' : Hp} (h : Bas R W lg H) (k : ∀ b, W b ∨ R b → H' b = H b) : Bas R W lg H' :=
  ⟨fun b z => (h.wt b z).imp fun o e => ⟨(k b (.inl z)).trans e.1, e.2⟩, fun b z => (h.rt b z).imp fun o e => (k b (.inr z)).trans e, fun b z ps => by rw [k b (.inr z)]; exact h.rn b z ps, h.rw, h.wl, h.rl⟩
theorem Bas.same {R W : Ap} {lg : Addr} {H H' : Hp} (h : Bas R W lg H) (k : Same H H') : Bas R W lg H' :=
  ⟨fun b z => (h.wt b z).imp fun o e => ⟨k _ _ e.1, e.2⟩, fun b z => (h.rt b z).imp fun o e => k _ _ e, fun b z ps q => by obtain ⟨o, e⟩ := h.rt b z; rw [k _ _ e, ← e] at q; exact h.rn b z ps q, h.rw, h.wl, h.rl⟩
theorem Bas.step {R W W' : Ap} {lg : Addr} {H H' : Hp} (h : Bas R W lg H) (x : Ext W W' lg H H') (wl : ¬ W' lg) : Bas R W' lg H' :=
  ⟨x.there, fun b z => (h.rt b z).imp fun o e => x.keep _ _ e (h.rw b z) (fun y => h.rl (by rw [← y]; exact z)), fun b z ps q => (by obtain ⟨o, e⟩ := h.rt b z; rw [x.keep _ _ e (h.rw b z) (fun y => h.rl (by rw [← y]; exact z)), ← e] at q; exact h.rn b z ps q), fun b z => by obtain ⟨o, e⟩ := h.rt b z; exact x.out e (h.rw b z), wl, h.rl⟩
/-- reads stay -/
theorem Ext.reads {R W W' : Ap} {lg : Addr} {H H' : Hp} (x : Ext W W' lg H H') (h : Bas R W lg H) {b : Addr} (z : R b) : H' b = H b := by
  obtain ⟨o, e⟩ := h.rt b z
  rw [e, x.keep _ _ e (h.rw b z) (fun y => h.rl (by rw [← y]; exact z))]
abbrev Act := Hp → VK → XK → Prop
/-- the next outcomes of an act, asked again and again -/
def Beh (act : Act) (CO lg : Addr) (R : Ap) : List Out → Ap → Hp → Prop
  | [], W, H => Bas R W lg H
  | o :: rest, W, H => Bas R W lg H ∧ ∀ (H1 : Hp) (ls : List V) (Q : VK) (E : XK), (∀ b, W b ∨ R b → H1 b = H b) → H1 lg = some (.lst ls) → ls.length + o.ev.length ≤ 900 →
      (∀ W' H' ls', Stp W W' lg H1 H' ls ls' o.ev → Beh act CO lg R rest W' H' → match o with | .item i _ => ∀ v, i.told lg W H1 W' H' v → Q v H' | .over _ => E (.ref CO) none H') → act H1 Q E
section
variable {act : Act} {CO lg : Addr} {R W : Ap} {outs : List Out} {H H' : Hp}
theorem Beh.bas (h : Beh act CO lg R outs W H) : Bas R W lg H := by
  cases outs with
  | nil => exact h
  | cons o rest => exact h.1
theorem Beh.agree (h : Beh act CO lg R outs W H) (k : ∀ b, W b ∨ R b → H' b = H b) : Beh act CO lg R outs W H' := by
  cases outs with
  | nil => exact Bas.agree h k
  | cons o rest => exact ⟨h.1.agree k, fun H1 ls Q E a => h.2 H1 ls Q E fun b z => (a b z).trans (k b z)⟩
/-- .. where all that stood still stands -/
theorem Beh.kept (h : Beh act CO lg R outs W H) (k : ∀ b o, H b = some o → W b ∨ R b → H' b = some o) : Beh act CO lg R outs W H' :=
  h.agree fun b z => by
    have B := h.bas
    obtain ⟨o, e⟩ : ∃ o, H b = some o := z.elim (fun y => (B.wt b y).imp fun _ q => q.1) (B.rt b)
    rw [e, k b o e z]
/-- a def is made beside -/
theorem Beh.made {Pt : Addr} {ps : Array Value} (h : Beh act CO lg R outs W H) (kp : ∀ b o, H b = some o → b ≠ Pt → H' b = some o) (hP : H Pt = some (.tbl ps)) : Beh act CO lg R outs W H' :=
  h.kept fun b o e z => kp b o e fun y => by
    rw [y, hP] at e
    cases e
    rw [y] at z
    rcases z with z | z
    · obtain ⟨o, e, n⟩ := h.bas.wt Pt z
      rw [hP] at e; cases e; cases n
    · exact h.bas.rn Pt z ps hP
theorem Beh.same (h : Beh act CO lg R outs W H) (k : Same H H') : Beh act CO lg R outs W H' := h.kept fun b o e _ => k b o e
/-- an item is next -/
theorem Beh.item {i : Itm} {ev : List (List V)} {rest : List Out} (h : Beh act CO lg R (.item i ev :: rest) W H) {ls : List V} {Q : VK} {E : XK} (hl : H lg = some (.lst ls)) (hn : ls.length + ev.length ≤ 900)
    (k : ∀ W' H' ls' v, Stp W W' lg H H' ls ls' ev → Beh act CO lg R rest W' H' → i.told lg W H W' H' v → Q v H') : act H Q E :=
  h.2 H ls Q E (fun _ _ => rfl) hl hn fun W' H' ls' s b v t => k W' H' ls' v s b t
theorem Beh.over {ev : List (List V)} {rest : List Out} (h : Beh act CO lg R (.over ev :: rest) W H) {ls : List V} {Q : VK} {E : XK} (hl : H lg = some (.lst ls)) (hn : ls.length + ev.length ≤ 900)
    (k : ∀ W' H' ls', Stp W W' lg H H' ls ls' ev → Beh act CO lg R rest W' H' → E (.ref CO) none H') : act H Q E :=
  h.2 H ls Q E (fun _ _ => rfl) hl hn fun W' H' ls' s b => k W' H' ls' s b
/-- to make one: by what it does where all stands as in H -/
theorem Beh.mk {o : Out} {rest : List Out} (B : Bas R W lg H) (k : ∀ (H1 : Hp) (ls : List V) (Q : VK) (E : XK), (∀ b, W b ∨ R b → H1 b = H b) → Bas R W lg H1 → H1 lg = some (.lst ls) → ls.length + o.ev.length ≤ 900 →
      (∀ W' H' ls', Stp W W' lg H1 H' ls ls' o.ev → Beh act CO lg R rest W' H' → match o with | .item i _ => ∀ v, i.told lg W H1 W' H' v → Q v H' | .over _ => E (.ref CO) none H') → act H1 Q E) : Beh act CO lg R (o :: rest) W H :=
  ⟨B, fun H1 ls Q E a => k H1 ls Q E a (B.agree a)⟩
end
/-- what a row does by what its tell does: over stays over -/
def cutO (k : Nat) : List Out → List Out
  | [] => []
  | .item i e :: rest => .item i e :: cutO k rest
  | .over e :: _ => .over e :: List.replicate k (.over [])
end L2

set_option Elab.async false
set_option linter.all false
set_option maxRecDepth 100000
namespace L2
open PySem PySem.Spec PyProof.Rows
/-- what is read beside: as in H0 -/
structure Xt (Rx W : Ap) (lg : Addr) (H0 H : Hp) : Prop where
  eq : ∀ b, Rx b → H b = H0 b
  th : ∀ b, Rx b → ∃ o, H0 b = some o
  nt : ∀ b, Rx b → ∀ ps, H0 b ≠ some (.tbl ps)
  nw : ∀ b, Rx b → ¬ W b
  nl : ¬ Rx lg
theorem Xt.step {Rx W W' : Ap} {lg : Addr} {H0 H H' : Hp} (h : Xt Rx W lg H0 H) (x : Ext W W' lg H H') : Xt Rx W' lg H0 H' := by
  have k : ∀ b, Rx b → ∃ o, H b = some o := fun b z => by rw [h.eq b z]; exact h.th b z
  refine ⟨fun b z => ?_, h.th, h.nt, fun b z => ?_, h.nl⟩
  · obtain ⟨o, e⟩ := k b z
    rw [x.keep _ _ e (h.nw b z) (fun y => h.nl (by rw [← y]; exact z)), ← e]
    exact h.eq b z
  · obtain ⟨o, e⟩ := k b z
    exact x.out e (h.nw b z)
theorem Xt.agree {Rx W : Ap} {lg : Addr} {H0 H H' : Hp} (h : Xt Rx W lg H0 H) (k : ∀ b, Rx b → H' b = H b) : Xt Rx W lg H0 H' := ⟨fun b z => (k b z).trans (h.eq b z), h.th, h.nt, h.nw, h.nl⟩
/-- a work that notes what it is handed -/
def WrkB (t : Tt) (k : Nat) (fw lg : Addr) (Rx : Ap) (H0 : Hp) (dom : V → Prop) (ans : V → V) (ev : V → List V) : Prop := ∀ (H1 : Hp) (ls : List V) (x : V) (Q : VK) (E : XK), (∀ b, Rx b → H1 b = H0 b) → H1 lg = some (.lst ls) → ls.length + 1 ≤ 900 → dom x →
  (∀ tt, H1 tt = none → Q (ans x) (upd (upd H1 tt (.tup (ev x))) lg (.lst (ls ++ [.ref tt])))) → t.does k fw [x] H1 Q E
/-- the items are things of this kind -/
def Vals' (dom : V → Prop) (outs : List Out) : Prop := ∀ o ∈ outs, ∀ i e, o = .item i e → ∃ x, i = .val x ∧ dom x
theorem Vals'.tail {dom : V → Prop} {o : Out} {outs : List Out} (h : Vals' dom (o :: outs)) : Vals' dom outs := fun p hp => h p (.tail _ hp)
theorem Vals'.head {dom : V → Prop} {i : Itm} {e : List (List V)} {outs : List Out} (h : Vals' dom (.item i e :: outs)) : ∃ x, i = .val x ∧ dom x := h _ (.head _) i e rfl

/-! ### listed -/
def itemsO (xs : List V) (rest : List Out) : List Out := xs.map (fun v => Out.item (.val v) []) ++ rest
/-! ### mapped -/
def mapO (ans : V → V) (ev : V → List V) : Out → Out
  | .item (.val x) e => .item (.val (ans x)) (e ++ [ev x])
  | .item _ e => .item (.val .non) e
  | .over e => .over e
/-- the log and new things are none of a row's business -/
theorem Beh.noted {act : Act} {CO lg : Addr} {R W : Ap} {outs : List Out} {H : Hp} {tt : Addr} {o : HO} {ls : List V} (b : Beh act CO lg R outs W H) (ht : H tt = none) : Beh act CO lg R outs W (upd (upd H tt o) lg (.lst ls)) :=
  b.kept fun c o e z => by
    have n1 : c ≠ lg := fun y => z.elim (fun q => b.bas.wl (by rw [← y]; exact q)) (fun q => b.bas.rl (by rw [← y]; exact q))
    rw [upd_ne n1, upd_ne (ne_of_none e ht)]
    exact e
/-! ### kept -/
/-- the test is asked of x, and of what is drawn then -/
def KA (t : Tt) (n k : Nat) (Fc : Hp → Prop) (r fw : Addr) (Q : VK) (E : XK) : Nat → V → Hp → Prop
  | 0, _, _ => False
  | m + 1, x, H => Fc H ∧ t.does k fw [x] H (fun b H2 => ∃ c, b = .bl c ∧ if c = true then Q x H2 else Fc H2 ∧ spDraw t n [.ref r] H2 (fun x' H3 => KA t n k Fc r fw Q E m x' H3) E) E
def keptO (c : V → Bool) (ev : V → List V) : List (List V) → List Out → List Out
  | _, [] => []
  | acc, .item (.val x) e :: rest => if c x then .item (.val x) (acc ++ e ++ [ev x]) :: keptO c ev [] rest else keptO c ev (acc ++ e ++ [ev x]) rest
  | acc, .item _ e :: rest => []
  | acc, .over e :: rest => .over (acc ++ e) :: keptO c ev [] rest
/-- what is left to show of an act that began at W0, H0, ls0, by its outcomes -/
def Left (act : Act) (CO lg : Addr) (R : Ap) (W0 : Ap) (H0 : Hp) (ls0 : List V) (Q : VK) (E : XK) (goal : Prop) : List Out → Prop
  | [] => True
  | o :: rest => ls0.length + o.ev.length ≤ 900 → (∀ W' H' ls', Stp W0 W' lg H0 H' ls0 ls' o.ev → Beh act CO lg R rest W' H' → match o with | .item i _ => ∀ v, i.told lg W0 H0 W' H' v → Q v H' | .over _ => E (.ref CO) none H') → goal
end L2

set_option Elab.async false
set_option linter.all false
set_option maxRecDepth 100000
namespace L2
open PySem PySem.Spec PyProof.Rows
/-! ### defs and rows made -/
theorem Tab.same {H H' : Hp} {Pt : Addr} {pos : Pos} {q : Str} (h : Tab H Pt pos q) (s : Same H H') : Tab H' Pt pos q := by
  rcases h with z | ⟨c', z1, z2⟩
  · exact .inl (s _ _ z)
  · exact .inr ⟨c', s _ _ z1, s _ _ z2⟩
theorem Tab.is {H : Hp} {Pt : Addr} {pos : Pos} {q : Str} (h : Tab H Pt pos q) : ∃ ps, H Pt = some (.tbl ps) := by
  rcases h with z | ⟨_, z, _⟩
  · exact ⟨_, z⟩
  · exact ⟨_, z⟩
/-- code is kept -/
def KpC (H H' : Hp) : Prop := ∀ b o, H b = some o → isExt o = true → H' b = some o
theorem Tab.kp {H H' : Hp} {Pt : Addr} {pos : Pos} {q : Str} (h : Tab H Pt pos q) (s : KpC H H') : Tab H' Pt pos q := by
  rcases h with z | ⟨c', z1, z2⟩
  · exact .inl (s _ _ z rfl)
  · exact .inr ⟨c', s _ _ z1 rfl, s _ _ z2 rfl⟩
/-- a def was made at f, its table at Pt -/
structure DefM (H H' : Hp) (Pt : Addr) (pos : Pos) (q : Str) (f c' : Addr) (fd : FuncData) : Prop where
  kp : ∀ b o, H b = some o → b ≠ Pt → H' b = some o
  tab : Tab H' Pt pos q
  fn : H' f = some (cloO f fd)
  cd : H' c' = some (codO c' q)
  ff : H f = none
  live : ∀ b, H' b = none → H b = none
theorem DefM.of {H H' : Hp} {Pt : Addr} {pos : Pos} {q : Str} {f c' : Addr} {fd : FuncData} (hT : Tab H Pt pos q) (hf : H f = none) (hc : H c' = none ∨ H c' = some (codO c' q)) (eP : H' Pt = some (.tbl #[rawInt pos.line, rawInt pos.col, .ref c'])) (eC : H' c' = some (codO c' q)) (eF : H' f = some (cloO f fd))
    (eO : ∀ b, b ≠ Pt → b ≠ c' → b ≠ f → H' b = H b) : DefM H H' Pt pos q f c' fd := by
  have kp : ∀ b o, H b = some o → b ≠ Pt → H' b = some o := fun b o e hb => by
    by_cases h4 : b = c'
    · subst h4
      rcases hc with z | z
      · rw [e] at z; cases z
      · rw [e] at z; cases z; exact eC
    · rw [eO b hb h4 (ne_of_none e hf)]; exact e
  refine ⟨kp, .inr ⟨c', eP, eC⟩, eF, eC, hf, fun b z => ?_⟩
  cases e : H b with
  | none => rfl
  | some o =>
    by_cases hb : b = Pt
    · rw [hb, eP] at z; cases z
    · rw [kp b o e hb] at z; cases z
/-- a row was made at r, by the def at f -/
structure RowM (C : Addr) (H Hf : Hp) (Pt : Addr) (pos : Pos) (q : Str) (r f c' dx : Addr) (fd : FuncData) (cl : List (Str × Addr)) : Prop where
  kp : ∀ b o, H b = some o → b ≠ Pt → Hf b = some o
  tab : Tab Hf Pt pos q
  row : Hf r = some (.ins C dx (rowF f false))
  clo : CloAt Hf f fd c' q cl
  rn : H r = none
  ff : H f = none
  live : ∀ b, Hf b = none → H b = none
theorem RowM.of {C : Addr} {H H' : Hp} {Pt : Addr} {pos : Pos} {q : Str} {r f c' dx : Addr} {fd : FuncData} {cl : List (Str × Addr)} (hT : Tab H Pt pos q) (D : DefM H H' Pt pos q f c' fd) (hr : H' r = none) (hd : H' dx = none) (cs : ∀ p ∈ cl, ∃ v, H p.2 = some (.cel v)) (nd : (cl.map (·.2)).Nodup) :
    RowM C H (upd (upd H' dx (.own r)) r (.ins C dx (rowF f false))) Pt pos q r f c' dx fd cl := by
  have up : ∀ {b o}, H' b = some o → upd (upd H' dx (.own r)) r (.ins C dx (rowF f false)) b = some o := fun {b o} e => by
    rw [upd_ne (ne_of_none e hr), upd_ne (ne_of_none e hd)]; exact e
  obtain ⟨ps, hP⟩ := hT.is
  refine ⟨fun b o e n => up (D.kp b o e n), D.tab.same fun b o e => up e, upd_same, ⟨up D.fn, up D.cd, fun p hp => ?_, nd⟩, D.live r hr, D.ff, fun b z => ?_⟩
  · obtain ⟨v, e⟩ := cs p hp
    exact ⟨v, up (D.kp _ _ e (ne_of e hP (fun z => nomatch z)))⟩
  · cases e : H' b with
    | none => exact D.live b e
    | some o => rw [up e] at z; cases z
theorem RowM.keep {C : Addr} {H Hf : Hp} {Pt : Addr} {pos : Pos} {q : Str} {r f c' dx : Addr} {fd : FuncData} {cl : List (Str × Addr)} (m : RowM C H Hf Pt pos q r f c' dx fd cl) (hT : Tab H Pt pos q) {b : Addr} {o : HO} (e : H b = some o) (n : ∀ ps, o ≠ .tbl ps) : Hf b = some o := by
  obtain ⟨ps, hP⟩ := hT.is
  exact m.kp b o e (ne_of e hP (n ps))
/-! ### the law's numbers -/
/-- the law's numbers stand: a list of the mix, the script's copy, the place -/
structure HS (H : Hp) (p q : Addr) (len : Nat) : Prop where
  ex : ∃ (m i : Int) (ns : List Int), H p = some (.lst [.int m, .ref q, .int i]) ∧ H q = some (.lst (ns.map V.int)) ∧ ns.length = len
  lo : len ≤ 63
theorem HS.ne {H : Hp} {p q : Addr} {len : Nat} (h : HS H p q len) : p ≠ q := by
  obtain ⟨⟨m, i, ns, h1, h2, _⟩, _⟩ := h
  intro e
  rw [e, h2] at h1
  have h3 := HO.lst.inj (Option.some.inj h1)
  match ns, h3 with
  | [_, b, _], h3 =>
    have h4 : V.int b = V.ref q := (List.cons.inj (List.cons.inj h3).2).1
    cases h4
/-- all but p and q as it was -/
def But (p q : Addr) (H H' : Hp) : Prop := ∀ b o, H b = some o → b ≠ p → b ≠ q → H' b = some o
theorem HS.p {H : Hp} {p q : Addr} {len : Nat} (h : HS H p q len) : ∃ xs, H p = some (.lst xs) := let ⟨_, _, _, h1, _⟩ := h.ex; ⟨_, h1⟩
theorem HS.q {H : Hp} {p q : Addr} {len : Nat} (h : HS H p q len) : ∃ xs, H q = some (.lst xs) := let ⟨_, _, _, _, h1, _⟩ := h.ex; ⟨_, h1⟩
theorem But.free {H H' : Hp} {p q b : Addr} {len : Nat} (B : But p q H H') (S : HS H' p q len) (h : H' b = none) : H b = none := by
  cases e : H b with
  | none => rfl
  | some o =>
    obtain ⟨_, hp⟩ := S.p
    obtain ⟨_, hq⟩ := S.q
    rw [B b o e (ne_of_none hp h).symm (ne_of_none hq h).symm] at h
    cases h
theorem But.refl {p q : Addr} {H : Hp} : But p q H H := fun _ _ e _ _ => e
theorem But.trans {p q : Addr} {H H1 H2 : Hp} (a : But p q H H1) (b : But p q H1 H2) : But p q H H2 := fun c o e h1 h2 => b c o (a c o e h1 h2) h1 h2
theorem But.of {p q : Addr} {H H1 : Hp} (a : Same H H1) : But p q H H1 := fun b o e _ _ => a b o e
theorem HS.mono {H H' : Hp} {p q : Addr} {len : Nat} (h : HS H p q len) (hp : H' p = H p) (hq : H' q = H q) : HS H' p q len :=
  let ⟨m, i, ns, h1, h2, h3⟩ := h.ex; ⟨⟨m, i, ns, hp.trans h1, hq.trans h2, h3⟩, h.lo⟩
theorem HS.kept {H H' : Hp} {p q : Addr} {len : Nat} (h : HS H p q len) (k : ∀ b xs, H b = some (.lst xs) → b = p ∨ b = q → H' b = some (.lst xs)) : HS H' p q len :=
  let ⟨m, i, ns, h1, h2, h3⟩ := h.ex; ⟨⟨m, i, ns, k _ _ h1 (.inl rfl), k _ _ h2 (.inr rfl), h3⟩, h.lo⟩
theorem HS.same {H H' : Hp} {p q : Addr} {len : Nat} (h : HS H p q len) (k : Same H H') : HS H' p q len := h.kept fun b xs e _ => k _ _ e
theorem tYes_if {σ : St} {H : Hp} {T F : Hp → Prop} (h : T H) : tYes σ H fun b H3 => if b = true then T H3 else F H3 := by
  show (if true = true then T H else F H)
  rw [if_pos rfl]
  exact h

/-! ### what a law knows -/
/-- tables, the law's numbers, objects l, all beside W -/
structure Kn (T : List (Addr × Pos × Str)) (p q : Addr) (len : Nat) (l : List (Addr × HO)) (W : Ap) (H : Hp) : Prop where
  tb : ∀ x ∈ T, Tab H x.1 x.2.1 x.2.2
  tn : (T.map (·.1)).Nodup
  hs : HS H p q len
  np : ∀ x ∈ l, x.1 ≠ p ∧ x.1 ≠ q
  nd : (l.map (·.1)).Nodup
  ob : ∀ x ∈ l, H x.1 = some x.2 ∧ isExt x.2 = false ∧ ¬ W x.1
  wp : ¬ W p ∧ ¬ W q
  wt : Stands W H
section
variable {T : List (Addr × Pos × Str)} {p q : Addr} {len : Nat} {l : List (Addr × HO)} {W W' : Ap} {H H' : Hp} {a b : Addr} {o u : HO}
theorem Kn.get (K : Kn T p q len l W H) (i : Nat) (h : l[i]? = some (a, o)) : H a = some o := (K.ob _ (List.mem_of_getElem? h)).1
theorem Kn.out (K : Kn T p q len l W H) (i : Nat) (h : l[i]? = some (a, o)) : ¬ W a := (K.ob _ (List.mem_of_getElem? h)).2.2
theorem Kn.diff (K : Kn T p q len l W H) (i j : Nat) (hi : l[i]? = some (a, o)) (hj : l[j]? = some (b, u)) (n : i ≠ j) : a ≠ b := fun z => by
  have h1 : (l.map (·.1))[i]? = some a := by rw [List.getElem?_map, hi]; rfl
  have h2 : (l.map (·.1))[j]? = some a := by rw [List.getElem?_map, hj, z]; rfl
  have hl : i < (l.map (·.1)).length := (List.getElem?_eq_some_iff.mp h1).1
  exact n ((List.getElem?_inj hl K.nd).mp (h1.trans h2.symm))
theorem Kn.same (K : Kn T p q len l W H) (s : Same H H') : Kn T p q len l W H' :=
  ⟨fun x hx => (K.tb x hx).same s, K.tn, K.hs.same s, K.np, K.nd, fun x hx => ⟨s _ _ (K.ob x hx).1, (K.ob x hx).2⟩, K.wp, fun b z => (K.wt b z).imp fun o e => ⟨s _ _ e.1, e.2⟩⟩
theorem same_alloc (ha : H a = none) : Same H (upd H a o) := fun b u e => by rw [upd_ne (ne_of_none e ha)]; exact e
theorem Kn.cons (K : Kn T p q len l W H) (e : H a = some o) (no : isExt o = false) (nw : ¬ W a) (np : a ≠ p ∧ a ≠ q) (nl : ∀ x ∈ l, x.1 ≠ a) : Kn T p q len ((a, o) :: l) W H :=
  ⟨K.tb, K.tn, K.hs, fun x hx => (List.mem_cons.mp hx).elim (fun z => by rw [z]; exact np) (K.np x), List.nodup_cons.mpr ⟨fun z => by obtain ⟨x, hx, e⟩ := List.mem_map.mp z; exact nl x hx e, K.nd⟩,
    fun x hx => (List.mem_cons.mp hx).elim (fun z => by rw [z]; exact ⟨e, no, nw⟩) (K.ob x), K.wp, K.wt⟩
/-- something that was not there when the rest stood -/
theorem Kn.add (K : Kn T p q len l W H) (ha : H a = none) (s : Same H H') (e : H' a = some o) (no : isExt o = false) : Kn T p q len ((a, o) :: l) W H' := by
  refine (K.same s).cons e no (fun z => ?_) ⟨fun z => ?_, fun z => ?_⟩ fun x hx z => ?_
  · obtain ⟨o', e', _⟩ := K.wt a z
    rw [ha] at e'; cases e'
  · obtain ⟨_, e'⟩ := K.hs.p
    rw [← z, ha] at e'; cases e'
  · obtain ⟨_, e'⟩ := K.hs.q
    rw [← z, ha] at e'; cases e'
  · have := (K.ob x hx).1
    rw [z, ha] at this; cases this
theorem Kn.alloc (K : Kn T p q len l W H) (ha : H a = none) (no : isExt o = false := by rfl) : Kn T p q len ((a, o) :: l) W (upd H a o) := K.add ha (same_alloc ha) upd_same no
theorem Kn.tail {x : Addr × HO} (K : Kn T p q len (x :: l) W H) : Kn T p q len l W H :=
  ⟨K.tb, K.tn, K.hs, fun y hy => K.np y (.tail _ hy), (List.nodup_cons.mp K.nd).2, fun y hy => K.ob y (.tail _ hy), K.wp, K.wt⟩
theorem Kn.drop (K : Kn T p q len l W H) (n : Nat) : Kn T p q len (l.drop n) W H :=
  ⟨K.tb, K.tn, K.hs, fun y hy => K.np y (List.mem_of_mem_drop hy), by rw [List.map_drop]; exact (List.drop_sublist _ _).nodup K.nd, fun y hy => K.ob y (List.mem_of_mem_drop hy), K.wp, K.wt⟩
/-- the law draws numbers -/
theorem Kn.but (K : Kn T p q len l W H) (S : HS H' p q len) (B : But p q H H') : Kn T p q len l W H' := by
  obtain ⟨_, hp⟩ := K.hs.p
  obtain ⟨_, hq⟩ := K.hs.q
  refine ⟨fun x hx => (K.tb x hx).kp fun b o e z => B b o e (ne_of e hp fun y => by rw [y] at z; cases z) (ne_of e hq fun y => by rw [y] at z; cases z), K.tn, S, K.np, K.nd, fun x hx => ⟨B _ _ (K.ob x hx).1 (K.np x hx).1 (K.np x hx).2, (K.ob x hx).2⟩, K.wp, fun b z => ?_⟩
  obtain ⟨o, e, n⟩ := K.wt b z
  exact ⟨o, B b o e (fun y => K.wp.1 (by rw [← y]; exact z)) (fun y => K.wp.2 (by rw [← y]; exact z)), n⟩
theorem mem_set {l : List (Addr × HO)} {i : Nat} {a : Addr} {o : HO} {x : Addr × HO} (h : x ∈ l.set i (a, o)) : x = (a, o) ∨ ∃ j : Nat, j ≠ i ∧ l[j]? = some x := by
  obtain ⟨j, hj⟩ := List.mem_iff_getElem?.mp h
  by_cases n : i = j
  · subst n
    left
    rw [List.getElem?_set_self'] at hj
    cases q : l[i]? with
    | none => rw [q] at hj; cases hj
    | some y => rw [q] at hj; exact (Option.some.inj hj).symm
  · rw [List.getElem?_set_ne n] at hj
    exact .inr ⟨j, fun z => n z.symm, hj⟩
theorem map_set {l : List (Addr × HO)} {i : Nat} {a : Addr} {o o' : HO} (h : l[i]? = some (a, o)) : (l.set i (a, o')).map (·.1) = l.map (·.1) := by
  rw [List.map_set]
  refine List.ext_getElem? fun j => ?_
  by_cases n : i = j
  · subst n
    rw [List.getElem?_set_self', List.getElem?_map, h]
    rfl
  · rw [List.getElem?_set_ne n]
/-- one object is changed -/
theorem Kn.put (K : Kn T p q len l W H) (i : Nat) (h : l[i]? = some (a, o)) (no : isExt u = false := by rfl) : Kn T p q len (l.set i (a, u)) W (upd H a u) := by
  have ea := K.get i h
  have na := (K.ob _ (List.mem_of_getElem? h)).2
  obtain ⟨np, nq⟩ := K.np _ (List.mem_of_getElem? h)
  refine ⟨fun x hx => (K.tb x hx).kp fun b o' e z => by rw [upd_ne (ne_of e ea fun y => by rw [y] at z; rw [na.1] at z; cases z)]; exact e, K.tn, K.hs.mono (upd_ne np.symm) (upd_ne nq.symm), fun x hx => ?_, by rw [map_set h]; exact K.nd, fun x hx => ?_, K.wp, fun b z => ?_⟩
  · rcases mem_set hx with e | ⟨j, _, e⟩
    · rw [e]; exact ⟨np, nq⟩
    · exact K.np x (List.mem_of_getElem? e)
  · rcases mem_set hx with e | ⟨j, n, e⟩
    · rw [e]; exact ⟨upd_same, no, na.2⟩
    · obtain ⟨h1, h2⟩ := K.ob x (List.mem_of_getElem? e)
      refine ⟨?_, h2⟩
      obtain ⟨xa, xo⟩ := x
      rw [upd_ne (K.diff j i e h n)]
      exact h1
  · obtain ⟨o', e, n⟩ := K.wt b z
    exact ⟨o', by rw [upd_ne fun y => na.2 (by rw [← y]; exact z)]; exact e, n⟩
theorem Stp.kpc {lg : Addr} {ls ls' : List V} {ev : List (List V)} (wt : Stands W H) (hl : H lg = some (.lst ls)) (s : Stp W W' lg H H' ls ls' ev) : KpC H H' :=
  fun b o e z => s.keep b o e (fun y => by obtain ⟨o', e', n⟩ := wt b y; rw [e] at e'; cases e'; rw [n] at z; cases z) (ne_of e hl fun y => by rw [y] at z; cases z)
/-- a row's step, the log at i -/
theorem Kn.stp {lg : Addr} {ls ls' : List V} {ev : List (List V)} (K : Kn T p q len l W H) (i : Nat) (h : l[i]? = some (lg, .lst ls)) (s : Stp W W' lg H H' ls ls' ev) : Kn T p q len (l.set i (lg, .lst ls')) W' H' := by
  have ea := K.get i h
  obtain ⟨np, nq⟩ := K.np _ (List.mem_of_getElem? h)
  obtain ⟨_, hp⟩ := K.hs.p
  obtain ⟨_, hq⟩ := K.hs.q
  have kc : KpC H H' := fun b o e z => s.keep b o e (fun y => by obtain ⟨o', e', n⟩ := K.wt b y; rw [e] at e'; cases e'; rw [n] at z; cases z) (ne_of e ea fun y => by rw [y] at z; cases z)
  refine ⟨fun x hx => (K.tb x hx).kp kc, K.tn, K.hs.kept fun b xs e z => s.keep b _ e (z.elim (fun y => by rw [y]; exact K.wp.1) fun y => by rw [y]; exact K.wp.2) (z.elim (fun y => by rw [y]; exact np.symm) fun y => by rw [y]; exact nq.symm), fun x hx => ?_, by rw [map_set h]; exact K.nd, fun x hx => ?_, ⟨s.toExt.out hp K.wp.1, s.toExt.out hq K.wp.2⟩, s.there⟩
  · rcases mem_set hx with e | ⟨j, _, e⟩
    · rw [e]; exact ⟨np, nq⟩
    · exact K.np x (List.mem_of_getElem? e)
  · rcases mem_set hx with e | ⟨j, n, e⟩
    · rw [e]; exact ⟨s.log, rfl, s.toExt.out ea (K.out i h)⟩
    · obtain ⟨h1, h2, h3⟩ := K.ob x (List.mem_of_getElem? e)
      obtain ⟨xa, xo⟩ := x
      exact ⟨s.keep _ _ h1 h3 (K.diff j i e h n), h2, s.toExt.out h1 h3⟩
/-- a row is made -/
theorem Kn.made (K : Kn T p q len l W H) {Pt : Addr} {pos : Pos} {qu : Str} (hm : (Pt, pos, qu) ∈ T) (kp : ∀ b o, H b = some o → b ≠ Pt → H' b = some o) (tab : Tab H' Pt pos qu) : Kn T p q len l W H' := by
  have hT : Tab H Pt pos qu := K.tb _ hm
  obtain ⟨ps, hP⟩ := hT.is
  have ke : ∀ b o, H b = some o → isExt o = false → H' b = some o := fun b o e n => kp b o e (ne_of e hP fun y => by rw [y] at n; cases n)
  refine ⟨fun x hx => ?_, K.tn, K.hs.kept fun b xs e _ => ke _ _ e rfl, K.np, K.nd, fun x hx => ⟨ke _ _ (K.ob x hx).1 (K.ob x hx).2.1, (K.ob x hx).2⟩, K.wp, fun b z => (K.wt b z).imp fun o e => ⟨ke _ _ e.1 e.2, e.2⟩⟩
  by_cases n : x.1 = Pt
  · have : x = (Pt, pos, qu) := by
      obtain ⟨i, hi⟩ := List.mem_iff_getElem?.mp hx
      obtain ⟨j, hj⟩ := List.mem_iff_getElem?.mp hm
      have h1 : (T.map (·.1))[i]? = some Pt := by rw [List.getElem?_map, hi, ← n]; rfl
      have h2 : (T.map (·.1))[j]? = some Pt := by rw [List.getElem?_map, hj]; rfl
      have hl : i < (T.map (·.1)).length := (List.getElem?_eq_some_iff.mp h1).1
      have := (List.getElem?_inj hl K.tn).mp (h1.trans h2.symm)
      rw [this, hj] at hi
      exact (Option.some.inj hi).symm
    rw [this]
    exact tab
  · rcases K.tb x hx with z | ⟨c', z1, z2⟩
    · exact .inl (kp _ _ z n)
    · exact .inr ⟨c', kp _ _ z1 n, kp _ _ z2 (ne_of z2 hP fun y => nomatch y)⟩
/-- another W, of W and of what was not there -/
theorem Kn.own (K : Kn T p q len l W H) (st : Stands W' H) (k : ∀ b, W' b → W b ∨ ∀ o, H b = some o → (∀ x ∈ l, x.1 ≠ b) ∧ b ≠ p ∧ b ≠ q) : Kn T p q len l W' H := by
  obtain ⟨_, hp⟩ := K.hs.p
  obtain ⟨_, hq⟩ := K.hs.q
  exact ⟨K.tb, K.tn, K.hs, K.np, K.nd, fun x hx => ⟨(K.ob x hx).1, (K.ob x hx).2.1, fun z => (k _ z).elim (K.ob x hx).2.2 fun y => (y _ (K.ob x hx).1).1 x hx rfl⟩,
    ⟨fun z => (k _ z).elim K.wp.1 fun y => (y _ hp).2.1 rfl, fun z => (k _ z).elim K.wp.2 fun y => (y _ hq).2.2 rfl⟩, st⟩
end
/-! ### so many draws -/
/-- so many draws, each item kept in the list at l -/
def WI (t : Tt) (n : Nat) (r l : Addr) (Q : VK) : Nat → List V → Hp → Prop
  | 0, acc, H => H l = some (.lst acc) ∧ ∀ t, H t = none → Q (.ref t) (upd H t (.tup [.ref l, .bl false]))
  | j + 1, acc, H => H l = some (.lst acc) ∧ spDraw t n [.ref r] H (fun v H1 => H1 l = some (.lst acc) ∧ WI t n r l Q j (acc ++ [v]) (upd H1 l (.lst (acc ++ [v])))) fun cls _ H1 => cls = .ref t.CO ∧ H1 l = some (.lst acc) ∧ ∀ t, H1 t = none → Q (.ref t) (upd H1 t (.tup [.ref l, .bl true]))
theorem WI.l {t : Tt} {n : Nat} {r l : Addr} {Q : VK} {j : Nat} {acc : List V} {H : Hp} (h : WI t n r l Q j acc H) : H l = some (.lst acc) := by
  cases j with
  | zero => exact h.1
  | succ j => exact h.1
def spItems (t : Tt) (n : Nat) : Sp := fun vs H Q _ => ∃ (r : Addr) (j : Nat), vs = [.ref r, .int j] ∧ j ≤ 1000 ∧ ∀ l, H l = none → WI t n r l Q j [] (upd H l (.lst []))
/-- j draws of what comes: the items, whether it is over then, the notes, what comes then -/
inductive Drawn : Nat → List Out → List Itm → Bool → List (List V) → List Out → Prop
  | zero {outs} : Drawn 0 outs [] false [] outs
  | over {j e rest} : Drawn (j + 1) (.over e :: rest) [] true e rest
  | item {j i e rest is ov evs rest'} : Drawn j rest is ov evs rest' → Drawn (j + 1) (.item i e :: rest) (i :: is) ov (e ++ evs) rest'
inductive Ats (lg : Addr) (W : Ap) (H : Hp) : List Itm → List V → Prop
  | nil : Ats lg W H [] []
  | cons {i is v vs} : i.at lg W H v → Ats lg W H is vs → Ats lg W H (i :: is) (v :: vs)
theorem Ats.step {lg : Addr} {W W' : Ap} {H H' : Hp} (x : Ext W W' lg H H') : ∀ {is : List Itm} {vs : List V}, Ats lg W H is vs → Ats lg W' H' is vs
  | _, _, .nil => .nil
  | _, _, .cons a b => .cons (a.step x) (Ats.step x b)
end L2

set_option Elab.async false
set_option linter.all false
set_option maxRecDepth 100000
namespace L2
open PySem PySem.Spec PyProof.Rows
/-- where a closure stands -/
def cloR (f c' : Addr) (cl : List (Str × Addr)) : Ap := fun b => b = f ∨ b = c' ∨ b ∈ cl.map (·.2)
theorem CloAt.agree {H H1 : Hp} {f : Addr} {fd : FuncData} {c' : Addr} {q : Str} {cl : List (Str × Addr)} (h : CloAt H f fd c' q cl) (k : ∀ b, cloR f c' cl b → H1 b = H b) : CloAt H1 f fd c' q cl :=
  ⟨(k f (.inl rfl)).trans h.fn, (k c' (.inr (.inl rfl))).trans h.cd, fun p hp => by rw [k p.2 (.inr (.inr (List.mem_map.mpr ⟨p, hp, rfl⟩)))]; exact h.cs p hp, h.nd⟩
theorem CloAt.there {H : Hp} {f : Addr} {fd : FuncData} {c' : Addr} {q : Str} {cl : List (Str × Addr)} (h : CloAt H f fd c' q cl) {b : Addr} (z : cloR f c' cl b) : ∃ o, H b = some o ∧ ∀ ps, o ≠ .tbl ps := by
  rcases z with z | z | z
  · rw [z]; exact ⟨_, h.fn, fun _ y => nomatch y⟩
  · rw [z]; exact ⟨_, h.cd, fun _ y => nomatch y⟩
  · obtain ⟨p, hp, e⟩ := List.mem_map.mp z
    obtain ⟨v, e2⟩ := h.cs p hp
    rw [← e]; exact ⟨_, e2, fun _ y => nomatch y⟩
/-- .. code, or one of the cells -/
theorem CloAt.kind {H : Hp} {f : Addr} {fd : FuncData} {c' : Addr} {q : Str} {cl : List (Str × Addr)} (h : CloAt H f fd c' q cl) {b : Addr} (z : cloR f c' cl b) : (∃ o, H b = some o ∧ isExt o = true) ∨ b ∈ cl.map (·.2) := by
  rcases z with z | z | z
  · rw [z]; exact .inl ⟨_, h.fn, rfl⟩
  · rw [z]; exact .inl ⟨_, h.cd, rfl⟩
  · exact .inr z
/-- what is read by a tell around an inner row, at the making -/
theorem Xt.of {Rx W : Ap} {lg : Addr} {H : Hp} (th : ∀ b, Rx b → ∃ o, H b = some o ∧ ∀ ps, o ≠ .tbl ps) (nw : ∀ b, Rx b → ¬ W b) (nl : ¬ Rx lg) : Xt Rx W lg H H := ⟨fun _ _ => rfl, fun b z => (th b z).imp fun _ e => e.1, fun b z ps q => by obtain ⟨o, e, n⟩ := th b z; rw [q] at e; cases e; exact n ps rfl, nw, nl⟩
/-- what is read beside an inner row, around which a row is made: a closure over new cells, and a work's own -/
theorem Xt.made {t : Tt} {H H3 H' : Hp} {Pt : Addr} {pos : Pos} {qu : Str} {r f c' dx : Addr} {fd : FuncData} {cl : List (Str × Addr)} (M : RowM t.C H3 H' Pt pos qu r f c' dx fd cl) (hT : Tab H Pt pos qu) (s : Same H H3) {W Rw : Ap} {lg : Addr} {ls : List V} (hW : Stands W H) (hlg : H lg = some (.lst ls)) (hc : ∀ b ∈ cl.map (·.2), H b = none)
    (th : ∀ b, Rw b → ∃ o, H b = some o ∧ ∀ ps, o ≠ .tbl ps) (nw : ∀ b, Rw b → ¬ W b) (nl : ¬ Rw lg) : (∀ b, Rw b → H' b = H b) ∧ Xt (fun b => cloR f c' cl b ∨ Rw b) W lg H' H' := by
  have ke : ∀ b o, H b = some o → (∀ ps, o ≠ .tbl ps) → H' b = some o := fun b o e n => M.keep (hT.same s) (s _ _ e) n
  refine ⟨fun b z => by obtain ⟨o, e, n⟩ := th b z; rw [e]; exact ke b o e n, Xt.of (fun b z => ?_) (fun b z y => ?_) fun z => ?_⟩
  · rcases z with z | z
    · exact M.clo.there z
    · obtain ⟨o, e, n⟩ := th b z; exact ⟨o, ke b o e n, n⟩
  · rcases z with z | z
    · obtain ⟨o, e, n⟩ := hW b y
      rcases M.clo.kind z with ⟨o', e', x⟩ | e'
      · rw [ke b o e (fun ps q => by rw [q] at n; cases n)] at e'; cases e'; rw [x] at n; cases n
      · rw [hc b e'] at e; cases e
    · exact nw b z y
  · rcases z with z | z
    · rcases M.clo.kind z with ⟨o', e', x⟩ | e'
      · rw [ke lg _ hlg (fun _ q => nomatch q)] at e'; cases e'; cases x
      · rw [hc lg e'] at hlg; cases hlg
    · exact nl z
end L2

set_option Elab.async false
set_option linter.all false
set_option maxRecDepth 100000
namespace L2
open PySem PySem.Spec PyProof.Rows
/-- len, its reading named -/
abbrev rLenS (K : PySem.W.Frag) : List V → Hp → VK → Prop := fun xs H Q => ∃ p ys, xs = [V.ref p] ∧ (SqL K H p ys ∨ SqT K H p ys) ∧ Q (.int ys.length) H
/-- a thing without parts -/
def flatS : V → Bool
  | .non => true
  | .bl _ => true
  | .int _ => true
  | .str _ => true
  | _ => false
/-- two things of the same kinds and values, to n deep -/
def Alk (H : Hp) : Nat → V → V → Prop
  | 0, _, _ => False
  | n + 1, x, y => (x = y ∧ flatS x = true) ∨ ∃ (a b : Addr) (xs ys : List V), x = .ref a ∧ y = .ref b ∧ ((H a = some (.lst xs) ∧ H b = some (.lst ys)) ∨ (H a = some (.tup xs) ∧ H b = some (.tup ys))) ∧ xs.length = ys.length ∧ xs.length ≤ 1000 ∧
      ∀ (i : Nat) x y, xs[i]? = some x → ys[i]? = some y → Alk H n x y
theorem Alk.same {H H' : Hp} (s : Same H H') : ∀ {n : Nat} {x y : V}, Alk H n x y → Alk H' n x y
  | 0, _, _, h => h
  | n + 1, x, y, h => by
    rcases h with h | ⟨a, b, xs, ys, h1, h2, h3, h4, h5, h6⟩
    · exact .inl h
    · exact .inr ⟨a, b, xs, ys, h1, h2, h3.imp (fun z => ⟨s _ _ z.1, s _ _ z.2⟩) (fun z => ⟨s _ _ z.1, s _ _ z.2⟩), h4, h5, fun i x y e1 e2 => Alk.same s (h6 i x y e1 e2)⟩
theorem Alk.flat {H : Hp} {n : Nat} {x : V} (h : flatS x = true) : Alk H (n + 1) x x := .inl ⟨rfl, h⟩
/-- lists of the same things -/
theorem Alk.lst {H : Hp} {n : Nat} {a b : Addr} {xs : List V} (ha : H a = some (.lst xs)) (hb : H b = some (.lst xs)) (hl : xs.length ≤ 1000) (hf : ∀ x ∈ xs, flatS x = true) : Alk H (n + 2) (.ref a) (.ref b) :=
  .inr ⟨a, b, xs, xs, rfl, rfl, .inl ⟨ha, hb⟩, rfl, hl, fun i x y e1 e2 => by rw [e1] at e2; cases e2; exact Alk.flat (hf x (List.mem_of_getElem? e1))⟩
/-- pairs -/
theorem Alk.tup2 {H : Hp} {n : Nat} {a b : Addr} {x1 x2 y1 y2 : V} (ha : H a = some (.tup [x1, x2])) (hb : H b = some (.tup [y1, y2])) (h1 : Alk H n x1 y1) (h2 : Alk H n x2 y2) : Alk H (n + 1) (.ref a) (.ref b) :=
  .inr ⟨a, b, _, _, rfl, rfl, .inr ⟨ha, hb⟩, rfl, by show 2 ≤ 1000; decide, fun i x y e1 e2 => by
    match i, e1, e2 with
    | 0, e1, e2 => cases e1; cases e2; exact h1
    | 1, e1, e2 => cases e1; cases e2; exact h2⟩
/-! ### what is noted, as data -/
def evD (es : List (List Int)) : List PyData := es.map fun e => .tuple (e.map PyData.int)
theorem ints_lay : ∀ e : List Int, PyData.canLayAll0 (e.map PyData.int) = true ∧ PyData.depthAll (e.map PyData.int) = 0
  | [] => ⟨rfl, by simp [PyData.depthAll]⟩
  | x :: e => by
    obtain ⟨h1, h2⟩ := ints_lay e
    refine ⟨?_, ?_⟩
    · show (PyData.canLay0 (.int x) && PyData.canLayAll0 (e.map PyData.int)) = true
      rw [h1]; rfl
    · show max (PyData.depth (.int x)) (PyData.depthAll (e.map PyData.int)) = 0
      rw [h2]; rfl
theorem evD_lay : ∀ es : List (List Int), PyData.canLayAll0 (evD es) = true ∧ PyData.depthAll (evD es) ≤ 1
  | [] => ⟨rfl, by decide⟩
  | e :: es => by
    obtain ⟨h1, h2⟩ := evD_lay es
    obtain ⟨g1, g2⟩ := ints_lay e
    refine ⟨?_, ?_⟩
    · show (PyData.canLay0 (.tuple (e.map PyData.int)) && PyData.canLayAll0 (evD es)) = true
      rw [h1, PyData.canLay0, g1]; rfl
    · show max (PyData.depth (.tuple (e.map PyData.int))) (PyData.depthAll (evD es)) ≤ 1
      rw [PyData.depth, g2]
      omega
theorem evD_shaped (es : List (List Int)) : SeqAt.shaped (.list (evD es)) = true := by
  obtain ⟨h1, h2⟩ := evD_lay es
  unfold SeqAt.shaped
  have e1 : PyData.canLay0 (.list (evD es)) = true := by rw [PyData.canLay0]; exact h1
  have e2 : PyData.depth (.list (evD es)) ≤ 64 := by rw [PyData.depth]; omega
  rw [e1, decide_eq_true e2]
  rfl
/-- the list holds these tuples -/
def Logs (H : Hp) (ls : List V) (es : List (List Int)) : Prop := ∃ ts : List Addr, ls = ts.map V.ref ∧ Evs H ts (es.map fun e => e.map V.int)
theorem Logs.nil {H : Hp} : Logs H [] [] := ⟨[], rfl, Evs.nil⟩
theorem Logs.len {H : Hp} {ls : List V} {es : List (List Int)} (h : Logs H ls es) : ls.length = es.length := by
  obtain ⟨ts, rfl, h⟩ := h
  rw [List.length_map, h.1, List.length_map]
theorem Logs.kp {H H' : Hp} {ls : List V} {es : List (List Int)} (h : Logs H ls es) (k : ∀ b xs, H b = some (.tup xs) → H' b = some (.tup xs)) : Logs H' ls es := by
  obtain ⟨ts, e, h⟩ := h
  exact ⟨ts, e, h.kp fun t ht o q => by obtain ⟨x, y⟩ := h.there ht; rw [q] at y; cases y; exact k _ _ q⟩
theorem Logs.one {H : Hp} {ls : List V} {es : List (List Int)} {t : Addr} {e : List Int} (h : Logs H ls es) (ht : H t = some (.tup (e.map V.int))) : Logs H (ls ++ [.ref t]) (es ++ [e]) := by
  obtain ⟨ts, e1, h⟩ := h
  refine ⟨ts ++ [t], by rw [e1]; simp, ?_⟩
  rw [List.map_append]
  exact h.app ⟨rfl, fun i u e' h1 h2 => by
    match i, h1, h2 with
    | 0, h1, h2 => cases h1; cases h2; exact ht⟩
/-- .. beside W and the log -/
def Lg (lg : Addr) (W : Ap) (H : Hp) (ls : List V) (es : List (List Int)) : Prop := ∃ ts : List Addr, ls = ts.map V.ref ∧ Evs H ts (es.map fun e => e.map V.int) ∧ ∀ t ∈ ts, ¬ W t ∧ t ≠ lg
theorem Lg.nil {lg : Addr} {W : Ap} {H : Hp} : Lg lg W H [] [] := ⟨[], rfl, Evs.nil, fun t h => absurd h List.not_mem_nil⟩
theorem Lg.logs {lg : Addr} {W : Ap} {H : Hp} {ls : List V} {es : List (List Int)} (h : Lg lg W H ls es) : Logs H ls es := let ⟨ts, h1, h2, _⟩ := h; ⟨ts, h1, h2⟩
theorem Lg.kp {lg : Addr} {W : Ap} {H H' : Hp} {ls : List V} {es : List (List Int)} (h : Lg lg W H ls es) (k : ∀ b xs, H b = some (.tup xs) → H' b = some (.tup xs)) : Lg lg W H' ls es := by
  obtain ⟨ts, e, h, h3⟩ := h
  exact ⟨ts, e, h.kp fun t ht o q => by obtain ⟨x, y⟩ := h.there ht; rw [q] at y; cases y; exact k _ _ q, h3⟩
theorem Lg.same {lg : Addr} {W : Ap} {H H' : Hp} {ls : List V} {es : List (List Int)} (h : Lg lg W H ls es) (k : Same H H') : Lg lg W H' ls es := h.kp fun b xs e => k _ _ e
/-- a row's step: what was noted stays, what it notes comes behind -/
theorem Lg.stp {W W' : Ap} {lg : Addr} {H H' : Hp} {ls ls' : List V} {ev : List (List V)} {es fs : List (List Int)} (h : Lg lg W H ls es) (s : Stp W W' lg H H' ls ls' ev) (ef : ev = fs.map fun e => e.map V.int) : Lg lg W' H' ls' (es ++ fs) := by
  obtain ⟨ts, h1, h2, h3⟩ := s.ex
  obtain ⟨us, e1, g, g3⟩ := h
  refine ⟨us ++ ts, by rw [h1, e1]; simp, ?_, fun t ht => ?_⟩
  · rw [List.map_append, ← ef]
    exact (g.kp fun t ht o q => s.keep t o q (g3 t ht).1 (g3 t ht).2).app h2
  · rcases List.mem_append.mp ht with z | z
    · obtain ⟨x, y⟩ := g.there z
      exact ⟨s.toExt.out y (g3 t z).1, (g3 t z).2⟩
    · exact (h3 t z).2
theorem dp_ints {K : PySem.W.Frag} {H : Hp} : ∀ e : List Int, DpAll K H (e.map V.int) (e.map PyData.int)
  | [] => .nil
  | x :: e => .cons (.int x) (dp_ints e)
theorem Logs.dp {K : PySem.W.Frag} {H : Hp} : ∀ {ls : List V} {es : List (List Int)}, Logs H ls es → DpAll K H ls (evD es)
  | ls, [], h => by
    have := h.len
    cases ls with
    | nil => exact .nil
    | cons _ _ => simp at this
  | ls, e :: es, h => by
    obtain ⟨ts, rfl, h⟩ := h
    cases ts with
    | nil => have := h.1; simp at this
    | cons t ts =>
      refine .cons (.tup (SqT.of (h.2 0 t _ rfl rfl)) (dp_ints e)) (Logs.dp ⟨ts, rfl, by have := h.1; simpa using this, fun i u x h1 h2 => h.2 (i + 1) u x (by simpa using h1) (by simpa using h2)⟩)
/-- numbers are drawn, a list is made of them -/
theorem Kn.butAdd {T : List (Addr × Pos × Str)} {p q : Addr} {len : Nat} {l : List (Addr × HO)} {W : Ap} {H H' : Hp} {a : Addr} {o : HO} (K : Kn T p q len l W H) (ha : H a = none) (S : HS H' p q len) (B : But p q H H') (e : H' a = some o) (no : isExt o = false := by rfl) : Kn T p q len ((a, o) :: l) W H' := by
  refine (K.but S B).cons e no (fun z => ?_) ⟨fun z => ?_, fun z => ?_⟩ fun x hx z => ?_
  · obtain ⟨o', e', _⟩ := K.wt a z
    rw [ha] at e'; cases e'
  · obtain ⟨_, e'⟩ := K.hs.p
    rw [← z, ha] at e'; cases e'
  · obtain ⟨_, e'⟩ := K.hs.q
    rw [← z, ha] at e'; cases e'
  · have := (K.ob x hx).1
    rw [z, ha] at this; cases this
theorem Kn.start {T : List (Addr × Pos × Str)} {p q : Addr} {len : Nat} {H : Hp} (ht : ∀ x ∈ T, Tab H x.1 x.2.1 x.2.2) (tn : (T.map (·.1)).Nodup) (hs : HS H p q len) : Kn T p q len [] (fun _ => False) H :=
  ⟨ht, tn, hs, fun x hx => absurd hx List.not_mem_nil, List.nodup_nil, fun x hx => absurd hx List.not_mem_nil, ⟨id, id⟩, fun b z => z.elim⟩
/-- a test's answers -/
def ccB (as : List Bool) : V → Bool
  | .int z => (as[(z % (as.length : Int)).toNat]?).getD false
  | _ => false
theorem cutV_to (xs : List V) (k : Nat) : cutV xs none (some (k : Int)) = xs.take k := by
  unfold cutV
  rw [HT.sIx_none, HT.sIx_nat, List.drop_zero, Nat.sub_zero]
  by_cases h : k ≤ xs.length
  · rw [Nat.min_eq_left h]
  · rw [Nat.min_eq_right (by omega), List.take_of_length_le (Nat.le_refl _), List.take_of_length_le (by omega)]
/-! ### kept, over a list -/
theorem WrkB.congr {t : Tt} {k : Nat} {fw lg : Addr} {Rx : Ap} {H0 : Hp} {dom : V → Prop} {ans ans' : V → V} {ev : V → List V} (h : WrkB t k fw lg Rx H0 dom ans ev) (e : ∀ x, dom x → ans x = ans' x) : WrkB t k fw lg Rx H0 dom ans' ev :=
  fun H1 ls x Q E a hl hn dx post => h H1 ls x Q E a hl hn dx fun tt ht => by rw [e x dx]; exact post tt ht
end L2

set_option Elab.async false
set_option linter.all false
set_option maxRecDepth 100000
namespace L2
open PySem PySem.Spec PyProof.Rows
/-! ### until -/
def untilO (c : V → Bool) (ev : V → List V) : Out → Out
  | .item (.val x) e => if c x then .item (.val x) (e ++ [ev x]) else .over (e ++ [ev x])
  | .item _ e => .over e
  | .over e => .over e
/-! ### a cell of one's own beside an inner row -/
theorem cellSt {cb : Addr} {H : Hp} {v : Option V} (h : H cb = some (.cel v)) : Stands (fun b => b = cb) H := fun b z => by rw [z]; exact ⟨_, h, rfl⟩
/-! ### past -/
/-- what is drawn, the test asked of it as long as nothing is told -/
def PA' (t : Tt) (n k : Nat) (Fc : Hp → Prop) (cb r fw : Addr) (Q : VK) (E : XK) : Nat → V → Hp → Prop
  | 0, _, _ => False
  | m + 1, x, H => Fc H ∧ ∃ b, H cb = some (.cel (some (.bl b))) ∧ if b = true then Q x (upd H cb (.cel (some (.bl true)))) else t.does k fw [x] H (fun v H2 => ∃ c, v = .bl c ∧ if c = true then Fc H2 ∧ spDraw t n [.ref r] H2 (fun x' H3 => PA' t n k Fc cb r fw Q E m x' H3) E else ∃ w, H2 cb = some (.cel w) ∧ Q x (upd H2 cb (.cel (some (.bl true))))) E
def pastO (c : V → Bool) (ev : V → List V) : Bool → List (List V) → List Out → List Out
  | _, _, [] => []
  | true, acc, .item i e :: rest => .item i (acc ++ e) :: pastO c ev true [] rest
  | false, acc, .item (.val x) e :: rest => if c x then pastO c ev false (acc ++ e ++ [ev x]) rest else .item (.val x) (acc ++ e ++ [ev x]) :: pastO c ev true [] rest
  | false, acc, .item _ e :: rest => []
  | b, acc, .over e :: rest => .over (acc ++ e) :: pastO c ev b [] rest
theorem Bas.cell {R W : Ap} {lg cb : Addr} {H : Hp} {v : Option V} (B : Bas R W lg H) (h : H cb = some (.cel v)) (nl : cb ≠ lg) (nr : ¬ R cb) : Bas R (fun b => W b ∨ b = cb) lg H :=
  ⟨fun b z => z.elim (B.wt b) (cellSt h b), B.rt, B.rn, fun b z y => y.elim (B.rw b z) fun e => nr (by rw [← e]; exact z), fun z => z.elim B.wl fun e => nl e.symm, B.rl⟩
theorem Xt.sub {Rx Rx' W : Ap} {lg : Addr} {H0 H : Hp} (h : Xt Rx W lg H0 H) (k : ∀ b, Rx' b → Rx b) : Xt Rx' W lg H0 H := ⟨fun b z => h.eq b (k b z), fun b z => h.th b (k b z), fun b z => h.nt b (k b z), fun b z => h.nw b (k b z), fun z => h.nl (k _ z)⟩
end L2

set_option Elab.async false
set_option linter.all false
set_option maxRecDepth 100000
namespace L2
open PySem PySem.Spec PyProof.Rows
/-! ### the first of which a test isn't True -/
def fstF (c : V → Bool) : List V → Nat
  | [] => 0
  | y :: ys => if c y then fstF c ys + 1 else 0
/-! ### a law's own look: the places of which something holds -/
def dueP (c : Nat → Bool) (j : Nat) : List V := ((List.range j).filter c).map (fun (t : Nat) => V.int (t : Int))
end L2

set_option Elab.async false
set_option linter.all false
set_option maxRecDepth 100000
namespace L2
open PySem PySem.Spec PyProof.Rows
/-! ### tuples are kept -/
def KpT (H H' : Hp) : Prop := ∀ b xs, H b = some (.tup xs) → H' b = some (.tup xs)
theorem KpT.trans {H H1 H2 : Hp} (a : KpT H H1) (b : KpT H1 H2) : KpT H H2 := fun c xs e => b c xs (a c xs e)
theorem KpT.same {H H' : Hp} (s : Same H H') : KpT H H' := fun b xs e => s _ _ e
theorem KpT.stp {W W' : Ap} {lg : Addr} {H H' : Hp} {ls ls' : List V} {ev : List (List V)} (wt : Stands W H) (hl : H lg = some (.lst ls)) (s : Stp W W' lg H H' ls ls' ev) : KpT H H' := fun b xs e => Stp.kpc wt hl s _ _ e rfl
theorem KpT.row {C : Addr} {H Hf : Hp} {Pt : Addr} {pos : Pos} {q : Str} {r f c' dx : Addr} {fd : FuncData} {cl : List (Str × Addr)} (m : RowM C H Hf Pt pos q r f c' dx fd cl) (hT : Tab H Pt pos q) : KpT H Hf := fun b xs e => m.keep hT e fun _ z => nomatch z
theorem KpT.fn {H H' : Hp} {Pt : Addr} {pos : Pos} {q : Str} {f c' : Addr} {fd : FuncData} (D : DefM H H' Pt pos q f c' fd) (hT : Tab H Pt pos q) : KpT H H' := fun b xs e => by
  obtain ⟨ps, hP⟩ := hT.is
  exact D.kp b _ e (ne_of e hP fun z => nomatch z)
theorem KpT.put {H : Hp} {a : Addr} {xs : List V} {o : HO} (ha : H a = some (.lst xs)) : KpT H (upd H a o) := fun b ys e => by
  rw [upd_ne (ne_of e ha fun z => nomatch z)]; exact e
theorem KpT.but {p q : Addr} {len : Nat} {H H' : Hp} (S : HS H p q len) (B : But p q H H') : KpT H H' := fun b xs e => by
  obtain ⟨_, hp⟩ := S.p
  obtain ⟨_, hq⟩ := S.q
  exact B b _ e (ne_of e hp fun z => nomatch z) (ne_of e hq fun z => nomatch z)
theorem Logs.kpt {H H' : Hp} {ls : List V} {es : List (List Int)} (h : Logs H ls es) (k : KpT H H') : Logs H' ls es := h.kp k
end L2

set_option Elab.async false
set_option linter.all false
set_option maxRecDepth 100000
namespace L2
open PySem PySem.Spec PyProof.Rows
/-! ### list(range(..)) -/
def rangeV (a c : Int) (n : Nat) : List V := (List.range n).map fun (i : Nat) => V.int (a + i * c)
section
variable {X : Cx} {pos : Pos}
def tLR1 (ta : TA) : TE := fun σ H Q => ta σ H fun vs H1 => ∃ j : Int, vs = [.int j] ∧ 0 ≤ j ∧ j ≤ 1000000 ∧ ∀ l, H1 l = none → Q (.ref l) (upd H1 l (.lst (rangeV 0 1 j.toNat)))
def tLR2 (ta : TA) : TE := fun σ H Q => ta σ H fun vs H1 => ∃ i j : Int, vs = [.int i, .int j] ∧ -1000000000 ≤ i ∧ i ≤ j ∧ j - i ≤ 1000000 ∧ j ≤ 1000000000 ∧ ∀ l, H1 l = none → Q (.ref l) (upd H1 l (.lst (rangeV i 1 (j - i).toNat)))
end
end L2

set_option Elab.async false
set_option linter.all false
set_option maxRecDepth 100000
namespace L2
open PySem PySem.Spec PyProof.Rows
/-! ### rows around a row, whatever their cells -/
/-- new cells with these values -/
structure CelM (H H3 : Hp) (cs : List (Addr × V)) : Prop where
  same : Same H H3
  new : ∀ x ∈ cs, H x.1 = none
  has : ∀ x ∈ cs, H3 x.1 = some (.cel (some x.2))
  nd : (cs.map (·.1)).Nodup
theorem CelM.mem {H H3 : Hp} {cs : List (Addr × V)} (h : CelM H H3 cs) {b : Addr} (z : b ∈ cs.map (·.1)) : H b = none ∧ ∃ v, H3 b = some (.cel (some v)) := by
  obtain ⟨x, hx, rfl⟩ := List.mem_map.mp z
  exact ⟨h.new x hx, x.2, h.has x hx⟩
/-! ### taken -/
def takenO : Nat → List Out → List Out
  | 0, _ => [.over []]
  | _ + 1, [] => []
  | k + 1, .item i e :: rest => .item i e :: takenO k rest
  | k + 1, .over e :: rest => .over e :: takenO (k + 1) rest
/-! ### skipped -/
def SA (t : Tt) (n : Nat) (Fc : Hp → Prop) (cb r : Addr) (many : Int) (Q : VK) (E : XK) : Nat → Hp → Prop
  | 0, _ => False
  | m + 1, H => Fc H ∧ ∃ j, H cb = some (.cel (some (.int j))) ∧ if j < many then spDraw t n [.ref r] H (fun _ H2 => H2 cb = some (.cel (some (.int j))) ∧ SA t n Fc cb r many Q E m (upd H2 cb (.cel (some (.int (j + 1)))))) E else spDraw t n [.ref r] H Q E
def skipO : Nat → List (List V) → List Out → List Out
  | _, _, [] => []
  | 0, acc, .item i e :: rest => .item i (acc ++ e) :: skipO 0 [] rest
  | k + 1, acc, .item _ e :: rest => skipO k (acc ++ e) rest
  | k, acc, .over e :: rest => .over (acc ++ e) :: skipO k [] rest
/-! ### so many items, then over -/
def seqO (xs : List (Itm × List (List V))) (e : List (List V)) (k : Nat) : List Out := xs.map (fun x => Out.item x.1 x.2) ++ (.over e :: List.replicate k (.over []))
def evsO (xs : List (Itm × List (List V))) : List (List V) := xs.flatMap (·.2)
end L2

set_option Elab.async false
set_option linter.all false
set_option maxRecDepth 100000
namespace L2
open PySem PySem.Spec PyProof.Rows
/-! ### defs with default values -/
structure FunD (K : PySem.W.Frag) (x qual : Str) (st : Stmt) (f : Addr) (fd : FuncData) : Prop where
  ex : ∃ (oc : Value) (od : Option Addr) (dV kV doc pm : Value) (an : Option Addr) (cdv ct : Value) (osl : Array (Option Value)),
    fd = PySem.W.fnOf x qual (defArgs st) (defBody st) (defScope st) dV kV doc pm an cdv ct ∧ K.lookup f = some ⟨oc, od, .func fd, osl⟩ ∧ PySem.W.codeIn K cdv qual = true
  kp : PySem.W.keepIn K (.ref f) = true
section
variable {P : Program} {w : World} {K : PySem.W.Frag} {mg : Str → Option Value} {base : Heap}
theorem FunD.okC {x qual : Str} {st : Stmt} {f : Addr} {fd : FuncData} {N ps : List Str} {k : Nat} {sp : Sp} (F : FunD K x qual st f fd) (S : FnScopeC N ps (defScope st)) (len : ∀ vs H Q E, sp vs H Q E → vs.length = ps.length)
    (hbody : ∀ (cdv : Value) (A : Around) (outer : List Env) (s : Shared) (H : Hp) (vs : List V) (Q : VK) (E : XK), fd.code = cdv → Room k (A.deeper (envOfC qual (defScope st) s.heap.objs.size f cdv)) → sp vs H Q E → (∀ a, s.heap.objs.size ≤ a → H a = none) →
      ∃ t, PSs (cxE (CXo P w) P w K mg base N (envOfC qual (defScope st) s.heap.objs.size f cdv) A outer s H E ((cellsFrom (s.heap.objs.size + 1) (defScope st).names []).map (·.2))) (defBody st) t ∧
        t { nx := fun _ H' => Q .non H', rt := Q } (startC N ps vs) (Hcel (fun x => (ps.zip vs).lookup x) (cellsFrom (s.heap.objs.size + 1) (defScope st).names []) H)) : FnOk P w K mg base (CXo P w) (k + 1) f fd ps sp := by
  obtain ⟨oc, od, dV, kV, doc, pm, an, cdv, ct, osl, rfl, lk, hcd⟩ := F.ex
  exact fn_ofC lk hcd S len fun A outer s H vs Q E hr hsp hfr => hbody cdv A outer s H vs Q E rfl hr hsp hfr
end
/-! ### numbered -/
def numO : Int → List Out → List Out
  | _, [] => []
  | n, .item (.val x) e :: rest => .item (.tup [.int n, x]) e :: numO (n + 1) rest
  | _, .item _ _ :: _ => []
  | n, .over e :: rest => .over e :: numO n rest
/-! ### scanned -/
/-- a work of two things that notes what it is handed -/
def WrkB2 (t : Tt) (k : Nat) (fw lg : Addr) (Rx : Ap) (H0 : Hp) (dom : V → Prop) (ans : V → V → V) (ev : V → V → List V) : Prop := ∀ (H1 : Hp) (ls : List V) (x y : V) (Q : VK) (E : XK), (∀ b, Rx b → H1 b = H0 b) → H1 lg = some (.lst ls) → ls.length + 1 ≤ 900 → dom x → dom y →
  (∀ tt, H1 tt = none → Q (ans x y) (upd (upd H1 tt (.tup (ev x y))) lg (.lst (ls ++ [.ref tt])))) → t.does k fw [x, y] H1 Q E
def scanO (g : V → V → V) (ev : V → V → List V) : V → List Out → List Out
  | _, [] => []
  | last, .item (.val x) e :: rest => .item (.val (g last x)) (e ++ [ev last x]) :: scanO g ev (g last x) rest
  | _, .item _ _ :: _ => []
  | last, .over e :: rest => .over e :: scanO g ev last rest
/-- two lists of the same tuples of numbers -/
theorem Alk.logs {H : Hp} {a b : Addr} {ls ds : List V} {es : List (List Int)} (ha : H a = some (.lst ls)) (hb : H b = some (.lst ds)) (La : Logs H ls es) (Lb : Logs H ds es) (hl : es.length ≤ 900) (he : ∀ e ∈ es, e.length ≤ 900) : Alk H 3 (.ref a) (.ref b) := by
  have l1 := La.len
  have l2 := Lb.len
  refine .inr ⟨a, b, ls, ds, rfl, rfl, .inl ⟨ha, hb⟩, by omega, by omega, fun i x y e1 e2 => ?_⟩
  obtain ⟨ts, rfl, E1⟩ := La
  obtain ⟨us, rfl, E2⟩ := Lb
  rw [List.getElem?_map] at e1 e2
  cases q1 : ts[i]? with
  | none => rw [q1] at e1; cases e1
  | some t =>
    cases q2 : us[i]? with
    | none => rw [q2] at e2; cases e2
    | some u =>
      rw [q1] at e1; cases e1
      rw [q2] at e2; cases e2
      have hi : i < es.length := by have := (List.getElem?_eq_some_iff.mp q1).1; rw [List.length_map] at l1; omega
      have q3 : (es.map fun e => e.map V.int)[i]? = some (es[i].map V.int) := by rw [List.getElem?_map, List.getElem?_eq_getElem hi]; rfl
      have h1 := E1.2 i t _ q1 q3
      have h2 := E2.2 i u _ q2 q3
      refine .inr ⟨t, u, _, _, rfl, rfl, .inr ⟨h1, h2⟩, rfl, by rw [List.length_map]; have := he _ (List.getElem_mem hi); omega, fun j x y e1 e2 => ?_⟩
      rw [e1] at e2
      cases e2
      rw [List.getElem?_map] at e1
      cases q4 : es[i][j]? with
      | none => rw [q4] at e1; cases e1
      | some z => rw [q4] at e1; cases e1; exact Alk.flat rfl
/-- the row itself, of a row that will do something -/
theorem Beh.row {t : Tt} {n : Nat} {lg r : Addr} {R W : Ap} {H : Hp} {o : Out} {rest : List Out} {ls : List V} (h : Beh (spDraw t n [.ref r]) t.CO lg R (o :: rest) W H) (hl : H lg = some (.lst ls)) (hn : ls.length + o.ev.length ≤ 900) : ∃ dx fs, H r = some (.ins t.C dx fs) ∧ fs.lookup ("draw" : Str) = none :=
  spDraw_row (h.2 H ls (fun _ _ => True) (fun _ _ _ => True) (fun _ _ => rfl) hl hn fun W' H' ls' s b => by cases o <;> first | exact fun _ _ => trivial | trivial)
theorem Ats.logs {lg : Addr} {W : Ap} {H : Hp} : ∀ {es : List (List Int)} {vs : List V}, Ats lg W H (es.map fun e => Itm.tup (e.map V.int)) vs → Logs H vs es
  | [], _, .nil => Logs.nil
  | e :: es, _, .cons a b => by
    obtain ⟨c, rfl, hc, _⟩ := a
    obtain ⟨ts, rfl, h⟩ := Ats.logs b
    refine ⟨c :: ts, rfl, ?_⟩
    exact (show Evs H [c] [e.map V.int] from ⟨rfl, fun i u e' h1 h2 => by
      match i, h1, h2 with
      | 0, h1, h2 => cases h1; cases h2; exact hc⟩).app h
/-! ### items of numbered, scanned, over items -/
def numL : Int → List Int → List (Itm × List (List V))
  | _, [] => []
  | n, x :: l => (.tup [.int n, .int x], []) :: numL (n + 1) l
end L2

set_option Elab.async false
set_option linter.all false
set_option maxRecDepth 100000
namespace L2
open PySem PySem.Spec PyProof.Rows
/-! ### texts: strip of blanks, split and join -/
section
variable {X : Cx}
end
/-- without blanks at both ends -/
def bareL (l : List Nat) : List Nat := ((l.dropWhile (· == 32)).reverse.dropWhile (· == 32)).reverse
def bareS (z : Str) : Str := ⟨(bareL z.cps.toList).toArray⟩
def jl (c : Nat) : List (List Nat) → List Nat
  | [] => []
  | [x] => x
  | x :: y :: r => x ++ c :: jl c (y :: r)
end L2

set_option Elab.async false
set_option linter.all false
set_option maxRecDepth 100000
namespace L2
open PySem PySem.Spec PyProof.Rows
/-! ### several rows beside one another -/
/-- two rows, none of which touches what the other leans on -/
structure Apart (W1 R1 W2 R2 : Ap) : Prop where
  ww : ∀ b, W1 b → ¬ W2 b
  wr : ∀ b, W1 b → ¬ R2 b
  rw : ∀ b, R1 b → ¬ W2 b
theorem Apart.symm {W1 R1 W2 R2 : Ap} (h : Apart W1 R1 W2 R2) : Apart W2 R2 W1 R1 := ⟨fun b z y => h.ww b y z, fun b z y => h.rw b y z, fun b z y => h.wr b y z⟩
theorem Apart.step {W1 W1' R1 W2 R2 : Ap} {lg : Addr} {H H' : Hp} (h : Apart W1 R1 W2 R2) (x : Ext W1 W1' lg H H') (B : Bas R2 W2 lg H) : Apart W1' R1 W2 R2 :=
  ⟨fun b z y => by obtain ⟨o, e, _⟩ := B.wt b y; exact x.out e (fun q => h.ww b q y) z, fun b z y => by obtain ⟨o, e⟩ := B.rt b y; exact x.out e (fun q => h.wr b q y) z, h.rw⟩
/-- the other goes on where one has stepped -/
theorem Beh.beside {act : Act} {CO lg : Addr} {R1 R2 W1 W1' W2 : Ap} {outs : List Out} {H H' : Hp} (b : Beh act CO lg R2 outs W2 H) (x : Ext W1 W1' lg H H') (h : Apart W1 R1 W2 R2) : Beh act CO lg R2 outs W2 H' :=
  b.kept fun c o e z => x.keep c o e (fun q => z.elim (h.ww c q) (h.wr c q)) (fun y => z.elim (fun q => b.bas.wl (by rw [← y]; exact q)) (fun q => b.bas.rl (by rw [← y]; exact q)))
theorem Bas.two {R1 R2 W1 W2 : Ap} {lg : Addr} {H : Hp} (A : Bas R1 W1 lg H) (B : Bas R2 W2 lg H) (h : Apart W1 R1 W2 R2) : Bas (fun b => R1 b ∨ R2 b) (fun b => W1 b ∨ W2 b) lg H :=
  ⟨fun b z => z.elim (A.wt b) (B.wt b), fun b z => z.elim (A.rt b) (B.rt b), fun b z => z.elim (A.rn b) (B.rn b), fun b z y => z.elim (fun z => y.elim (A.rw b z) (h.rw b z)) (fun z => y.elim (fun y => h.wr b y z) (B.rw b z)), fun z => z.elim A.wl B.wl, fun z => z.elim A.rl B.rl⟩
/-! ### pairs -/
def pairO : List Out → List Out → List Out
  | [], _ => []
  | .over e :: r1, o2 => .over e :: pairO r1 o2
  | .item (.val x) e :: r1, .item (.val y) e2 :: r2 => .item (.tup [x, y]) (e ++ e2) :: pairO r1 r2
  | .item (.val _) e :: r1, .over e2 :: r2 => .over (e ++ e2) :: pairO r1 r2
  | .item (.val _) _ :: _, .item _ _ :: _ => []
  | .item (.val _) _ :: _, [] => []
  | .item _ _ :: _, _ => []
end L2

set_option Elab.async false
set_option linter.all false
set_option maxRecDepth 100000
namespace L2
open PySem PySem.Spec PyProof.Rows
/-! ### one row behind another -/
structure Cr where
  r : Addr
  xs : List (Itm × List (List V))
  k : Nat
  R : Ap
def Rall (cs : List Cr) : Ap := fun b => ∃ c ∈ cs, c.R b
/-- rows that stand beside one another -/
def CH (t : Tt) (n : Nat) (lg : Addr) : List Cr → Ap → Hp → Prop
  | [], W, _ => W = fun _ => False
  | c :: cs, W, H => ∃ W1 W2 : Ap, W = (fun b => W1 b ∨ W2 b) ∧ Beh (spDraw t n [.ref c.r]) t.CO lg c.R (seqO c.xs [] c.k) W1 H ∧ Apart W1 c.R W2 (Rall cs) ∧ CH t n lg cs W2 H
theorem CH.bas {t : Tt} {n : Nat} {lg : Addr} : ∀ {cs : List Cr} {W : Ap} {H : Hp}, CH t n lg cs W H → Bas (Rall cs) W lg H
  | [], W, H, h => by
    have h : W = fun _ => False := h
    subst h
    exact ⟨fun _ z => z.elim, fun b ⟨c, hc, _⟩ => absurd hc List.not_mem_nil, fun b ⟨c, hc, _⟩ => absurd hc List.not_mem_nil, fun b _ z => z.elim, id, fun ⟨c, hc, _⟩ => absurd hc List.not_mem_nil⟩
  | c :: cs, W, H, h => by
    obtain ⟨W1, W2, rfl, h1, h2, h3⟩ := h
    have B := h1.bas.two h3.bas h2
    have e : (fun b => c.R b ∨ Rall cs b) = Rall (c :: cs) := funext fun b => propext ⟨fun z => z.elim (fun y => ⟨c, .head _, y⟩) (fun ⟨d, hd, y⟩ => ⟨d, .tail _ hd, y⟩), fun ⟨d, hd, y⟩ => (List.mem_cons.mp hd).elim (fun e => .inl (by rw [← e]; exact y)) (fun q => .inr ⟨d, q, y⟩)⟩
    rw [e] at B
    exact B
theorem Apart.less {W1 R1 W2 R2 W2' R2' : Ap} (h : Apart W1 R1 W2 R2) (hw : ∀ b, W2' b → W2 b) (hr : ∀ b, R2' b → R2 b) : Apart W1 R1 W2' R2' := ⟨fun b z y => h.ww b z (hw b y), fun b z y => h.wr b z (hr b y), fun b z y => h.rw b z (hw b y)⟩
theorem CH.kept {t : Tt} {n : Nat} {lg : Addr} : ∀ {cs : List Cr} {W : Ap} {H H' : Hp}, CH t n lg cs W H → (∀ b o, H b = some o → W b ∨ Rall cs b → H' b = some o) → CH t n lg cs W H'
  | [], W, H, H', h, _ => h
  | c :: cs, W, H, H', h, k => by
    obtain ⟨W1, W2, rfl, h1, h2, h3⟩ := h
    exact ⟨W1, W2, rfl, h1.kept fun b o e z => k b o e (z.imp .inl fun y => ⟨c, .head _, y⟩), h2, h3.kept fun b o e z => k b o e (z.imp .inr fun ⟨d, hd, y⟩ => ⟨d, .tail _ hd, y⟩)⟩
theorem CH.beside {t : Tt} {n : Nat} {lg : Addr} {cs : List Cr} {R1 W1 W1' W2 : Ap} {H H' : Hp} (h : CH t n lg cs W2 H) (x : Ext W1 W1' lg H H') (a : Apart W1 R1 W2 (Rall cs)) : CH t n lg cs W2 H' :=
  h.kept fun c o e z => x.keep c o e (fun q => z.elim (a.ww c q) (a.wr c q)) (fun y => z.elim (fun q => h.bas.wl (by rw [← y]; exact q)) (fun q => h.bas.rl (by rw [← y]; exact q)))
/-- the last row is drawn, and taken off when it is over -/
def CA (t : Tt) (n : Nat) (Fc : Hp → Prop) (L : Addr) (Q : VK) (E : XK) : Nat → Hp → Prop
  | 0, _ => False
  | m + 1, H => Fc H ∧ ∃ vs, H L = some (.lst vs) ∧ ((vs = [] ∧ E (.ref t.CO) none H) ∨ ∃ ys r, vs = ys ++ [V.ref r] ∧ spDraw t n [.ref r] H Q fun cls _ H2 => cls = .ref t.CO ∧ Fc H2 ∧ H2 L = some (.lst (ys ++ [V.ref r])) ∧ CA t n Fc L Q E m (upd H2 L (.lst ys)))
def itemsOf (cs : List Cr) : List (Itm × List (List V)) := cs.flatMap (·.xs)
end L2

set_option Elab.async false
set_option linter.all false
set_option maxRecDepth 100000
namespace L2
open PySem PySem.Spec PyProof.Rows
theorem Kn.perm {T : List (Addr × Pos × Str)} {p q : Addr} {len : Nat} {l l' : List (Addr × HO)} {W : Ap} {H : Hp} (K : Kn T p q len l W H) (h : l.Perm l') : Kn T p q len l' W H :=
  ⟨K.tb, K.tn, K.hs, fun x hx => K.np x (h.mem_iff.mpr hx), (h.map (·.1)).nodup_iff.mp K.nd, fun x hx => K.ob x (h.mem_iff.mpr hx), K.wp, K.wt⟩
theorem CH.snoc {t : Tt} {n : Nat} {lg : Addr} {c : Cr} {W' : Ap} : ∀ {cs : List Cr} {W : Ap} {H : Hp}, CH t n lg cs W H → Beh (spDraw t n [.ref c.r]) t.CO lg c.R (seqO c.xs [] c.k) W' H → Apart W (Rall cs) W' c.R → CH t n lg (cs ++ [c]) (fun b => W b ∨ W' b) H
  | [], W, H, h, b, a => by
    have h : W = fun _ => False := h
    subst h
    refine ⟨W', fun _ => False, funext fun b => propext ⟨fun z => .inl (z.elim False.elim id), fun z => .inr (z.elim id False.elim)⟩, b, ⟨fun _ _ z => z, fun _ _ ⟨d, hd, _⟩ => absurd hd List.not_mem_nil, fun _ _ z => z⟩, rfl⟩
  | d :: cs, W, H, h, b, a => by
    obtain ⟨W1, W2, rfl, h1, h2, h3⟩ := h
    refine ⟨W1, fun b => W2 b ∨ W' b, funext fun b => propext or_assoc, h1, ⟨fun b z y => y.elim (h2.ww b z) (a.ww b (.inl z)), fun b z ⟨e, he, y⟩ => ?_, fun b z y => y.elim (h2.rw b z) (a.rw b ⟨d, .head _, z⟩)⟩, CH.snoc h3 b ⟨fun b z => a.ww b (.inr z), fun b z => a.wr b (.inr z), fun b ⟨e, he, z⟩ => a.rw b ⟨e, .tail _ he, z⟩⟩⟩
    rcases List.mem_append.mp he with q | q
    · exact h2.wr b z ⟨e, q, y⟩
    · rw [List.mem_singleton.mp q] at y
      exact a.wr b (.inl z) y
/-- a row made anew is beside what stood -/
theorem Apart.fresh {W R W' R' : Ap} {lg an : Addr} {H : Hp} (B : Bas R W lg H) (na : ¬ W an) (hW : ∀ b, W' b → H b = none) (hR : ∀ b, R' b → H b = none ∨ (∃ o, H b = some o ∧ isExt o = true) ∨ b = an) : Apart W R W' R' where
  ww := fun b z y => by obtain ⟨o, e, _⟩ := B.wt b z; rw [hW b y] at e; cases e
  wr := fun b z y => by
    obtain ⟨o, e, n⟩ := B.wt b z
    rcases hR b y with q | ⟨o', e', n'⟩ | q
    · rw [q] at e; cases e
    · rw [e] at e'; cases e'; rw [n] at n'; cases n'
    · rw [q] at z; exact na z
  rw := fun b z y => by obtain ⟨o, e⟩ := B.rt b z; rw [hW b y] at e; cases e
end L2

set_option Elab.async false
set_option linter.all false
set_option maxRecDepth 100000
namespace L2
open PySem PySem.Spec PyProof.Rows
section
variable {X : Cx}
/-- try with else -/
def tTryE (tb : (St → XK) → TS) (th : TH) (te : TS) : TS := fun D σ H => tb (fun σ' cls d H' => ∀ ea, H' ea = none → th D σ' H' ea cls d) { D with nx := fun σ' H' => te D σ' H' } σ H
end
end L2

set_option Elab.async false
set_option linter.all false
set_option maxRecDepth 100000
namespace L2
open PySem PySem.Spec PyProof.Rows
/-! ### rows in turn -/
/-- the row whose turn it is is drawn, and taken off when it is over -/
def TrA (t : Tt) (n : Nat) (Fc : Hp → Prop) (L ct : Addr) (Q : VK) (E : XK) : Nat → Hp → Prop
  | 0, _ => False
  | m + 1, H => Fc H ∧ ∃ (vs : List V) (tn : Int), H L = some (.lst vs) ∧ vs.length ≤ 900 ∧ H ct = some (.cel (some (.int tn))) ∧ ((vs = [] ∧ E (.ref t.CO) none H) ∨ ∃ (k : Nat) (r : Addr), (if tn < (vs.length : Int) then tn else 0) = (k : Int) ∧ vs[k]? = some (.ref r) ∧ Fc (upd H ct (.cel (some (.int (k : Int))))) ∧
      spDraw t n [.ref r] (upd H ct (.cel (some (.int (k : Int))))) (fun x H2 => H2 ct = some (.cel (some (.int (k : Int)))) ∧ Q x (upd H2 ct (.cel (some (.int ((k : Int) + 1)))))) fun cls _ H2 => cls = .ref t.CO ∧ Fc H2 ∧ H2 L = some (.lst vs) ∧ H2 ct = some (.cel (some (.int (k : Int)))) ∧ TrA t n Fc L ct Q E m (upd H2 L (.lst (vs.eraseIdx k))))
/-- what comes: cur in this round, nxt in the next one -/
inductive Trn : List Cr → List Cr → List (Itm × List (List V)) → Prop
  | done : Trn [] [] []
  | wrap {nxt : List Cr} {o : List (Itm × List (List V))} : nxt ≠ [] → Trn nxt [] o → Trn [] nxt o
  | emit {c : Cr} {x : Itm × List (List V)} {xs : List (Itm × List (List V))} {cur nxt : List Cr} {o : List (Itm × List (List V))} : c.xs = x :: xs → Trn cur (nxt ++ [{ c with xs := xs }]) o → Trn (c :: cur) nxt (x :: o)
  | skip {c : Cr} {cur nxt : List Cr} {o : List (Itm × List (List V))} : c.xs = [] → Trn cur nxt o → Trn (c :: cur) nxt o
end L2

set_option Elab.async false
set_option linter.all false
set_option maxRecDepth 100000
namespace L2
open PySem PySem.Spec PyProof.Rows
/-! ### rounds: by keys and what is left -/
def rowK (k : Int) (l : List Int) : List (Itm × List (List V)) := l.map fun z => (.val (.int z), [[.int k, .int z]])
def itE (es : List (List Int)) : List (Itm × List (List V)) := es.map fun e => (.val (.int (e.getD 1 0)), [e.map V.int])
def hd1 : Int × List Int → List (List Int)
  | (_, []) => []
  | (k, v :: _) => [[k, v]]
def tl1 : Int × List Int → List (Int × List Int)
  | (_, []) => []
  | (k, _ :: l) => [(k, l)]
def rnd : Nat → List (Int × List Int) → List (List Int)
  | 0, _ => []
  | n + 1, q => q.flatMap hd1 ++ rnd n (q.flatMap tl1)
/-- rows that have these left -/
def IsQ : List Cr → List (Int × List Int) → Prop
  | [], [] => True
  | c :: cs, x :: q => c.xs = rowK x.1 x.2 ∧ IsQ cs q
  | _, _ => False
theorem IsQ.app : ∀ {cs : List Cr} {q : List (Int × List Int)} {cs' : List Cr} {q' : List (Int × List Int)}, IsQ cs q → IsQ cs' q' → IsQ (cs ++ cs') (q ++ q')
  | [], [], _, _, _, h => h
  | c :: cs, x :: q, _, _, h, h' => ⟨h.1, IsQ.app h.2 h'⟩
/-- by times -/
def dT (s : Nat) (q : List (Int × List Int)) : List (List Int) := q.flatMap fun x => match x.2[s]? with | some v => [[x.1, v]] | none => []
end L2

set_option Elab.async false
set_option linter.all false
set_option maxRecDepth 100000
namespace L2
open PySem PySem.Spec PyProof.Rows
/-- list(x), its reading named -/
abbrev rListS (K : PySem.W.Frag) : List V → Hp → VK → Prop := fun xs H Q => ∃ p ys, xs = [V.ref p] ∧ (SqL K H p ys ∨ SqT K H p ys) ∧ ∀ l, H l = none → Q (.ref l) (upd H l (.lst ys))
theorem Kn.sub {T : List (Addr × Pos × Str)} {p q : Addr} {len : Nat} {l l' : List (Addr × HO)} {W : Ap} {H : Hp} (K : Kn T p q len l W H) (h : l'.Sublist l) : Kn T p q len l' W H :=
  ⟨K.tb, K.tn, K.hs, fun x hx => K.np x (h.mem hx), (h.map (·.1)).nodup K.nd, fun x hx => K.ob x (h.mem hx), K.wp, K.wt⟩
theorem KpC.same {H H' : Hp} (s : Same H H') : KpC H H' := fun b o e _ => s b o e
theorem KpC.trans {H H1 H2 : Hp} (a : KpC H H1) (b : KpC H1 H2) : KpC H H2 := fun c o e x => b c o (a c o e x) x
theorem KpC.put {H : Hp} {a : Addr} {o u : HO} (ha : H a = some o) (n : isExt o = false) : KpC H (upd H a u) := fun b v e x => by
  rw [upd_ne (ne_of e ha fun z => by rw [z, n] at x; cases x)]; exact e
theorem KpC.kpt {H H' : Hp} (k : KpC H H') : KpT H H' := fun b xs e => k _ _ e rfl
/-- new objects -/
theorem Kn.addN {T : List (Addr × Pos × Str)} {p q : Addr} {len : Nat} {l : List (Addr × HO)} {W : Ap} {H H' : Hp} (K : Kn T p q len l W H) (s : Same H H') : ∀ (xs : List (Addr × HO)), (∀ x ∈ xs, H x.1 = none ∧ H' x.1 = some x.2 ∧ isExt x.2 = false) → (xs.map (·.1)).Nodup → Kn T p q len (xs ++ l) W H'
  | [], _, _ => K.same s
  | x :: xs, h, nd => by
    have nd' := List.nodup_cons.mp nd
    have K' := Kn.addN K s xs (fun y hy => h y (.tail _ hy)) nd'.2
    obtain ⟨h1, h2, h3⟩ := h x (.head _)
    obtain ⟨_, hp⟩ := K.hs.p
    obtain ⟨_, hq⟩ := K.hs.q
    refine K'.cons h2 h3 (fun z => ?_) ⟨(ne_of_none hp h1).symm, (ne_of_none hq h1).symm⟩ fun y hy z => ?_
    · obtain ⟨o, e, _⟩ := K.wt _ z
      rw [h1] at e; cases e
    · rcases List.mem_append.mp hy with hy | hy
      · exact nd'.1 (by show x.1 ∈ _; rw [← z]; exact List.mem_map_of_mem hy)
      · have := (K.ob y hy).1
        rw [z, h1] at this; cases this
/-- a row is made, and known -/
theorem Kn.madeAdd {T : List (Addr × Pos × Str)} {p q : Addr} {len : Nat} {l : List (Addr × HO)} {W : Ap} {H H' : Hp} {C Pt r f c' dx : Addr} {pos : Pos} {qu : Str} {fd : FuncData} {cl : List (Str × Addr)} (K : Kn T p q len l W H) (hm : (Pt, pos, qu) ∈ T) (M : RowM C H H' Pt pos qu r f c' dx fd cl) : Kn T p q len ((r, .ins C dx (rowF f false)) :: l) W H' := by
  obtain ⟨_, hp⟩ := K.hs.p
  obtain ⟨_, hq⟩ := K.hs.q
  refine (K.made hm M.kp M.tab).cons M.row rfl (fun z => ?_) ⟨(ne_of_none hp M.rn).symm, (ne_of_none hq M.rn).symm⟩ fun y hy z => ?_
  · obtain ⟨o, e, _⟩ := K.wt _ z
    rw [M.rn] at e; cases e
  · have := (K.ob y hy).1
    rw [z, M.rn] at this; cases this
theorem KpC.made {H H' : Hp} {Pt : Addr} {ps : Array Value} (hP : H Pt = some (.tbl ps)) (kp : ∀ b o, H b = some o → b ≠ Pt → H' b = some o) : ∀ b o, H b = some o → (∀ ps, o ≠ .tbl ps) → H' b = some o := fun b o e n => kp b o e (ne_of e hP (n _))
/-! ### flat -/
/-- lists are drawn until one isn't empty -/
def FA (t : Tt) (n : Nat) (Fc : Hp → Prop) (cw r : Addr) (Q : VK) (E : XK) : Nat → Hp → Prop
  | 0, _ => False
  | m + 1, H => Fc H ∧ ∃ l ws, H cw = some (.cel (some (.ref l))) ∧ H l = some (.lst ws) ∧
      ((ws = [] ∧ spDraw t n [.ref r] H (fun v H2 => ∃ a xs, v = .ref a ∧ H2 a = some (.lst xs) ∧ (∃ u, H2 cw = some (.cel u)) ∧ ∀ l1 l2, H2 l1 = none → H2 l2 = none → l1 ≠ l2 → FA t n Fc cw r Q E m (upd (upd (upd H2 l1 (.lst xs)) l2 (.lst xs.reverse)) cw (.cel (some (.ref l2))))) E) ∨
       ∃ ys y, ws = ys ++ [y] ∧ Q y (upd H l (.lst ys)))
/-- lists, told by a work that notes which -/
def inO : List Addr → Nat → List (Itm × List (List V))
  | [], _ => []
  | q :: qs, k => (.val (.ref q), [[.int 1, .int (k : Int)]]) :: inO qs (k + 1)
def lgO (j : Nat) : List (List Int) := (List.range j).map fun (i : Nat) => [(1 : Int), (i : Int)]
theorem lgO_succ (j : Nat) : lgO (j + 1) = lgO j ++ [[1, (j : Int)]] := by unfold lgO; rw [List.range_succ, List.map_append]; rfl
theorem lgO_len (j : Nat) : (lgO j).length = j := by unfold lgO; rw [List.length_map, List.length_range]
/-- flat's state: what waits, the lists to come -/
structure FS (t : Tt) (n : Nat) (lg : Addr) (R : Ap) (T : List (Addr × Pos × Str)) (p q : Addr) (len : Nat) (cw r : Addr) (rl : List (Addr × HO)) (j : Nat) (qs : List Addr) (lw : Addr) (ws : List V) (W : Ap) (H : Hp) (ls : List V) : Prop where
  K : Kn T p q len ((lw, .lst ws) :: (cw, .cel (some (.ref lw))) :: (lg, .lst ls) :: rl) W H
  B : Beh (spDraw t n [.ref r]) t.CO lg R (seqO (inO qs j) [] 3) W H
  G : Lg lg W H ls (lgO j)
  nR : ¬ R lw
section
variable {t : Tt} {n : Nat} {lg cw r cr : Addr} {R : Ap} {T : List (Addr × Pos × Str)} {p q : Addr} {len : Nat} {rl : List (Addr × HO)} {Q : VK} {E : XK}
/-- one list is drawn, nothing waits -/
theorem FS.draw {j : Nat} {e : Addr} {qs : List Addr} {lw : Addr} {W : Ap} {H : Hp} {ls xs : List V} {m : Nat} (S : FS t n lg R T p q len cw r rl j (e :: qs) lw [] W H ls) (hr : (cr, HO.cel (some (.ref r))) ∈ rl) (ncw : ¬ R cw) (he : (e, HO.lst xs) ∈ rl) (hj : j ≤ 800)
    (k : ∀ W' H' ls' lw', FS t n lg R T p q len cw r rl (j + 1) qs lw' xs.reverse W' H' ls' → KpC H H' → FA t n (fun H => H cr = some (.cel (some (.ref r)))) cw r Q E m H') : FA t n (fun H => H cr = some (.cel (some (.ref r)))) cw r Q E (m + 1) H := by
  refine ⟨(S.K.ob _ (.tail _ (.tail _ (.tail _ hr)))).1, lw, [], S.K.get 1 rfl, S.K.get 0 rfl, .inl ⟨rfl, ?_⟩⟩
  have hl := S.K.get 2 rfl
  have lsl : ls.length = j := by have := S.G.logs.len; rw [lgO_len] at this; exact this
  have B : Beh (spDraw t n [.ref r]) t.CO lg R (.item (.val (.ref e)) [[.int 1, .int (j : Int)]] :: seqO (inO qs (j + 1)) [] 3) W H := S.B
  refine B.item hl (by simp; omega) fun W' H' ls' v s b td => ?_
  obtain rfl : v = .ref e := td.1
  have K' : Kn T p q len ((lw, .lst []) :: (cw, .cel (some (.ref lw))) :: (lg, .lst ls') :: rl) W' H' := S.K.stp 2 rfl s
  have G' := S.G.stp (fs := [[1, (j : Int)]]) s rfl
  rw [← lgO_succ] at G'
  refine ⟨e, xs, rfl, (K'.ob _ (.tail _ (.tail _ (.tail _ he)))).1, ⟨_, K'.get 1 rfl⟩, fun l1 l2 h1 h2 n12 => ?_⟩
  have K1 := K'.alloc (o := .lst xs) h1
  have h2' : upd H' l1 (.lst xs) l2 = none := by rw [upd_ne n12.symm]; exact h2
  have K2 := K1.alloc (o := .lst xs.reverse) h2'
  have K3 := K2.put (u := .cel (some (.ref l2))) 3 rfl
  have K4 : Kn T p q len ((l2, .lst xs.reverse) :: (cw, .cel (some (.ref l2))) :: (lg, .lst ls') :: rl) W' _ := K3.sub (((List.Sublist.refl _).cons (lw, HO.lst [])).cons (l1, HO.lst xs) |>.cons₂ _)
  have s12 : Same H' (upd (upd H' l1 (.lst xs)) l2 (.lst xs.reverse)) := (same_alloc h1).trans (same_alloc h2')
  have hcw := s12 _ _ (K'.get 1 rfl)
  refine k W' _ ls' l2 ⟨K4, (b.same s12).agree fun c z => upd_ne fun y => ?_, (G'.same s12).kp (KpC.put hcw rfl).kpt, fun z => ?_⟩ (((Stp.kpc S.K.wt hl s).trans (KpC.same s12)).trans (KpC.put hcw rfl))
  · rw [y] at z
    exact z.elim (K'.out 1 rfl) ncw
  · obtain ⟨o, e⟩ := b.bas.rt l2 z
    rw [h2] at e; cases e
/-- no list is left -/
theorem FS.over {j : Nat} {lw : Addr} {W : Ap} {H : Hp} {ls : List V} {m : Nat} (S : FS t n lg R T p q len cw r rl j [] lw [] W H ls) (hr : (cr, HO.cel (some (.ref r))) ∈ rl) (hj : j ≤ 800)
    (k : ∀ W' H' ls', Kn T p q len ((lw, .lst []) :: (cw, .cel (some (.ref lw))) :: (lg, .lst ls') :: rl) W' H' → Lg lg W' H' ls' (lgO j) → KpC H H' → E (.ref t.CO) none H') : FA t n (fun H => H cr = some (.cel (some (.ref r)))) cw r Q E (m + 1) H := by
  refine ⟨(S.K.ob _ (.tail _ (.tail _ (.tail _ hr)))).1, lw, [], S.K.get 1 rfl, S.K.get 0 rfl, .inl ⟨rfl, ?_⟩⟩
  have hl := S.K.get 2 rfl
  have lsl : ls.length = j := by have := S.G.logs.len; rw [lgO_len] at this; exact this
  have B : Beh (spDraw t n [.ref r]) t.CO lg R (.over [] :: List.replicate 3 (.over [])) W H := S.B
  refine B.over hl (by simp; omega) fun W' H' ls' s b => ?_
  have G' := S.G.stp (fs := []) s rfl
  rw [List.append_nil] at G'
  exact k W' H' ls' (S.K.stp 2 rfl s) G' (Stp.kpc S.K.wt hl s)
end
end L2

set_option Elab.async false
set_option linter.all false
set_option maxRecDepth 100000
namespace L2
open PySem PySem.Spec PyProof.Rows
/-! ### ranges with a step -/
/-- so many of i, i + c, .. below j -/
def rgN (i j c : Int) : Nat := if i < j then ((j - i - 1) / c + 1).toNat else 0
section
variable {X : Cx} {pos : Pos}
def tLR3 (ta : TA) : TE := fun σ H Q => ta σ H fun vs H1 => ∃ i j c : Int, vs = [.int i, .int j, .int c] ∧ -1000000000000 ≤ i ∧ i ≤ 1000000000000 ∧ -1000000000000 ≤ j ∧ j ≤ 1000000000000 ∧ 0 < c ∧ c < 1000000000 ∧ rgN i j c ≤ 1000000 ∧ ∀ l, H1 l = none → Q (.ref l) (upd H1 l (.lst (rangeV i c (rgN i j c))))
end
end L2

set_option Elab.async false
set_option linter.all false
set_option maxRecDepth 100000
namespace L2
open PySem PySem.Spec PyProof.Rows
/-! ### a source: a row that something is made of -/
def srcF (r : Addr) (e : Bool) (v : V) : List (Str × V) := [("row", .ref r), ("ended", .bl e), ("fresh", v)]
theorem reNe : ¬ (("row" : Str) = "ended") := by decide +kernel
theorem rfNe : ¬ (("row" : Str) = "fresh") := by decide +kernel
theorem efNe : ¬ (("ended" : Str) = "fresh") := by decide +kernel
theorem srcF_fresh (r : Addr) (e : Bool) (v x : V) : putF "fresh" x (srcF r e v) = srcF r e x := by
  show (if ("row" : Str) = "fresh" then _ else (("row" : Str), V.ref r) :: (if ("ended" : Str) = "fresh" then _ else (("ended" : Str), V.bl e) :: (if ("fresh" : Str) = "fresh" then [(("fresh" : Str), x)] else _))) = _
  rw [if_neg rfNe, if_neg efNe, if_pos rfl]
  rfl
theorem srcF_ended (r : Addr) (e e' : Bool) (v : V) : putF "ended" (.bl e') (srcF r e v) = srcF r e' v := by
  show (if ("row" : Str) = "ended" then _ else (("row" : Str), V.ref r) :: (if ("ended" : Str) = "ended" then (("ended" : Str), V.bl e') :: [(("fresh" : Str), v)] else _)) = _
  rw [if_neg reNe, if_pos rfl]
  rfl
theorem srcF_mk (r : Addr) : putF "fresh" .non (putF "ended" (.bl false) (putF "row" (.ref r) [])) = srcF r false .non := by
  have e1 : putF "ended" (.bl false) (putF "row" (.ref r) []) = [(("row" : Str), V.ref r), (("ended" : Str), V.bl false)] := by
    show (if ("row" : Str) = "ended" then _ else (("row" : Str), V.ref r) :: putF "ended" (.bl false) []) = _
    rw [if_neg reNe]; rfl
  rw [e1]
  show (if ("row" : Str) = "fresh" then _ else (("row" : Str), V.ref r) :: (if ("ended" : Str) = "fresh" then _ else (("ended" : Str), V.bl false) :: putF "fresh" .non [])) = _
  rw [if_neg rfNe, if_neg efNe]
  rfl
/-- advance, by what draw does -/
def spAdv (t : Tt) (CS : Addr) (n : Nat) : Sp := fun vs H Q E => ∃ (s dx r : Addr) (e : Bool) (v : V), vs = [.ref s] ∧ H s = some (.ins CS dx (srcF r e v)) ∧ (e = true → Q (.bl false) H) ∧
  (e = false → spDraw t n [.ref r] H (fun x H1 => ∃ dx v', H1 s = some (.ins CS dx (srcF r false v')) ∧ Q (.bl true) (upd H1 s (.ins CS dx (srcF r false x)))) fun cls d H1 => (cls = .ref t.CO ∧ ∃ dx v', H1 s = some (.ins CS dx (srcF r false v')) ∧ Q (.bl false) (upd H1 s (.ins CS dx (srcF r true v')))) ∨ (Mat t.K (.ref t.CO) cls false ∧ E cls d H1))
theorem spAdv_mono {t : Tt} {CS : Addr} {n : Nat} {vs : List V} {H : Hp} {Q Q' : VK} {E E' : XK} (h : spAdv t CS n vs H Q E) (hQ : ∀ v H', Q v H' → Q' v H') (hE : ∀ c d H', E c d H' → E' c d H') : spAdv t CS n vs H Q' E' := by
  obtain ⟨s, dx, r, e, v, h1, h2, h3, h4⟩ := h
  refine ⟨s, dx, r, e, v, h1, h2, fun z => hQ _ _ (h3 z), fun z => spDraw_mono (h4 z) (fun x H1 ⟨dx, v', q1, q2⟩ => ⟨dx, v', q1, hQ _ _ q2⟩) fun c d H' q => ?_⟩
  rcases q with ⟨q1, dx, v', q2, q3⟩ | ⟨q1, q2⟩
  · exact .inl ⟨q1, dx, v', q2, hQ _ _ q3⟩
  · exact .inr ⟨q1, hE _ _ _ q2⟩
/-- a source's state -/
structure SrS (t : Tt) (n : Nat) (CS lg : Addr) (R : Ap) (T : List (Addr × Pos × Str)) (p q : Addr) (len : Nat) (s dx r : Addr) (hd rl : List (Addr × HO)) (outs : List Out) (e : Bool) (v : V) (W : Ap) (H : Hp) (ls : List V) : Prop where
  K : Kn T p q len (hd ++ (s, .ins CS dx (srcF r e v)) :: (lg, .lst ls) :: rl) W H
  B : Beh (spDraw t n [.ref r]) t.CO lg R outs W H
  nR : ¬ R s
section
variable {t : Tt} {n : Nat} {CS lg : Addr} {R : Ap} {T : List (Addr × Pos × Str)} {p q : Addr} {len : Nat} {s dx r : Addr} {hd rl : List (Addr × HO)} {outs rest : List Out} {e : Bool} {v x : V} {W : Ap} {H : Hp} {ls : List V} {ev : List (List V)} {Q : VK} {E : XK}
theorem at_hd {α : Type} {hd l : List α} (j : Nat) {x : α} (h : l[j]? = some x) : (hd ++ l)[hd.length + j]? = some x := by
  rw [List.getElem?_append_right (by omega), show hd.length + j - hd.length = j from by omega]; exact h
theorem set_hd {α : Type} {hd l : List α} (j : Nat) {x : α} : (hd ++ l).set (hd.length + j) x = hd ++ l.set j x := by
  rw [List.set_append_right _ _ (by omega), show hd.length + j - hd.length = j from by omega]
theorem SrS.same {H' : Hp} (S : SrS t n CS lg R T p q len s dx r hd rl outs e v W H ls) (k : Same H H') : SrS t n CS lg R T p q len s dx r hd rl outs e v W H' ls := ⟨S.K.same k, S.B.same k, S.nR⟩
theorem SrS.fin (S : SrS t n CS lg R T p q len s dx r hd rl (.over ev :: rest) false v W H ls) (hn : ls.length + ev.length ≤ 900)
    (k : ∀ W' H' ls', SrS t n CS lg R T p q len s dx r hd rl rest true v W' H' ls' → ls'.length = ls.length + ev.length → KpC H H' → Q (.bl false) H') : spAdv t CS n [.ref s] H Q E := by
  have g0 := at_hd (hd := hd) (l := (s, HO.ins CS dx (srcF r false v)) :: (lg, .lst ls) :: rl) 0 rfl
  have g1 := at_hd (hd := hd) (l := (s, HO.ins CS dx (srcF r false v)) :: (lg, .lst ls) :: rl) 1 rfl
  have hl := S.K.get _ g1
  refine ⟨s, dx, r, false, v, rfl, S.K.get _ g0, fun z => (nomatch z), fun _ => S.B.over hl hn fun W' H' ls' st b => ?_⟩
  have K1 := S.K.stp _ g1 st
  rw [set_hd] at K1
  have K1 : Kn T p q len (hd ++ (s, .ins CS dx (srcF r false v)) :: (lg, .lst ls') :: rl) W' H' := K1
  have g0' := at_hd (hd := hd) (l := (s, HO.ins CS dx (srcF r false v)) :: (lg, .lst ls') :: rl) 0 rfl
  have K2 := K1.put (u := .ins CS dx (srcF r true v)) _ g0'
  rw [set_hd] at K2
  refine .inl ⟨rfl, dx, v, K1.get _ g0', k W' _ ls' ⟨K2, b.agree fun c z => upd_ne fun w => ?_, S.nR⟩ st.len ((Stp.kpc S.K.wt hl st).trans (KpC.put (K1.get _ g0') rfl))⟩
  rw [w] at z
  exact z.elim (K1.out _ g0') S.nR
theorem SrS.off (S : SrS t n CS lg R T p q len s dx r hd rl outs true v W H ls) (k : Q (.bl false) H) : spAdv t CS n [.ref s] H Q E := by
  have g0 := at_hd (hd := hd) (l := (s, HO.ins CS dx (srcF r true v)) :: (lg, .lst ls) :: rl) 0 rfl
  exact ⟨s, dx, r, true, v, rfl, S.K.get _ g0, fun _ => k, fun z => nomatch z⟩
end
/-! ### parcels -/
def PaE (Fc : Hp → Prop) (CO cw : Addr) (Q : VK) (E : XK) (H : Hp) : Prop := ∃ lw ws, H cw = some (.cel (some (.ref lw))) ∧ H lw = some (.lst ws) ∧ (ws = [] → E (.ref CO) none H) ∧ (ws ≠ [] → ∀ l, H l = none → Q (.ref lw) (upd (upd H l (.lst [])) cw (.cel (some (.ref l)))))
def PaA (t : Tt) (CS : Addr) (n : Nat) (Fc : Hp → Prop) (cw s : Addr) (many : Int) (Q : VK) (E : XK) : Nat → Hp → Prop
  | 0, _ => False
  | m + 1, H => Fc H ∧ ∃ lw ws, H cw = some (.cel (some (.ref lw))) ∧ H lw = some (.lst ws) ∧ ws.length ≤ 900 ∧
      if (ws.length : Int) < many then spAdv t CS n [.ref s] H (fun b H1 => ∃ c, b = .bl c ∧ (c = true → Fc H1 ∧ ∃ dx r v, H1 s = some (.ins CS dx (srcF r false v)) ∧ H1 cw = some (.cel (some (.ref lw))) ∧ H1 lw = some (.lst ws) ∧ PaA t CS n Fc cw s many Q E m (upd H1 lw (.lst (ws ++ [v])))) ∧ (c = false → PaE Fc t.CO cw Q E H1)) E
      else PaE Fc t.CO cw Q E H
/-! ### windows -/
def WiA (t : Tt) (n : Nat) (Fc : Hp → Prop) (cw r : Addr) (many : Int) (Q : VK) (E : XK) : Nat → Hp → Prop
  | 0, _ => False
  | m + 1, H => Fc H ∧ ∃ lw ws, H cw = some (.cel (some (.ref lw))) ∧ H lw = some (.lst ws) ∧ ws.length ≤ 900 ∧
      if (ws.length : Int) < many then spDraw t n [.ref r] H (fun x H1 => H1 lw = some (.lst ws) ∧ WiA t n Fc cw r many Q E m (upd H1 lw (.lst (ws ++ [x])))) E
      else ∀ l, H l = none → Q (.ref lw) (upd (upd H l (.lst (ws.drop 1))) cw (.cel (some (.ref l))))
end L2

set_option Elab.async false
set_option linter.all false
set_option maxRecDepth 100000
namespace L2
open PySem PySem.Spec PyProof.Rows
/-- some of what is known, by places -/
theorem Kn.pick {T : List (Addr × Pos × Str)} {p q : Addr} {len : Nat} {l : List (Addr × HO)} {W : Ap} {H : Hp} (K : Kn T p q len l W H) (k : Nat) (js : List Nat) (h : js.Nodup ∧ ∀ j ∈ js, j < k) : Kn T p q len (js.filterMap (fun j => l[j]?) ++ l.drop k) W H := by
  have sub : ∀ x ∈ js.filterMap (fun j => l[j]?) ++ l.drop k, x ∈ l := fun x hx => by
    rcases List.mem_append.mp hx with hx | hx
    · obtain ⟨j, _, e⟩ := List.mem_filterMap.mp hx
      exact List.mem_of_getElem? e
    · exact List.mem_of_mem_drop hx
  have inj : ∀ (i j : Nat) x y, l[i]? = some x → l[j]? = some y → x.1 = y.1 → i = j := fun i j x y hi hj e => by
    by_cases n : i = j
    · exact n
    · exact absurd e (K.diff (a := x.1) (o := x.2) (b := y.1) (u := y.2) i j hi hj n)
  refine ⟨K.tb, K.tn, K.hs, fun x hx => K.np x (sub x hx), ?_, fun x hx => K.ob x (sub x hx), K.wp, K.wt⟩
  rw [List.map_append, List.nodup_append]
  refine ⟨?_, by rw [List.map_drop]; exact (List.drop_sublist _ _).nodup K.nd, fun a ha b hb e => ?_⟩
  · refine List.Pairwise.map (R := fun (x y : Addr × HO) => x.1 ≠ y.1) (fun x : Addr × HO => x.1) (fun _ _ z => z) (List.Pairwise.filterMap (R := (· ≠ ·)) _ (fun i j n x hx y hy e => n (inj i j x y hx hy e)) h.1)
  · obtain ⟨x, hx, rfl⟩ := List.mem_map.mp ha
    obtain ⟨y, hy, rfl⟩ := List.mem_map.mp hb
    obtain ⟨i, hi, ex⟩ := List.mem_filterMap.mp hx
    obtain ⟨j, ey⟩ := List.mem_iff_getElem?.mp hy
    rw [List.getElem?_drop] at ey
    have := inj i (k + j) x y ex ey e
    have := h.2 i hi
    omega
/-- a row's state, beside what is known -/
structure RS (t : Tt) (n : Nat) (lg : Addr) (R : Ap) (T : List (Addr × Pos × Str)) (p q : Addr) (len : Nat) (r : Addr) (hd rl : List (Addr × HO)) (outs : List Out) (W : Ap) (H : Hp) (ls : List V) : Prop where
  K : Kn T p q len (hd ++ (lg, .lst ls) :: rl) W H
  B : Beh (spDraw t n [.ref r]) t.CO lg R outs W H
theorem perm4 {α : Type} (a b c d : α) (l : List α) : List.Perm (a :: b :: c :: d :: l) (b :: c :: d :: a :: l) :=
  (List.Perm.swap b a _).trans (List.Perm.cons b ((List.Perm.swap c a _).trans (List.Perm.cons c (List.Perm.swap d a _))))
section
variable {t : Tt} {n : Nat} {CS lg : Addr} {R : Ap} {T : List (Addr × Pos × Str)} {p q : Addr} {len : Nat} {s dx r cw : Addr} {rl : List (Addr × HO)} {Q : VK} {E : XK} {Fc : Hp → Prop} {many : Nat}
theorem RS.same {H' : Hp} {hd : List (Addr × HO)} {outs : List Out} {W : Ap} {H : Hp} {ls : List V} (S : RS t n lg R T p q len r hd rl outs W H ls) (k : Same H H') : RS t n lg R T p q len r hd rl outs W H' ls := ⟨S.K.same k, S.B.same k⟩
/-- what waits is told, a new list waits -/
theorem SrS.tell {lw : Addr} {ws : List V} {outs : List Out} {e : Bool} {v : V} {W : Ap} {H : Hp} {ls : List V} (S : SrS t n CS lg R T p q len s dx r [(lw, .lst ws), (cw, .cel (some (.ref lw)))] rl outs e v W H ls) (ncw : ¬ R cw) (hne : ws ≠ [])
    (k : ∀ l H', H l = none → SrS t n CS lg R T p q len s dx r [(l, .lst []), (cw, .cel (some (.ref l)))] ((lw, .lst ws) :: rl) outs e v W H' ls → KpC H H' → Q (.ref lw) H') : PaE Fc t.CO cw Q E H := by
  refine ⟨lw, ws, S.K.get 1 rfl, S.K.get 0 rfl, fun z => absurd z hne, fun _ l hl => ?_⟩
  have K1 := (S.K.alloc (o := .lst []) hl).put (u := .cel (some (.ref l))) 2 rfl
  have hc := same_alloc (o := .lst []) hl _ _ (S.K.get 1 rfl)
  refine k l _ hl ⟨K1.perm (List.Perm.cons _ (perm4 _ _ _ _ _)), (S.B.same (same_alloc hl)).agree fun c z => upd_ne fun y => ?_, S.nR⟩ ((KpC.same (same_alloc hl)).trans (KpC.put hc rfl))
  rw [y] at z
  exact z.elim (S.K.out 1 rfl) ncw
/-- nothing waits, nothing is left -/
theorem SrS.none {lw : Addr} {outs : List Out} {e : Bool} {v : V} {W : Ap} {H : Hp} {ls : List V} (S : SrS t n CS lg R T p q len s dx r [(lw, .lst []), (cw, .cel (some (.ref lw)))] rl outs e v W H ls) (k : E (.ref t.CO) none H) : PaE Fc t.CO cw Q E H :=
  ⟨lw, [], S.K.get 1 rfl, S.K.get 0 rfl, fun _ => k, fun z => absurd rfl z⟩
end
end L2

set_option Elab.async false
set_option linter.all false
set_option maxRecDepth 100000
namespace L2
open PySem PySem.Spec PyProof.Rows

/-! ### a name goes, behind `except X as n` -/
section
variable {X : Cx} {pins : List (Addr × Obj)} {σ : St} {H : Hp} {s : Shared}
end
/-- the suite behind `as n`: no error leaves it -/
abbrev Cx.sua (X : Cx) (ea : Addr) (oe : Obj) (T : Addr) (oT : Obj) : Cx := { X.sut ea oe T oT with xe := fun _ _ => False }
section
variable {X : Cx} {pins : List (Addr × Obj)} {σ : St} {H : Hp} {s : Shared} {ea T : Addr} {oe oT : Obj}
def asEnds (i : Nat) (D : Ends) : Ends := { nx := fun σ H => D.nx (σ.set i none) H, rt := D.rt, bk := fun σ H => D.bk (σ.set i none) H, ct := fun σ H => D.ct (σ.set i none) H }
def hConsAs (K : PySem.W.Frag) (C : Addr) (i : Nat) (ts : Addr → Value → Option Addr → TS) (tr : TH) : TH := fun D σ H ea cls d => ∃ b, Mat K (.ref C) cls b ∧ if b = true then ts ea cls d (asEnds i D) (σ.set i (some (.ref ea))) H else tr D σ H ea cls d
end
end L2

set_option Elab.async false
set_option linter.all false
set_option maxRecDepth 100000
namespace L2
open PySem PySem.Spec PyProof.Rows PySem.W

/-! ### isinstance of a caught error -/
section
variable {prog : Program} {w : World} {A : Around} {E : Value → Shared → Prop} {K : PySem.W.Frag} {x D : Addr} {ox : Obj} {odo : Option Obj}
structure ExcK (K : PySem.W.Frag) (D : Addr) (bmB : List Value) (newId : String) : Prop where
  exc : PySem.W.excIn K D bmB newId = true
  base : bmB.contains (.type "BaseException") = true
  cls : (clsIn K D).isSome = true
  ga : findIn K (.ref D) "__getattribute__" = some (some (.builtin "BaseException.__getattribute__"))
  gt : findIn K (.ref D) "__getattr__" = some none
  ca : findIn K (.ref D) "__class__" = some (some (.builtin "object.__class__"))
  cg : specialIn K (.builtin "object.__class__") "__get__" = some (some (.builtin "getset_descriptor.__get__"))
  ct : takesIn K (.builtin "object.__class__") = some true
  mo : PySem.W.mroIn K D (.type "object") = some true
end
def clsV : V → Option Value
  | .ty T => some (.type T)
  | .ref C => some (.ref C)
  | _ => none
def rIsiE (K : PySem.W.Frag) (ea : Addr) (cls : Value) (d : Option Addr) : List V → Hp → VK → Prop := fun xs H Q => ∃ (D : Addr) (bmB : List Value) (newId : String) (b : Bool), cls = .ref D ∧ d = none ∧ ExcK K D bmB newId ∧ Q (.bl b) H ∧
  ((∃ c cv, xs = [.ref ea, c] ∧ clsV c = some cv ∧ kitOne K (.ref D) cv = some b) ∨ ∃ (p : Addr) (cs : List V) (cvs : List Value), xs = [.ref ea, .ref p] ∧ H p = some (.tup cs) ∧ cs.map clsV = cvs.map some ∧ kitAny K (.ref D) cvs = some b)
end L2

set_option Elab.async false
set_option linter.all false
set_option maxRecDepth 100000
namespace L2
open PySem PySem.Spec PyProof.Rows PySem.W

/-! ### errors with an `__init__` of their own: super().__init__(..), self.x = .. -/
namespace F6
end F6

section
variable {prog : Program} {w : World} {A : Around} {E : Value → Shared → Prop} {h : Heap} {g : Array GenState} {d : PySem.Drawn} {t : Nat} {os : OsState}
end
end L2

set_option Elab.async false
set_option linter.all false
set_option maxRecDepth 100000
namespace L2
open PySem PySem.Spec PyProof.Rows PySem.W

section
variable {prog : Program} {w : World} {A : Around} {E : Value → Shared → Prop} {h : Heap} {g : Array GenState} {d : PySem.Drawn} {t : Nat} {os : OsState}
abbrev wrapObj (x : Addr) : Obj := { cls := .type "method-wrapper", data := .fields #[.builtin "ValueError.__init__", .ref x] }
/-- an error as it is made -/
abbrev excObj (C t0 : Addr) (d : Option Addr) : Obj := { cls := .ref C, dict := d, data := .fields #[.ref t0, .none, .none, .none, .bool false, .none] }
end
open Builtin Builtin.ObjectAttr in
section
variable {prog : Program} {w : World} {A : Around} {E : Value → Shared → Prop} {h : Heap} {g : Array GenState} {d : PySem.Drawn} {t : Nat} {os : OsState} {K : Frag} {x C t1 : Addr} {cd : ClassData} {name : Str} {v : Value}
end
end L2

set_option Elab.async false
set_option linter.all false
set_option maxRecDepth 100000
namespace L2
open PySem PySem.Spec PyProof.Rows PySem.W

/-! ### an own class of errors whose `__init__` says super().__init__(text) and keeps one thing -/
abbrev iBody (tx attr pn : Str) (p0 p1 p2 p3 p4 p5 p6 p7 p8 p9 : Pos) (n0 : Nat) : List Stmt := [.Expr (.Call (.Attribute (.Call (.Name "super" p0) [] [] p1) "__init__" p2) [.Constant (.str tx) n0 p3] [] p4) p5, .Assign [.Attribute (.Name "self" p6) attr p7] (.Name pn p8) p9]
/-- what the text says of it -/
structure ErrI (P : Program) (K : Frag) (mg : Str → Option Value) (C fI : Addr) (attr : Str) : Prop where
  fn : ∃ (oc : Value) (od : Option Addr) (qual : Str) (params : Arguments) (scope : Scope) (dV kV doc pm ct : Value) (an : Option Addr) (cda cc : Addr) (osl : Array (Option Value)) (tx pn : Str) (p0 p1 p2 p3 p4 p5 p6 p7 p8 p9 : Pos) (n0 : Nat) (ar : Arg)
      (ccl cl : Value) (cdd cld : Option Addr) (vs : Array Value) (ccs csl : Array (Option Value)) (file : Str) (tf : Tok) (pl : Sem Bool),
    K.lookup fI = some ⟨oc, od, .func (ksFn "__init__" qual params (iBody tx attr pn p0 p1 p2 p3 p4 p5 p6 p7 p8 p9 n0) scope dV kV doc pm an (.ref cda) ct cc), osl⟩ ∧
    codeIn K (.ref cda) qual = true ∧ (params.posonlyargs ++ params.args).head? = some ar ∧ ar.arg = "self" ∧ pn ≠ "self" ∧
    (∀ a b : Value, bindArgs (ksFn "__init__" qual params (iBody tx attr pn p0 p1 p2 p3 p4 p5 p6 p7 p8 p9 n0) scope dV kV doc pm an (.ref cda) ct cc) ⟨[a, b], []⟩ = pure [(("self" : Str), a), (pn, b)]) ∧
    K.lookup cda = some ⟨ccl, cdd, .fields vs, ccs⟩ ∧ vs[2]? = some (.str file tf) ∧ ((P.main.file : Str) == file) = true ∧ K.lookup cc = some ⟨cl, cld, .cell (some (.ref C)), csl⟩ ∧
    scope.names.lookup ("super" : Str) = some .globalImplicit ∧ scope.names.lookup ("__class__" : Str) = some .free ∧ scope.names.lookup ("self" : Str) = some .local ∧ scope.names.lookup pn = some .local ∧ scope.kind = .function ∧
    (∀ x ∈ scope.names, x.2 ≠ .cell) ∧ scope.isCoroutine = false ∧ scope.isGenerator = false ∧ (pn == ("__debug__" : Str)) = false ∧
    (∀ env : Env, eval (.Call (.Attribute (.Call (.Name "super" p0) [] [] p1) "__init__" p2) [.Constant (.str tx) n0 p3] [] p4) env = (do
      let ov ← attributeBase (.Call (.Name "super" p0) [] [] p1) "__init__" env (eval (.Call (.Name "super" p0) [] [] p1) env)
      standAt p2.atName
      let (f, first) ← holding [ov] (getMethod ov "__init__" pl)
      callWith p4 f first (backTo p4 (starEach [.Constant (.str tx) n0 p3] env)) []))
  top : (P.main.scope.names.lookup ("super" : Str)).isSome = false
  sup : mg "super" = none
  cls : ∃ cd, clsIn K C = some cd ∧ cd.hasDict = true ∧ (∀ self, refuseLoop self "__setattr__" cd.mro = pure ()) ∧ alongIn K "__init__" ((cd.mro.dropWhile (· != .ref C)).drop 1) = some (some (.builtin "ValueError.__init__"))
  opq : nsIn K cStatics "thirdparty.any" = some none
  sub : PySem.W.mroIn K C (.ref C) = some true
  val : PySem.W.mroIn K C (.type "ValueError") = some true
  obj : PySem.W.mroIn K C (.type "object") = some true
  nam : findIn K (.ref C) attr = some none
  sat : findIn K (.ref C) "__setattr__" = some (some (.builtin "object.__setattr__"))
  ini : findIn K (.ref C) "__init__" = some (some (.ref fI))
  isf : isFn K (.ref fI) = true
  kp : keepIn K (.ref C) = true
  bas : PySem.W.mroIn K C (.type "BaseException") = some true
  own : ∃ (nm q : Str) (N : Addr) (bs bm : List Value) (hdct : Bool) (sn : List Str) (sub : List Value) (ab : Bool) (col : Option Bool) (dd : Option Addr) (k0 k1 k2 k3 k5 : Option Value), K.lookup C = some (excClassObj nm q C N bs bm hdct sn sub ab col dd k0 k1 k2 k3 k5 "ValueError.__new__") ∧
    tailIn K [.type "ValueError", .type "Exception", .type "BaseException", .type "object"] bm = true
section
variable {P : Program} {w : World} {A : Around} {E : Value → Shared → Prop} {s : Shared} {K : Frag} {mg : Str → Option Value} {base : Heap} {C fI e t0 : Addr} {attr : Str} {v : Value} {Q : Value → Shared → Prop}
end
end L2

set_option Elab.async false
set_option linter.all false
set_option maxRecDepth 100000
namespace L2
open PySem PySem.Spec PyProof.Rows PySem.W

section
variable {P : Program} {w : World} {A : Around} {E : Value → Shared → Prop} {h : Heap} {g : Array GenState} {d : PySem.Drawn} {t : Nat} {os : OsState} {K : Frag} {mg : Str → Option Value} {base : Heap} {C fI : Addr} {attr : Str}
end
section
variable {X : Cx} {Rk : St → XK}
/-- raise C(e), the error keeps the thing by its name -/
def tRaiseI (C : Addr) (attr : Str) (Rk : St → XK) (t : TA) : TS := fun _ σ H => t σ H fun vs H1 => ∃ v, vs = [v] ∧ ∀ d, H1 d = none → Rk σ (.ref C) (some d) (upd H1 d (.xd [(attr, v)]))
end
end L2

set_option Elab.async false
set_option linter.all false
set_option maxRecDepth 100000
namespace L2
open PySem PySem.Spec PyProof.Rows PySem.W

/-! ### what a caught error keeps; isinstance of any caught error -/
structure ExcG (K : PySem.W.Frag) (D : Addr) : Prop where
  bas : PySem.W.mroIn K D (.type "BaseException") = some true
  cls : (clsIn K D).isSome = true
  ga : findIn K (.ref D) "__getattribute__" = some (some (.builtin "BaseException.__getattribute__"))
  gt : findIn K (.ref D) "__getattr__" = some none
  ca : findIn K (.ref D) "__class__" = some (some (.builtin "object.__class__"))
  cg : specialIn K (.builtin "object.__class__") "__get__" = some (some (.builtin "getset_descriptor.__get__"))
  ct : takesIn K (.builtin "object.__class__") = some true
  mo : PySem.W.mroIn K D (.type "object") = some true
section
variable {prog : Program} {w : World} {A : Around} {E : Value → Shared → Prop} {K : PySem.W.Frag} {x D : Addr} {ox : Obj} {odo : Option Obj}
end
/-- a suite whose errors come to xe' -/
abbrev Cx.sux (X : Cx) (xe' : Value → Shared → Prop) (ea : Addr) (oe : Obj) (T : Addr) (oT : Obj) : Cx := { X.sut ea oe T oT with xe := xe' }
/-- a caught error as an instance -/
def Dct (d : Option Addr) (H : Hp) : Prop := d = none ∨ ∃ dx fs, d = some dx ∧ H dx = some (.xd fs)
def rIsi2 (K : PySem.W.Frag) (ea : Addr) (cls : Value) (d : Option Addr) : List V → Hp → VK → Prop := fun xs H Q => ∃ (D : Addr) (b : Bool), cls = .ref D ∧ Dct d H ∧ ExcG K D ∧ Q (.bl b) H ∧
  ((∃ c cv, xs = [.ref ea, c] ∧ clsV c = some cv ∧ kitOne K (.ref D) cv = some b) ∨ ∃ (p : Addr) (cs : List V) (cvs : List Value), xs = [.ref ea, .ref p] ∧ H p = some (.tup cs) ∧ cs.map clsV = cvs.map some ∧ kitAny K (.ref D) cvs = some b)
/-- e.f, e the caught error -/
def tAtE (K : PySem.W.Frag) (ea : Addr) (cls : Value) (d : Option Addr) (f : Str) (ta : TE) : TE := fun σ H Q => ta σ H fun x H1 => x = .ref ea ∧ ∃ (D dx : Addr) (fs : List (Str × V)) (v : V), cls = .ref D ∧ d = some dx ∧ H1 dx = some (.xd fs) ∧ fs.lookup f = some v ∧ ExcG K D ∧ hasDictIn K D = true ∧ findIn K (.ref D) f = some none ∧ Q v H1
end L2

set_option Elab.async false
set_option linter.all false
set_option maxRecDepth 100000
namespace L2
open PySem PySem.Spec PyProof.Rows PySem.W

/-! ### `except X as n` whose suite raises again -/
section
variable {X : Cx} {pins : List (Addr × Obj)} {σ : St} {H : Hp} {s : Shared}
end
section
variable {X : Cx} {pins : List (Addr × Obj)} {σ : St} {H : Hp} {s : Shared} {ea T : Addr} {oe oT : Obj} {xe' : Value → Shared → Prop}
abbrev Cx.xo (X : Cx) (xe' : Value → Shared → Prop) : Cx := { X with xe := xe' }
end
end L2

set_option Elab.async false
set_option linter.all false
set_option maxRecDepth 100000
namespace L2
open PySem PySem.Spec PyProof.Rows PySem.W

/-! ### clauses that take, or don't, by what the text has written -/
/-- a class of errors of the text -/
structure ClsE (K : PySem.W.Frag) (D : Addr) : Prop where
  ty : typeIn K (.ref D) = some (.type "type")
  cl : (clsIn K D).isSome = true
  ba : PySem.W.mroIn K D (.type "BaseException") = some true
/-! ### KeyError -/
section
variable {X : Cx} {Rk : St → XK}
/-- raise KeyError(..) -/
def tRaiseB (T : String) (Rk : St → XK) (t : TA) : TS := fun _ σ H => t σ H fun vs H1 => vs.length ≤ sizeLine ∧ ∀ d, Rk σ (.type T) d H1
/-- except T: .., T a built-in class of errors -/
def hConsB (K : PySem.W.Frag) (T : String) (ts : Addr → Value → Option Addr → TS) (tr : TH) : TH := fun D σ H ea cls d => ∃ b, Mat K (.type T) cls b ∧ if b = true then ts ea cls d D σ H else tr D σ H ea cls d
end
end L2

set_option Elab.async false
set_option linter.all false
set_option maxRecDepth 100000
namespace L2
open PySem PySem.Spec PyProof.Rows PySem.W

/-! ### closures that raise nothing anew: they may be called within an except suite -/
structure RoomQ (k : Nat) (A : Around) : Prop where
  dp : A.depth + 3 * k + 5 < recursionLimit
  un : A.units + 16 * k + 200 < cLine
theorem Room.q {k : Nat} {A : Around} (r : Room k A) : RoomQ k A := ⟨r.dp, r.un⟩
theorem RoomQ.mark {k : Nat} {A : Around} (r : RoomQ k A) (e : Option Value) : RoomQ k (A.mark e) := ⟨r.dp, r.un⟩
theorem RoomQ.deeper {k : Nat} {A : Around} (r : RoomQ (k + 1) A) (env : Env) : RoomQ k (A.deeper env) :=
  ⟨by have := r.dp; show A.depth + 1 + 3 * k + 5 < _; omega, by have := r.un; show A.units + 3 + 16 * k + 200 < _; omega⟩
theorem RoomQ.depth {k : Nat} {A : Around} (r : RoomQ k A) : A.depth < recursionLimit := by have := r.dp; omega
structure FnOkQ (P : Program) (w : World) (K : PySem.W.Frag) (mg : Str → Option Value) (base : Heap) (CX : CXT) (k : Nat) (f : Addr) (fd : FuncData) (ps : List Str) (sp : Sp) : Prop where
  len : ∀ vs H Q E, sp vs H Q E → vs.length = ps.length
  run : ∀ (A : Around) (outer : List Env) (s : Shared) (H : Hp) (args : Args) (us : List Value) (vs : List V) (Q : VK) (E : XK), RoomQ k A → Env0 P w K mg base A outer s H → BindsTo s fd args (ps.zip us) → Vals vs us → sp vs H Q E →
    codeAny (model P w) A (.call (.ref f) args) (CR CX outer P w H s Q E) s
theorem FnOkQ.ok {P : Program} {w : World} {K : PySem.W.Frag} {mg : Str → Option Value} {base : Heap} {CX : CXT} {k : Nat} {f : Addr} {fd : FuncData} {ps : List Str} {sp : Sp} (F : FnOkQ P w K mg base CX k f fd ps sp) : FnOk P w K mg base CX k f fd ps sp :=
  ⟨F.len, fun A outer s H args us vs Q E hr => F.run A outer s H args us vs Q E hr.q⟩
abbrev cxQ (CX : CXT) (P : Program) (w : World) (K : PySem.W.Frag) (mg : Str → Option Value) (base : Heap) (N : List Str) (env : Env) (A : Around) (outer : List Env) (s : Shared) (H : Hp) (E : XK) (hc : List Addr) : Cx := { cxE CX P w K mg base N env A outer s H E hc with calm := false }
/-- what a function's value promises, wherever it is called; no error leaves it -/
def DoesQ (P : Program) (w : World) (K : PySem.W.Frag) (mg : Str → Option Value) (base : Heap) (k : Nat) (f : Addr) (vs : List V) (H : Hp) (Q : VK) : Prop :=
  ∃ fd ps sp, H f = some (cloO f fd) ∧ FnOkQ P w K mg base (CXo P w) k f fd ps sp ∧ Binds K fd ps [] ∧ spW sp vs H Q fun _ _ _ => False
theorem DoesQ.of {P : Program} {w : World} {K : PySem.W.Frag} {mg : Str → Option Value} {base : Heap} {k : Nat} {f : Addr} {vs : List V} {H : Hp} {Q : VK} {fd : FuncData} {ps : List Str} {sp : Sp} (h1 : H f = some (cloO f fd)) (h2 : FnOkQ P w K mg base (CXo P w) k f fd ps sp) (h3 : Binds K fd ps []) (h4 : sp vs H Q fun _ _ _ => False) : DoesQ P w K mg base k f vs H Q :=
  ⟨fd, ps, sp, h1, h2, h3, Q, _, h4, fun _ _ z => z, fun _ _ _ z => z⟩
theorem DoesQ.mono {P : Program} {w : World} {K : PySem.W.Frag} {mg : Str → Option Value} {base : Heap} {k : Nat} {f : Addr} {vs : List V} {H : Hp} {Q Q' : VK} (h : DoesQ P w K mg base k f vs H Q) (hQ : ∀ v H', Q v H' → Q' v H') : DoesQ P w K mg base k f vs H Q' := by
  obtain ⟨fd, ps, sp, h1, h2, h3, Q0, E0, h4, h5, h6⟩ := h
  exact ⟨fd, ps, sp, h1, h2, h3, Q0, E0, h4, fun v H' z => hQ _ _ (h5 _ _ z), h6⟩
theorem DoesQ.fn {P : Program} {w : World} {K : PySem.W.Frag} {mg : Str → Option Value} {base : Heap} {k : Nat} {f : Addr} {vs : List V} {H : Hp} {Q : VK} (h : DoesQ P w K mg base k f vs H Q) : ∃ fd, H f = some (cloO f fd) := let ⟨fd, _, _, h1, _⟩ := h; ⟨fd, h1⟩
def tCallVQ (P : Program) (w : World) (K : PySem.W.Frag) (mg : Str → Option Value) (base : Heap) (k : Nat) (tf : TE) (t : TA) : TE := fun σ H Q => tf σ H fun x H1 => ∃ f fd0, x = .ref f ∧ H1 f = some (cloO f fd0) ∧ t σ H1 fun vs H2 => DoesQ P w K mg base k f vs H2 Q
section
variable {X : Cx} {k : Nat} {x m : Str} {p pos apos : Pos} {e o : Expr} {es : List Expr} {tf ta : TE} {t : TA}
variable (P : Program) (w : World) (K : PySem.W.Frag) (mg : Str → Option Value) (base : Heap)
end
/-- what the text says of Halt -/
structure HltT (K : PySem.W.Frag) (mg : Str → Option Value) (CO CH : Addr) (attr : Str) : Prop where
  g : ExcG K CH
  d : PySem.W.hasDictIn K CH = true
  n : PySem.W.findIn K (.ref CH) attr = some none
  oh : Mat K (.ref CO) (.ref CH) false
  hh : Mat K (.ref CH) (.ref CH) true
abbrev bmVE : List Value := [.type "ValueError", .type "Exception", .type "BaseException", .type "object"]
end L2

set_option Elab.async false
set_option linter.all false
set_option maxRecDepth 100000
namespace L2
open PySem PySem.Spec PyProof.Rows PySem.W

/-- what stays wherever it stands: functions, code -/
def isX : HO → Bool
  | .ext _ => true
  | _ => false
theorem isX_ext {o : HO} (h : isX o = true) : isExt o = true ∧ ∀ ps, o ≠ .tbl ps := by
  cases o <;> simp [isX] at h
  exact ⟨rfl, fun _ z => nomatch z⟩
def XF (xl : List (Addr × HO)) (H : Hp) : Prop := ∀ x ∈ xl, H x.1 = some x.2 ∧ isX x.2 = true
theorem XF.kpc {xl : List (Addr × HO)} {H H' : Hp} (h : XF xl H) (k : KpC H H') : XF xl H' := fun x hx => ⟨k _ _ (h x hx).1 (isX_ext (h x hx).2).1, (h x hx).2⟩
theorem XF.made {xl : List (Addr × HO)} {H H' : Hp} {Pt : Addr} {pos : Pos} {q : Str} (h : XF xl H) (hT : Tab H Pt pos q) (kp : ∀ b o, H b = some o → b ≠ Pt → H' b = some o) : XF xl H' := fun x hx => by
  obtain ⟨ps, hP⟩ := hT.is
  exact ⟨kp _ _ (h x hx).1 (ne_of (h x hx).1 hP ((isX_ext (h x hx).2).2 _)), (h x hx).2⟩
theorem XF.get {xl : List (Addr × HO)} {H : Hp} (h : XF xl H) (i : Nat) {b : Addr} {o : HO} (e : xl[i]? = some (b, o)) : H b = some o := (h _ (List.mem_of_getElem? e)).1
theorem XF.nil {H : Hp} : XF [] H := fun x hx => absurd hx List.not_mem_nil
theorem XF.cons {xl : List (Addr × HO)} {H : Hp} {b : Addr} {o : HO} (h : XF xl H) (e : H b = some o) (x : isX o = true) : XF ((b, o) :: xl) H := fun y hy => by
  rcases List.mem_cons.mp hy with rfl | hy
  · exact ⟨e, x⟩
  · exact h y hy
/-- a log's entry: a number, or a pair -/
inductive Ent where
  | num (z : Int)
  | pr (x y : V)
def Ent.flat : Ent → Bool
  | .num _ => true
  | .pr x y => flatS x && flatS y
def EntAt (H : Hp) : Ent → V → Prop
  | .num z, v => v = .int z
  | .pr x y, v => ∃ t, v = .ref t ∧ H t = some (.tup [x, y])
inductive Ents (H : Hp) : List Ent → List V → Prop
  | nil : Ents H [] []
  | cons {e : Ent} {v : V} {es : List Ent} {vs : List V} : EntAt H e v → Ents H es vs → Ents H (e :: es) (v :: vs)
theorem Ents.app {H : Hp} {es fs : List Ent} {vs ws : List V} (h : Ents H es vs) (g : Ents H fs ws) : Ents H (es ++ fs) (vs ++ ws) := by
  induction h with
  | nil => exact g
  | cons a _ ih => exact .cons a ih
theorem Ents.len {H : Hp} {es : List Ent} {vs : List V} (h : Ents H es vs) : vs.length = es.length := by
  induction h with
  | nil => rfl
  | cons a _ ih => rw [List.length_cons, List.length_cons, ih]
theorem EntAt.alk {H : Hp} {n : Nat} {e : Ent} {v u : V} (hf : e.flat = true) (h : EntAt H e v) (g : EntAt H e u) : Alk H (n + 2) v u := by
  cases e with
  | num z => cases h; cases g; exact Alk.flat rfl
  | pr x y =>
    obtain ⟨t, rfl, e1⟩ := h
    obtain ⟨t', rfl, e2⟩ := g
    have : flatS x = true ∧ flatS y = true := by simpa [Ent.flat] using hf
    exact Alk.tup2 e1 e2 (Alk.flat this.1) (Alk.flat this.2)
theorem Ents.at {H : Hp} {es : List Ent} {vs ws : List V} (hf : ∀ e ∈ es, e.flat = true) (h : Ents H es vs) (g : Ents H es ws) : ∀ (i : Nat) x y, vs[i]? = some x → ws[i]? = some y → Alk H 2 x y := by
  induction h generalizing ws with
  | nil => intro i x y e1; simp at e1
  | @cons e v es vs a h ih =>
    cases g with
    | @cons _ u _ us b g =>
      intro i x y e1 e2
      cases i with
      | zero => cases e1; cases e2; exact EntAt.alk (n := 0) (hf _ (.head _)) a b
      | succ i => exact ih (fun e he => hf e (.tail _ he)) g i x y e1 e2
/-- all but one stays -/
def Kb (l : Addr) (H H' : Hp) : Prop := ∀ b o, H b = some o → b ≠ l → H' b = some o
end L2

set_option Elab.async false
set_option linter.all false
set_option maxRecDepth 100000
namespace L2
open PySem PySem.Spec PyProof.Rows PySem.W

/-! ### tables of code that hold several -/
def tabL : List (Pos × Addr) → List Value
  | [] => []
  | q :: r => rawInt q.1.line :: rawInt q.1.col :: .ref q.2 :: tabL r
theorem tabL_ok : ∀ l, TriplesOk (tabL l)
  | [] => trivial
  | q :: r => tabL_ok r
theorem tabL_snoc (p : Pos) (c : Addr) : ∀ l, tabL (l ++ [(p, c)]) = tabL l ++ [rawInt p.line, rawInt p.col, .ref c]
  | [] => rfl
  | q :: r => by show _ :: _ :: _ :: tabL (r ++ [(p, c)]) = _; rw [tabL_snoc p c r]; rfl
theorem tabL_none {pos : Pos} : ∀ {l}, (∀ q ∈ l, ¬ (q.1.line = pos.line ∧ q.1.col = pos.col)) → codeAmong pos (tabL l) = none
  | [], _ => rfl
  | q :: r, h => by
    show (if _ then _ else _) = _
    rw [if_neg, tabL_none fun q hq => h q (.tail _ hq)]
    intro z
    rw [Bool.and_eq_true, beq_iff_eq, beq_iff_eq] at z
    exact h q (.head _) ⟨Int.ofNat.inj z.1, Int.ofNat.inj z.2⟩
theorem tabL_some {pos : Pos} : ∀ {l}, (∃ q ∈ l, q.1.line = pos.line ∧ q.1.col = pos.col) → ∃ q ∈ l, (q.1.line = pos.line ∧ q.1.col = pos.col) ∧ codeAmong pos (tabL l) = some (.ref q.2)
  | [], h => by obtain ⟨_, h, _⟩ := h; cases h
  | q :: r, h => by
    by_cases z : q.1.line = pos.line ∧ q.1.col = pos.col
    · refine ⟨q, .head _, z, ?_⟩
      show (if _ then _ else _) = _
      rw [if_pos]
      rw [Bool.and_eq_true, beq_iff_eq, beq_iff_eq]
      exact ⟨by rw [z.1], by rw [z.2]⟩
    · obtain ⟨p, hp, h1, h2⟩ := h
      rcases List.mem_cons.mp hp with rfl | hp
      · exact absurd ⟨h1, h2⟩ z
      · obtain ⟨p', a, b, c⟩ := tabL_some ⟨p, hp, h1, h2⟩
        refine ⟨p', .tail _ a, b, ?_⟩
        show (if _ then _ else _) = _
        rw [if_neg, c]
        intro y
        rw [Bool.and_eq_true, beq_iff_eq, beq_iff_eq] at y
        exact z ⟨Int.ofNat.inj y.1, Int.ofNat.inj y.2⟩
/-- the table: codes of the places ent, each of its name -/
def TabX (H : Hp) (P : Addr) (ent : List (Pos × Str)) : Prop := ∃ l : List (Pos × Addr), H P = some (.tbl (tabL l).toArray) ∧ ∀ q ∈ l, ∃ e ∈ ent, e.1.line = q.1.line ∧ e.1.col = q.1.col ∧ H q.2 = some (codO q.2 e.2)
theorem TabX.none {H : Hp} {P : Addr} {ent : List (Pos × Str)} (h : H P = some (.tbl #[])) : TabX H P ent := ⟨[], h, fun _ z => absurd z List.not_mem_nil⟩
/-- a place of the text, the one of its name -/
structure EntO (ent : List (Pos × Str)) (pos : Pos) (qual : Str) : Prop where
  mem : (pos, qual) ∈ ent
  one : ∀ e ∈ ent, e.1.line = pos.line → e.1.col = pos.col → e.2 = qual
section
variable {X : Cx} {pins : List (Addr × Obj)} {σ : St} {H : Hp} {s : Shared} {h' : Heap} {f c' P : Addr} {fd : FuncData} {qual : Str} {ps more : Array Value} {tk : Nat}
/-- a function is there, with its code -/
theorem Inv.fnc (I : Inv X pins σ H s) (hf : s.heap.objs.size ≤ f) (hc : H c' = none ∧ s.heap.get? c' = none ∨ H c' = some (codO c' qual)) (ncf : c' ≠ f) (eP : H P = some (.tbl ps))
    (k1 : ∀ b o, b ≠ P → s.heap.get? b = some o → h'.get? b = some o) (k2 : h'.get? P = some (PySem.W.tabObj (ps ++ more))) (k3 : h'.CodeRec (.ref c') qual) (k4 : ∃ oc od sl, h'.get? f = some ⟨oc, od, .func fd, sl⟩) :
    ∃ H', Inv X pins σ H' { s with heap := h', toks := tk } ∧ H f = none ∧ H' f = some (cloO f fd) ∧ H' c' = some (codO c' qual) ∧ H' P = some (.tbl (ps ++ more)) ∧ (∀ b, b ≠ P → b ≠ c' → b ≠ f → H' b = H b) ∧ (∀ b o, H b = some o → b ≠ P → H' b = some o) := by
  have nf : H f = none := I.hok.fresh hf
  have nPf : P ≠ f := ne_of_none eP nf
  have nPc : P ≠ c' := fun z => by
    rcases hc with ⟨z2, _⟩ | z2
    · rw [← z, eP] at z2; cases z2
    · rw [← z, eP] at z2; cases z2
  let H' : Hp := upd (upd (upd H P (.tbl (ps ++ more))) c' (codO c' qual)) f (cloO f fd)
  have eF : H' f = some (cloO f fd) := upd_same
  have eC : H' c' = some (codO c' qual) := by show upd _ f _ c' = _; rw [upd_ne ncf, upd_same]
  have eT : H' P = some (.tbl (ps ++ more)) := by show upd _ f _ P = _; rw [upd_ne nPf, upd_ne nPc, upd_same]
  have eO : ∀ b, b ≠ P → b ≠ c' → b ≠ f → H' b = H b := fun b h1 h2 h3 => by show upd _ f _ b = _; rw [upd_ne h3, upd_ne h2, upd_ne h1]
  have old : ∀ b o, H b = some o → b ≠ P → H' b = some o := fun b o e hb => by
    by_cases h2 : b = c'
    · rcases hc with ⟨z, _⟩ | z
      · rw [← h2, e] at z; cases z
      · rw [← h2, e] at z
        cases z
        rw [h2]
        exact eC
    · rw [eO b hb h2 (ne_of_none e nf)]; exact e
  refine ⟨H', ?_, nf, eF, eC, eT, eO, old⟩
  refine I.un (t' := tk) ⟨fun b o e n _ _ => k1 b o (fun z => by rw [z, eP] at n; cases n) e, fun b o e n _ _ => ⟨o.slots, k1 b o (fun z => by rw [z, eP] at n; cases n) e⟩, fun b o e n _ => ?_, fun b o e _ => ?_, fun b xs e => old b _ e (fun z => by rw [z, eP] at e; cases e), fun b o u e => old b _ e (fun z => by rw [z, eP] at e; cases e), fun b ps e => ?_, fun b v e => ⟨v, old b _ e (fun z => by rw [z, eP] at e; cases e)⟩⟩ fun b o e => ?_
  · rw [eO b (fun z => by rw [z, eP] at n; cases n) (fun z => ?_) (fun z => by rw [z] at e; exact absurd (Nat.lt_of_lt_of_le (Heap.lt_size e) hf) (Nat.lt_irrefl _))]
    · exact n
    · rcases hc with ⟨_, z2⟩ | z2
      · rw [← z, e] at z2; cases z2
      · rw [← z, n] at z2; cases z2
  · by_cases hb : b = P
    · exact ⟨_, by rw [hb]; exact k2⟩
    · exact ⟨o, k1 b o hb e⟩
  · by_cases hb : b = P
    · rw [hb, eP] at e
      cases e
      exact ⟨more, by rw [hb, eT]⟩
    · exact ⟨#[], by rw [old b _ e hb]; simp⟩
  · by_cases hb : b = P
    · rw [hb, eT] at e
      cases e
      rw [hb]
      exact k2
    · by_cases hbf : b = f
      · rw [hbf, eF] at e
        cases e
        rw [hbf]
        exact cloO_ok k4
      · by_cases hbc : b = c'
        · rw [hbc, eC] at e
          cases e
          rw [hbc]
          exact codO_ok k3
        · rw [eO b hb hbc hbf] at e
          refine (I.hok b o e).stay (fun d u hd q => k1 d u ?_ q) (fun d q => old d _ q (fun z => by rw [z, eP] at q; cases q)) fun d xs q => old d _ q (fun z => by rw [z, eP] at q; cases q)
          rcases hd with rfl | hd
          · exact hb
          · intro z; rw [z, eP] at hd; cases hd
end
/-- what is made by a lambda -/
abbrev lamF (qual : Str) (params : Arguments) (body : Expr) (scope : Scope) (cl : List (Str × Addr)) (pm : Value) (c' : Addr) (ctv : Value) : FuncData := PySem.W.kla_fn "<lambda>" qual params body scope cl pm (.ref c') ctv
def tLam (P : Addr) (ent : List (Pos × Str)) (qual : Str) (params : Arguments) (body : Expr) (scope : Scope) (clos : List (Str × Addr)) (pos : Pos) : TE := fun σ H Q => TabX H P ent ∧
  ∀ f c' pm ctv H', H f = none → (H c' = none ∨ H c' = some (codO c' qual)) → c' ≠ f → TabX H' P ent → H' c' = some (codO c' qual) → H' f = some (cloO f (lamF qual params body scope clos pm c' ctv)) →
    (∀ b, b ≠ P → b ≠ c' → b ≠ f → H' b = H b) → (∀ b o, H b = some o → b ≠ P → H' b = some o) → Q (.ref f) H'
section
variable {X : Cx} {c P : Addr} {ent : List (Pos × Str)} {qual : Str} {params : Arguments} {body : Expr} {scope : Scope} {clos : List (Str × Addr)} {pos : Pos}
end
end L2

set_option Elab.async false
set_option linter.all false
set_option maxRecDepth 100000
namespace L2
open PySem PySem.Spec PyProof.Rows PySem.W
open Builtin Builtin.Str Builtin.Int Builtin.Float
/-- the figures of a number by 2, as a text -/
def binD (n : Nat) : List Nat := (Nat.toDigits 2 n).map fun c => c.toNat
def fieldB (neg : Bool) (ds0 : List Nat) : Str :=
  let sign : List Nat := if neg then [45] else []
  let other : Int := sign.length + ([] : List Nat).length + ([] : List Nat).length
  let room : Int := 0
  let ds := if ds0.isEmpty then [] else List.replicate (room.toNat - ds0.length) 48 ++ ds0
  let pad := ((-1 : Int) - other - ds.length).toNat
  ⟨(List.replicate pad 32 ++ sign ++ [] ++ List.replicate 0 32 ++ ds ++ [] ++ List.replicate 0 32).toArray⟩
def tFmtB (te : TE) : TE := fun σ H Q => te σ H fun x H1 => ∃ n : Nat, x = .int n ∧ (binD n).length ≤ sizeLine ∧ Q (.str ⟨(binD n).toArray⟩) H1
section
variable {X : Cx} {e : Expr} {te : TE} {j : Nat} {p1 p2 p3 p4 : Pos}
end

/-- the last place below hi at which l has c -/
def rf1 (l : List Nat) (c : Nat) : Nat → Option Nat
  | 0 => none
  | k + 1 => if l[k]? = some c then some k else rf1 l c k
def rfI (l : List Nat) (c : Nat) (k : Nat) : Int := match rf1 l c k with | some i => (i : Int) | none => -1
def rRf (x : V) (xs : List V) (H : Hp) (Q : VK) : Prop := ∃ (a : Str) (c : Nat) (n : Nat), x = .str a ∧ xs = [.str ⟨#[c]⟩, .int 0, .int n] ∧ n ≤ a.length ∧ Q (.int (rfI a.cps.toList c n)) H
def rIntS : List V → Hp → VK → Prop := fun xs H Q => ∃ a n, xs = [.str a] ∧ PySem.intText? a = some n ∧ a.length ≤ 640 ∧ Q (.int n) H
end L2

set_option Elab.async false
set_option linter.all false
set_option maxRecDepth 100000
namespace L2
open PySem PySem.Spec PyProof.Rows
end L2

set_option Elab.async false
set_option linter.all false
set_option maxRecDepth 100000
namespace L2
open PySem PySem.Spec PyProof.Rows
/-! ### the parts of a text that is split at one sign -/
/-- a tuple that the text has written -/
def TupG (K : PySem.W.Frag) (a : Addr) (xs : List V) : Prop := ∃ (o : Obj) (its : Array Value) (n : Nat), K.lookup a = some o ∧ o.cls = .type "tuple" ∧ o.data = .seq its n ∧ its.size ≤ sizeLine ∧ Vals xs its.toList
/-! ### argument lists, by what stands ahead (no look into the rest) -/
section
variable {X : Cx} {es : List Expr} {te : TE} {t : TA}
theorem pa_BinOp {left : Expr} {op : Operator} {right : Expr} {pos : Pos} (h : PE X (.BinOp left op right pos) te) (hr : PA X es t) : PA X (.BinOp left op right pos :: es) (tCons te t) := pa_cons h hr rfl
theorem pa_ListComp {elt : Expr} {generators : List Comprehension} {scope : Scope} {pos : Pos} (h : PE X (.ListComp elt generators scope pos) te) (hr : PA X es t) : PA X (.ListComp elt generators scope pos :: es) (tCons te t) := pa_cons h hr rfl
theorem pa_Call {func : Expr} {args : List Expr} {keywords : List Keyword} {pos : Pos} (h : PE X (.Call func args keywords pos) te) (hr : PA X es t) : PA X (.Call func args keywords pos :: es) (tCons te t) := pa_cons h hr rfl
theorem pa_Constant {value : Const} {k : Nat} {pos : Pos} (h : PE X (.Constant value k pos) te) (hr : PA X es t) : PA X (.Constant value k pos :: es) (tCons te t) := pa_cons h hr rfl
theorem pa_Attribute {value : Expr} {attr : Str} {pos : Pos} (h : PE X (.Attribute value attr pos) te) (hr : PA X es t) : PA X (.Attribute value attr pos :: es) (tCons te t) := pa_cons h hr rfl
theorem pa_Subscript {value : Expr} {slice : Expr} {pos : Pos} (h : PE X (.Subscript value slice pos) te) (hr : PA X es t) : PA X (.Subscript value slice pos :: es) (tCons te t) := pa_cons h hr rfl
theorem pa_Name {id : Str} {pos : Pos} (h : PE X (.Name id pos) te) (hr : PA X es t) : PA X (.Name id pos :: es) (tCons te t) := pa_cons h hr rfl
theorem pa_List {elts : List Expr} {pos : Pos} (h : PE X (.List elts pos) te) (hr : PA X es t) : PA X (.List elts pos :: es) (tCons te t) := pa_cons h hr rfl
theorem pa_Tuple {elts : List Expr} {k : Nat} {pos : Pos} (h : PE X (.Tuple elts k pos) te) (hr : PA X es t) : PA X (.Tuple elts k pos :: es) (tCons te t) := pa_cons h hr rfl
end
end L2

set_option Elab.async false
set_option linter.all false
set_option maxRecDepth 100000
namespace L2
open PySem PySem.Spec PyProof.Rows PySem.W

/-! ### functions made within a def: lambdas and defs, with default values or none, over a table of several codes -/
abbrev fnD (name qual : Str) (params : Arguments) (fb : FuncBody) (scope : Scope) (cl : List (Str × Addr)) (dV doc pm : Value) (c' : Addr) (ctv : Value) : FuncData := kdv_fn name qual params fb scope cl dV doc pm (.ref c') ctv
/-- a function was made at f, its code at c' -/
structure FnM (H H' : Hp) (P : Addr) (ent : List (Pos × Str)) (f c' : Addr) (qual : Str) (fd : FuncData) : Prop where
  nf : H f = none
  nc : H c' = none ∨ H c' = some (codO c' qual)
  ne : c' ≠ f
  tab : TabX H' P ent
  cd : H' c' = some (codO c' qual)
  fn : H' f = some (cloO f fd)
  eq : ∀ b, b ≠ P → b ≠ c' → b ≠ f → H' b = H b
  old : ∀ b o, H b = some o → b ≠ P → H' b = some o
def tMk (P : Addr) (ent : List (Pos × Str)) (name qual : Str) (params : Arguments) (fb : FuncBody) (scope : Scope) (clos : List (Str × Addr)) (dV : Value) (H : Hp) (k : Addr → Hp → Prop) : Prop := TabX H P ent ∧
  ∀ f c' doc pm ctv H', FnM H H' P ent f c' qual (fnD name qual params fb scope clos dV doc pm c' ctv) → k f H'
section
variable {X : Cx} {pins : List (Addr × Obj)} {σ : St} {H : Hp} {s : Shared} {c P : Addr} {ent : List (Pos × Str)} {name qual : Str} {params : Arguments} {fb : FuncBody} {scope : Scope} {clos : List (Str × Addr)} {pos : Pos} {dV : Value} {fl : Nat}
theorem mk_fn {E : Value → Shared → Prop} {k : Addr → Hp → Prop} (S : Nest X c P) (hcl : closureFor scope X.env = pure clos) (he : EntO ent pos qual) (I : Inv X pins σ H s) (h : tMk P ent name qual params fb scope clos dV H k) :
    wpAny (model X.prog X.w) X.A (makeTail name qual params fb scope X.env dV .none none pos fl) (fun u s' => ∃ f H', u = .ref f ∧ Inv X pins σ H' s' ∧ k f H') E s := by
  obtain ⟨⟨l, eP, el⟩, h⟩ := h
  have hgs := I.mod.glob.keeps I.bk
  have hC := S.hd.keeps I.bk
  have hB := S.bt.keeps I.bk
  have oP : s.heap.get? P = some (PySem.W.tabObj (tabL l).toArray) := I.hok P _ eP
  have stays : ∀ {H' : Hp}, (∀ b o, H b = some o → b ≠ P → H' b = some o) → ∀ q ∈ l, ∃ e ∈ ent, e.1.line = q.1.line ∧ e.1.col = q.1.col ∧ H' q.2 = some (codO q.2 e.2) := fun {H'} old q hq => by
    obtain ⟨e, h1, h2, h3, h4⟩ := el q hq
    exact ⟨e, h1, h2, h3, old _ _ h4 (fun z => by rw [z, eP] at h4; cases h4)⟩
  by_cases hm : ∃ q ∈ l, q.1.line = pos.line ∧ q.1.col = pos.col
  · obtain ⟨q, hq1, hq2, hq3⟩ := tabL_some hm
    obtain ⟨e, e1, e2, e3, e4⟩ := el q hq1
    have eqq : e.2 = qual := he.one e e1 (e2.trans hq2.1) (e3.trans hq2.2)
    rw [eqq] at e4
    obtain ⟨hrec, _, _⟩ := I.hok q.2 _ e4
    have hlt : q.2 < s.heap.objs.size := by
      obtain ⟨c2, oc, vs, t, e, ho, _⟩ := id hrec
      cases e
      exact Heap.lt_size ho
    refine kdv_makeTailHit (mg := X.mg) (cv := .ref q.2) hcl I.ok.glob hgs S.code hC oP (tabL_ok l) hq3 hB fun ctv doc h' tk hk hsz => ?_
    have k3 : (h'.push { cls := .type "function", data := .func (kdv_fn name qual params fb scope clos dV doc ((X.mg "__name__").getD .none) (.ref q.2) ctv) }).CodeRec (.ref q.2) qual := by
      obtain ⟨c2, oc, vs, t, e, ho, hd, hv⟩ := hrec
      exact ⟨c2, oc, vs, t, e, Heap.get?_push_of_some _ (hk _ _ ho), hd, hv⟩
    obtain ⟨H', I', nf, eF, eC, eT, eO, old⟩ := I.fnc (tk := tk) (more := #[]) (f := h'.objs.size) (c' := q.2) (fd := fnD name qual params fb scope clos dV doc ((X.mg "__name__").getD .none) q.2 ctv) hsz (.inr e4) (Nat.ne_of_lt (Nat.lt_of_lt_of_le hlt hsz)) eP (fun b o _ e => Heap.get?_push_of_some _ (hk b o e)) (by simpa using Heap.get?_push_of_some _ (hk _ _ oP)) k3 ⟨_, _, _, Heap.get?_push_size _ rfl⟩
    exact ⟨h'.objs.size, H', rfl, I', h _ _ _ _ _ H' ⟨nf, .inr e4, Nat.ne_of_lt (Nat.lt_of_lt_of_le hlt hsz), ⟨l, by simpa using eT, stays old⟩, eC, eF, eO, old⟩⟩
  · refine kdv_makeTail (mg := X.mg) hcl I.ok.glob hgs S.code hC oP (tabL_ok l) (tabL_none fun q hq z => hm ⟨q, hq, z⟩) S.gP hB fun c' ctv doc h' tk hx hge hlt hrec htb => ?_
    have hcf : c' ≠ h'.objs.size := Nat.ne_of_lt hlt
    have k3 : (h'.push (kdv_obj name qual params fb scope clos dV doc ((X.mg "__name__").getD .none) c' ctv)).CodeRec (.ref c') qual := by
      obtain ⟨c2, oc, vs, t, e, ho, hd, hv⟩ := hrec
      exact ⟨c2, oc, vs, t, e, Heap.get?_push_of_some _ ho, hd, hv⟩
    obtain ⟨H', I', nf, eF, eC, eT, eO, old⟩ := I.fnc (tk := tk) (f := h'.objs.size) (c' := c') (fd := fnD name qual params fb scope clos dV doc ((X.mg "__name__").getD .none) c' ctv) (Nat.le_trans hge (Nat.le_of_lt hlt)) (.inl ⟨I.hok.fresh hge, Heap.get?_none_of_le hge⟩) hcf eP (fun b o hb e => Heap.get?_push_of_some _ (hx b o hb e)) (Heap.get?_push_of_some _ htb) k3 ⟨_, _, _, Heap.get?_push_size _ rfl⟩
    refine ⟨h'.objs.size, H', rfl, I', h _ _ _ _ _ H' ⟨nf, .inl (I.hok.fresh hge), hcf, ⟨l ++ [(pos, c')], ?_, fun q hq => ?_⟩, eC, eF, eO, old⟩⟩
    · rw [eT, tabL_snoc]; simp
    · rcases List.mem_append.mp hq with hq | hq
      · exact stays old q hq
      · rw [List.mem_singleton.mp hq]
        exact ⟨(pos, qual), he.mem, rfl, rfl, eC⟩
/-- default values, from the left -/
def PV (X : Cx) (es : List Expr) (t : TA) : Prop :=
  ∀ (pins : List (Addr × Obj)) (s : Shared) (σ : St) (H : Hp) (Q : List V → Hp → Prop), Inv X pins σ H s → t σ H Q → wpAny (model X.prog X.w) X.A (evalAll (evalEach es X.env)) (AP X pins σ Q) X.xe s
def tLamX (P : Addr) (ent : List (Pos × Str)) (qual : Str) (params : Arguments) (body : Expr) (scope : Scope) (clos : List (Str × Addr)) : TE := fun _ H Q => tMk P ent "<lambda>" qual params (.expr body) scope clos .none H fun f H' => Q (.ref f) H'
theorem pe_lamX {body : Expr} (S : Nest X c P) (hq : X.env.qual ++ "<lambda>" = qual) (hcl : closureFor scope X.env = pure clos) (he : EntO ent pos qual) (hdef : defaultsOf params X.env = ([], [])) :
    PE X (.Lambda params body scope pos) (tLamX P ent qual params body scope clos) := by
  intro pins s σ H Q I h
  refine kla_eval hdef ?_
  rw [hq, makeFunction_eq]
  simp only [List.zip_nil_right, List.filterMap_nil, List.isEmpty_nil, if_true, pure_bind]
  exact thn (mk_fn S hcl he I h) fun u s' ⟨f, H', e, I', q⟩ => ⟨.ref f, H', I', e, q⟩
def tLamD (P : Addr) (ent : List (Pos × Str)) (qual : Str) (params : Arguments) (body : Expr) (scope : Scope) (clos : List (Str × Addr)) (td : TA) : TE := fun σ H Q => td σ H fun ds H1 => ds ≠ [] ∧ ds.length ≤ sizeLine ∧
  ∀ t, H1 t = none → tMk P ent "<lambda>" qual params (.expr body) scope clos (.ref t) (upd H1 t (.tup ds)) fun f H' => Q (.ref f) H'
/-- a def within a def -/
def tDefX (i : Nat) (P : Addr) (ent : List (Pos × Str)) (name qual : Str) (params : Arguments) (body : List Stmt) (scope : Scope) (clos : List (Str × Addr)) : TS := fun D σ H => tMk P ent name qual params (.stmts body) scope clos .none H fun f H' => D.nx (σ.set i (some (.ref f))) H'
/-- .. with default values -/
def tDefD (i : Nat) (P : Addr) (ent : List (Pos × Str)) (name qual : Str) (params : Arguments) (body : List Stmt) (scope : Scope) (clos : List (Str × Addr)) (td : TA) : TS := fun D σ H => td σ H fun ds H1 => ds ≠ [] ∧ ds.length ≤ sizeLine ∧
  ∀ t, H1 t = none → tMk P ent name qual params (.stmts body) scope clos (.ref t) (upd H1 t (.tup ds)) fun f H' => D.nx (σ.set i (some (.ref f))) H'
end
/-! ### closures, by their bodies: any of them -/
section
variable {P : Program} {w : World} {K : PySem.W.Frag} {mg : Str → Option Value} {base : Heap} {k : Nat} {f c' : Addr} {name qual : Str} {params : Arguments} {scope : Scope} {dV doc pm ctv : Value} {cl : List (Str × Addr)} {N ps : List Str} {sp : Sp} {CX : CXT}
theorem clo_inv {A : Around} {outer : List Env} {s : Shared} {H : Hp} {us : List Value} {vs : List V} {E : XK} {h1 : Heap} {tk : Nat} (S : CloScope N ps (cl.map (·.1)) scope) (cs : ∀ p ∈ cl, ∃ v, H p.2 = some (.cel v)) (cn : (cl.map (·.2)).Nodup) (hd : A.handled = none) (e0 : Env0 P w K mg base A outer s H) (hl : vs.length = ps.length) (r : Vals vs us)
    (hns : h1.Ns s.heap.objs.size fun y => (ps.zip us).reverse.lookup y) (hk : ∀ b o, s.heap.get? b = some o → h1.get? b = some o) :
    Inv (cxE CX P w K mg base N (PySem.W.envX qual scope s.heap.objs.size f (.ref c') cl) A outer s H E (cl.map (·.2))) [] (startC N ps vs) H { s with heap := h1, toks := tk } := by
  refine ⟨⟨e0.mod, S.kind, rfl, rfl, Nat.le_refl _, fun x y c h1 h2 => cl_inj cn (PySem.mem_of_lookup h1) (PySem.mem_of_lookup h2), fun x hx => ?_, fun x c z _ => absurd z Bool.false_ne_true, fun _ => hd, Around.frames_deeper e0.frames, .inr ⟨rfl, rfl⟩,
    fun b z => absurd z List.not_mem_nil, e0.bs, e0.bsz, fun b _ _ z => absurd z List.not_mem_nil, fun b z => absurd z List.not_mem_nil, e0.funs, e0.frf, fun i x c h1 h2 _ => ?_⟩,
    rfl, e0.bare, Un.kept hk, ⟨_, hns, fun i y v h1 h2 h3 => ?_⟩, fun x c h => ?_, e0.hok.fresh (Nat.le_refl _), fun x c h z => absurd (cl_lookup h).2 z, fun c hc => ?_, fun p hp => absurd (show p ∈ ([] : List (Addr × Obj)) from hp) (by simp), e0.hok.kept hk, by unfold startC; rw [List.length_map]; rfl⟩
  · have hx : scope.names.lookup x = some .cell ∨ scope.names.lookup x = some .free := hx
    rcases hx with hx | hx
    · exact absurd rfl (S.cell _ (PySem.mem_of_lookup hx))
    · exact cl_has (S.free _ (PySem.mem_of_lookup hx) rfl)
  · have a := S.loc x (List.mem_of_getElem? h1)
    exact absurd (S.key x (cl_lookup h2).1) a
  · obtain ⟨j, hj, hv⟩ := startC_get h1 h2
    obtain ⟨u, hu, rv⟩ := r.get hv
    refine ⟨u, rv, .inl ⟨S.par y (List.mem_of_getElem? hj), ?_⟩⟩
    show (ps.zip us).reverse.lookup y = some u
    rw [lookup_reverse_of_nodup _ (by
      rw [List.map_fst_zip (by rw [← hl, r.length]; exact Nat.le_refl _)]
      exact S.ndp)]
    exact lookup_zipU S.ndp hj hu
  · obtain ⟨v, e⟩ := cs _ (PySem.mem_of_lookup h)
    obtain ⟨ov, _, z⟩ := e0.hok c _ e
    exact ⟨ov, z.keeps hk⟩
  · obtain ⟨p, hp, rfl⟩ := List.mem_map.mp hc
    exact cs p hp
/-- a lambda -/
theorem clo_ofL {body : Expr} (S : CloScope N ps (cl.map (·.1)) scope) (len : ∀ vs H Q E, sp vs H Q E → vs.length = ps.length) (pre : ∀ vs H Q E, sp vs H Q E → CloAt H f (fnD name qual params (.expr body) scope cl dV doc pm c' ctv) c' qual cl)
    (hbody : ∀ (A : Around) (outer : List Env) (s : Shared) (H : Hp) (vs : List V) (Q : VK) (E : XK), Room k (A.deeper (PySem.W.envX qual scope s.heap.objs.size f (.ref c') cl)) → sp vs H Q E →
      ∃ t, PE (cxE CX P w K mg base N (PySem.W.envX qual scope s.heap.objs.size f (.ref c') cl) A outer s H E (cl.map (·.2))) body t ∧ t (startC N ps vs) H Q) :
    FnOk P w K mg base CX (k + 1) f (fnD name qual params (.expr body) scope cl dV doc pm c' ctv) ps sp := by
  refine ⟨len, fun A outer s H args us vs Q E hr e0 hb r hsp => ?_⟩
  have C := pre _ _ _ _ hsp
  have hl := len _ _ _ _ hsp
  have lim : s.heap.NoLimit := e0.mod.nolimit.keeps fun b o e => (e0.bs b o e).1
  obtain ⟨⟨oc, od, sl, ho⟩, _, _⟩ := e0.hok f _ C.fn
  obtain ⟨hcd, _, _⟩ := e0.hok c' _ C.cd
  have hloc : ∀ y ∈ ps.zip us, scope.names.lookup y.1 = some .local := fun ⟨n, v⟩ hy => S.par n (List.of_mem_zip hy).1
  refine kla_callFunE (fd := fnD name qual params (.expr body) scope cl dV doc pm c' ctv) (body := body) hr.depth ho rfl S.co S.gen rfl hcd (hb _ _ _ _ ?_)
  refine wpAny_newFunctionEnv S.cell hloc (fun h1 hns hsb => ⟨lim.fresh _ hsb, ?_⟩) S.kind
  have hk : ∀ b o, s.heap.get? b = some o → h1.get? b = some o := fun b o e => hsb.extBut b o (Nat.ne_of_lt (Heap.lt_size e)) (Heap.get?_push_of_some _ e)
  show codeAny _ _ (.expr body (PySem.W.envX qual scope s.heap.objs.size f (.ref c') cl)) _ _
  refine kla_codeExpr ?_
  obtain ⟨t, ht, hq⟩ := hbody A outer s H vs Q E (hr.deeper _) hsp
  refine wpAny_mono (ht [] _ (startC N ps vs) H _ (clo_inv S C.cs C.nd hr.hd e0 hl r hns hk) hq) (fun u s' hs => ?_) fun e s' hs => hs
  obtain ⟨v, H', J, rv, q⟩ := hs
  exact ⟨v, H', J.os, J.bare, J.base, J.hok, rv, q⟩
end
/-- str(x) of a number or a text -/
def rStrA : List V → Hp → VK → Prop := fun xs H Q => (∃ i, xs = [.int i] ∧ i.natAbs.log2 < 1920 ∧ Q (.str (toString i)) H) ∨ ∃ y, xs = [.str y] ∧ Q (.str y) H
/-- sep.join(xs), whatever the block -/
def rJoin (K : PySem.W.Frag) : V → List V → Hp → VK → Prop := fun x xs H Q => ∃ a p, ∃ ys : List Str, x = .str a ∧ xs = [.ref p] ∧ (SqL K H p (ys.map V.str) ∨ SqT K H p (ys.map V.str)) ∧ (ys.map (·.length)).sum + ys.length * a.length ≤ 16777216 ∧ Q (.str (Txt.join a ys)) H
end L2

set_option Elab.async false
set_option linter.all false
set_option maxRecDepth 100000
namespace L2
open PySem PySem.Spec PyProof.Rows PySem.W
/-! ### a law that makes functions itself: its table of several codes -/
/-- all but the things at S as it was -/
def Mst (S : List Addr) (H H' : Hp) : Prop := ∀ b o, H b = some o → b ∉ S → H' b = some o
theorem Mst.refl {S : List Addr} {H : Hp} : Mst S H H := fun _ _ e _ => e
theorem Mst.trans {S : List Addr} {H H1 H2 : Hp} (a : Mst S H H1) (b : Mst S H1 H2) : Mst S H H2 := fun c o e n => b c o (a c o e n) n
theorem Mst.mono {S S' : List Addr} {H H1 : Hp} (a : Mst S H H1) (h : ∀ x ∈ S, x ∈ S') : Mst S' H H1 := fun c o e n => a c o e fun z => n (h c z)
theorem Mst.of {S : List Addr} {H H1 : Hp} (a : Same H H1) : Mst S H H1 := fun c o e _ => a c o e
theorem Mst.put {a : Addr} {o : HO} {H : Hp} : Mst [a] H (upd H a o) := fun b u e n => by rw [upd_ne (fun z => n (by rw [z]; exact .head _))]; exact e
theorem Mst.fnm {H H' : Hp} {P : Addr} {ent : List (Pos × Str)} {f c' : Addr} {qual : Str} {fd : FuncData} (m : FnM H H' P ent f c' qual fd) : Mst [P] H H' := fun b o e n => m.old b o e fun z => n (by rw [z]; exact .head _)
theorem TabX.is {H : Hp} {P : Addr} {ent : List (Pos × Str)} (h : TabX H P ent) : ∃ ps, H P = some (.tbl ps) := let ⟨_, h1, _⟩ := h; ⟨_, h1⟩
theorem TabX.kp {H H' : Hp} {P : Addr} {ent : List (Pos × Str)} (h : TabX H P ent) (k : KpC H H') : TabX H' P ent := by
  obtain ⟨l, h1, h2⟩ := h
  exact ⟨l, k _ _ h1 rfl, fun q hq => let ⟨e, a1, a2, a3, a4⟩ := h2 q hq; ⟨e, a1, a2, a3, k _ _ a4 rfl⟩⟩
theorem TabX.same {H H' : Hp} {P : Addr} {ent : List (Pos × Str)} (h : TabX H P ent) (k : Same H H') : TabX H' P ent := h.kp fun b o e _ => k b o e
/-- another table is changed -/
theorem TabX.other {H H' : Hp} {P Pt : Addr} {ent : List (Pos × Str)} {ps : Array Value} (h : TabX H P ent) (n : P ≠ Pt) (hp : H Pt = some (.tbl ps)) (k : ∀ b o, H b = some o → b ≠ Pt → H' b = some o) : TabX H' P ent := by
  obtain ⟨l, h1, h2⟩ := h
  exact ⟨l, k _ _ h1 n, fun q hq => let ⟨e, a1, a2, a3, a4⟩ := h2 q hq; ⟨e, a1, a2, a3, k _ _ a4 fun z => by rw [z, hp] at a4; cases a4⟩⟩
structure KL (T : List (Addr × Pos × Str)) (p q : Addr) (len : Nat) (PL : Addr) (ent : List (Pos × Str)) (l : List (Addr × HO)) (H : Hp) : Prop where
  k : Kn T p q len l (fun _ => False) H
  t : TabX H PL ent
  n : ∀ x ∈ T, x.1 ≠ PL
section
variable {T : List (Addr × Pos × Str)} {p q : Addr} {len : Nat} {PL : Addr} {ent : List (Pos × Str)} {l : List (Addr × HO)} {H H' : Hp} {a : Addr} {o u : HO}
theorem KL.get (K : KL T p q len PL ent l H) (i : Nat) (h : l[i]? = some (a, o)) : H a = some o := K.k.get i h
theorem KL.hs (K : KL T p q len PL ent l H) : HS H p q len := K.k.hs
theorem KL.same (K : KL T p q len PL ent l H) (s : Same H H') : KL T p q len PL ent l H' := ⟨K.k.same s, K.t.same s, K.n⟩
theorem KL.alloc (K : KL T p q len PL ent l H) (ha : H a = none) (no : isExt o = false := by rfl) : KL T p q len PL ent ((a, o) :: l) (upd H a o) := ⟨K.k.alloc ha no, K.t.same (same_alloc ha), K.n⟩
theorem KL.but (K : KL T p q len PL ent l H) (S : HS H' p q len) (B : But p q H H') : KL T p q len PL ent l H' := by
  obtain ⟨_, hp⟩ := K.k.hs.p
  obtain ⟨_, hq⟩ := K.k.hs.q
  exact ⟨K.k.but S B, K.t.kp fun b o e z => B b o e (ne_of e hp fun y => by rw [y] at z; cases z) (ne_of e hq fun y => by rw [y] at z; cases z), K.n⟩
theorem KL.butAdd (K : KL T p q len PL ent l H) (ha : H a = none) (S : HS H' p q len) (B : But p q H H') (e : H' a = some o) (no : isExt o = false := by rfl) : KL T p q len PL ent ((a, o) :: l) H' := by
  refine ⟨(K.but S B).k.cons e no (fun z => z) ?_ fun x hx z => ?_, (K.but S B).t, K.n⟩
  · obtain ⟨_, hp⟩ := K.k.hs.p
    obtain ⟨_, hq⟩ := K.k.hs.q
    exact ⟨(ne_of_none hp ha).symm, (ne_of_none hq ha).symm⟩
  · have := (K.k.ob x hx).1
    rw [z, ha] at this; cases this
theorem KL.put (K : KL T p q len PL ent l H) (i : Nat) (h : l[i]? = some (a, o)) (no : isExt u = false := by rfl) : KL T p q len PL ent (l.set i (a, u)) (upd H a u) := by
  have na := (K.k.ob _ (List.mem_of_getElem? h)).2
  have ea := K.k.get i h
  exact ⟨K.k.put i h no, K.t.kp fun b o' e z => by rw [upd_ne (ne_of e ea fun y => by rw [y] at z; rw [na.1] at z; cases z)]; exact e, K.n⟩
theorem KL.pick (K : KL T p q len PL ent l H) (k : Nat) (js : List Nat) (h : js.Nodup ∧ ∀ j ∈ js, j < k) : KL T p q len PL ent (js.filterMap (fun j => l[j]?) ++ l.drop k) H := ⟨K.k.pick k js h, K.t, K.n⟩
/-- a row is made -/
theorem KL.made (K : KL T p q len PL ent l H) {Pt : Addr} {pos : Pos} {qu : Str} (hm : (Pt, pos, qu) ∈ T) (kp : ∀ b o, H b = some o → b ≠ Pt → H' b = some o) (tab : Tab H' Pt pos qu) : KL T p q len PL ent l H' := by
  obtain ⟨ps, hP⟩ := (K.k.tb _ hm).is
  exact ⟨K.k.made hm kp tab, K.t.other (fun z => K.n _ hm z.symm) hP kp, K.n⟩
/-- a function is made by the law -/
theorem KL.fnm {f c' : Addr} {qual : Str} {fd : FuncData} (K : KL T p q len PL ent l H) (m : FnM H H' PL ent f c' qual fd) : KL T p q len PL ent l H' := by
  obtain ⟨ps, hP⟩ := K.t.is
  have ke : ∀ b o, H b = some o → isExt o = false → H' b = some o := fun b o e n => m.old b o e (ne_of e hP fun y => by rw [y] at n; cases n)
  refine ⟨⟨fun x hx => ?_, K.k.tn, K.k.hs.kept fun b xs e _ => ke _ _ e rfl, K.k.np, K.k.nd, fun x hx => ⟨ke _ _ (K.k.ob x hx).1 (K.k.ob x hx).2.1, (K.k.ob x hx).2⟩, K.k.wp, fun b z => z.elim⟩, m.tab, K.n⟩
  rcases K.k.tb x hx with z | ⟨c1, z1, z2⟩
  · exact .inl (m.old _ _ z (K.n x hx))
  · exact .inr ⟨c1, m.old _ _ z1 (K.n x hx), m.old _ _ z2 (ne_of z2 hP fun y => nomatch y)⟩
end
/-! ### places in a text -/
def noP : Pos := ⟨0, 0, 0, 0⟩
def forB : Stmt → List Stmt
  | .For _ _ b _ _ => b
  | _ => []
def ifB : Stmt → List Stmt
  | .If _ b _ _ => b
  | _ => []
def asgV : Stmt → Expr
  | .Assign _ v _ => v
  | .Return (some v) _ => v
  | .Expr v _ => v
  | _ => .Name "" noP
def ifT : Stmt → Expr
  | .If t _ _ _ => t
  | _ => .Name "" noP
def subE : Expr → List Expr
  | .List es _ => es
  | .Tuple es _ _ => es
  | .Call _ es _ _ => es
  | .BoolOp _ es _ => es
  | .UnaryOp _ e _ => [e]
  | .BinOp a _ b _ => [a, b]
  | .Compare a _ es _ => a :: es
  | .Subscript a b _ => [a, b]
  | .IfExp a b c _ => [a, b, c]
  | _ => []
def kwE : Expr → List Expr
  | .Call _ _ ks _ => ks.map (·.value)
  | _ => []
def atS (l : List Stmt) (i : Nat) : Stmt := l.getD i (.Pass noP)
def atE (l : List Expr) (i : Nat) : Expr := l.getD i (.Name "" noP)
def lamA : Expr → Arguments
  | .Lambda a _ _ _ => a
  | _ => { posonlyargs := [], args := [], vararg := none, kwonlyargs := [], kw_defaults := [], kwarg := none, defaults := [] }
def lamB : Expr → Expr
  | .Lambda _ b _ _ => b
  | e => e
def lamS : Expr → Scope
  | .Lambda _ _ s _ => s
  | _ => { kind := .function, names := [], isGenerator := false, isCoroutine := false, more := [] }
def lamP : Expr → Pos
  | .Lambda _ _ _ p => p
  | _ => noP
abbrev qLam : Str := "law.<locals>.<lambda>"
end L2

set_option Elab.async false
set_option linter.all false
set_option maxRecDepth 100000
namespace L2
open PySem PySem.Spec PyProof.Rows PySem.W
/-! ### zip(list, text, list) -/
abbrev IsTrip (h : Heap) (T : Addr) (a b c : Value) : Prop := h.get? T = some { cls := .type "tuple", data := .seq #[a, b, c] }
section
variable {prog : Program} {w : World} {A : Around} {E : Value → Shared → Prop} {s : Shared}
structure Z3 (z TI TO i1 i2 i3 l1 l3 : Addr) : Prop where
  TIz : TI ≠ z
  TOz : TO ≠ z
  i1z : i1 ≠ z
  i2z : i2 ≠ z
  i3z : i3 ≠ z
  TITO : TI ≠ TO
  TIi1 : TI ≠ i1
  TIi2 : TI ≠ i2
  TIi3 : TI ≠ i3
  TOi1 : TO ≠ i1
  TOi2 : TO ≠ i2
  TOi3 : TO ≠ i3
  i12 : i1 ≠ i2
  i13 : i1 ≠ i3
  i23 : i2 ≠ i3
  l1z : l1 ≠ z
  l1TO : l1 ≠ TO
  l1i1 : l1 ≠ i1
  l1i2 : l1 ≠ i2
  l1i3 : l1 ≠ i3
  l3z : l3 ≠ z
  l3TO : l3 ≠ TO
  l3i1 : l3 ≠ i1
  l3i2 : l3 ≠ i2
  l3i3 : l3 ≠ i3
end
abbrev z3H1 (h : Heap) (l1 : Addr) : Heap := h.push { cls := .type "list_iterator", data := .fields #[.ref l1, .int 0 0] }
abbrev z3H2 (h : Heap) (l1 : Addr) (x : Str) (t : Tok) : Heap := (z3H1 h l1).push { cls := .type (strIterType x), data := .fields #[.str x t, .int 0 0] }
abbrev z3H3 (h : Heap) (l1 : Addr) (x : Str) (t : Tok) (l3 : Addr) : Heap := (z3H2 h l1 x t).push { cls := .type "list_iterator", data := .fields #[.ref l3, .int 0 0] }
abbrev z3H4 (h : Heap) (l1 : Addr) (x : Str) (t : Tok) (l3 : Addr) : Heap := (z3H3 h l1 x t l3).push { cls := .type "tuple", data := .seq #[.ref h.objs.size, .ref (z3H1 h l1).objs.size, .ref (z3H2 h l1 x t).objs.size] }
abbrev z3H5 (h : Heap) (l1 : Addr) (x : Str) (t : Tok) (l3 : Addr) : Heap := (z3H4 h l1 x t l3).push { cls := .type "tuple", data := .seq #[.none, .none, .none] }
abbrev z3H6 (h : Heap) (l1 : Addr) (x : Str) (t : Tok) (l3 : Addr) : Heap := (z3H5 h l1 x t l3).push { cls := .type "zip", data := .fields #[.none, .bool false, .bool false, .ref (z3H3 h l1 x t l3).objs.size, .ref (z3H4 h l1 x t l3).objs.size] }
section
variable {prog : Program} {w : World} {A : Around} {E : Value → Shared → Prop} {s : Shared}
end
/-- the list at a, the text and the list at b, the items in new threes -/
def Itz3 (K : PySem.W.Frag) (a : Addr) (tx : Str) (b : Addr) : It :=
  ⟨fun i H => ∃ (xs ys : List V) (x y : V) (c : Nat), SqL K H a xs ∧ SqL K H b ys ∧ xs[i]? = some x ∧ tx.cps[i]? = some c ∧ ys[i]? = some y,
    fun i H v H' => ∃ T x c y, v = .ref T ∧ H T = none ∧ H' = upd H T (.tup [x, .str ⟨#[c]⟩, y]) ∧ (∀ xs, SqL K H a xs → xs[i]? = some x) ∧ tx.cps[i]? = some c ∧ ∀ ys, SqL K H b ys → ys[i]? = some y,
    fun i H => ∃ xs : List V, SqL K H a xs ∧ xs.length ≤ i⟩
def iZip3 (K : PySem.W.Frag) (ta : TA) : TI := fun σ H R => ta σ H fun vs H1 => ∃ a x b xs ys, vs = [.ref a, .str x, .ref b] ∧ SqL K H1 a xs ∧ SqL K H1 b ys ∧ R (Itz3 K a x b) H1
/-! ### texts made as wide -/
def rPadL : V → List V → Hp → VK → Prop := fun x xs H Q => ∃ (a : Str) (i : Int), x = .str a ∧ xs = [.int i] ∧ PadOk i = true ∧ Q (.str (Txt.ljust a i)) H
def rPadR : V → List V → Hp → VK → Prop := fun x xs H Q => ∃ (a : Str) (i : Int), x = .str a ∧ xs = [.int i] ∧ PadOk i = true ∧ Q (.str (Txt.rjust a i)) H
end L2

set_option Elab.async false
set_option linter.all false
set_option maxRecDepth 100000
namespace L2
open PySem PySem.Spec PyProof.Rows PySem.W
/-! ### text * number, s.rjust(n, sign) -/
def rRepS : R2 := fun x y H Q => ∃ (a : Str) (k : Int), x = .str a ∧ y = .int k ∧ -(2 ^ 63) ≤ k ∧ k < 2 ^ 63 ∧ a.length * k.toNat ≤ sizeLine ∧ Q (.str (Txt.mul a k)) H
def rPadF : V → List V → Hp → VK → Prop := fun x xs H Q => ∃ (a : Str) (i : Int) (c : Nat), x = .str a ∧ xs = [.int i, .str ⟨#[c]⟩] ∧ PadOk i = true ∧ Q (.str (Txt.rjustF a i c)) H
/-! ### built-ins with keywords -/
def CallRK (X : Cx) (f : Value) (ks : List Str) (r : List V → List V → Hp → VK → Prop) : Prop :=
  ∀ (pins : List (Addr × Obj)) (s : Shared) (σ : St) (H : Hp) (xs zs : List V) (us ws : List Value) (Q : VK), Inv X pins σ H s → Vals xs us → Vals zs ws → r xs zs H Q → wpAny (model X.prog X.w) X.A (call f us (ks.zip ws)) (EP X pins σ Q) X.xe s
def tCBK (r : List V → List V → Hp → VK → Prop) (t tk : TA) : TE := fun σ H Q => t σ H fun vs H1 => tk σ H1 fun zs H2 => r vs zs H2 Q
theorem pe_callBK {X : Cx} {id : String} {ks : List Str} {r : List V → List V → Hp → VK → Prop} {x : Str} {e : Expr} {es : List Expr} {kws : List Keyword} {t tk : TA} {p pos : Pos} (hc : CallRK X (.builtin id) ks r) (hg : Gl X x) (hm : X.mg x = none) (hv : bootBuiltins x = some (.builtin id)) (ha : PA X (e :: es) t) (hkw : PK X kws tk)
    (hks : (backToKw pos (keywordEach kws X.env)).filterMap (·.1) = ks := by rfl) (hn : x ≠ "__name__" := by decide) (hdb : (x == ("__debug__" : Str)) = false := by decide)
    (he : backTo pos (starEach (e :: es) X.env) = (false, eval e X.env) :: backTo pos (starEach es X.env) := by rfl) (hpl : (backTo pos (starEach (e :: es) X.env)).any (·.1) = false := by rfl)
    (hall : (backToKw pos (keywordEach kws X.env)).all (·.1.isSome) = true := by rfl) (hk2 : (backToKw pos (keywordEach kws X.env)).any (·.1.isNone) = false := by rfl) : PE X (.Call (.Name x p) (e :: es) kws pos) (tCBK r t tk) := by
  intro pins s σ H Q I h
  refine wpAny_Call_Name_kw (ld_blt I hg hm hv ?_ hn hdb)
  refine PyProof.Rows.callWith_kw (thn (ha pos pins s σ H _ I h) fun us s1 ⟨vs, H1, I1, r1, q1⟩ => ?_) he hpl hall hk2
  refine thn (hkw pos pins s1 σ H1 _ I1 q1) fun ws s2 ⟨zs, H2, I2, rz, q2⟩ => ?_
  rw [hks]
  exact hc pins s2 σ H2 vs zs us ws Q I2 r1 rz q2
/-! ### max(list, default = d) -/
/-- max(a list of numbers, default = d) -/
def rMaxD (K : PySem.W.Frag) : List V → List V → Hp → VK → Prop := fun vs zs H Q => ∃ (a : Addr) (ns : List Int) (d : V), vs = [V.ref a] ∧ zs = [d] ∧ SqL K H a (ns.map V.int) ∧ (∀ m, m ∈ ns → (∀ y, y ∈ ns → y ≤ m) → Q (.int m) H) ∧ (ns = [] → Q d H)
end L2

set_option Elab.async false
set_option linter.all false
set_option maxRecDepth 100000
namespace L2
open PySem PySem.Spec PyProof.Rows
/-! ### a def some of whose cells stand in the heap -/
/-- as cxE, for a def all of whose cells are its own -/
def cxF (CX : CXT) (P : Program) (w : World) (K : PySem.W.Frag) (mg : Str → Option Value) (base : Heap) (N : List Str) (env : Env) (A : Around) (outer : List Env) (s : Shared) (H : Hp) (E : XK) (hc : List Addr) : Cx where
  prog := P
  w := w
  K := K
  mg := mg
  base := base
  A := A.deeper env
  N := N
  s_0 := s
  H_0 := H
  env := env
  outer := outer
  stack := env :: outer
  ex := []
  calm := true
  fn := fun _ => true
  pn := []
  xe := fun e s' => wpAny (model P w) (A.deeper env) (leaving env e) (fun _ s'' => CX outer H s E e s'') (fun e' s'' => CX outer H s E e' s'') s'
  hc := hc
section
variable {P : Program} {w : World} {K : PySem.W.Frag} {mg : Str → Option Value} {base : Heap} {N : List Str} {env : Env} {A : Around} {outer : List Env} {s : Shared} {H : Hp} {E : XK} {hc : List Addr} {L : Addr}
theorem passes_F {CX : CXT} : PassesOwn (model P w) (cxF CX P w K mg base N env A outer s H E hc).A (cxF CX P w K mg base N env A outer s H E hc).env (cxF CX P w K mg base N env A outer s H E hc).xe := PassesOwn.leaving
end
/-- the cells whose names are not among N -/
def hcl (N : List Str) (n : Nat) (names : List (Str × NameKind)) : List (Str × Addr) := (cellsFrom n names []).filter fun p => !decide (p.1 ∈ N)
theorem hcl_mem {N : List Str} {n : Nat} {names : List (Str × NameKind)} {p : Str × Addr} (h : p ∈ hcl N n names) : p ∈ cellsFrom n names [] ∧ p.1 ∉ N := by
  obtain ⟨h1, h2⟩ := List.mem_filter.mp h
  exact ⟨h1, by simpa using h2⟩
structure FnScopeC2 (N ps : List Str) (sc : Scope) : Prop where
  kind : sc.kind = .function
  co : sc.isCoroutine = false
  gen : sc.isGenerator = false
  nd : N.Nodup
  ndp : ps.Nodup
  ndn : (sc.names.map (·.1)).Nodup
  loc : ∀ x ∈ N, sc.names.lookup x = some .cell → x ∉ ps
  par : ∀ x ∈ ps, sc.names.lookup x = some .local ∨ sc.names.lookup x = some .cell
  free : ∀ y ∈ sc.names, y.2 ≠ .free
/-- as fn_ofC, but cells whose names are among N stay with the names -/
theorem fn_ofC2 {CX : CXT} {P : Program} {w : World} {K : PySem.W.Frag} {mg : Str → Option Value} {base : Heap} {k : Nat} {f : Addr} {name qual : Str} {params : Arguments} {body : List Stmt} {scope : Scope} {dV kV doc pm cdv ct oc : Value} {an od : Option Addr}
    {osl : Array (Option Value)} {N ps : List Str} {sp : Sp} (lk : K.lookup f = some ⟨oc, od, .func (PySem.W.fnOf name qual params body scope dV kV doc pm an cdv ct), osl⟩) (hcd : PySem.W.codeIn K cdv qual = true) (S : FnScopeC2 N ps scope)
    (len : ∀ vs H Q E, sp vs H Q E → vs.length = ps.length)
    (hbody : ∀ (A : Around) (outer : List Env) (s : Shared) (H : Hp) (vs : List V) (Q : VK) (E : XK), Room k (A.deeper (envOfC qual scope s.heap.objs.size f cdv)) → sp vs H Q E →
      (∀ a, s.heap.objs.size ≤ a → H a = none) →
      ∃ t, PSs (cxF CX P w K mg base N (envOfC qual scope s.heap.objs.size f cdv) A outer s H E ((hcl N (s.heap.objs.size + 1) scope.names).map (·.2))) body t ∧
        t { nx := fun _ H' => Q .non H', rt := Q } (startC N ps vs) (Hcel (fun x => (ps.zip vs).lookup x) (hcl N (s.heap.objs.size + 1) scope.names) H)) :
    FnOk P w K mg base CX (k + 1) f (PySem.W.fnOf name qual params body scope dV kV doc pm an cdv ct) ps sp := by
  refine ⟨len, fun A outer s H args us vs Q E hr e0 hb r hsp => ?_⟩
  have hl := len _ _ _ _ hsp
  have KX : K.In s.heap := e0.mod.kin.keeps fun b o e => (e0.bs b o e).1
  have lim : s.heap.NoLimit := e0.mod.nolimit.keeps fun b o e => (e0.bs b o e).1
  have hkind : ∀ y ∈ ps.zip us, scope.names.lookup y.1 = some .local ∨ (scope.names.lookup y.1 = some .cell ∧ ((cellsFrom (s.heap.objs.size + 1) scope.names []).lookup y.1).isSome = true) := fun ⟨n, v⟩ hy => by
    rcases S.par n (List.of_mem_zip hy).1 with q | q
    · exact .inl q
    · exact .inr ⟨q, PySem.W.cellsFrom_some _ _ _ (.inl q)⟩
  refine codeAny_call_function hr.depth (KX _ _ lk) rfl S.co S.gen rfl (PySem.W.codeRec_of KX hcd) (hb _ _ _ _ ?_)
  refine wpAny_newFunctionEnv_cells S.kind hkind fun env he s1 x => ?_
  subst he
  refine ⟨lim.keeps x.toInCall.keep, codeAny_func ?_⟩
  have fresh : ∀ a, s.heap.objs.size ≤ a → H a = none := fun a ha => e0.hok.fresh ha
  obtain ⟨t, ht, hq⟩ := hbody A outer s H vs Q E (hr.deeper _) hsp fresh
  obtain ⟨h1, tk, rfl, hk⟩ := x.done
  have x : InCallC s s.heap.objs.size (bindL (envOfC qual scope s.heap.objs.size f cdv).kindOf (ps.zip us) fun _ => none) (cellsFrom (s.heap.objs.size + 1) scope.names []) (bindC (envOfC qual scope s.heap.objs.size f cdv).kindOf (ps.zip us) fun _ => none) { s with heap := h1, toks := tk } := x
  have ndk : ((cellsFrom (s.heap.objs.size + 1) scope.names []).map (·.1)).Nodup := cellsFrom_keys S.ndn List.nodup_nil fun _ h => absurd h List.not_mem_nil
  have cell : ∀ {y c}, (y, c) ∈ cellsFrom (s.heap.objs.size + 1) scope.names [] → h1.IsCell c (bindC (envOfC qual scope s.heap.objs.size f cdv).kindOf (ps.zip us) (fun _ => none) y) := fun {y c} hm => x.cell y c (lookup_of_nodup ndk hm)
  have kindc : ∀ {y c}, (y, c) ∈ cellsFrom (s.heap.objs.size + 1) scope.names [] → scope.names.lookup y = some .cell := fun {y c} hm => by
    rcases cellsFrom_key hm with z | z
    · exact absurd z List.not_mem_nil
    · exact lookup_of_nodup S.ndn z
  have above : ∀ {a}, a ∈ (hcl N (s.heap.objs.size + 1) scope.names).map (·.2) → s.heap.objs.size < a := fun {a} ha => by
    obtain ⟨⟨y, c⟩, hm, rfl⟩ := List.mem_map.mp ha
    exact x.above y c (hcl_mem hm).1
  have old : ∀ {a}, a < s.heap.objs.size → Hcel (fun x => (ps.zip vs).lookup x) (hcl N (s.heap.objs.size + 1) scope.names) H a = H a := fun {a} ha => Hcel_out fun z => absurd (Nat.lt_trans ha (above z)) (Nat.lt_irrefl _)
  have oldT : ∀ {a o}, H a = some o → Hcel (fun x => (ps.zip vs).lookup x) (hcl N (s.heap.objs.size + 1) scope.names) H a = some o := fun {a o} e => by rw [old (e0.hok.lt e)]; exact e
  have hokC : HOk P w (Hcel (fun x => (ps.zip vs).lookup x) (hcl N (s.heap.objs.size + 1) scope.names) H) h1 := fun a o e => by
    by_cases ha : a ∈ (hcl N (s.heap.objs.size + 1) scope.names).map (·.2)
    · obtain ⟨y, hm, e'⟩ := Hcel_in (b := fun x => (ps.zip vs).lookup x) (H := H) ha
      rw [e'] at e
      cases e
      exact ⟨_, bindC_rel S.ndp r (by show scope.names.lookup y ≠ _; rw [kindc (hcl_mem hm).1]; decide), cell (hcl_mem hm).1⟩
    · rw [Hcel_out ha] at e
      exact (e0.hok a o e).stay (fun b u _ q => hk b u q) (fun b q => oldT q) fun b xs q => oldT q
  have I : Inv (cxF CX P w K mg base N (envOfC qual scope s.heap.objs.size f cdv) A outer s H E ((hcl N (s.heap.objs.size + 1) scope.names).map (·.2))) [] (startC N ps vs) (Hcel (fun x => (ps.zip vs).lookup x) (hcl N (s.heap.objs.size + 1) scope.names) H) { s with heap := h1, toks := tk } := by
    refine ⟨⟨e0.mod, S.kind, rfl, rfl, Nat.le_refl _, fun y z c h1 h2 => name_of_addr x.apart (PySem.mem_of_lookup h1) (PySem.mem_of_lookup h2), fun y hy => ?_, fun y c _ h => Nat.le_of_lt (x.above y c (PySem.mem_of_lookup h)), fun _ => hr.hd, Around.frames_deeper e0.frames, .inr ⟨rfl, rfl⟩,
      fun b z => absurd z List.not_mem_nil, e0.bs, e0.bsz, fun b _ _ z => absurd z List.not_mem_nil, fun b z => absurd z List.not_mem_nil, e0.funs, e0.frf, fun i y c h1 h2 h3 => ?_⟩,
      rfl, e0.bare, ⟨fun b o e _ _ _ => hk b o e, fun b o e _ _ _ => ⟨o.slots, hk b o e⟩, fun b o e n _ => by rw [old (Heap.lt_size e)]; exact n, fun b o e _ => ⟨o, hk b o e⟩, fun b xs e => oldT e, fun b o u e => oldT e, fun b ps e => ⟨#[], by rw [show (_ : Option HO) = _ from oldT e]; simp⟩, fun b v e => ⟨v, oldT e⟩⟩,
      ⟨_, x.toInCall.ns, fun i y v h1 h2 h3 => ?_⟩, fun y c h => ⟨_, cell (PySem.mem_of_lookup h)⟩, ?_, fun y c h z => ?_, fun c hc => ?_, fun p hp => absurd (show p ∈ ([] : List (Addr × Obj)) from hp) (by simp), hokC, by unfold startC; rw [List.length_map]; rfl⟩
    · have hy : scope.names.lookup y = some .cell ∨ scope.names.lookup y = some .free := hy
      rcases hy with hy | hy
      · exact cell_has hy
      · exact absurd rfl (S.free _ (PySem.mem_of_lookup hy))
    · obtain ⟨⟨z, c'⟩, hm, e'⟩ := List.mem_map.mp h3
      have e' : c' = c := e'
      subst e'
      have : z = y := name_of_addr x.apart (hcl_mem hm).1 (PySem.mem_of_lookup h2)
      subst this
      exact (hcl_mem hm).2 (List.mem_of_getElem? h1)
    · obtain ⟨j, hj, hv⟩ := startC_get h1 h2
      obtain ⟨u, hu, rv⟩ := r.get hv
      have hloc : scope.names.lookup y = some .local := (S.par y (List.mem_of_getElem? hj)).elim id fun z => absurd (List.mem_of_getElem? hj) (S.loc y (List.mem_of_getElem? h1) z)
      exact ⟨u, rv, .inl ⟨hloc, bindL_get S.ndp hj hu hloc⟩⟩
    · show Hcel _ _ H s.heap.objs.size = none
      rw [Hcel_out fun z => absurd (above z) (Nat.lt_irrefl _)]
      exact fresh _ (Nat.le_refl _)
    · show Hcel _ _ H c = none
      rw [Hcel_out z]
      exact fresh _ (Nat.le_of_lt (x.above y c (PySem.mem_of_lookup h)))
    · obtain ⟨y, _, e'⟩ := Hcel_in (b := fun x => (ps.zip vs).lookup x) (H := H) hc
      exact ⟨_, e'⟩
  refine wpAny_mono (ht [] _ (startC N ps vs) _ _ I hq) (fun fl s' hs => ?_) fun e s' hs => hs
  have fin : ∀ {σ' : St} {H' : Hp} {v : V} {u : Value}, Inv (cxF CX P w K mg base N (envOfC qual scope s.heap.objs.size f cdv) A outer s H E ((hcl N (s.heap.objs.size + 1) scope.names).map (·.2))) [] σ' H' s' → RelV v u → Q v H' → CE outer P w H s Q u s' :=
    fun {σ' H' v u} J rv q => ⟨v, H', J.os, J.bare, J.base, J.hok, rv, q⟩
  cases fl with
  | ret u =>
    obtain ⟨v, σ', H', J, rv, q⟩ := hs
    exact fin J rv q
  | next =>
    obtain ⟨σ', H', J, q⟩ := hs
    exact fin (v := V.non) (u := Value.none) J rfl q
  | brk =>
    obtain ⟨_, _, _, q⟩ := hs
    exact False.elim q
  | cont =>
    obtain ⟨_, _, _, q⟩ := hs
    exact False.elim q
section
variable {P : Program} {w : World} {K : PySem.W.Frag} {mg : Str → Option Value} {base : Heap}
theorem Fun.okC2 {x qual : Str} {st : Stmt} {f : Addr} {fd : FuncData} {N ps : List Str} {k : Nat} {sp : Sp} (F : Fun K x qual st f fd) (S : FnScopeC2 N ps (defScope st)) (len : ∀ vs H Q E, sp vs H Q E → vs.length = ps.length)
    (hbody : ∀ (cdv : Value) (A : Around) (outer : List Env) (s : Shared) (H : Hp) (vs : List V) (Q : VK) (E : XK), fd.code = cdv → Room k (A.deeper (envOfC qual (defScope st) s.heap.objs.size f cdv)) → sp vs H Q E → (∀ a, s.heap.objs.size ≤ a → H a = none) →
      ∃ t, PSs (cxF (CXo P w) P w K mg base N (envOfC qual (defScope st) s.heap.objs.size f cdv) A outer s H E ((hcl N (s.heap.objs.size + 1) (defScope st).names).map (·.2))) (defBody st) t ∧
        t { nx := fun _ H' => Q .non H', rt := Q } (startC N ps vs) (Hcel (fun x => (ps.zip vs).lookup x) (hcl N (s.heap.objs.size + 1) (defScope st).names) H)) : FnOk P w K mg base (CXo P w) (k + 1) f fd ps sp := by
  obtain ⟨oc, od, kV, doc, pm, an, cdv, ct, osl, rfl, lk, hcd⟩ := F.ex
  exact fn_ofC2 lk hcd S len fun A outer s H vs Q E hr hsp hfr => hbody cdv A outer s H vs Q E rfl hr hsp hfr
end
theorem FunD.okX {P : Program} {w : World} {K : PySem.W.Frag} {mg : Str → Option Value} {base : Heap} {x qual : Str} {st : Stmt} {f : Addr} {fd : FuncData} {N ps : List Str} {k : Nat} {sp : Sp} (F : FunD K x qual st f fd) (S : FnScope N ps (defScope st)) (len : ∀ vs H Q E, sp vs H Q E → vs.length = ps.length)
    (hbody : ∀ (cdv : Value) (A : Around) (outer : List Env) (s : Shared) (H : Hp) (vs : List V) (Q : VK) (E : XK), Room k (A.deeper (envOfC qual (defScope st) s.heap.objs.size f cdv)) → sp vs H Q E →
      ∃ t, PSs (cxOf (CXo P w) P w K mg base N qual (defScope st) f cdv A outer s H E) (defBody st) t ∧ t { nx := fun _ H' => Q .non H', rt := Q } (start N vs) H) : FnOk P w K mg base (CXo P w) (k + 1) f fd ps sp := by
  obtain ⟨oc, od, dV, kV, doc, pm, an, cdv, ct, osl, rfl, lk, hcd⟩ := F.ex
  exact fn_of lk hcd S len fun A outer s H vs Q E hr hsp => hbody cdv A outer s H vs Q E hr hsp
end L2

set_option Elab.async false
set_option linter.all false
set_option maxRecDepth 100000
namespace L2
open PySem PySem.Spec PyProof.Rows
/-! ### cells of a def, whatever they hold -/
structure CelO (H H3 : Hp) (l : List (Addr × Option V)) : Prop where
  same : Same H H3
  new : ∀ x ∈ l, H x.1 = none
  has : ∀ x ∈ l, H3 x.1 = some (.cel x.2)
  nd : (l.map (·.1)).Nodup
theorem CelO.start {b : Str → Option V} {H : Hp} {cs : List (Str × Addr)} (nd : (cs.map (·.2)).Nodup) (fr : ∀ p ∈ cs, H p.2 = none) : CelO H (Hcel b cs H) (cs.map fun p => (p.2, b p.1)) := by
  refine ⟨fun a o e => ?_, fun x hx => ?_, fun x hx => ?_, by rw [List.map_map]; exact nd⟩
  · rw [Hcel_out fun z => ?_]
    · exact e
    · obtain ⟨p, hp, rfl⟩ := List.mem_map.mp z
      rw [fr p hp] at e; cases e
  · obtain ⟨p, hp, rfl⟩ := List.mem_map.mp hx
    exact fr p hp
  · obtain ⟨p, hp, rfl⟩ := List.mem_map.mp hx
    obtain ⟨y, hy, e⟩ := Hcel_in (b := b) (H := H) (List.mem_map.mpr ⟨p, hp, rfl⟩)
    have : y = p.1 := by
      obtain ⟨i, hi⟩ := List.mem_iff_getElem?.mp hy
      obtain ⟨j, hj⟩ := List.mem_iff_getElem?.mp hp
      have h1 : (cs.map (·.2))[i]? = some p.2 := by rw [List.getElem?_map, hi]; rfl
      have h2 : (cs.map (·.2))[j]? = some p.2 := by rw [List.getElem?_map, hj]; rfl
      have hl : i < (cs.map (·.2)).length := (List.getElem?_eq_some_iff.mp h1).1
      have := (List.getElem?_inj hl nd).mp (h1.trans h2.symm)
      rw [this, hj] at hi
      exact (congrArg Prod.fst (Option.some.inj hi)).symm
    rw [e, this]
section
variable {H H3 H4 : Hp} {l : List (Addr × Option V)} {c : Addr} {v : Option V}
theorem CelO.get (C : CelO H H3 l) (i : Nat) (h : l[i]? = some (c, v)) : H3 c = some (.cel v) := C.has _ (List.mem_of_getElem? h)
theorem CelO.at (C : CelO H H3 l) (i : Nat) (h : l[i]? = some (c, v)) : ∃ v, H3 c = some (.cel v) := ⟨_, C.get i h⟩
theorem CelO.grow (C : CelO H H3 l) (s : Same H3 H4) : CelO H H4 l := ⟨fun b o e => s _ _ (C.same _ _ e), C.new, fun x hx => s _ _ (C.has x hx), C.nd⟩
theorem CelO.diff (C : CelO H H3 l) {i j : Nat} {a b : Addr} {u w : Option V} (hi : l[i]? = some (a, u)) (hj : l[j]? = some (b, w)) (n : i ≠ j) : a ≠ b := fun z => by
  have h1 : (l.map (·.1))[i]? = some a := by rw [List.getElem?_map, hi]; rfl
  have h2 : (l.map (·.1))[j]? = some a := by rw [List.getElem?_map, hj, z]; rfl
  have hl : i < (l.map (·.1)).length := (List.getElem?_eq_some_iff.mp h1).1
  exact n ((List.getElem?_inj hl C.nd).mp (h1.trans h2.symm))
theorem CelO.put (C : CelO H H3 l) (i : Nat) {u : V} (h : l[i]? = some (c, v)) : CelO H (upd H3 c (.cel (some u))) (l.set i (c, some u)) := by
  have mem : ∀ x ∈ l.set i (c, some u), x = (c, some u) ∨ ∃ j : Nat, j ≠ i ∧ l[j]? = some x := fun x hx => by
    obtain ⟨j, hj⟩ := List.mem_iff_getElem?.mp hx
    by_cases n : i = j
    · subst n
      left
      rw [List.getElem?_set_self', h] at hj
      exact (Option.some.inj hj).symm
    · rw [List.getElem?_set_ne n] at hj
      exact .inr ⟨j, fun z => n z.symm, hj⟩
  refine ⟨fun b o e => ?_, fun x hx => ?_, fun x hx => ?_, ?_⟩
  · rw [upd_ne (ne_of_none e (C.new _ (List.mem_of_getElem? h)))]
    exact C.same _ _ e
  · rcases mem x hx with rfl | ⟨j, _, e⟩
    · exact C.new (c, v) (List.mem_of_getElem? h)
    · exact C.new _ (List.mem_of_getElem? e)
  · rcases mem x hx with rfl | ⟨j, n, e⟩
    · exact upd_same
    · obtain ⟨a, w⟩ := x
      rw [upd_ne (C.diff e h n)]
      exact C.has _ (List.mem_of_getElem? e)
  · have : (l.set i (c, some u)).map (·.1) = l.map (·.1) := by
      rw [List.map_set]
      refine List.ext_getElem? fun j => ?_
      by_cases n : i = j
      · subst n
        rw [List.getElem?_set_self', List.getElem?_map, h]
        rfl
      · rw [List.getElem?_set_ne n]
    rw [this]
    exact C.nd
theorem CelO.mem (C : CelO H H3 l) {b : Addr} (z : b ∈ l.map (·.1)) : H b = none ∧ ∃ v, H3 b = some (.cel v) := by
  obtain ⟨x, hx, rfl⟩ := List.mem_map.mp z
  exact ⟨C.new x hx, x.2, C.has x hx⟩
end
theorem CelO.rev {H H3 : Hp} {l : List (Addr × Option V)} (C : CelO H H3 l) : CelO H H3 l.reverse :=
  ⟨C.same, fun x hx => C.new x (List.mem_reverse.mp hx), fun x hx => C.has x (List.mem_reverse.mp hx), by rw [List.map_reverse]; exact (List.reverse_perm _).symm.nodup C.nd⟩
/-! ### tables of several defs -/
def TbA (T : List (Addr × Pos × Str)) (H : Hp) : Prop := ∀ x ∈ T, Tab H x.1 x.2.1 x.2.2
theorem TbA.same {T : List (Addr × Pos × Str)} {H H' : Hp} (h : TbA T H) (s : Same H H') : TbA T H' := fun x hx => (h x hx).same s
/-- all but the tables stands as it was -/
structure TM (T : List (Addr × Pos × Str)) (H H' : Hp) : Prop where
  kp : ∀ b o, H b = some o → (∀ x ∈ T, b ≠ x.1) → H' b = some o
  tb : TbA T H'
theorem TM.refl {T : List (Addr × Pos × Str)} {H : Hp} (h : TbA T H) : TM T H H := ⟨fun _ _ e _ => e, h⟩
theorem TM.of {T : List (Addr × Pos × Str)} {H H' : Hp} (h : TbA T H) (s : Same H H') : TM T H H' := ⟨fun b o e _ => s b o e, h.same s⟩
theorem TM.trans {T : List (Addr × Pos × Str)} {H H1 H2 : Hp} (a : TM T H H1) (b : TM T H1 H2) : TM T H H2 := ⟨fun c o e n => b.kp c o (a.kp c o e n) n, b.tb⟩
theorem TM.keep {T : List (Addr × Pos × Str)} {H H' : Hp} {b : Addr} {o : HO} (t : TM T H H') (hT : TbA T H) (e : H b = some o) (n : ∀ ps, o ≠ .tbl ps) : H' b = some o :=
  t.kp b o e fun x hx z => by
    obtain ⟨ps, hP⟩ := (hT x hx).is
    rw [z, hP] at e
    cases e
    exact n ps rfl
/-- a row was made -/
theorem TM.row {T : List (Addr × Pos × Str)} {C : Addr} {H H3 H' : Hp} {Pt : Addr} {pos : Pos} {q : Str} {r f c' dx : Addr} {fd : FuncData} {cl : List (Str × Addr)} (hT : TbA T H) (tn : (T.map (·.1)).Nodup) (hm : (Pt, pos, q) ∈ T) (s : Same H H3) (M : RowM C H3 H' Pt pos q r f c' dx fd cl) : TM T H H' := by
  have ht := hT.same s
  obtain ⟨ps, hP⟩ := (ht _ hm).is
  refine ⟨fun b o e n => M.kp b o (s _ _ e) (n _ hm), fun x hx => ?_⟩
  by_cases n : x.1 = Pt
  · have : x = (Pt, pos, q) := by
      obtain ⟨i, hi⟩ := List.mem_iff_getElem?.mp hx
      obtain ⟨j, hj⟩ := List.mem_iff_getElem?.mp hm
      have h1 : (T.map (·.1))[i]? = some Pt := by rw [List.getElem?_map, hi, ← n]; rfl
      have h2 : (T.map (·.1))[j]? = some Pt := by rw [List.getElem?_map, hj]; rfl
      have hl : i < (T.map (·.1)).length := (List.getElem?_eq_some_iff.mp h1).1
      have := (List.getElem?_inj hl tn).mp (h1.trans h2.symm)
      rw [this, hj] at hi
      exact (Option.some.inj hi).symm
    rw [this]
    exact M.tab
  · rcases ht x hx with z | ⟨c1, z1, z2⟩
    · exact .inl (M.kp _ _ z n)
    · refine .inr ⟨c1, M.kp _ _ z1 n, M.kp _ _ z2 fun y => ?_⟩
      rw [y, hP] at z2; cases z2
/-- a function is made beside tables -/
theorem TbA.fnm {T : List (Addr × Pos × Str)} {H H' : Hp} {P : Addr} {ent : List (Pos × Str)} {f c' : Addr} {qual : Str} {fd : FuncData} (hT : TbA T H) (t : TabX H P ent) (n : ∀ x ∈ T, x.1 ≠ P) (m : FnM H H' P ent f c' qual fd) : TbA T H' := fun x hx => by
  obtain ⟨ps, hP⟩ := t.is
  rcases hT x hx with z | ⟨c1, z1, z2⟩
  · exact .inl (m.old _ _ z (n x hx))
  · exact .inr ⟨c1, m.old _ _ z1 (n x hx), m.old _ _ z2 (ne_of z2 hP fun y => nomatch y)⟩
end L2

set_option Elab.async false
set_option linter.all false
set_option maxRecDepth 100000
namespace L2
open PySem PySem.Spec PyProof.Rows
/-! ### all but tables stays -/
def noT : HO → Bool
  | .tbl _ => false
  | _ => true
def NX (H H' : Hp) : Prop := ∀ b o, H b = some o → noT o = true → H' b = some o
theorem NX.refl {H : Hp} : NX H H := fun _ _ e _ => e
theorem NX.trans {H H1 H2 : Hp} (a : NX H H1) (b : NX H1 H2) : NX H H2 := fun c o e n => b c o (a c o e n) n
theorem NX.of {H H' : Hp} (s : Same H H') : NX H H' := fun b o e _ => s b o e
theorem NX.fnm {H H' : Hp} {P : Addr} {ent : List (Pos × Str)} {f c' : Addr} {qual : Str} {fd : FuncData} (t : TabX H P ent) (m : FnM H H' P ent f c' qual fd) : NX H H' := fun b o e n => by
  obtain ⟨ps, hP⟩ := t.is
  exact m.old b o e fun z => by rw [z, hP] at e; cases e; cases n
theorem NX.free {H H' : Hp} (k : NX H H') (tb : ∀ b ps, H b = some (.tbl ps) → ∃ qs, H' b = some (.tbl qs)) {b : Addr} (h : H' b = none) : H b = none := by
  cases e : H b with
  | none => rfl
  | some o =>
    cases n : noT o with
    | true => rw [k b o e n] at h; cases h
    | false =>
      cases o with
      | tbl ps => obtain ⟨qs, hq⟩ := tb b ps e; rw [hq] at h; cases h
      | _ => cases n
/-- things that stand, none of them a table -/
def XN (fl : List (Addr × HO)) (H : Hp) : Prop := ∀ x ∈ fl, H x.1 = some x.2 ∧ noT x.2 = true
theorem XN.nil {H : Hp} : XN [] H := fun x hx => absurd hx List.not_mem_nil
theorem XN.nx {fl : List (Addr × HO)} {H H' : Hp} (h : XN fl H) (k : NX H H') : XN fl H' := fun x hx => ⟨k _ _ (h x hx).1 (h x hx).2, (h x hx).2⟩
theorem XN.get {fl : List (Addr × HO)} {H : Hp} (h : XN fl H) (i : Nat) {b : Addr} {o : HO} (e : fl[i]? = some (b, o)) : H b = some o := (h _ (List.mem_of_getElem? e)).1
theorem XN.cons {fl : List (Addr × HO)} {H : Hp} {b : Addr} {o : HO} (h : XN fl H) (e : H b = some o) (n : noT o = true := by rfl) : XN ((b, o) :: fl) H := fun x hx => by
  rcases List.mem_cons.mp hx with rfl | hx
  · exact ⟨e, n⟩
  · exact h x hx
/-- the state of a def that makes functions -/
structure Mks (T : List (Addr × Pos × Str)) (PL : Addr) (ent : List (Pos × Str)) (H0 : Hp) (fl : List (Addr × HO)) (H : Hp) : Prop where
  tb : TbA T H
  tx : TabX H PL ent
  nn : ∀ x ∈ T, x.1 ≠ PL
  nx : NX H0 H
  kp : ∀ b o, H0 b = some o → (∀ x ∈ T, b ≠ x.1) → b ≠ PL → H b = some o
  xn : XN fl H
  fr : ∀ x ∈ fl, H0 x.1 = none ∨ isX x.2 = true
section
variable {T : List (Addr × Pos × Str)} {PL : Addr} {ent : List (Pos × Str)} {H0 H H' : Hp} {fl : List (Addr × HO)} {a : Addr} {o : HO}
theorem Mks.free (S : Mks T PL ent H0 fl H) (h : H a = none) : H0 a = none := by
  cases e : H0 a with
  | none => rfl
  | some o =>
    exfalso
    by_cases h1 : ∃ x ∈ T, a = x.1
    · obtain ⟨x, hx, z⟩ := h1
      obtain ⟨ps, hP⟩ := (S.tb x hx).is
      rw [z, hP] at h; cases h
    · by_cases h2 : a = PL
      · obtain ⟨ps, hP⟩ := S.tx.is
        rw [h2, hP] at h; cases h
      · rw [S.kp a o e (fun x hx z => h1 ⟨x, hx, z⟩) h2] at h; cases h
theorem fr_cons {fl : List (Addr × HO)} (h : ∀ x ∈ fl, H0 x.1 = none ∨ isX x.2 = true) (z : H0 a = none ∨ isX o = true) : ∀ x ∈ (a, o) :: fl, H0 x.1 = none ∨ isX x.2 = true := fun x hx => by
  rcases List.mem_cons.mp hx with rfl | hx
  · exact z
  · exact h x hx
theorem Mks.get (S : Mks T PL ent H0 fl H) (i : Nat) {b : Addr} {o : HO} (e : fl[i]? = some (b, o)) : H b = some o := S.xn.get i e
theorem Mks.same (S : Mks T PL ent H0 fl H) (s : Same H H') : Mks T PL ent H0 fl H' := ⟨S.tb.same s, S.tx.same s, S.nn, S.nx.trans (.of s), fun b o e h1 h2 => s _ _ (S.kp b o e h1 h2), S.xn.nx (.of s), S.fr⟩
theorem Mks.alloc (S : Mks T PL ent H0 fl H) (ha : H a = none) (n : noT o = true := by rfl) : Mks T PL ent H0 ((a, o) :: fl) (upd H a o) :=
  ⟨S.tb.same (same_alloc ha), S.tx.same (same_alloc ha), S.nn, S.nx.trans (.of (same_alloc ha)), fun b o e h1 h2 => same_alloc ha _ _ (S.kp b o e h1 h2), (S.xn.nx (.of (same_alloc ha))).cons upd_same n, fr_cons S.fr (.inl (S.free ha))⟩
theorem Mks.fnm {f c' : Addr} {qual : Str} {fd : FuncData} (S : Mks T PL ent H0 fl H) (m : FnM H H' PL ent f c' qual fd) : Mks T PL ent H0 ((f, cloO f fd) :: (c', codO c' qual) :: fl) H' :=
  ⟨S.tb.fnm S.tx S.nn m, m.tab, S.nn, S.nx.trans (.fnm S.tx m), fun b o e h1 h2 => m.old _ _ (S.kp b o e h1 h2) h2, ((S.xn.nx (.fnm S.tx m)).cons m.cd rfl).cons m.fn rfl, fr_cons (fr_cons S.fr (.inr rfl)) (.inl (S.free m.nf))⟩
end
/-! ### a method that may refuse, with arguments -/
section
variable {X : Cx} {k : Nat} {f C : Addr} {fd : FuncData} {ps : List Str} {sp : Sp} {dvs : List V} {ds : List Value} {Rk : St → XK} {x m : Str} {p pos apos : Pos} {e o : Expr} {es : List Expr} {ta : TE} {t : TA}
end
end L2

set_option Elab.async false
set_option linter.all false
set_option maxRecDepth 100000
namespace L2
open PySem PySem.Spec PyProof.Rows
/-! ## Rows as machines: whatever they tell, whatever they refuse with -/
/-! ### data that stands at allowed places -/
mutual
inductive Dt (H : Hp) (G : Ap) : V → PyData → Prop
  | non : Dt H G .non .none
  | bl (b : Bool) : Dt H G (.bl b) (.bool b)
  | int (i : Int) : Dt H G (.int i) (.int i)
  | str (x : Str) : Dt H G (.str x) (.str x)
  | lst {a : Addr} {xs : List V} {ds : List PyData} : H a = some (.lst xs) → G a → DtAll H G xs ds → Dt H G (.ref a) (.list ds)
  | tup {a : Addr} {xs : List V} {ds : List PyData} : H a = some (.tup xs) → G a → DtAll H G xs ds → Dt H G (.ref a) (.tuple ds)
inductive DtAll (H : Hp) (G : Ap) : List V → List PyData → Prop
  | nil : DtAll H G [] []
  | cons {v : V} {vs : List V} {d : PyData} {ds : List PyData} : Dt H G v d → DtAll H G vs ds → DtAll H G (v :: vs) (d :: ds)
end
mutual
theorem Dt.go {H H' : Hp} {G G' : Ap} (k : ∀ b o, H b = some o → G b → H' b = some o ∧ G' b) : ∀ {v : V} {d : PyData}, Dt H G v d → Dt H' G' v d
  | _, _, .non => .non
  | _, _, .bl b => .bl b
  | _, _, .int i => .int i
  | _, _, .str x => .str x
  | _, _, .lst e g r => .lst (k _ _ e g).1 (k _ _ e g).2 (DtAll.go k r)
  | _, _, .tup e g r => .tup (k _ _ e g).1 (k _ _ e g).2 (DtAll.go k r)
theorem DtAll.go {H H' : Hp} {G G' : Ap} (k : ∀ b o, H b = some o → G b → H' b = some o ∧ G' b) : ∀ {vs : List V} {ds : List PyData}, DtAll H G vs ds → DtAll H' G' vs ds
  | _, _, .nil => .nil
  | _, _, .cons x r => .cons (Dt.go k x) (DtAll.go k r)
end
theorem DtAll.app {H : Hp} {G : Ap} : ∀ {vs : List V} {ds : List PyData} {us : List V} {es : List PyData}, DtAll H G vs ds → DtAll H G us es → DtAll H G (vs ++ us) (ds ++ es)
  | _, _, _, _, .nil, h => h
  | _, _, _, _, .cons x r, h => .cons x (DtAll.app r h)
theorem DtAll.len {H : Hp} {G : Ap} : ∀ {vs : List V} {ds : List PyData}, DtAll H G vs ds → vs.length = ds.length
  | _, _, .nil => rfl
  | _, _, .cons _ r => congrArg (· + 1) (DtAll.len r)
/-! ### a step, with what is noted -/
/-- beside W and the log -/
def Bes (W : Ap) (lg : Addr) : Ap := fun b => ¬ W b ∧ b ≠ lg
structure Stx (W W' : Ap) (lg : Addr) (H H' : Hp) (ls ls' : List V) (ev : List PyData) : Prop extends Ext W W' lg H H' where
  log : H' lg = some (.lst ls')
  ex : ∃ es : List V, ls' = ls ++ es ∧ DtAll H' (fun b => (H b = none ∨ W b) ∧ Bes W' lg b) es ev
theorem Stx.len {W W' : Ap} {lg : Addr} {H H' : Hp} {ls ls' : List V} {ev : List PyData} (x : Stx W W' lg H H' ls ls' ev) : ls'.length = ls.length + ev.length := by
  obtain ⟨es, h1, h2⟩ := x.ex
  rw [h1, List.length_append, h2.len]
theorem Stx.refl {W : Ap} {lg : Addr} {H : Hp} {ls : List V} (h : Stands W H) (hl : H lg = some (.lst ls)) : Stx W W lg H H ls ls [] :=
  { keep := fun b o e _ _ => e, new := fun _ z => .inl z, there := h, live := fun b z => z, log := hl, ex := ⟨[], by simp, .nil⟩ }
theorem Stx.same {W : Ap} {lg : Addr} {H H' : Hp} {ls : List V} (h : Stands W H) (hl : H lg = some (.lst ls)) (s : Same H H') : Stx W W lg H H' ls ls [] :=
  { keep := fun b o e _ _ => s b o e, new := fun _ z => .inl z, there := fun b z => (h b z).imp fun o e => ⟨s _ _ e.1, e.2⟩, live := fun b z => s.free z, log := s _ _ hl, ex := ⟨[], by simp, .nil⟩ }
theorem Stx.trans {W W1 W2 : Ap} {lg : Addr} {H H1 H2 : Hp} {ls ls1 ls2 : List V} {ev ew : List PyData} (x : Stx W W1 lg H H1 ls ls1 ev) (y : Stx W1 W2 lg H1 H2 ls1 ls2 ew) : Stx W W2 lg H H2 ls ls2 (ev ++ ew) := by
  obtain ⟨es, h1, h2⟩ := x.ex
  obtain ⟨fs, g1, g2⟩ := y.ex
  refine { toExt := x.toExt.trans y.toExt, log := y.log, ex := ⟨es ++ fs, by rw [g1, h1, List.append_assoc], DtAll.app (h2.go fun b o e g => ⟨y.keep _ _ e g.2.1 g.2.2, g.1, y.toExt.out e g.2.1, g.2.2⟩) (g2.go fun b o e g => ⟨e, ?_, g.2⟩)⟩ }
  rcases g.1 with z | z
  · exact .inl (x.live b z)
  · exact (x.new b z).symm
/-- a write within W -/
theorem Stx.put {W : Ap} {lg a : Addr} {H : Hp} {ls : List V} {o : HO} (h : Stands W H) (hl : H lg = some (.lst ls)) (wl : ¬ W lg) (wa : W a) (no : isExt o = false) : Stx W W lg H (upd H a o) ls ls [] := by
  have x := Stp.put h hl wl wa no
  exact { toExt := x.toExt, log := x.log, ex := ⟨[], by simp, .nil⟩ }
theorem Stx.alloc {W : Ap} {lg a : Addr} {H : Hp} {ls : List V} {o : HO} (h : Stands W H) (hl : H lg = some (.lst ls)) (ha : H a = none) (no : isExt o = false) : Stx W (fun b => W b ∨ b = a) lg H (upd H a o) ls ls [] := by
  have x := Stp.alloc h hl ha no
  exact { toExt := x.toExt, log := x.log, ex := ⟨[], by simp, .nil⟩ }
/-- with X beside W -/
theorem Stx.lift {W W' : Ap} {lg : Addr} {H H' : Hp} {ls ls' : List V} {ev : List PyData} (x : Stx W W' lg H H' ls ls' ev) {X : Ap} (hX : Stands X H) (dX : ∀ b, X b → ¬ W b ∧ b ≠ lg) : Stx (fun b => W b ∨ X b) (fun b => W' b ∨ X b) lg H H' ls ls' ev := by
  obtain ⟨es, h1, h2⟩ := x.ex
  refine { keep := fun b o e n l => x.keep b o e (fun z => n (.inl z)) l, new := fun b z => ?_, there := fun b z => ?_, live := x.live, log := x.log, ex := ⟨es, h1, h2.go fun b o e g => ⟨e, g.1.imp id .inl, fun z => ?_, g.2.2⟩⟩ }
  · rcases z with z | z
    · exact (x.new b z).imp .inl id
    · exact .inl (.inr z)
  · rcases z with z | z
    · exact x.there b z
    · obtain ⟨o, e, n⟩ := hX b z
      exact ⟨o, x.keep b o e (dX b z).1 (dX b z).2, n⟩
  · rcases z with z | z
    · exact g.2.1 z
    · rcases g.1 with y | y
      · obtain ⟨o, e, _⟩ := hX b z
        rw [y] at e; cases e
      · exact (dX b z).1 y
/-- W' may be less -/
theorem Stx.less {W W' W2 : Ap} {lg : Addr} {H H' : Hp} {ls ls' : List V} {ev : List PyData} (x : Stx W W' lg H H' ls ls' ev) (s : ∀ b, W2 b → W' b) : Stx W W2 lg H H' ls ls' ev := by
  obtain ⟨es, h1, h2⟩ := x.ex
  exact { keep := x.keep, new := fun b z => x.new b (s b z), there := fun b z => x.there b (s b z), live := x.live, log := x.log, ex := ⟨es, h1, h2.go fun b o e g => ⟨e, g.1, fun z => g.2.1 (s b z), g.2.2⟩⟩ }
/-! ### what a draw comes to -/
inductive Ox where
  | item (d : PyData)
  | over
  | fail (cls : Value) (xd : Option (Str × V))
/-- where the told thing may stand -/
def Told (W W' : Ap) (lg : Addr) (H : Hp) : Ap := fun b => (H b = none ∨ W b) ∧ Bes W' lg b
/-- an error's value, at its place -/
def XdAt (xd : Option (Str × V)) (d : Option Addr) (G : Ap) (H : Hp) : Prop := match xd, d with
  | none, _ => True
  | some p, some dx => H dx = some (.xd [p]) ∧ G dx
  | _, _ => False
theorem XdAt.go {xd : Option (Str × V)} {d : Option Addr} {G G' : Ap} {H H' : Hp} (h : XdAt xd d G H) (k : ∀ b o, H b = some o → G b → H' b = some o ∧ G' b) : XdAt xd d G' H' := by
  match xd, d, h with
  | none, _, _ => trivial
  | some p, some dx, h => exact k _ _ h.1 h.2
def Ox.post (o : Ox) (CO lg : Addr) (W : Ap) (H : Hp) (W' : Ap) (H' : Hp) (Q : VK) (E : XK) : Prop := match o with
  | .item d => ∀ v, Dt H' (Told W W' lg H) v d → Q v H'
  | .over => E (.ref CO) none H'
  | .fail cls xd => ∀ d, XdAt xd d (Told W W' lg H) H' → E cls d H'
abbrev Step (S : Type) := S → Ox × List PyData × S
/-- an act that goes on as a machine does -/
structure BxI (act : Act) (CO lg : Addr) (R : Ap) {S : Type} (step : Step S) (I : S → Ap → Hp → Prop) : Prop where
  bas : ∀ s W H, I s W H → Bas R W lg H
  run : ∀ s W H, I s W H → ∀ (H1 : Hp) (ls : List V) (Q : VK) (E : XK), (∀ b, W b ∨ R b → H1 b = H b) → H1 lg = some (.lst ls) → ls.length + (step s).2.1.length ≤ 100000 →
    (∀ W' H' ls', Stx W W' lg H1 H' ls ls' (step s).2.1 → I (step s).2.2 W' H' → (step s).1.post CO lg W H1 W' H' Q E) → act H1 Q E
def Bxs (act : Act) (CO lg : Addr) (R : Ap) {S : Type} (step : Step S) (s : S) (W : Ap) (H : Hp) : Prop := ∃ I, BxI act CO lg R step I ∧ I s W H
section
variable {act : Act} {CO lg : Addr} {R W : Ap} {S : Type} {step : Step S} {s : S} {H H' : Hp}
theorem Bxs.bas (b : Bxs act CO lg R step s W H) : Bas R W lg H := let ⟨_, h, i⟩ := b; h.bas _ _ _ i
theorem Bxs.agree (b : Bxs act CO lg R step s W H) (k : ∀ b, W b ∨ R b → H' b = H b) : Bxs act CO lg R step s W H' := by
  obtain ⟨I, h, i⟩ := b
  refine ⟨fun s W H' => ∃ H, I s W H ∧ ∀ b, W b ∨ R b → H' b = H b, ⟨fun s W H' ⟨H, i, k⟩ => (h.bas _ _ _ i).agree k, fun s W H' ⟨H, i, k⟩ H1 ls Q E a hl hn post => ?_⟩, H, i, k⟩
  exact h.run s W H i H1 ls Q E (fun b z => (a b z).trans (k b z)) hl hn fun W' H2 ls' st i' => post W' H2 ls' st ⟨H2, i', fun _ _ => rfl⟩
theorem Bxs.kept (b : Bxs act CO lg R step s W H) (k : ∀ b o, H b = some o → W b ∨ R b → H' b = some o) : Bxs act CO lg R step s W H' :=
  b.agree fun c z => by
    have B := b.bas
    obtain ⟨o, e⟩ : ∃ o, H c = some o := z.elim (fun y => (B.wt c y).imp fun _ q => q.1) (B.rt c)
    rw [e, k c o e z]
theorem Bxs.same (b : Bxs act CO lg R step s W H) (k : Same H H') : Bxs act CO lg R step s W H' := b.kept fun c o e _ => k c o e
/-- it is drawn -/
theorem Bxs.draw (b : Bxs act CO lg R step s W H) {ls : List V} {Q : VK} {E : XK} (hl : H lg = some (.lst ls)) (hn : ls.length + (step s).2.1.length ≤ 100000)
    (k : ∀ W' H' ls', Stx W W' lg H H' ls ls' (step s).2.1 → Bxs act CO lg R step (step s).2.2 W' H' → (step s).1.post CO lg W H W' H' Q E) : act H Q E := by
  obtain ⟨I, h, i⟩ := b
  exact h.run s W H i H ls Q E (fun _ _ => rfl) hl hn fun W' H' ls' st i' => k W' H' ls' st ⟨I, h, i'⟩
/-- to make one: what is known of it stays where all it leans on stays -/
theorem Bxs.mk (I : S → Ap → Hp → Prop) (bas : ∀ s W H, I s W H → Bas R W lg H) (ag : ∀ s W H H1, I s W H → (∀ b, W b ∨ R b → H1 b = H b) → I s W H1)
    (run : ∀ s W H, I s W H → ∀ (ls : List V) (Q : VK) (E : XK), H lg = some (.lst ls) → ls.length + (step s).2.1.length ≤ 100000 → (∀ W' H' ls', Stx W W' lg H H' ls ls' (step s).2.1 → I (step s).2.2 W' H' → (step s).1.post CO lg W H W' H' Q E) → act H Q E) (i : I s W H) : Bxs act CO lg R step s W H :=
  ⟨I, ⟨bas, fun s W H i H1 ls Q E a hl hn post => run s W H1 (ag s W H H1 i a) ls Q E hl hn post⟩, i⟩
/-- another way to count the same -/
theorem Bxs.by {act2 : Act} (b : Bxs act CO lg R step s W H) (k : ∀ H Q E, act H Q E → act2 H Q E) : Bxs act2 CO lg R step s W H := by
  obtain ⟨I, h, i⟩ := b
  exact ⟨I, ⟨h.bas, fun s W H i H1 ls Q E a hl hn post => k _ _ _ (h.run s W H i H1 ls Q E a hl hn post)⟩, i⟩
end
/-! ### a row by its tell -/
/-- errors that are none of Over -/
def Ox.ok (K : PySem.W.Frag) (CO : Addr) : Ox → Prop
  | .fail cls _ => Mat K (.ref CO) cls false
  | _ => True
def rowEnd {S : Type} (o : Ox) (s : S) : Option S := match o with | .over => none | _ => some s
def rowStep {S : Type} (step : Step S) : Step (Option S)
  | none => (.over, [], none)
  | some s => ((step s).1, (step s).2.1, rowEnd (step s).1 (step s).2.2)
def RowI (t : Tt) (n : Nat) (lg : Addr) (R : Ap) (f r dx : Addr) {S : Type} (step : Step S) : Option S → Ap → Hp → Prop
  | some s, W, H => H r = some (.ins t.C dx (rowF f false)) ∧ Bxs (t.does n f []) t.CO lg R step s W H
  | none, W, H => H r = some (.ins t.C dx (rowF f true)) ∧ Bas R W lg H
end L2

set_option Elab.async false
set_option linter.all false
set_option maxRecDepth 100000
namespace L2
open PySem PySem.Spec PyProof.Rows
/-! ### a row around a row, as machines -/
/-- an own part: what it writes stands, and it hangs on that and on Rc alone -/
structure OwnOk {A : Type} (Rc : Ap) (O : A → Ap → Hp → Prop) : Prop where
  st : ∀ {a W H}, O a W H → Stands W H
  ag : ∀ {a W H H1}, O a W H → (∀ b, W b ∨ Rc b → H1 b = H b) → O a W H1
/-- a row inside, an own part beside it, and what is only read -/
structure Arn {A S : Type} (t : Tt) (n : Nat) (lg r : Addr) (R : Ap) (step : Step S) (Rc : Ap) (O : A → Ap → Hp → Prop) (a : A) (s : S) (W : Ap) (H : Hp) : Prop where
  ex : ∃ Wi Wo : Ap, W = (fun b => Wi b ∨ Wo b) ∧ Bxs (spDraw t n [.ref r]) t.CO lg R step s Wi H ∧ O a Wo H ∧ ∀ b, Wo b → ¬ Wi b ∧ b ≠ lg ∧ ¬ R b
  rc : ∀ b, Rc b → (∃ o, H b = some o) ∧ (∀ ps, H b ≠ some (.tbl ps)) ∧ ¬ W b ∧ b ≠ lg
section
variable {A S : Type} {t : Tt} {n : Nat} {lg r : Addr} {R Rc : Ap} {step : Step S} {O : A → Ap → Hp → Prop} {a a' : A} {s : S} {W : Ap} {H H1 : Hp} {ls : List V} {Q : VK} {E : XK}
theorem Arn.bas (ok : OwnOk Rc O) (i : Arn t n lg r R step Rc O a s W H) : Bas (fun b => R b ∨ Rc b) W lg H := by
  obtain ⟨Wi, Wo, rfl, b, o, d⟩ := i.ex
  have B := b.bas
  refine ⟨fun c z => z.elim (B.wt c) (ok.st o c), fun c z => z.elim (B.rt c) fun y => (i.rc c y).1, fun c z => z.elim (B.rn c) fun y => (i.rc c y).2.1, fun c z y => ?_, fun z => ?_, fun z => ?_⟩
  · rcases z with z | z
    · exact y.elim (B.rw c z) fun q => (d c q).2.2 z
    · exact (i.rc c z).2.2.1 y
  · exact z.elim B.wl fun y => (d lg y).2.1 rfl
  · exact z.elim B.rl fun y => (i.rc lg y).2.2.2 rfl
theorem Arn.ag (ok : OwnOk Rc O) (i : Arn t n lg r R step Rc O a s W H) (k : ∀ b, W b ∨ (R b ∨ Rc b) → H1 b = H b) : Arn t n lg r R step Rc O a s W H1 := by
  obtain ⟨Wi, Wo, rfl, b, o, d⟩ := i.ex
  exact ⟨⟨Wi, Wo, rfl, b.agree fun c z => k c (z.imp .inl .inl), ok.ag o fun c z => k c (z.imp .inr .inr), d⟩, fun c z => by rw [k c (.inr (.inr z))]; exact i.rc c z⟩
/-- reads stay -/
theorem Arn.reads {W' : Ap} {H' : Hp} (i : Arn t n lg r R step Rc O a s W H) (x : Ext W W' lg H H') {b : Addr} (z : Rc b) : H' b = H b := by
  obtain ⟨⟨o, e⟩, _, nw, nl⟩ := i.rc b z
  rw [e, x.keep _ _ e nw nl]
theorem Arn.rcs {W' : Ap} {H' : Hp} (i : Arn t n lg r R step Rc O a s W H) (x : Ext W W' lg H H') : ∀ b, Rc b → (∃ o, H' b = some o) ∧ (∀ ps, H' b ≠ some (.tbl ps)) ∧ ¬ W' b ∧ b ≠ lg := fun b z => by
  have h := i.rc b z
  rw [i.reads x z]
  obtain ⟨⟨o, e⟩, h2, nw, nl⟩ := h
  exact ⟨⟨o, e⟩, h2, x.out e nw, nl⟩
/-- the row inside is drawn -/
theorem Arn.draw (ok : OwnOk Rc O) (i : Arn t n lg r R step Rc O a s W H) (hl : H lg = some (.lst ls)) (hn : ls.length + (step s).2.1.length ≤ 100000)
    (k : ∀ W' H' ls', Stx W W' lg H H' ls ls' (step s).2.1 → Arn t n lg r R step Rc O a (step s).2.2 W' H' → (step s).1.post t.CO lg W H W' H' Q E) : spDraw t n [.ref r] H Q E := by
  have i0 := i
  obtain ⟨Wi, Wo, rfl, b, o, d⟩ := i.ex
  refine b.draw hl hn fun W' H' ls' st b' => ?_
  have so := ok.st o
  have dX : ∀ c, Wo c → ¬ Wi c ∧ c ≠ lg := fun c z => ⟨(d c z).1, (d c z).2.1⟩
  have s2 := st.lift so dX
  have keepo : ∀ c, Wo c → H' c = H c := fun c z => by
    obtain ⟨u, e, _⟩ := so c z
    rw [e, st.keep _ _ e (d c z).1 (d c z).2.1]
  have i2 : Arn t n lg r R step Rc O a (step s).2.2 (fun c => W' c ∨ Wo c) H' := by
    refine ⟨⟨W', Wo, rfl, b', ok.ag o fun c z => z.elim (keepo c) fun y => i0.reads s2.toExt y, fun c z => ⟨?_, (d c z).2⟩⟩, i0.rcs s2.toExt⟩
    obtain ⟨u, e, _⟩ := so c z
    exact st.toExt.out e (d c z).1
  have p := k _ H' ls' s2 i2
  have told : ∀ c o, H' c = some o → Told Wi W' lg H c → H' c = some o ∧ Told (fun c => Wi c ∨ Wo c) (fun c => W' c ∨ Wo c) lg H c := fun c o e g => ⟨e, g.1.imp id .inl, fun z => z.elim g.2.1 fun y => by
    rcases g.1 with q | q
    · obtain ⟨u, e', _⟩ := so c y
      rw [q] at e'; cases e'
    · exact (d c y).1 q, g.2.2⟩
  revert p
  generalize (step s).1 = ox
  intro p
  cases ox with
  | item dd => exact fun v hv => p v (hv.go told)
  | over => exact p
  | fail cls xd => exact fun d hd => p d (hd.go told)
/-- an own thing is written -/
theorem Arn.put (ok : OwnOk Rc O) {c : Addr} {o : HO} (i : Arn t n lg r R step Rc O a s W H) (hl : H lg = some (.lst ls)) (no : isExt o = false) (hc : ∀ Wo, O a Wo H → Wo c) (ho : ∀ Wo, O a Wo H → Wo c → O a' Wo (upd H c o)) :
    Stx W W lg H (upd H c o) ls ls [] ∧ Arn t n lg r R step Rc O a' s W (upd H c o) := by
  have B := i.bas ok
  have i0 := i
  obtain ⟨Wi, Wo, rfl, b, oo, d⟩ := i.ex
  have wc := hc Wo oo
  have x := Stx.put (a := c) (o := o) B.wt hl B.wl (.inr wc) no
  refine ⟨x, ⟨Wi, Wo, rfl, b.agree fun z y => upd_ne fun q => ?_, ho Wo oo wc, d⟩, i0.rcs x.toExt⟩
  rw [q] at y
  exact y.elim (d c wc).1 (d c wc).2.2
def PassI {S0 : Type} (t : Tt) (n : Nat) (lg r : Addr) (R : Ap) (step0 : Step S0) (Rc : Ap) (O : A → Ap → Hp → Prop) (Lk : A → S0 → Prop) (f m dx : Addr) : Option S0 → Ap → Hp → Prop
  | some s, W, H => H m = some (.ins t.C dx (rowF f false)) ∧ ∃ a, Arn t n lg r R (rowStep step0) Rc O a (some s) W H ∧ Lk a s
  | none, W, H => H m = some (.ins t.C dx (rowF f true)) ∧ Bas (fun b => R b ∨ Rc b) W lg H
/-- told things are beside what is written -/
theorem Dt.put {W W' : Ap} {H H' : Hp} {c : Addr} {o : HO} {v : V} {d : PyData} (h : Dt H' (Told W W' lg H) v d) (wc : W' c) : Dt (upd H' c o) (Told W W' lg H) v d :=
  h.go fun b u e g => ⟨by rw [upd_ne fun z => g.2.1 (by rw [z]; exact wc)]; exact e, g⟩
end
end L2

set_option Elab.async false
set_option linter.all false
set_option maxRecDepth 100000
namespace L2
open PySem PySem.Spec PyProof.Rows
/-! ### own parts by lists of facts -/
def isIns : HO → Bool
  | .ins _ _ _ => true
  | _ => false
/-- what is written are the places Wl; these facts stand -/
def OF {A : Type} (fl : A → List (Addr × HO)) (Wl : List Addr) : A → Ap → Hp → Prop := fun a W H => W = (fun b => b ∈ Wl) ∧ ∀ x ∈ fl a, H x.1 = some x.2
section
variable {A : Type} {fl : A → List (Addr × HO)} {Wl Rl : List Addr}
theorem OF.ok (h1 : ∀ a, ∀ x ∈ fl a, x.1 ∈ Wl ∨ x.1 ∈ Rl) (h2 : ∀ a, ∀ b ∈ Wl, ∃ o, (b, o) ∈ fl a ∧ isExt o = false) : OwnOk (fun b => b ∈ Rl) (OF fl Wl) where
  st := fun {a W H} ⟨e, h⟩ b z => by
    subst e
    obtain ⟨o, ho, n⟩ := h2 a b z
    exact ⟨o, h _ ho, n⟩
  ag := fun {a W H H1} ⟨e, h⟩ k => by
    subst e
    exact ⟨rfl, fun x hx => by rw [k x.1 (h1 a x hx)]; exact h x hx⟩
end
section
variable {A S : Type} {t : Tt} {n : Nat} {lg r : Addr} {R : Ap} {step : Step S} {fl : A → List (Addr × HO)} {Wl Rl : List Addr} {a a' : A} {s : S} {W : Ap} {H H1 : Hp} {ls : List V} {Q : VK} {E : XK}
theorem Arn.fact (i : Arn t n lg r R step (fun b => b ∈ Rl) (OF fl Wl) a s W H) (k : Nat) {b : Addr} {o : HO} (h : (fl a)[k]? = some (b, o)) : H b = some o := by
  obtain ⟨_, _, _, _, ⟨_, h2⟩, _⟩ := i.ex
  exact h2 _ (List.mem_of_getElem? h)
theorem Arn.putF {c : Addr} {o : HO} (ok : OwnOk (fun b => b ∈ Rl) (OF fl Wl)) (i : Arn t n lg r R step (fun b => b ∈ Rl) (OF fl Wl) a s W H) (hl : H lg = some (.lst ls)) (hc : c ∈ Wl) (no : isExt o = false) (hf : ∀ x ∈ fl a', x = (c, o) ∨ (x ∈ fl a ∧ x.1 ≠ c)) :
    Stx W W lg H (upd H c o) ls ls [] ∧ Arn t n lg r R step (fun b => b ∈ Rl) (OF fl Wl) a' s W (upd H c o) := by
  refine i.put ok hl no (fun Wo h => by rw [h.1]; exact hc) fun Wo h _ => ⟨h.1, fun x hx => ?_⟩
  rcases hf x hx with rfl | ⟨h1, h2⟩
  · exact upd_same
  · rw [upd_ne h2]; exact h.2 x h1
end
section
variable {A S0 : Type} {t : Tt} {n n' : Nat} {lg r : Addr} {R : Ap} {step0 : Step S0} {fl : A → List (Addr × HO)} {Wl Rl : List Addr} {a0 : A} {s0 : S0} {W : Ap} {H H3 H' : Hp} {ls : List V} {T : List (Addr × Pos × Str)} {Pt m f c' dx : Addr} {pos : Pos} {q : Str} {fd : FuncData} {cl : List (Str × Addr)}
/-- what comes of a row that is made around another one and comes to the same -/
def Psd (t : Tt) (lg : Addr) (n' : Nat) (m : Addr) (step0 : Step S0) (s0 : S0) (R W : Ap) (H H' : Hp) : Prop := ∃ R' W', Bxs (spDraw t n' [.ref m]) t.CO lg R' (rowStep step0) (some s0) W' H' ∧ (∀ c, W' c → W c ∨ H c = none) ∧ (∀ c, R' c → R c ∨ H c = none ∨ ∃ o, H c = some o ∧ isX o = true)
theorem RowM.code (hT : Tab H Pt pos q) (sm : Same H H3) (M : RowM t.C H3 H' Pt pos q m f c' dx fd cl) : H c' = none ∨ ∃ o, H c' = some o ∧ isX o = true := by
  cases e : H c' with
  | none => exact .inl rfl
  | some o =>
    refine .inr ⟨o, rfl, ?_⟩
    by_cases hb : c' = Pt
    · obtain ⟨ps, hP⟩ := M.tab.is
      rw [← hb, M.clo.cd] at hP; cases hP
    · have e2 := M.kp c' o (sm _ _ e) hb
      rw [M.clo.cd] at e2; cases e2; rfl
def celO (p : Addr × V) : Addr × HO := (p.1, .cel (some p.2))
/-- facts of a row's tell: its function, its code, cells that stay, cells that change, code of others -/
def flC (f c' : Addr) (q : Str) (fd : FuncData) (cs : List (Addr × V)) (ws : A → List (Addr × V)) (xs : List (Addr × HO)) (a : A) : List (Addr × HO) := (f, cloO f fd) :: (c', codO c' q) :: (cs.map celO ++ ((ws a).map celO ++ xs))
/-- what is to follow a tell -/
abbrev PsK (t : Tt) (n : Nat) (lg r : Addr) (R : Ap) (step0 : Step S0) (Rl : List Addr) (fl : A → List (Addr × HO)) (Wl : List Addr) (Lk : A → S0 → Prop) (s : S0) (W : Ap) (H : Hp) (ls : List V) (Q : VK) (E : XK) : Prop :=
  ∀ W' H' ls', Stx W W' lg H H' ls ls' (step0 s).2.1 → Bas (fun b => R b ∨ b ∈ Rl) W' lg H' → ((step0 s).1 ≠ .over → ∃ a', Arn t n lg r R (rowStep step0) (fun b => b ∈ Rl) (OF fl Wl) a' (some (step0 s).2.2) W' H' ∧ Lk a' (step0 s).2.2) → (step0 s).1.post t.CO lg W H W' H' Q E
variable {Lk : A → S0 → Prop} {s : S0} {Q : VK} {E : XK} {W' : Ap} {H1 : Hp} {ls1 : List V} {a a' : A}
theorem PsK.item (ok : OwnOk (fun b => b ∈ Rl) (OF fl Wl)) (post : PsK t n lg r R step0 Rl fl Wl Lk s W H ls Q E) {d : PyData} (ho : (step0 s).1 = .item d) (st : Stx W W' lg H H1 ls ls1 (step0 s).2.1) (i : Arn t n lg r R (rowStep step0) (fun b => b ∈ Rl) (OF fl Wl) a' (some (step0 s).2.2) W' H1) (lk : Lk a' (step0 s).2.2) {v : V} (hv : Dt H1 (Told W W' lg H) v d) : Q v H1 := by
  have p := post W' H1 ls1 st (i.bas ok) fun _ => ⟨a', i, lk⟩
  rw [ho] at p
  exact p v hv
theorem PsK.over (ok : OwnOk (fun b => b ∈ Rl) (OF fl Wl)) (post : PsK t n lg r R step0 Rl fl Wl Lk s W H ls Q E) (ho : (step0 s).1 = .over) (st : Stx W W' lg H H1 ls ls1 (step0 s).2.1) (i : Arn t n lg r R (rowStep step0) (fun b => b ∈ Rl) (OF fl Wl) a' none W' H1) : E (.ref t.CO) none H1 := by
  have p := post W' H1 ls1 st (i.bas ok) fun z => absurd ho z
  rw [ho] at p
  exact p
/-- the log stays there -/
theorem Stx.lst {W W' : Ap} {lg : Addr} {H H' : Hp} {ls ls' : List V} {ev : List PyData} (x : Stx W W' lg H H' ls ls' ev) : H' lg = some (.lst ls') := x.log
/-- a work that changes nothing: its function and code, and what it tells -/
structure WkV (t : Tt) (k : Nat) (g : Addr) (xs : List (Addr × HO)) (dom : List V → Prop) (fn : List V → V) : Prop where
  mem : ∃ fd, (g, cloO g fd) ∈ xs
  run : ∀ (H : Hp), (∀ x ∈ xs, H x.1 = some x.2) → ∀ vs, dom vs → ∀ (Q : VK) (E : XK), Q (fn vs) H → t.does k g vs H Q E
variable {cs : List (Addr × V)} {ws : A → List (Addr × V)} {xs : List (Addr × HO)} {S : Type} {step : Step S} {so : S}
end
end L2

set_option Elab.async false
set_option linter.all false
set_option maxRecDepth 100000
namespace L2
open PySem PySem.Spec PyProof.Rows
section
variable {A S0 : Type} {t : Tt} {n n' : Nat} {lg r : Addr} {R : Ap} {step0 : Step S0} {fl : A → List (Addr × HO)} {Wl Rl : List Addr} {a0 : A} {s0 : S0} {W : Ap} {H H3 H' : Hp} {ls : List V} {T : List (Addr × Pos × Str)} {Pt m f c' dx : Addr} {pos : Pos} {q : Str} {fd : FuncData} {cl : List (Str × Addr)}
/-- facts of a row's tell: its function, its code, cells that stay, own things, code of others -/
def flO (f c' : Addr) (q : Str) (fd : FuncData) (cs : List (Addr × V)) (ws : A → List (Addr × HO)) (xs : List (Addr × HO)) (a : A) : List (Addr × HO) := (f, cloO f fd) :: (c', codO c' q) :: (cs.map celO ++ (ws a ++ xs))
variable {cs : List (Addr × V)} {ws : A → List (Addr × HO)} {xs : List (Addr × HO)} {S : Type} {step : Step S} {so : S} {a a' : A}
theorem Arn.cloF {Rl wl : List Addr} (i : Arn t n lg r R step (fun b => b ∈ Rl) (OF (flO f c' q fd cs ws xs) wl) a so W H) (hcl : ∀ p ∈ cl, p.2 ∈ cs.map (·.1)) (nd : (cl.map (·.2)).Nodup) : CloAt H f fd c' q cl := by
  refine ⟨i.fact 0 rfl, i.fact 1 rfl, fun p hp => ?_, nd⟩
  obtain ⟨⟨pa, v⟩, hv, hpa⟩ := List.mem_map.mp (hcl p hp)
  have hpa : pa = p.2 := hpa
  subst hpa
  obtain ⟨_, _, _, _, ⟨_, h2⟩, _⟩ := i.ex
  exact ⟨some v, h2 (p.2, .cel (some v)) (.tail _ (.tail _ (List.mem_append.mpr (.inl (List.mem_map.mpr ⟨_, hv, rfl⟩)))))⟩
end
end L2

set_option Elab.async false
set_option linter.all false
set_option maxRecDepth 100000
namespace L2
open PySem PySem.Spec PyProof.Rows
section
variable {A S : Type} {t : Tt} {n : Nat} {lg r : Addr} {R Rc : Ap} {step : Step S} {O : A → Ap → Hp → Prop} {a a' : A} {s : S} {W : Ap} {H H' : Hp} {ls : List V}
end
/-- what is written are the places Wl, which may become others; these facts stand -/
def OV {A : Type} (fl : A → List (Addr × HO)) (Wl : A → List Addr) : A → Ap → Hp → Prop := fun a W H => W = (fun b => b ∈ Wl a) ∧ ∀ x ∈ fl a, H x.1 = some x.2
theorem OV.ok {A : Type} {fl : A → List (Addr × HO)} {Wl : A → List Addr} {Rl : List Addr} (h1 : ∀ a, ∀ x ∈ fl a, x.1 ∈ Wl a ∨ x.1 ∈ Rl) (h2 : ∀ a, ∀ b ∈ Wl a, ∃ o, (b, o) ∈ fl a ∧ isExt o = false) : OwnOk (fun b => b ∈ Rl) (OV fl Wl) where
  st := fun {a W H} ⟨e, h⟩ b z => by
    subst e
    obtain ⟨o, ho, n⟩ := h2 a b z
    exact ⟨o, h _ ho, n⟩
  ag := fun {a W H H1} ⟨e, h⟩ k => by
    subst e
    exact ⟨rfl, fun x hx => by rw [k x.1 (h1 a x hx)]; exact h x hx⟩
section
variable {A S : Type} {t : Tt} {n : Nat} {lg r : Addr} {R Rc : Ap} {step : Step S} {fl : A → List (Addr × HO)} {Wl : A → List Addr} {a a' : A} {s : S} {W : Ap} {H H' : Hp} {ls : List V}
end
end L2

set_option Elab.async false
set_option linter.all false
set_option maxRecDepth 100000
namespace L2
open PySem PySem.Spec PyProof.Rows
section
variable {A S : Type} {t : Tt} {n : Nat} {lg r : Addr} {R Rc : Ap} {step : Step S} {O : A → Ap → Hp → Prop} {a : A} {s : S} {W : Ap} {H : Hp} {ls : List V}
/-! ### rows around rows that come to something else -/
def MachI {S1 : Type} (t : Tt) (n : Nat) (lg r : Addr) (R : Ap) (step : Step S) (Rc : Ap) (O : A → Ap → Hp → Prop) (Lk : A → S → S1 → Prop) (f m dx : Addr) : Option S1 → Ap → Hp → Prop
  | some s1, W, H => H m = some (.ins t.C dx (rowF f false)) ∧ ∃ a s, Arn t n lg r R step Rc O a s W H ∧ Lk a s s1
  | none, W, H => H m = some (.ins t.C dx (rowF f true)) ∧ Bas (fun b => R b ∨ Rc b) W lg H
end
section
variable {A S : Type} {t : Tt} {n n' : Nat} {lg r : Addr} {R : Ap} {step : Step S} {fl : A → List (Addr × HO)} {Wl Rl : List Addr} {a0 : A} {s : S} {W : Ap} {H H3 H' : Hp} {ls : List V} {T : List (Addr × Pos × Str)} {Pt m f c' dx : Addr} {pos : Pos} {q : Str} {fd : FuncData} {cl : List (Str × Addr)}
/-- what comes of a row that is made around another one -/
def Psm {S1 : Type} (t : Tt) (lg : Addr) (n' : Nat) (m : Addr) (step1 : Step S1) (s1 : S1) (R W : Ap) (H H' : Hp) : Prop := ∃ R' W', Bxs (spDraw t n' [.ref m]) t.CO lg R' (rowStep step1) (some s1) W' H' ∧ (∀ c, W' c → W c ∨ H c = none) ∧ (∀ c, R' c → R c ∨ H c = none ∨ ∃ o, H c = some o ∧ isX o = true)
end
end L2

set_option Elab.async false
set_option linter.all false
set_option maxRecDepth 100000
namespace L2
open PySem PySem.Spec PyProof.Rows PySem.W
section
variable {P : Program} {w : World} {K : PySem.W.Frag} {mg : Str → Option Value} {base : Heap} {k : Nat} {f c' : Addr} {name qual : Str} {params : Arguments} {scope : Scope} {dV doc pm ctv : Value} {cl : List (Str × Addr)} {N ps : List Str} {sp : Sp} {CX : CXT}
end
end L2

set_option Elab.async false
set_option linter.all false
set_option maxRecDepth 100000
namespace L2
open PySem PySem.Spec PyProof.Rows
section
variable {A S : Type} {t : Tt} {n : Nat} {lg r : Addr} {R Rc : Ap} {step : Step S} {O : A → Ap → Hp → Prop} {a a' : A} {s : S} {W : Ap} {H H' : Hp} {ls : List V}
end
section
variable {A S : Type} {t : Tt} {n : Nat} {lg r : Addr} {R Rc : Ap} {step : Step S} {fl : A → List (Addr × HO)} {Wl : A → List Addr} {a a' : A} {s : S} {W : Ap} {H H' : Hp} {ls : List V}
end
end L2

set_option Elab.async false
set_option linter.all false
set_option maxRecDepth 100000
namespace L2
open PySem PySem.Spec PyProof.Rows
/-! ### rows as machines where tables may change; what a law knows beside them -/
theorem noT_of {o : HO} (n : isExt o = false) : noT o = true := by cases o <;> first | rfl | cases n
section
variable {act : Act} {CO lg : Addr} {R W : Ap} {S : Type} {step : Step S} {s : S} {H H' H2 : Hp}
theorem Bxs.nx (b : Bxs act CO lg R step s W H) (k : NX H H') : Bxs act CO lg R step s W H' := b.kept fun c o e z => k c o e (by
  rcases z with z | z
  · obtain ⟨o', e', n⟩ := b.bas.wt c z
    rw [e] at e'; cases e'
    exact noT_of n
  · cases o with
    | tbl ps => exact absurd e (b.bas.rn c z ps)
    | _ => rfl)
theorem Bxs.nW (b : Bxs act CO lg R step s W H) {c : Addr} (h : H c = none) : ¬ W c := fun z => by
  obtain ⟨o, e, _⟩ := b.bas.wt c z
  rw [h] at e; cases e
theorem Bxs.nR (b : Bxs act CO lg R step s W H) {c : Addr} (h : H c = none) : ¬ R c := fun z => by
  obtain ⟨o, e⟩ := b.bas.rt c z
  rw [h] at e; cases e
/-- all but some things stays -/
theorem Bxs.but (b : Bxs act CO lg R step s W H) (X : Ap) (k : ∀ c o, H c = some o → ¬ X c → H' c = some o) (off : ∀ c, X c → ¬ W c ∧ ¬ R c) : Bxs act CO lg R step s W H' := b.kept fun c o e z => k c o e fun x => z.elim (off c x).1 (off c x).2
end
section
variable {S0 : Type} {t : Tt} {n n' : Nat} {lg m : Addr} {R W : Ap} {step0 : Step S0} {s0 : S0} {H H0 H' H2 : Hp}
theorem Psd.nx (h : Psd t lg n m step0 s0 R W H H') (k : NX H' H2) : Psd t lg n m step0 s0 R W H H2 := let ⟨R', W', b, h1, h2⟩ := h; ⟨R', W', b.nx k, h1, h2⟩
end
section
variable {T : List (Addr × Pos × Str)} {PL : Addr} {ent : List (Pos × Str)} {H0 H H' : Hp} {fl : List (Addr × HO)} {a c : Addr} {o : HO}
theorem Mks.start (tb : TbA T H0) (tx : TabX H0 PL ent) (nn : ∀ x ∈ T, x.1 ≠ PL) : Mks T PL ent H0 [] H0 := ⟨tb, tx, nn, .refl, fun _ _ e _ _ => e, .nil, fun x hx => absurd hx List.not_mem_nil⟩
end
/-- tables, the law's own table of code and another one, its numbers, objects l, all beside W -/
structure JX (T : List (Addr × Pos × Str)) (p q : Addr) (len : Nat) (PL : Addr) (eL : List (Pos × Str)) (PM : Addr) (eM : List (Pos × Str)) (l : List (Addr × HO)) (W : Ap) (H : Hp) : Prop where
  k : Kn T p q len l W H
  t : TabX H PL eL
  x : TabX H PM eM
  n : ∀ x ∈ T, x.1 ≠ PL
  nM : ∀ x ∈ T, x.1 ≠ PM
  nL : PM ≠ PL
section
variable {T : List (Addr × Pos × Str)} {p q : Addr} {len : Nat} {PL PM : Addr} {eL eM : List (Pos × Str)} {l : List (Addr × HO)} {W W' : Ap} {H H' : Hp} {a : Addr} {o u : HO}
theorem JX.get (K : JX T p q len PL eL PM eM l W H) (i : Nat) (h : l[i]? = some (a, o)) : H a = some o := K.k.get i h
theorem JX.out (K : JX T p q len PL eL PM eM l W H) (i : Nat) (h : l[i]? = some (a, o)) : ¬ W a := K.k.out i h
theorem JX.hs (K : JX T p q len PL eL PM eM l W H) : HS H p q len := K.k.hs
theorem JX.tb (K : JX T p q len PL eL PM eM l W H) : TbA T H := K.k.tb
theorem JX.same (K : JX T p q len PL eL PM eM l W H) (s : Same H H') : JX T p q len PL eL PM eM l W H' := ⟨K.k.same s, K.t.same s, K.x.same s, K.n, K.nM, K.nL⟩
theorem JX.alloc (K : JX T p q len PL eL PM eM l W H) (ha : H a = none) (no : isExt o = false := by rfl) : JX T p q len PL eL PM eM ((a, o) :: l) W (upd H a o) := ⟨K.k.alloc ha no, K.t.same (same_alloc ha), K.x.same (same_alloc ha), K.n, K.nM, K.nL⟩
theorem JX.but (K : JX T p q len PL eL PM eM l W H) (S : HS H' p q len) (B : But p q H H') : JX T p q len PL eL PM eM l W H' := by
  obtain ⟨_, hp⟩ := K.hs.p
  obtain ⟨_, hq⟩ := K.hs.q
  have kp : KpC H H' := fun b o e z => B b o e (ne_of e hp fun y => by rw [y] at z; cases z) (ne_of e hq fun y => by rw [y] at z; cases z)
  exact ⟨K.k.but S B, K.t.kp kp, K.x.kp kp, K.n, K.nM, K.nL⟩
theorem JX.put (K : JX T p q len PL eL PM eM l W H) (i : Nat) (h : l[i]? = some (a, o)) (no : isExt u = false := by rfl) : JX T p q len PL eL PM eM (l.set i (a, u)) W (upd H a u) := by
  have na := (K.k.ob _ (List.mem_of_getElem? h)).2
  have ea := K.k.get i h
  have kp : KpC H (upd H a u) := fun b o' e z => by rw [upd_ne (ne_of e ea fun y => by rw [y] at z; rw [na.1] at z; cases z)]; exact e
  exact ⟨K.k.put i h no, K.t.kp kp, K.x.kp kp, K.n, K.nM, K.nL⟩
theorem JX.pick (K : JX T p q len PL eL PM eM l W H) (k : Nat) (js : List Nat) (h : js.Nodup ∧ ∀ j ∈ js, j < k) : JX T p q len PL eL PM eM (js.filterMap (fun j => l[j]?) ++ l.drop k) W H := ⟨K.k.pick k js h, K.t, K.x, K.n, K.nM, K.nL⟩
/-- a function is made by the law -/
theorem JX.fnm {f c' : Addr} {qual : Str} {fd : FuncData} (K : JX T p q len PL eL PM eM l W H) (m : FnM H H' PL eL f c' qual fd) : JX T p q len PL eL PM eM l W H' := by
  obtain ⟨ps, hP⟩ := K.t.is
  have ke : ∀ b o, H b = some o → isExt o = false → H' b = some o := fun b o e n => m.old b o e (ne_of e hP fun y => by rw [y] at n; cases n)
  refine ⟨⟨TbA.fnm K.tb K.t K.n m, K.k.tn, K.k.hs.kept fun b xs e _ => ke _ _ e rfl, K.k.np, K.k.nd, fun x hx => ⟨ke _ _ (K.k.ob x hx).1 (K.k.ob x hx).2.1, (K.k.ob x hx).2⟩, K.k.wp, fun b z => (K.k.wt b z).imp fun o e => ⟨ke _ _ e.1 e.2, e.2⟩⟩, m.tab, K.x.other K.nL hP m.old, K.n, K.nM, K.nL⟩
/-- .. by the other one, beside rows -/
theorem JX.mk2 (K : JX T p q len PL eL PM eM l W H) (kp : ∀ b o, H b = some o → (∀ x ∈ T, b ≠ x.1) → b ≠ PM → H' b = some o) (tb : TbA T H') (tx : TabX H' PM eM) : JX T p q len PL eL PM eM l W H' := by
  obtain ⟨ps, hP⟩ := K.x.is
  have nx : NX H H' := fun b o e n => kp b o e (fun x hx z => by
    obtain ⟨qs, hq⟩ := (K.tb x hx).is
    rw [z, hq] at e; cases e; cases n) (fun z => by rw [z, hP] at e; cases e; cases n)
  have ke : ∀ b o, H b = some o → isExt o = false → H' b = some o := fun b o e n => nx b o e (noT_of n)
  refine ⟨⟨tb, K.k.tn, K.k.hs.kept fun b xs e _ => ke _ _ e rfl, K.k.np, K.k.nd, fun x hx => ⟨ke _ _ (K.k.ob x hx).1 (K.k.ob x hx).2.1, (K.k.ob x hx).2⟩, K.k.wp, fun b z => (K.k.wt b z).imp fun o e => ⟨ke _ _ e.1 e.2, e.2⟩⟩, ?_, tx, K.n, K.nM, K.nL⟩
  obtain ⟨lt, h1, h2⟩ := K.t
  exact ⟨lt, kp _ _ h1 (fun x hx z => K.n x hx z.symm) (fun z => K.nL z.symm), fun q hq => let ⟨e, a1, a2, a3, a4⟩ := h2 q hq; ⟨e, a1, a2, a3, nx _ _ a4 rfl⟩⟩
/-- a row is made, which writes W' -/
theorem JX.own {H0 : Hp} {W0 : Ap} (K : JX T p q len PL eL PM eM l W H) (st : Stands W' H) (k0 : ∀ x ∈ l, ∃ o, H0 x.1 = some o) (kp : (∃ o, H0 p = some o) ∧ ∃ o, H0 q = some o) (h : ∀ c, W' c → W c ∨ H0 c = none) : JX T p q len PL eL PM eM l W' H := by
  refine ⟨K.k.own st fun b z => (h b z).imp id fun y o _ => ⟨fun x hx e => ?_, fun e => ?_, fun e => ?_⟩, K.t, K.x, K.n, K.nM, K.nL⟩
  · obtain ⟨o, e'⟩ := k0 x hx
    rw [e, y] at e'; cases e'
  · obtain ⟨⟨o, e'⟩, _⟩ := kp
    rw [← e, y] at e'; cases e'
  · obtain ⟨_, ⟨o, e'⟩⟩ := kp
    rw [← e, y] at e'; cases e'
end
end L2

set_option Elab.async false
set_option linter.all false
set_option maxRecDepth 100000
namespace L2
open PySem PySem.Spec PyProof.Rows PySem.W
/-! ### d.update(e) -/
section
variable {X : Cx} {pins : List (Addr × Obj)} {σ : St} {H : Hp} {s : Shared} {a b : Addr} {kvs more : List (Key × V)} {A : Around} {E : Value → Shared → Prop}
end
def tDUpd (td ty : TE) : TE := fun σ H Q => td σ H fun x H1 => ∃ a, x = .ref a ∧ IsD H1 a ∧ ty σ H1 fun y H2 => ∃ b kvs more, y = .ref b ∧ a ≠ b ∧ H2 a = some (.dK kvs) ∧ H2 b = some (.dK more) ∧ kvs.length + more.length ≤ sizeLine ∧ Q .non (upd H2 a (.dK (mergeK kvs more)))
/-! ### a def within a def, with default values, alone in its table -/
section
variable {X : Cx} {pins : List (Addr × Obj)} {σ : St} {H : Hp} {s : Shared} {c P : Addr} {name qual : Str} {params : Arguments} {fb : FuncBody} {scope : Scope} {clos : List (Str × Addr)} {pos : Pos} {dV : Value} {fl : Nat}
def tDefTD (i : Nat) (P : Addr) (name qual : Str) (params : Arguments) (body : List Stmt) (scope : Scope) (clos : List (Str × Addr)) (pos : Pos) (td : TA) : TS := fun D σ H => td σ H fun ds H1 => ds ≠ [] ∧ ds.length ≤ sizeLine ∧
  ∀ t, H1 t = none → Tab (upd H1 t (.tup ds)) P pos qual ∧ ∀ f c' doc pm ctv H', DefM (upd H1 t (.tup ds)) H' P pos qual f c' (fnD name qual params (.stmts body) scope clos (.ref t) doc pm c' ctv) → D.nx (σ.set i (some (.ref f))) H'
end
/-! ### machines -/
section
variable {act : Act} {CO lg : Addr} {R W : Ap} {S : Type} {step : Step S} {s : S} {H : Hp}
end
section
variable {A S : Type} {t : Tt} {n n' : Nat} {lg r : Addr} {R : Ap} {step : Step S} {fl : A → List (Addr × HO)} {Wl Rl : List Addr} {a0 : A} {s : S} {W : Ap} {H H3 H' : Hp} {ls : List V} {T : List (Addr × Pos × Str)} {Pt m f c' dx : Addr} {pos : Pos} {q : Str} {fd : FuncData} {cl : List (Str × Addr)}
end
end L2

set_option maxHeartbeats 4000000
set_option Elab.async false
set_option linter.all false
set_option maxRecDepth 100000
namespace K14
open PySem L2
def top (i : Nat) : Stmt := PySem.Challenge.pw_drawnworks_k14_whole_two_merged.main.body.getD i (.Pass ⟨0, 0, 0, 0⟩)
abbrev sInit : Stmt := inClass (top 4) 0
abbrev sDraw : Stmt := inClass (top 4) 1
abbrev s_Source_init : Stmt := inClass (top 5) 0
abbrev s_Source_advance : Stmt := inClass (top 5) 1
abbrev sKeyOf : Stmt := top 6
abbrev sKeyItself : Stmt := top 7
abbrev sAsItIs : Stmt := top 8
abbrev s_merged : Stmt := top 10
abbrev s_Side_init : Stmt := inClass (top 11) 0
abbrev s_Side_look : Stmt := inClass (top 11) 1
abbrev s_Side_give : Stmt := inClass (top 11) 2
abbrev sListed : Stmt := top 13
abbrev sMix : Stmt := top 15
abbrev sNext : Stmt := top 16
abbrev sAlike : Stmt := top 17
abbrev sItems : Stmt := top 18
abbrev s__law_pairs : Stmt := top 19
abbrev s__law_key : Stmt := top 20
abbrev sLaw : Stmt := top 21
end K14

set_option maxHeartbeats 4000000
set_option Elab.async false
set_option linter.all false
set_option maxRecDepth 100000
namespace K14
open PySem L2
/-- the built-ins that the text names -/
structure Blt (mg : Str → Option Value) : Prop where
  list : mg "list" = none
  max : mg "max" = none
  len : mg "len" = none
  range : mg "range" = none
  isinstance : mg "isinstance" = none
  tuple : mg "tuple" = none
  str : mg "str" = none
  int : mg "int" = none
  bool : mg "bool" = none
  min : mg "min" = none
  dict : mg "dict" = none
  bytes : mg "bytes" = none
  all : mg "all" = none
  sorted : mg "sorted" = none
  sum : mg "sum" = none
  zip : mg "zip" = none
  enumerate : mg "enumerate" = none
  divmod : mg "divmod" = none
section
variable {P : Program} {w : World} {K : PySem.W.Frag} {mg : Str → Option Value} {base : Heap}

/-! ### the law's numbers -/
def spMix (K : PySem.W.Frag) : Sp := fun vs H Q _ => ∃ (a : Addr) (seed : Int) (ns : List Int), vs = [.ref a, .int seed] ∧ SqL K H a (ns.map V.int) ∧ ns.length ≤ 63 ∧
  ∀ (p q : Addr) (m : Int) (H' : Hp), H p = none → H q = none → p ≠ q → H' p = some (.lst [.int m, .ref q, .int 0]) → H' q = some (.lst (ns.map V.int)) → Same H H' → Q (.ref p) H'
theorem scMix : FnScope ["_law_script", "_law_seed", "_law_mixed", "_law_cell"] ["_law_script", "_law_seed"] (defScope sMix) := ⟨rfl, rfl, rfl, by decide +kernel, rfl, by decide +kernel, by decide +kernel⟩
theorem ok_mix {f : Addr} {fd : FuncData} (F : Fun K "_law_mix" "_law_mix" sMix f fd) (B : Blt mg) : FnOk P w K mg base (CXo P w) 1 f fd ["_law_script", "_law_seed"] (spMix K) := by
  refine F.okX scMix (fun vs H Q E h => ?_) (fun cdv A outer s H vs Q E hr h => ?_)
  · obtain ⟨a, seed, ns, rfl, _⟩ := h
    rfl
  · obtain ⟨a, seed, ns, rfl, hS, hl, k⟩ := h
    refine ⟨_, pss_cons (ps_set (i := 2) scMix.nd rfl (Or.inl rfl) (pv 1))
      (pss_cons (ps_for passes_fn rfl (pi_list (pv 0)) (pg_name (i := 3) scMix.nd rfl (Or.inl rfl))
        (pss_one (ps_set (i := 2) scMix.nd rfl (Or.inl rfl) (pe_op op_mod (pe_op op_add (pe_op op_add (pe_op op_mul (pv 2) pe_int) (pe_op op_mod (pv 3) pe_int)) pe_int) pe_int))))
      (pss_one (ps_ret (pe_lst (pa_cons (pv 2) (pa_cons (pe_callTy call_list_of (by rfl) B.list (by decide +kernel) (pa_cons (pv 0) pa_nil)) (pa_cons pe_int pa_nil))))))), ?_⟩
    refine ⟨_, rfl, ?_⟩
    refine ⟨_, rfl, a, rfl, ⟨_, hS⟩, for_list (K := K) (a := a) (xs := ns.map V.int) (fun i σ H2 => ∃ (m : Int) (v : Option V), σ = [some (.ref a), some (.int seed), some (.int m), v] ∧ H2 = H) ⟨seed, none, rfl, rfl⟩ (fun i σ H2 _ ⟨_, _, _, e⟩ => by rw [e]; exact hS) ?_ ?_⟩
    · rintro i y σ H2 hi ⟨m, v, rfl, rfl⟩
      obtain ⟨z, rfl⟩ : ∃ z, y = V.int z := by
        rw [List.getElem?_map] at hi
        cases e : ns[i]? with
        | none => rw [e] at hi; cases hi
        | some z => rw [e] at hi; exact ⟨z, (Option.some.inj hi).symm⟩
      refine ⟨_, rfl, _, _, rfl, rfl, .inr ⟨by decide, by decide⟩, _, rfl, _, _, rfl, rfl, (by show (0 : Int) < _; decide), _, _, rfl, rfl, _, _, rfl, rfl, _, _, rfl, rfl, (by show (0 : Int) < _; decide), ?_⟩
      exact ⟨_, _, rfl, rfl⟩
    · rintro σ H2 ⟨m, v, rfl, rfl⟩
      refine ⟨_, rfl, _, rfl, a, _, rfl, .inl hS, fun q hq => ?_⟩
      refine ⟨(by show 3 ≤ sizeLine; decide), fun p hp => ?_⟩
      have npq : p ≠ q := fun z => by rw [z, upd_same] at hp; cases hp
      have hp' : H2 p = none := by rw [upd_ne npq] at hp; exact hp
      refine k p q m _ hp' hq npq upd_same (by rw [upd_ne npq.symm, upd_same]) fun b o e => ?_
      rw [upd_ne (ne_of_none e hp'), upd_ne (ne_of_none e hq)]
      exact e
end
end K14

set_option maxHeartbeats 4000000
set_option Elab.async false
set_option linter.all false
set_option maxRecDepth 100000
namespace K14
open PySem L2
section
variable {P : Program} {w : World} {K : PySem.W.Frag} {mg : Str → Option Value} {base : Heap}
def spNext : Sp := fun vs H Q _ => ∃ (p q : Addr) (len : Nat) (n : Int), vs = [.ref p, .int n] ∧ HS H p q len ∧ 0 < n ∧ n < 1073741824 ∧
  ∀ (r : Int) (H' : Hp), 0 ≤ r → r < n → HS H' p q len → But p q H H' → Q (.int r) H'
theorem scNext : FnScope ["_law_h", "_law_many", "_law_cell"] ["_law_h", "_law_many"] (defScope sNext) := ⟨rfl, rfl, rfl, by decide +kernel, rfl, by decide +kernel, by decide +kernel⟩
theorem next_ix (ns : List Int) (i : Int) : ∃ (j : Nat) (c : Int), i % (if (ns.length : Int) > 1 then (ns.length : Int) else 1) = (j : Int) ∧ (ns ++ [0])[j]? = some c ∧ (ns = [] → c = 0) ∧ (ns ≠ [] → i % (ns.length : Int) = (j : Int) ∧ j < ns.length) := by
  by_cases h0 : ns = []
  · subst h0
    refine ⟨0, 0, ?_, rfl, fun _ => rfl, fun z => absurd rfl z⟩
    show i % 1 = 0
    omega
  · have hl : 0 < ns.length := List.length_pos_iff.mpr h0
    have hM : (if (ns.length : Int) > 1 then (ns.length : Int) else 1) = (ns.length : Int) := by split <;> omega
    rw [hM]
    have h1 : 0 ≤ i % (ns.length : Int) := Int.emod_nonneg _ (by omega)
    have h2 : i % (ns.length : Int) < (ns.length : Int) := Int.emod_lt_of_pos _ (by omega)
    have h3 : (i % (ns.length : Int)).toNat < ns.length := by omega
    refine ⟨(i % (ns.length : Int)).toNat, ns[(i % (ns.length : Int)).toNat], (Int.toNat_of_nonneg h1).symm, ?_, fun z => absurd z h0, fun _ => ⟨(Int.toNat_of_nonneg h1).symm, h3⟩⟩
    rw [List.getElem?_append_left h3]
    exact List.getElem?_eq_getElem h3
theorem ok_next {f : Addr} {fd : FuncData} (F : Fun K "_law_next" "_law_next" sNext f fd) (B : Blt mg) : FnOk P w K mg base (CXo P w) 1 f fd ["_law_h", "_law_many"] spNext := by
  refine F.okX scNext (fun vs H Q E h => ?_) (fun cdv A outer s H vs Q E hr h => ?_)
  · obtain ⟨p, q, len, n, rfl, _⟩ := h
    rfl
  · obtain ⟨p, q, len, n, rfl, S, n0, n1, k⟩ := h
    have npq := S.ne
    obtain ⟨⟨m, i, ns, hp, hq, hlen⟩, lo⟩ := id S
    have hz := sizeL
    refine ⟨_, pss_cons (ps_set (i := 2) scNext.nd rfl (Or.inl rfl) (pe_ix ix_list (pe_op op_cat (pe_ix ix_list (pv 0) pe_int (fun _ _ => rfl)) (pe_lst (pa_cons pe_int pa_nil)))
        (pe_op op_mod (pe_ix ix_list (pv 0) pe_int (fun _ _ => rfl)) (pe_callB (call_max2 rfl) (by rfl) B.max (by decide +kernel) (pa_cons pe_int (pa_cons (pe_callB call_len_seq (by rfl) B.len PySem.boot_len (pa_cons (pe_ix ix_list (pv 0) pe_int (fun _ _ => rfl)) pa_nil)) pa_nil)))) (fun _ _ => rfl)))
      (pss_cons (ps_if (pt_cmpR op_ge (pv 2) (pe_op op_pow pe_int pe_int) (nomark _))
        (pss_cons (ps_asg (pe_op op_fdiv (pv 2) (pv 1)) (pg_sub (pe_ix ix_list (pv 0) pe_int (fun _ _ => rfl)) (pe_op op_mod (pe_ix ix_list (pv 0) pe_int (fun _ _ => rfl)) (pe_callB call_len_seq (by rfl) B.len PySem.boot_len (pa_cons (pe_ix ix_list (pv 0) pe_int (fun _ _ => rfl)) pa_nil))) set_list))
          (pss_one (ps_ret (pe_op op_mod (pv 2) (pv 1))))) pss_nil)
      (pss_cons (ps_asg (pe_op op_mod (pe_op op_add (pe_op op_add (pe_op op_mul (pe_ix ix_list (pv 0) pe_int (fun _ _ => rfl)) pe_int) (pe_op op_mul (pv 2) pe_int)) pe_int) pe_int) (pg_sub (pv 0) pe_int set_list))
      (pss_cons (ps_asg (pe_op op_add (pe_ix ix_list (pv 0) pe_int (fun _ _ => rfl)) pe_int) (pg_sub (pv 0) pe_int set_list))
      (pss_one (ps_ret (pe_op op_mod (pe_op op_fdiv (pe_ix ix_list (pv 0) pe_int (fun _ _ => rfl)) pe_int) (pv 1))))))), ?_⟩
    obtain ⟨j, c, ej, ec, e0, e1⟩ := next_ix ns i
    -- h[1] + [0]
    refine ⟨_, rfl, p, _, _, _, rfl, rfl, SqL.of hp, rfl, (by show 1 ≤ sizeLine; decide), fun l hl => ?_⟩
    have hlp : p ≠ l := ne_of_none hp hl
    have hlq : q ≠ l := ne_of_none hq hl
    refine ⟨q, l, _, _, rfl, rfl, (by rw [upd_ne hlq]; exact hq), upd_same, (by simp only [List.length_map, List.length_cons, List.length_nil]; omega), fun t ht => ?_⟩
    have htl : l ≠ t := fun z => by rw [← z, upd_same] at ht; cases ht
    have ht0 : H t = none := by rw [upd_ne htl.symm] at ht; exact ht
    have htp : p ≠ t := ne_of_none hp ht0
    have htq : q ≠ t := ne_of_none hq ht0
    -- the heap from here on
    generalize hH1 : upd (upd H l (.lst [.int 0])) t (.lst (ns.map V.int ++ [.int 0])) = H1
    have p1 : H1 p = some (.lst [.int m, .ref q, .int i]) := by rw [← hH1, upd_ne htp, upd_ne hlp]; exact hp
    have q1 : H1 q = some (.lst (ns.map V.int)) := by rw [← hH1, upd_ne htq, upd_ne hlq]; exact hq
    have t1 : H1 t = some (.lst (ns.map V.int ++ [.int 0])) := by rw [← hH1, upd_same]
    have s1 : Same H H1 := fun b o e => by rw [← hH1, upd_ne (ne_of_none e ht0), upd_ne (ne_of_none e hl)]; exact e
    have H1e : upd (upd H l (.lst [.int 0])) t (.lst (ns.map V.int ++ [.int 0])) = H1 := hH1
    refine ⟨_, rfl, p, _, _, _, rfl, rfl, SqL.of p1, rfl, _, rfl, p, _, _, _, rfl, rfl, SqL.of p1, rfl, q, _, rfl, .inl (SqL.of q1), _, _, rfl, _, _, rfl, rfl, ?_, t, _, _, .int c, rfl, rfl, SqL.of t1, ?_, ?_⟩
    · show (0 : Int) < if ((List.map V.int ns).length : Int) > 1 then ((List.map V.int ns).length : Int) else 1
      split <;> omega
    · show atI (ns.map V.int ++ [V.int 0]) (i % if ((List.map V.int ns).length : Int) > 1 then ((List.map V.int ns).length : Int) else 1) = some (.int c)
      rw [List.length_map, ej]
      refine atI_nat ?_
      rw [show (ns.map V.int ++ [V.int 0]) = (ns ++ [0]).map V.int from by simp, List.getElem?_map, ec]
      rfl
    -- if cell >= 10 ** 18
    refine ⟨_, rfl, _, _, rfl, rfl, ⟨by decide, by decide, by decide⟩, _, _, rfl, rfl, _, rfl, ?_⟩
    refine ite2 (fun hc => ?_) (fun hc => ?_)
    · have hc' : (10 : Int) ^ (18 : Int).toNat ≤ c := by simpa using hc
      have nn : ns ≠ [] := fun z => by rw [e0 z] at hc'; exact absurd hc' (by decide)
      obtain ⟨ej2, hj⟩ := e1 nn
      refine ⟨_, rfl, _, rfl, _, _, rfl, rfl, ⟨n0, n1⟩, _, rfl, p, _, _, _, rfl, rfl, SqL.of p1, rfl, _, rfl, p, _, _, _, rfl, rfl, SqL.of p1, rfl, _, rfl, p, _, _, _, rfl, rfl, SqL.of p1, rfl, q, _, rfl, .inl (SqL.of q1), _, _, rfl, rfl, ?_, q, _, _, j, rfl, rfl, q1, ?_, ?_⟩
      · show (0 : Int) < ((List.map V.int ns).length : Int)
        rw [List.length_map]
        omega
      · show ixN (List.map V.int ns).length (i % ((List.map V.int ns).length : Int)) = some j
        rw [List.length_map, ej2]
        unfold ixN
        rw [if_pos (by omega), if_pos (by omega)]
        simp
      refine ⟨_, rfl, _, rfl, _, _, rfl, rfl, n0, ?_⟩
      refine k _ _ (Int.emod_nonneg _ (by omega)) (Int.emod_lt_of_pos _ n0) ⟨⟨m, i, ns.set j (c / n), by rw [upd_ne npq]; exact p1, by rw [upd_same, List.map_set], by rw [List.length_set]; exact hlen⟩, lo⟩ fun b o e hb hbq => ?_
      rw [upd_ne hbq]
      exact s1 b o e
    · -- the mix
      refine ⟨_, rfl, p, _, _, _, rfl, rfl, SqL.of p1, rfl, _, _, rfl, rfl, .inr ⟨by decide, by decide⟩, _, rfl, _, _, rfl, rfl, .inr ⟨by decide, by decide⟩, _, _, rfl, rfl, _, _, rfl, rfl, _, _, rfl, rfl, (by show (0 : Int) < _; decide), _, rfl, p, _, _, 0, rfl, rfl, p1, rfl, ?_⟩
      refine ⟨_, rfl, p, _, _, _, rfl, rfl, SqL.of upd_same, rfl, _, _, rfl, rfl, _, rfl, p, _, _, 2, rfl, rfl, upd_same, rfl, ?_⟩
      refine ⟨_, rfl, p, _, _, _, rfl, rfl, SqL.of upd_same, rfl, _, _, rfl, rfl, ⟨by decide, by decide⟩, _, rfl, _, _, rfl, rfl, n0, ?_⟩
      refine k _ _ (Int.emod_nonneg _ (by omega)) (Int.emod_lt_of_pos _ n0) ⟨⟨_, _, ns, upd_same, by rw [upd_ne npq.symm, upd_ne npq.symm]; exact q1, hlen⟩, lo⟩ fun b o e hb hbq => ?_
      rw [upd_ne hb, upd_ne hb]
      exact s1 b o e
end
end K14

set_option maxHeartbeats 4000000
set_option Elab.async false
set_option linter.all false
set_option maxRecDepth 100000
namespace K14
open PySem L2
section
variable {P : Program} {w : World} {K : PySem.W.Frag} {mg : Str → Option Value} {base : Heap}
theorem kAny {H : Hp} {x : V} {t : Value} (h : TyOf K H x t) (hf : flatS x = true) : PySem.W.kitAny K t (["tuple", "list"].map Value.type) = some false := by
  cases h <;> first | (exact absurd hf Bool.false_ne_true) | kernel_rfl
theorem tyFlat {H : Hp} {x : V} (hf : flatS x = true) : ∃ t, TyOf K H x t := by
  cases x <;> first | (exact absurd hf Bool.false_ne_true) | exact ⟨_, .non⟩ | exact ⟨_, .bl _⟩ | exact ⟨_, .int _⟩ | exact ⟨_, .str _⟩
theorem kTup : PySem.W.kitAny K (.type "tuple") (["tuple", "list"].map Value.type) = some true := by kernel_rfl
theorem kLst : PySem.W.kitAny K (.type "list") (["tuple", "list"].map Value.type) = some true := by kernel_rfl
theorem kTL : PySem.W.kitOne K (.type "tuple") (.type "list") = some false := by kernel_rfl
theorem kLL : PySem.W.kitOne K (.type "list") (.type "list") = some true := by kernel_rfl
def spAlike (n : Nat) : Sp := fun vs H Q _ => ∃ x y, vs = [x, y] ∧ Alk H n x y ∧ ∀ H', Same H H' → Q (.bl true) H'
theorem scAlike : FnScope ["_law_found", "_law_due", "_law_k"] ["_law_found", "_law_due"] (defScope sAlike) := ⟨rfl, rfl, rfl, by decide +kernel, rfl, by decide +kernel, by decide +kernel⟩
theorem alike_step {f : Addr} {fd : FuncData} {n : Nat} (F : Fun K "_law_alike" "_law_alike" sAlike f fd) (B : Blt mg) (mA : mg "_law_alike" = some (.ref f)) (bA : Binds K fd ["_law_found", "_law_due"] [])
    (G : FnOk P w K mg base (CXo P w) n f fd ["_law_found", "_law_due"] (spAlike n)) : FnOk P w K mg base (CXo P w) (n + 1) f fd ["_law_found", "_law_due"] (spAlike (n + 1)) := by
  refine F.okX scAlike (fun vs H Q E h => ?_) (fun cdv A outer s H vs Q E hr h => ?_)
  · obtain ⟨x, y, rfl, _⟩ := h
    rfl
  · obtain ⟨x, y, rfl, hA, k⟩ := h
    refine ⟨_, pss_cons (ps_if (pt_val (pe_callB cr_isi (by rfl) B.isinstance (by decide +kernel) (pa_cons (pv 1) (pa_cons (pe_tup (pa_cons (pe_bltn (v := .ty "tuple") (by rfl) B.tuple (by decide +kernel) rfl) (pa_cons (pe_bltn (v := .ty "list") (by rfl) B.list (by decide +kernel) rfl) pa_nil))) pa_nil))))
        (pss_cons (ps_if (PW.pt (pw_or (pt_not (pt_val (pe_callB cr_isi (by rfl) B.isinstance (by decide +kernel) (pa_cons (pv 0) (pa_cons (pe_tup (pa_cons (pe_bltn (v := .ty "tuple") (by rfl) B.tuple (by decide +kernel) rfl) (pa_cons (pe_bltn (v := .ty "list") (by rfl) B.list (by decide +kernel) rfl) pa_nil))) pa_nil)))))
            (pw_or1 (pt_cmpR op_ne (pe_callB cr_isi (by rfl) B.isinstance (by decide +kernel) (pa_cons (pv 0) (pa_cons (pe_bltn (v := .ty "list") (by rfl) B.list (by decide +kernel) rfl) pa_nil))) (pe_callB cr_isi (by rfl) B.isinstance (by decide +kernel) (pa_cons (pv 1) (pa_cons (pe_bltn (v := .ty "list") (by rfl) B.list (by decide +kernel) rfl) pa_nil))) (nomark _)))))
          (pss_one (ps_ret pe_bl)) pss_nil)
        (pss_cons (ps_if (pt_cmpR op_ne (pe_callB call_len_seq (by rfl) B.len PySem.boot_len (pa_cons (pv 0) pa_nil)) (pe_callB call_len_seq (by rfl) B.len PySem.boot_len (pa_cons (pv 1) pa_nil)) (nomark _)) (pss_one (ps_ret pe_bl)) pss_nil)
        (pss_one (ps_ret (pe_cmpR (op_eqD hr.units) (pe_lc (own := [("_law_k", 2)]) (g := gName 2) (by rfl) scAlike.nd
            (pi_range1 (by rfl) B.range (pa_cons (pe_callB call_len_seq (by rfl) B.len PySem.boot_len (pa_cons (pv 1) pa_nil)) pa_nil))
            (blkOk_by (own := [("_law_k", 2)]) (N := ["_law_found", "_law_due", "_law_k"]) (sc := defScope sAlike) (by decide +kernel))
            (fun _ _ _ _ _ => pg_name (i := 2) scAlike.nd rfl (Or.inl rfl))
            (fun _ _ _ _ _ => pts_one (pt_not (pt_val (pe_call G hr rfl mA F.kp bA .nil pass_no (pa_cons (pe_ix (r := rIx K) ix_seq (pv 0) (pv 2) (fun _ _ => rfl)) (pa_cons (pe_ix (r := rIx K) ix_seq (pv 1) (pv 2) (fun _ _ => rfl)) pa_nil))))))
            (fun _ _ _ _ _ => pv 2)) (pe_lst pa_nil) (nomark _)))))) pss_nil)
      (pss_cons (ps_if (PW.pt (pw_or (pt_cmpR op_isN (pv 1) pe_non (nomark _)) (pw_or1 (pt_val (pe_callB cr_isi (by rfl) B.isinstance (by decide +kernel) (pa_cons (pv 1) (pa_cons (pe_bltn (v := .ty "str") (by rfl) B.str (by decide +kernel) rfl) pa_nil)))))))
        (pss_one (ps_ret (pe_and (pe_cmpR op_eq (pv 0) (pv 1) (nomark _)) (pe_one (pe_cmpR op_eq (pe_callB cr_isi (by rfl) B.isinstance (by decide +kernel) (pa_cons (pv 0) (pa_cons (pe_bltn (v := .ty "str") (by rfl) B.str (by decide +kernel) rfl) pa_nil))) (pe_callB cr_isi (by rfl) B.isinstance (by decide +kernel) (pa_cons (pv 1) (pa_cons (pe_bltn (v := .ty "str") (by rfl) B.str (by decide +kernel) rfl) pa_nil))) (nomark _)))))) pss_nil)
      (pss_one (ps_ret (pe_and (pe_callB cr_isi (by rfl) B.isinstance (by decide +kernel) (pa_cons (pv 0) (pa_cons (pe_bltn (v := .ty "int") (by rfl) B.int (by decide +kernel) rfl) pa_nil)))
        (pe_and (pe_cmpR op_eq (pe_callB cr_isi (by rfl) B.isinstance (by decide +kernel) (pa_cons (pv 0) (pa_cons (pe_bltn (v := .ty "bool") (by rfl) B.bool (by decide +kernel) rfl) pa_nil))) (pe_callB cr_isi (by rfl) B.isinstance (by decide +kernel) (pa_cons (pv 1) (pa_cons (pe_bltn (v := .ty "bool") (by rfl) B.bool (by decide +kernel) rfl) pa_nil))) (nomark _))
          (pe_one (pe_cmpR op_eq (pv 0) (pv 1) (nomark _)))))))), ?_⟩
    rcases hA with ⟨rfl, hf⟩ | ⟨a, b, xs, ys, rfl, rfl, hab, hl, hm, hr2⟩
    · -- without parts
      obtain ⟨t, ty⟩ := tyFlat (K := K) (H := H) hf
      refine ⟨_, rfl, (by show 2 ≤ sizeLine; decide), fun p hp => ?_⟩
      have sm : Same H (upd H p (.tup [.ty "tuple", .ty "list"])) := fun b o e => by rw [upd_ne (ne_of_none e hp)]; exact e
      obtain ⟨t, ty⟩ := tyFlat (K := K) (H := upd H p (.tup [.ty "tuple", .ty "list"])) hf
      refine ⟨_, _, false, ty, ⟨_, rfl, ?_⟩, .inr ⟨p, ["tuple", "list"], rfl, upd_same, kAny ty hf⟩⟩
      refine iteF ?_
      cases x with
      | non =>
        refine ⟨_, rfl, rfl, _, rfl, ?_⟩
        refine iteT ?_
        refine iteT ?_
        refine ⟨_, rfl, _, rfl, rfl, _, rfl, ?_⟩
        refine iteT ?_
        exact ⟨_, rfl, _, _, false, .non, ⟨_, rfl, _, _, false, .non, ⟨rfl, k _ sm⟩, .inl ⟨"str", rfl, by kernel_rfl⟩⟩, .inl ⟨"str", rfl, by kernel_rfl⟩⟩
      | bl b =>
        refine ⟨_, rfl, rfl, _, rfl, ?_⟩
        refine iteF ?_
        refine ⟨_, rfl, _, _, false, .bl b, ⟨_, rfl, ?_⟩, .inl ⟨"str", rfl, by kernel_rfl⟩⟩
        refine iteF ?_
        refine ⟨_, rfl, _, _, true, .bl b, ⟨_, rfl, ?_⟩, .inl ⟨"int", rfl, by kernel_rfl⟩⟩
        refine iteT ?_
        refine ⟨_, rfl, _, _, true, .bl b, ⟨_, rfl, _, _, true, .bl b, ⟨rfl, _, rfl, ?_⟩, .inl ⟨"bool", rfl, by kernel_rfl⟩⟩, .inl ⟨"bool", rfl, by kernel_rfl⟩⟩
        refine iteT ?_
        refine ⟨_, rfl, _, rfl, rfl, ?_⟩
        rw [show (decide (V.bl b = V.bl b)) = true from decide_eq_true rfl]
        exact k _ sm
      | int i =>
        refine ⟨_, rfl, rfl, _, rfl, ?_⟩
        refine iteF ?_
        refine ⟨_, rfl, _, _, false, .int i, ⟨_, rfl, ?_⟩, .inl ⟨"str", rfl, by kernel_rfl⟩⟩
        refine iteF ?_
        refine ⟨_, rfl, _, _, true, .int i, ⟨_, rfl, ?_⟩, .inl ⟨"int", rfl, by kernel_rfl⟩⟩
        refine iteT ?_
        refine ⟨_, rfl, _, _, false, .int i, ⟨_, rfl, _, _, false, .int i, ⟨rfl, _, rfl, ?_⟩, .inl ⟨"bool", rfl, by kernel_rfl⟩⟩, .inl ⟨"bool", rfl, by kernel_rfl⟩⟩
        refine iteT ?_
        refine ⟨_, rfl, _, rfl, rfl, ?_⟩
        rw [show (decide (V.int i = V.int i)) = true from decide_eq_true rfl]
        exact k _ sm
      | str z =>
        refine ⟨_, rfl, rfl, _, rfl, ?_⟩
        refine iteF ?_
        refine ⟨_, rfl, _, _, true, .str z, ⟨_, rfl, ?_⟩, .inl ⟨"str", rfl, by kernel_rfl⟩⟩
        refine iteT ?_
        refine ⟨_, rfl, _, rfl, rfl, _, rfl, ?_⟩
        rw [show (decide (V.str z = V.str z)) = true from decide_eq_true rfl]
        refine iteT ?_
        exact ⟨_, rfl, _, _, true, .str z, ⟨_, rfl, _, _, true, .str z, ⟨rfl, k _ sm⟩, .inl ⟨"str", rfl, by kernel_rfl⟩⟩, .inl ⟨"str", rfl, by kernel_rfl⟩⟩
      | byt z => exact absurd hf Bool.false_ne_true
      | flt z => exact absurd hf Bool.false_ne_true
      | ref z => exact absurd hf Bool.false_ne_true
      | ty z => exact absurd hf Bool.false_ne_true
    · -- lists, tuples
      obtain ⟨T, c, hT1, hT2, sa, sb, ty⟩ : ∃ (T : String) (c : Bool), PySem.W.kitAny K (.type T) (["tuple", "list"].map Value.type) = some true ∧ PySem.W.kitOne K (.type T) (.type "list") = some c ∧ (∀ H', Same H H' → SqL K H' a xs ∨ SqT K H' a xs) ∧ (∀ H', Same H H' → SqL K H' b ys ∨ SqT K H' b ys) ∧
          ∀ H', Same H H' → TyOf K H' (.ref a) (.type T) ∧ TyOf K H' (.ref b) (.type T) := by
        rcases hab with ⟨h1, h2⟩ | ⟨h1, h2⟩
        · exact ⟨"list", true, kLst, kLL, fun H' s => .inl (SqL.of (s _ _ h1)), fun H' s => .inl (SqL.of (s _ _ h2)), fun H' s => ⟨.lst (s _ _ h1), .lst (s _ _ h2)⟩⟩
        · exact ⟨"tuple", false, kTup, kTL, fun H' s => .inr (SqT.of (s _ _ h1)), fun H' s => .inr (SqT.of (s _ _ h2)), fun H' s => ⟨.tup (s _ _ h1), .tup (s _ _ h2)⟩⟩
      have ix : ∀ H', Same H H' → ∀ (i : Nat) v, xs[i]? = some v → ∀ Q : VK, Q v H' → rIx K (.ref a) (.int i) H' Q := fun H' s i v e Q q => by
        rcases sa H' s with z | z
        · exact .inl ⟨a, xs, _, v, rfl, rfl, z, atI_nat e, q⟩
        · exact .inr (.inl ⟨a, xs, _, v, rfl, rfl, z, atI_nat e, q⟩)
      have iy : ∀ H', Same H H' → ∀ (i : Nat) v, ys[i]? = some v → ∀ Q : VK, Q v H' → rIx K (.ref b) (.int i) H' Q := fun H' s i v e Q q => by
        rcases sb H' s with z | z
        · exact .inl ⟨b, ys, _, v, rfl, rfl, z, atI_nat e, q⟩
        · exact .inr (.inl ⟨b, ys, _, v, rfl, rfl, z, atI_nat e, q⟩)
      refine ⟨_, rfl, (by show 2 ≤ sizeLine; decide), fun p hp => ?_⟩
      have s1 : Same H (upd H p (.tup [.ty "tuple", .ty "list"])) := fun b o e => by rw [upd_ne (ne_of_none e hp)]; exact e
      refine ⟨_, _, true, (ty _ s1).2, ⟨_, rfl, ?_⟩, .inr ⟨p, ["tuple", "list"], rfl, upd_same, hT1⟩⟩
      refine iteT ?_
      generalize upd H p (.tup [.ty "tuple", .ty "list"]) = H1 at s1 ⊢
      refine ⟨_, rfl, (by show 2 ≤ sizeLine; decide), fun p2 hp2 => ?_⟩
      have s2 : Same H (upd H1 p2 (.tup [.ty "tuple", .ty "list"])) := s1.trans fun b o e => by rw [upd_ne (ne_of_none e hp2)]; exact e
      refine ⟨_, _, true, (ty _ s2).1, ⟨_, rfl, ?_⟩, .inr ⟨p2, ["tuple", "list"], rfl, upd_same, hT1⟩⟩
      refine iteF ?_
      generalize upd H1 p2 (.tup [.ty "tuple", .ty "list"]) = H2 at s2 ⊢
      refine ⟨_, rfl, _, _, c, (ty _ s2).1, ⟨_, rfl, _, _, c, (ty _ s2).2, ⟨rfl, _, rfl, ?_⟩, .inl ⟨"list", rfl, hT2⟩⟩, .inl ⟨"list", rfl, hT2⟩⟩
      refine iteNS rfl ?_
      refine ⟨_, rfl, a, xs, rfl, sa _ s2, _, rfl, b, ys, rfl, sb _ s2, rfl, _, rfl, ?_⟩
      refine iteNS (by rw [hl]) ?_
      refine ⟨_, rfl, b, ys, rfl, sb _ s2, (ys.length : Int), rfl, by omega, by omega, fun D hD => lc_range (lo := 0) (n := (ys.length : Int).toNat) (fun i H3 => H3 D = some (.lst []) ∧ Same H2 H3)
        ⟨upd_same, fun b o e => by rw [upd_ne (ne_of_none e hD)]; exact e⟩ ?_ ?_⟩
      · rintro i H3 hi ⟨hD3, s3⟩
        have hiy : i < ys.length := by omega
        have hix : i < xs.length := by omega
        have s03 := s2.trans s3
        refine ⟨rfl, ?_⟩
        refine ⟨_, rfl, _, rfl, ?_⟩
        rw [show (0 : Int) + (i : Int) = (i : Int) from by omega]
        refine ix H3 s03 i xs[i] (List.getElem?_eq_getElem hix) _ ?_
        refine ⟨_, rfl, _, rfl, ?_⟩
        refine iy H3 s03 i ys[i] (List.getElem?_eq_getElem hiy) _ ?_
        refine ⟨xs[i], ys[i], rfl, Alk.same s03 (hr2 i _ _ (List.getElem?_eq_getElem hix) (List.getElem?_eq_getElem hiy)), fun H4 s4 => ⟨_, rfl, ?_⟩⟩
        refine iteF ?_
        exact ⟨s4 _ _ hD3, s3.trans s4⟩
      · rintro H3 ⟨hD3, s3⟩
        refine ⟨Nat.zero_le _, fun e he => ?_⟩
        have ne : D ≠ e := ne_of_none hD3 he
        refine ⟨.list [], .list [], .lst (SqL.of (by rw [upd_ne ne]; exact hD3)) .nil, .lst (SqL.of upd_same) .nil, rfl, rfl, ?_⟩
        exact k _ ((s2.trans s3).trans fun b o z => by rw [upd_ne (ne_of_none z he)]; exact z)
theorem ok_alike {f : Addr} {fd : FuncData} (F : Fun K "_law_alike" "_law_alike" sAlike f fd) (B : Blt mg) (mA : mg "_law_alike" = some (.ref f)) (bA : Binds K fd ["_law_found", "_law_due"] []) :
    ∀ n, FnOk P w K mg base (CXo P w) n f fd ["_law_found", "_law_due"] (spAlike n)
  | 0 => ⟨fun _ _ _ _ ⟨_, _, _, h, _⟩ => False.elim h, fun _ _ _ _ _ _ _ _ _ _ _ _ _ ⟨_, _, _, h, _⟩ => False.elim h⟩
  | n + 1 => alike_step F B mA bA (ok_alike F B mA bA n)
end
end K14

set_option maxHeartbeats 4000000
set_option Elab.async false
set_option linter.all false
set_option maxRecDepth 100000
namespace K14
open PySem L2
/-- what the text has written of Row and Over -/
structure RowT (K : PySem.W.Frag) (mg : Str → Option Value) (C CO fI fD : Addr) : Prop where
  cl : Cls K C
  nT : NoAttr K C "tell"
  nO : NoAttr K C "over"
  mgC : mg "Row" = some (.ref C)
  mkr : Mk K C fI
  md : Meth K C "draw" fD
  mgO : mg "Over" = some (.ref CO)
  exO : PySem.W.excIn K CO [.type "ValueError", .type "Exception", .type "BaseException", .type "object"] "ValueError.__new__" = true
section
variable {P : Program} {w : World} {K : PySem.W.Frag} {mg : Str → Option Value} {base : Heap} {C CO fI fD : Addr}
def spInit (C : Addr) : Sp := fun vs H Q _ => ∃ (r dx f : Addr), vs = [.ref r, .ref f] ∧ H r = some (.ins C dx []) ∧ Q .non (upd H r (.ins C dx (rowF f false)))
theorem scInit : FnScope ["self", "tell"] ["self", "tell"] (defScope sInit) := ⟨rfl, rfl, rfl, by decide +kernel, rfl, by decide +kernel, by decide +kernel⟩
theorem ok_init {f : Addr} {fd : FuncData} (F : Fun K "__init__" "Row.__init__" sInit f fd) (T : RowT K mg C CO fI fD) : FnOk P w K mg base (CXo P w) 1 f fd ["self", "tell"] (spInit C) := by
  refine F.okX scInit (fun vs H Q E h => ?_) (fun cdv A outer s H vs Q E hr h => ?_)
  · obtain ⟨r, dx, f, rfl, _⟩ := h
    rfl
  · obtain ⟨r, dx, f, rfl, hr0, k⟩ := h
    refine ⟨_, pss_cons (ps_fld (pv 0) (pv 1) rfl) (pss_one (ps_fld (pv 0) pe_bl rfl)), ?_⟩
    refine ⟨_, rfl, _, rfl, r, C, dx, [], rfl, hr0, T.cl, T.nT, (by show 0 < 1000; decide), _, rfl, r, C, dx, _, rfl, upd_same, T.cl, T.nO, (by show 1 < 1000; decide), ?_⟩
    show Q .non _
    rw [upd_upd]
    have e : putF "over" (.bl false) (putF "tell" (.ref f) []) = rowF f false := rowF_mk f false
    have e' : upd H r (.ins C dx (putF "over" (.bl false) (putF "tell" (.ref f) []))) = upd H r (.ins C dx (rowF f false)) := by rw [e]
    exact e' ▸ k
theorem scDraw : FnScope ["self"] ["self"] (defScope sDraw) := ⟨rfl, rfl, rfl, by decide +kernel, rfl, by decide +kernel, by decide +kernel⟩
theorem matO (T : RowT K mg C CO fI fD) : Mat K (.ref CO) (.ref CO) true := mat_own T.exO T.exO (by decide) (by rw [List.contains_cons]; simp)
theorem ok_draw {f : Addr} {fd : FuncData} {n : Nat} (F : Fun K "draw" "Row.draw" sDraw f fd) (T : RowT K mg C CO fI fD) : FnOk P w K mg base (CXo P w) (n + 1) f fd ["self"] (spDraw ⟨P, w, K, mg, base, C, CO⟩ n) := by
  refine F.okX scDraw (fun vs H Q E h => ?_) (fun cdv A outer s H vs Q E hr h => ?_)
  · obtain ⟨r, dx, f, o, rfl, _⟩ := h
    rfl
  · obtain ⟨r, dx, f, o, rfl, hr0, k1, k2⟩ := h
    refine ⟨_, pss_cons (ps_if (pt_val (pe_fld (pv 0) rfl)) (pss_one (ps_raise rfl rfl T.mgO T.exO PySem.F.excBase_ValueError throws_fn (pa_cons pe_str pa_nil))) pss_nil)
      (pss_one (ps_try (fun xe' pn' Rk' th po => pss_one (ps_ret (pe_fcall0 P w K mg base hr th (pv 0))))
        (ph_cons (C := CO) (ts := fun ea cls d => tSeq (sFld K (tVar 0) (tC (.bl true)) "over") (tAgain (fun _ => E) cls d)) rfl T.mgO (fun _ => PassesOwnAt.leaving) (fun ea T' oe oT cls d a0 S => pss_cons (ps_fld (pv 0) pe_bl rfl) (pss_one (ps_reraise S throws_fn))) (ph_nil throws_fn)))), ?_⟩
    refine ⟨_, rfl, r, C, dx, _, _, rfl, hr0, T.cl, T.nO, rfl, o, rfl, ?_⟩
    cases o with
    | true =>
      refine iteT ?_
      exact ⟨(by show 1 ≤ sizeLine; decide), k1 rfl⟩
    | false =>
      refine iteF ?_
      refine ⟨_, rfl, r, C, dx, _, f, rfl, hr0, T.cl, T.nT, rfl, ?_⟩
      refine (k2 rfl).mono (fun _ _ z => z) fun cls d H' z ea he => ?_
      rcases z with ⟨rfl, dx', h1, h2⟩ | ⟨h1, h2⟩
      · refine ⟨true, matO T, iteT ?_⟩
        refine ⟨_, rfl, r, C, dx', _, rfl, h1, T.cl, T.nO, (by show 2 < 1000; decide), ?_⟩
        show E _ _ (upd H' r (.ins C dx' (putF "over" (.bl true) (rowF f false))))
        rw [show (putF "over" (.bl true) (rowF f false)) = rowF f true from rowF_put f false true]
        exact h2
      · exact ⟨false, h1, iteF h2⟩
end
end K14

set_option maxHeartbeats 4000000
set_option Elab.async false
set_option linter.all false
set_option maxRecDepth 100000
namespace K14
open PySem L2
/-! ### Source -/
/-- what the text has written of Source -/
structure SrcT (K : PySem.W.Frag) (mg : Str → Option Value) (CS fSI fSA : Addr) : Prop where
  cl : Cls K CS
  nR : NoAttr K CS "row"
  nE : NoAttr K CS "ended"
  nF : NoAttr K CS "fresh"
  mgC : mg "Source" = some (.ref CS)
  mkr : Mk K CS fSI
  md : Meth K CS "advance" fSA
section
variable {P : Program} {w : World} {K : PySem.W.Frag} {mg : Str → Option Value} {base : Heap} {C CO fI fD CS fSI fSA : Addr}
def spSInit (CS : Addr) : Sp := fun vs H Q _ => ∃ (s dx r : Addr), vs = [.ref s, .ref r] ∧ H s = some (.ins CS dx []) ∧ Q .non (upd H s (.ins CS dx (srcF r false .non)))
theorem scSInit : FnScope ["self", "row"] ["self", "row"] (defScope s_Source_init) := ⟨rfl, rfl, rfl, by decide +kernel, rfl, by decide +kernel, by decide +kernel⟩
theorem ok_sinit {f : Addr} {fd : FuncData} (F : Fun K "__init__" "Source.__init__" s_Source_init f fd) (S : SrcT K mg CS fSI fSA) : FnOk P w K mg base (CXo P w) 1 f fd ["self", "row"] (spSInit CS) := by
  refine F.okX scSInit (fun vs H Q E h => ?_) (fun cdv A outer s H vs Q E hr h => ?_)
  · obtain ⟨r, dx, f, rfl, _⟩ := h
    rfl
  · obtain ⟨s, dx, r, rfl, hr0, k⟩ := h
    refine ⟨_, pss_cons (ps_fld (pv 0) (pv 1) rfl) (pss_cons (ps_fld (pv 0) pe_bl rfl) (pss_one (ps_fld (pv 0) pe_non rfl))), ?_⟩
    refine ⟨_, rfl, _, rfl, s, CS, dx, [], rfl, hr0, S.cl, S.nR, (by show 0 < 1000; decide), _, rfl, s, CS, dx, _, rfl, upd_same, S.cl, S.nE, (by show 1 < 1000; decide), _, rfl, s, CS, dx, _, rfl, upd_same, S.cl, S.nF, ?_, ?_⟩
    · rw [show (putF "ended" (.bl false) (putF "row" (.ref r) [])).length = 2 from by
        show (if ("row" : Str) = "ended" then _ else (("row" : Str), V.ref r) :: putF "ended" (.bl false) []).length = 2
        rw [if_neg reNe]; rfl]
      decide
    · show Q .non _
      rw [upd_upd, upd_upd]
      have e' : upd H s (.ins CS dx (putF "fresh" .non (putF "ended" (.bl false) (putF "row" (.ref r) [])))) = upd H s (.ins CS dx (srcF r false .non)) := by rw [srcF_mk]
      exact e' ▸ k
theorem scAdv : FnScope ["self"] ["self"] (defScope s_Source_advance) := ⟨rfl, rfl, rfl, by decide +kernel, rfl, by decide +kernel, by decide +kernel⟩
theorem ok_adv {f : Addr} {fd fdD : FuncData} {n : Nat} (F : Fun K "advance" "Source.advance" s_Source_advance f fd) (S : SrcT K mg CS fSI fSA) (T : RowT K mg C CO fI fD) (FD : Fun K "draw" "Row.draw" sDraw fD fdD) (bD : Binds K fdD ["self"] []) : FnOk P w K mg base (CXo P w) (n + 2) f fd ["self"] (spAdv ⟨P, w, K, mg, base, C, CO⟩ CS n) := by
  have GD : FnOk P w K mg base (CXo P w) (n + 1) fD fdD ["self"] (spDraw ⟨P, w, K, mg, base, C, CO⟩ n) := ok_draw FD T
  refine F.okX scAdv (fun vs H Q E h => ?_) (fun cdv A outer s H vs Q E hr h => ?_)
  · obtain ⟨r, dx, f, e, v, rfl, _⟩ := h
    rfl
  · obtain ⟨s, dx, r, e, v, rfl, hs0, k1, k2⟩ := h
    refine ⟨_, pss_cons (ps_if (pt_val (pe_fld (pv 0) rfl)) (pss_one (ps_ret pe_bl)) pss_nil)
      (pss_cons (ps_try (tb := fun Rk' => sFld K (tVar 0) (tMethX C "draw" (spDraw ⟨P, w, K, mg, base, C, CO⟩ n) [] Rk' (tFld K (tVar 0) "row") tNil) "fresh") (fun xe' pn' Rk' th po => pss_one (ps_fld (pv 0) (pe_methX0 (pe_fld (pv 0) rfl) T.cl T.md GD hr bD .nil th) rfl))
        (ph_cons (C := CO) (ts := fun ea cls d => tSeq (sFld K (tVar 0) (tC (.bl true)) "ended") (tRet (tC (.bl false)))) rfl T.mgO (fun _ => PassesOwnAt.leaving) (fun ea T' oe oT cls d a0 S' => pss_cons (ps_fld (pv 0) pe_bl rfl) (pss_one (ps_ret pe_bl))) (ph_nil throws_fn)))
      (pss_one (ps_ret pe_bl))), ?_⟩
    refine ⟨_, rfl, s, CS, dx, _, _, rfl, hs0, S.cl, S.nE, rfl, e, rfl, ?_⟩
    cases e with
    | true => exact iteT (k1 rfl)
    | false =>
      refine iteF ?_
      have hd := k2 rfl
      obtain ⟨dxr, fs, hr0, hno⟩ := spDraw_row hd
      refine ⟨_, rfl, s, CS, dx, _, _, rfl, hs0, S.cl, S.nR, rfl, r, dxr, fs, rfl, hr0, hno, ?_⟩
      unfold tNil
      refine spDraw_mono hd (fun x H1 z => ?_) (fun cls d H1 z ea he => ?_)
      · obtain ⟨dx', v', h1, h2⟩ := z
        refine ⟨_, rfl, s, CS, dx', _, rfl, h1, S.cl, S.nF, (by show 3 < 1000; decide), ?_⟩
        show Q (.bl true) (upd H1 s (.ins CS dx' (putF "fresh" x (srcF r false v'))))
        rw [srcF_fresh]
        exact h2
      · rcases z with ⟨rfl, dx', v', h1, h2⟩ | ⟨h1, h2⟩
        · refine ⟨true, matO T, iteT ?_⟩
          refine ⟨_, rfl, s, CS, dx', _, rfl, h1, S.cl, S.nE, (by show 3 < 1000; decide), ?_⟩
          show Q (.bl false) (upd H1 s (.ins CS dx' (putF "ended" (.bl true) (srcF r false v'))))
          rw [srcF_ended]
          exact h2
        · exact ⟨false, h1, iteF h2⟩
end
end K14

set_option maxHeartbeats 4000000
set_option Elab.async false
set_option linter.all false
set_option maxRecDepth 100000
namespace K14
open PySem L2
/-! ### keys, of numbers -/
section
variable {P : Program} {w : World} {K : PySem.W.Frag} {mg : Str → Option Value} {base : Heap} {C CO fI fD : Addr}
def spAsIt : Sp := fun vs H Q _ => ∃ z : Int, vs = [.int z] ∧ Q (.int z) H
theorem scAsIt : FnScope ["key"] ["key"] (defScope sAsItIs) := ⟨rfl, rfl, rfl, by decide +kernel, rfl, by decide +kernel, by decide +kernel⟩
theorem ok_asit {f : Addr} {fd : FuncData} (F : Fun K "as_it_is" "as_it_is" sAsItIs f fd) (B : Blt mg) : FnOk P w K mg base (CXo P w) 1 f fd ["key"] spAsIt := by
  refine F.okX scAsIt (fun vs H Q E h => ?_) (fun cdv A outer s H vs Q E hr h => ?_)
  · obtain ⟨z, rfl, _⟩ := h
    rfl
  · obtain ⟨z, rfl, k⟩ := h
    refine ⟨_, pss_cons (ps_if (pt_val (pe_callB cr_isi (by rfl) B.isinstance (by decide +kernel) (pa_cons (pv 0) (pa_cons (pe_bltn (v := .ty "list") (by rfl) B.list (by decide +kernel) rfl) pa_nil)))) (t := fun _ _ _ => False) (fun _ _ _ _ _ _ h => False.elim h) pss_nil)
      (pss_cons (ps_if (pt_val (pe_callB cr_isi (by rfl) B.isinstance (by decide +kernel) (pa_cons (pv 0) (pa_cons (pe_bltn (v := .ty "tuple") (by rfl) B.tuple (by decide +kernel) rfl) pa_nil)))) (t := fun _ _ _ => False) (fun _ _ _ _ _ _ h => False.elim h) pss_nil)
      (pss_cons (ps_if (pt_val (pe_callB cr_isi (by rfl) B.isinstance (by decide +kernel) (pa_cons (pv 0) (pa_cons (pe_bltn (v := .ty "dict") (by rfl) B.dict (by decide +kernel) rfl) pa_nil)))) (t := fun _ _ _ => False) (fun _ _ _ _ _ _ h => False.elim h) pss_nil)
      (pss_one (ps_ret (pv 0))))), ?_⟩
    refine ⟨_, rfl, _, _, false, .int z, ⟨_, rfl, iteF ?_⟩, .inl ⟨"list", rfl, by kernel_rfl⟩⟩
    refine ⟨_, rfl, _, _, false, .int z, ⟨_, rfl, iteF ?_⟩, .inl ⟨"tuple", rfl, by kernel_rfl⟩⟩
    refine ⟨_, rfl, _, _, false, .int z, ⟨_, rfl, iteF ?_⟩, .inl ⟨"dict", rfl, by kernel_rfl⟩⟩
    exact ⟨_, rfl, k⟩
def spKeyIt (P : Program) (w : World) (K : PySem.W.Frag) (mg : Str → Option Value) (base : Heap) (k : Nat) : Sp := fun vs H Q E => ∃ x kv, vs = [x, kv] ∧ ((kv = .non ∧ Q x H) ∨ ∃ fw fdw, kv = .ref fw ∧ H fw = some (cloO fw fdw) ∧ DoesF P w K mg base k fw [x] H Q E)
theorem scKeyIt : FnScope ["x", "key"] ["x", "key"] (defScope sKeyItself) := ⟨rfl, rfl, rfl, by decide +kernel, rfl, by decide +kernel, by decide +kernel⟩
theorem ok_keyit {f : Addr} {fd : FuncData} {k : Nat} (F : Fun K "key_itself" "key_itself" sKeyItself f fd) : FnOk P w K mg base (CXo P w) (k + 1) f fd ["x", "key"] (spKeyIt P w K mg base k) := by
  refine F.okX scKeyIt (fun vs H Q E h => ?_) (fun cdv A outer s H vs Q E hr h => ?_)
  · obtain ⟨x, kv, rfl, _⟩ := h
    rfl
  · obtain ⟨x, kv, rfl, h⟩ := h
    refine ⟨_, pss_cons (ps_if (pt_cmpR op_isN (pv 1) pe_non (nomark _)) (pss_one (ps_ret (pv 0))) pss_nil) (pss_one (ps_ret (pe_callV P w K mg base hr throws_fn (pv 1) (pa_cons (pv 0) pa_nil)))), ?_⟩
    refine ⟨_, rfl, rfl, _, rfl, ?_⟩
    rcases h with ⟨rfl, h⟩ | ⟨fw, fdw, rfl, hf, h⟩
    · exact iteT ⟨_, rfl, h⟩
    · exact iteF ⟨_, rfl, fw, fdw, rfl, hf, _, rfl, h⟩
def spKeyOf (P : Program) (w : World) (K : PySem.W.Frag) (mg : Str → Option Value) (base : Heap) (k : Nat) : Sp := fun vs H Q E => ∃ x kv, vs = [x, kv] ∧ ((kv = .non ∧ (∃ z, x = .int z) ∧ Q x H) ∨ ∃ fw fdw, kv = .ref fw ∧ H fw = some (cloO fw fdw) ∧ DoesF P w K mg base k fw [x] H (fun v H' => (∃ z, v = .int z) ∧ Q v H') E)
theorem scKeyOf : FnScope ["x", "key"] ["x", "key"] (defScope sKeyOf) := ⟨rfl, rfl, rfl, by decide +kernel, rfl, by decide +kernel, by decide +kernel⟩
theorem ok_keyof {f fIt fAs : Addr} {fd fdIt fdAs : FuncData} {k : Nat} (F : Fun K "key_of" "key_of" sKeyOf f fd) (B : Blt mg) (FIt : Fun K "key_itself" "key_itself" sKeyItself fIt fdIt) (mIt : mg "key_itself" = some (.ref fIt)) (bIt : Binds K fdIt ["x", "key"] []) (FAs : Fun K "as_it_is" "as_it_is" sAsItIs fAs fdAs) (mAs : mg "as_it_is" = some (.ref fAs)) (bAs : Binds K fdAs ["key"] []) :
    FnOk P w K mg base (CXo P w) (k + 2) f fd ["x", "key"] (spKeyOf P w K mg base k) := by
  have GIt : FnOk P w K mg base (CXo P w) (k + 1) fIt fdIt ["x", "key"] (spKeyIt P w K mg base k) := ok_keyit FIt
  have GAs : FnOk P w K mg base (CXo P w) 1 fAs fdAs ["key"] spAsIt := ok_asit FAs B
  refine F.okX scKeyOf (fun vs H Q E h => ?_) (fun cdv A outer s H vs Q E hr h => ?_)
  · obtain ⟨x, kv, rfl, _⟩ := h
    rfl
  · obtain ⟨x, kv, rfl, h⟩ := h
    have hr1 : Room 1 _ := hr.mono (by omega)
    refine ⟨_, pss_one (ps_ret (pe_call GAs hr1 rfl mAs FAs.kp bAs .nil pass_no (pa_cons (pe_callX GIt hr rfl mIt FIt.kp bIt .nil throws_fn (pa_cons (pv 0) (pa_cons (pv 1) pa_nil))) pa_nil))), ?_⟩
    refine ⟨_, rfl, _, rfl, x, kv, rfl, ?_⟩
    rcases h with ⟨rfl, ⟨z, rfl⟩, h⟩ | ⟨fw, fdw, rfl, hf, h⟩
    · exact .inl ⟨rfl, z, rfl, h⟩
    · exact .inr ⟨fw, fdw, rfl, hf, h.mono (fun v H' ⟨⟨z, e⟩, q⟩ => ⟨z, by rw [e]; rfl, by rw [← e]; exact q⟩) fun _ _ _ z => z⟩
end
end K14

set_option maxHeartbeats 4000000
set_option Elab.async false
set_option linter.all false
set_option maxRecDepth 100000
namespace K14
open PySem L2
/-! ### listed -/
abbrev sTell0 : Stmt := (defBody sListed).getD 1 (.Pass ⟨0, 0, 0, 0⟩)
abbrev fd0 (c : Addr) (doc pm : Value) (c' : Addr) (ctv : Value) : FuncData := cloF "tell" "listed.<locals>.tell" (defArgs sTell0) (defBody sTell0) (defScope sTell0) [("waiting", c)] doc pm c' ctv
def pos0 : Pos := match sTell0 with | .FunctionDef _ _ _ _ _ _ _ _ _ p => p | _ => ⟨0, 0, 0, 0⟩
section
variable {P : Program} {w : World} {K : PySem.W.Frag} {mg : Str → Option Value} {base : Heap} {C CO fI fD : Addr}
def spTell0 (CO f c : Addr) (doc pm : Value) (c' : Addr) (ctv : Value) : Sp := fun vs H Q E => vs = [] ∧ CloAt H f (fd0 c doc pm c' ctv) c' "listed.<locals>.tell" [("waiting", c)] ∧ ∃ (l : Addr) (xs : List V), H c = some (.cel (some (.ref l))) ∧ H l = some (.lst xs) ∧
  (xs = [] → E (.ref CO) none H) ∧ ∀ ys y, xs = ys ++ [y] → Q y (upd H l (.lst ys))
theorem scT0 : CloScope [] [] ["waiting"] (defScope sTell0) := ⟨rfl, rfl, rfl, List.nodup_nil, List.nodup_nil, by decide +kernel, by decide +kernel, by decide +kernel, by decide +kernel, by decide +kernel⟩
theorem ok_tell0 {f c c' : Addr} {doc pm ctv : Value} {k : Nat} (T : RowT K mg C CO fI fD) : FnOk P w K mg base (CXo P w) (k + 1) f (fd0 c doc pm c' ctv) [] (spTell0 CO f c doc pm c' ctv) := by
  refine clo_of (N := []) scT0 (fun vs H Q E h => ?_) (fun vs H Q E h => h.2.1) (fun A outer s H vs Q E hr h => ?_)
  · obtain ⟨rfl, _⟩ := h
    rfl
  · obtain ⟨rfl, hC, l, xs, hc, hl, k1, k2⟩ := h
    refine ⟨_, pss_cons (ps_if (pt_not (pt_truth (pe_cel (c := c) (.inr rfl) rfl) (by intro _; rfl))) (pss_one (ps_raise rfl rfl T.mgO T.exO PySem.F.excBase_ValueError (throws_E rfl) (pa_cons pe_str pa_nil))) pss_nil)
      (pss_one (ps_ret (pe_bm0 PySem.F.plainAttrs_list PySem.F.slot_list_pop PySem.F.type_list_pop mt_pop (pe_cel (c := c) (.inr rfl) rfl)))), ?_⟩
    refine ⟨_, hc, !xs.isEmpty, .inl ⟨xs, SqL.of hl, rfl⟩, ?_⟩
    rcases List.eq_nil_or_concat xs with rfl | ⟨ys, y, e⟩
    · refine iteT ?_
      exact ⟨(by show 1 ≤ sizeLine; decide), k1 rfl⟩
    · rw [List.concat_eq_append] at e
      subst e
      have en : (ys ++ [y]).isEmpty = false := by simp
      rw [en]
      refine iteF ?_
      refine ⟨_, hc, .inl ⟨rfl, _, SqL.of hl⟩, l, _, y, rfl, rfl, hl, by simp, ?_⟩
      rw [List.dropLast_concat]
      exact k2 ys y rfl
def spListed (K : PySem.W.Frag) (C Pt : Addr) : Sp := fun vs H Q _ => ∃ (a : Addr) (xs : List V), vs = [.ref a] ∧ SqL K H a xs ∧ Tab H Pt pos0 "listed.<locals>.tell" ∧
  ∀ (r f c l c' dx : Addr) (doc pm ctv : Value) (H3 H' : Hp), Same H H3 → H c = none → H l = none → H3 c = some (.cel (some (.ref l))) → H3 l = some (.lst xs.reverse) → RowM C H3 H' Pt pos0 "listed.<locals>.tell" r f c' dx (fd0 c doc pm c' ctv) [("waiting", c)] → Q (.ref r) H'
theorem scListed : FnScopeC ["items", "tell"] ["items"] (defScope sListed) := ⟨rfl, rfl, rfl, by decide +kernel, by decide +kernel, by decide +kernel, by decide +kernel, by decide +kernel, by decide +kernel⟩
theorem ok_listed {f cc Pt : Addr} {fd fdI : FuncData} (F : Fun K "listed" "listed" sListed f fd) (B : Blt mg) (T : RowT K mg C CO fI fD) (FI : Fun K "__init__" "Row.__init__" sInit fI fdI) (bI : Binds K fdI ["self", "tell"] []) (hcode : fd.code = .ref cc)
    (hT : PySem.W.CodeHd base cc Pt ∧ mainGlobals ≠ Pt ∧ base.BuiltinsAt mg Pt) : FnOk P w K mg base (CXo P w) 3 f fd ["items"] (spListed K C Pt) := by
  have GI : FnOk P w K mg base (CXo P w) 1 fI fdI ["self", "tell"] (spInit C) := ok_init FI T
  refine F.okC scListed (fun vs H Q E h => ?_) (fun cdv A outer s H vs Q E hcd hr h fresh => ?_)
  · obtain ⟨a, xs, rfl, _⟩ := h
    rfl
  · obtain ⟨a, xs, rfl, hS, hTab, k⟩ := h
    have hcd' : cdv = .ref cc := hcd.symm.trans hcode
    refine ⟨_, pss_cons (ps_asg (pe_rev (pe_callTy call_list_of (by rfl) B.list (by decide +kernel) (pa_cons (pv 0) pa_nil)) (po_some (pe_un un_neg pe_int))) (pg_cel (c := s.heap.objs.size + 1) (.inl rfl) rfl))
      (pss_cons (ps_def (i := 1) (c := cc) (P := Pt) (qual := "listed.<locals>.tell") (clos := [("waiting", s.heap.objs.size + 1)]) scListed.nd rfl rfl ⟨hcd', hT.1, hT.2.1, hT.2.2⟩ (by kernel_rfl) (by rfl) rfl rfl rfl)
      (pss_one (ps_ret (pe_make T.mkr GI hr rfl T.mgC bI .nil pass_no (pa_cons (pv 1) pa_nil))))), ?_⟩
    have hc0 : H (s.heap.objs.size + 1) = none := fresh _ (Nat.le_succ _)
    generalize s.heap.objs.size + 1 = c0 at hc0 ⊢
    rw [show Hcel (fun x => (([("items" : Str)] : List Str).zip [V.ref a]).lookup x) (cellsFrom c0 (defScope sListed).names []) H = upd H c0 (.cel none) from rfl]
    have sc : Same H (upd H c0 (.cel none)) := fun b o e => by rw [upd_ne (ne_of_none e hc0)]; exact e
    refine ⟨_, rfl, a, xs, rfl, .inl (sc.seq hS), fun l1 hl1 => ?_⟩
    refine ⟨1, rfl, -1, rfl, rfl, l1, xs, rfl, SqL.of upd_same, fun l hl => ?_⟩
    have n1 : c0 ≠ l1 := fun z => by rw [← z, upd_same] at hl1; cases hl1
    have h1 : H l1 = none := sc.free hl1
    have n2 : l1 ≠ l := fun z => by rw [← z, upd_same] at hl; cases hl
    have n3 : c0 ≠ l := fun z => by rw [← z, upd_ne n1, upd_same] at hl; cases hl
    have h2 : H l = none := by rw [upd_ne n2.symm, upd_ne n3.symm] at hl; exact hl
    refine ⟨⟨none, by rw [upd_ne n3, upd_ne n1, upd_same]⟩, ?_⟩
    generalize hH3 : upd (upd (upd (upd H c0 (.cel none)) l1 (.lst xs)) l (.lst xs.reverse)) c0 (.cel (some (.ref l))) = H3
    have c3 : H3 c0 = some (.cel (some (.ref l))) := by rw [← hH3, upd_same]
    have l3 : H3 l = some (.lst xs.reverse) := by rw [← hH3, upd_ne n3.symm, upd_same]
    have s3 : Same H H3 := fun b o e => by rw [← hH3, upd_ne (ne_of_none e hc0), upd_ne (ne_of_none e h2), upd_ne (ne_of_none e h1), upd_ne (ne_of_none e hc0)]; exact e
    refine ⟨hTab.same s3, fun f c' doc pm ctv H' hf hc ncf eP eC eF eO => ?_⟩
    have D := DefM.of (hTab.same s3) hf hc eP eC eF eO
    refine ⟨_, rfl, fun r dx hr0 hdx ndx => ⟨r, dx, f, rfl, upd_same, rfl, ?_⟩⟩
    rw [upd_upd]
    refine k r f c0 l c' dx doc pm ctv H3 _ s3 hc0 h2 c3 l3 (RowM.of (hTab.same s3) D hr0 hdx (fun p hp => ?_) (by simp))
    rcases List.mem_cons.mp hp with rfl | hp
    · exact ⟨_, c3⟩
    · exact absurd hp List.not_mem_nil
end
end K14

set_option maxHeartbeats 4000000
set_option Elab.async false
set_option linter.all false
set_option maxRecDepth 100000
namespace K14
open PySem L2
/-! ### the sort, over distinct things -/
section
open PySem.W PyProof.Rows
def krun {α : Type} (lt : Nat → Nat → Bool) : KasT α → α
  | .ret a => a
  | .ask i j k => krun lt (k (lt i j))
theorem krun_bind {α β : Type} {lt : Nat → Nat → Bool} {f : α → KasT β} : ∀ t : KasT α, krun lt (t.bind f) = krun lt (f (krun lt t))
  | .ret _ => rfl
  | .ask i j k => krun_bind (k (lt i j))
/-- an order on distinct things -/
structure LtT (n : Nat) (lt : Nat → Nat → Bool) : Prop where
  tot : ∀ i j, i < n → j < n → i ≠ j → lt i j = !lt j i
  tr : ∀ i j k, i < n → j < n → k < n → lt i j = true → lt j k = true → lt i k = true
abbrev gt' (p : Array Nat) (i : Nat) : Nat := p.getD i 0
/-- so many of them, each once -/
structure PT (n : Nat) (p : Array Nat) : Prop where
  pm : p.Perm (List.toArray (List.range n))
  sz : p.size = n
  lt : ∀ i, i < n → gt' p i < n
  inj : ∀ i j, i < n → j < n → gt' p i = gt' p j → i = j
def Asc (lt : Nat → Nat → Bool) (p : Array Nat) (a b : Nat) : Prop := ∀ i j, a ≤ i → i < j → j < b → lt (gt' p i) (gt' p j) = true
variable {n : Nat} {lt : Nat → Nat → Bool} {p : Array Nat}
theorem Asc.snoc {a m : Nat} (T : LtT n lt) (P : PT n p) (h : Asc lt p a m) (ha : a < m) (hm : m < n) (e : lt (gt' p m) (gt' p (m - 1)) = false) : Asc lt p a (m + 1) := by
  intro i j hi hij hj
  by_cases z : j = m
  · subst z
    have h1 : lt (gt' p (j - 1)) (gt' p j) = true := by
      rw [T.tot _ _ (P.lt _ (by omega)) (P.lt _ hm) (fun y => by have := P.inj _ _ (by omega) hm y; omega), e]; rfl
    by_cases y : i = j - 1
    · rw [y]; exact h1
    · exact T.tr _ _ _ (P.lt _ (by omega)) (P.lt _ (by omega)) (P.lt _ hm) (h i (j - 1) hi (by omega) (by omega)) h1
  · exact h i j hi hij (by omega)
theorem asc_run (T : LtT n lt) (P : PT n p) : ∀ (f m : Nat), 1 ≤ m → m + f ≤ n → Asc lt p 0 m → m ≤ krun lt (kas_asc p f m) ∧ krun lt (kas_asc p f m) ≤ m + f ∧ Asc lt p 0 (krun lt (kas_asc p f m))
  | 0, m, _, _, h => ⟨Nat.le_refl _, Nat.le_refl _, h⟩
  | f + 1, m, h1, hn, h => by
    show m ≤ krun lt (if lt (gt' p m) (gt' p (m - 1)) = true then .ret m else kas_asc p f (m + 1)) ∧ krun lt (if lt (gt' p m) (gt' p (m - 1)) = true then .ret m else kas_asc p f (m + 1)) ≤ m + (f + 1) ∧ Asc lt p 0 (krun lt (if lt (gt' p m) (gt' p (m - 1)) = true then .ret m else kas_asc p f (m + 1)))
    by_cases e : lt (gt' p m) (gt' p (m - 1)) = true
    · rw [if_pos e]
      exact ⟨Nat.le_refl _, Nat.le_add_right _ _, h⟩
    · rw [if_neg e]
      obtain ⟨a, b, c⟩ := asc_run T P f (m + 1) (by omega) (by omega) (h.snoc T P h1 (by omega) (by rw [← Bool.not_eq_true]; exact e))
      exact ⟨by omega, by omega, c⟩
def Dsc (lt : Nat → Nat → Bool) (p : Array Nat) (b : Nat) : Prop := ∀ i j, i < j → j < b → lt (gt' p j) (gt' p i) = true
theorem Dsc.snoc {m : Nat} (T : LtT n lt) (P : PT n p) (h : Dsc lt p m) (h1 : 1 ≤ m) (hm : m < n) (e : lt (gt' p m) (gt' p (m - 1)) = true) : Dsc lt p (m + 1) := by
  intro i j hij hj
  by_cases z : j = m
  · subst z
    by_cases y : i = j - 1
    · rw [y]; exact e
    · exact T.tr _ _ _ (P.lt _ hm) (P.lt _ (by omega)) (P.lt _ (by omega)) e (h i (j - 1) (by omega) (by omega))
  · exact h i j hij (by omega)
theorem desc_run (T : LtT n lt) (P : PT n p) : ∀ (f m : Nat), 1 ≤ m → m + f ≤ n → Dsc lt p m → ∃ k, krun lt (kas_desc f p m 0) = (p, k, 0) ∧ m ≤ k ∧ k ≤ m + f ∧ Dsc lt p k
  | 0, m, _, _, h => ⟨m, rfl, Nat.le_refl _, Nat.le_refl _, h⟩
  | f + 1, m, h1, hn, h => by
    by_cases e : lt (gt' p m) (gt' p (m - 1)) = true
    · obtain ⟨k, e1, a, b, c⟩ := desc_run T P f (m + 1) (by omega) (by omega) (h.snoc T P h1 (by omega) e)
      refine ⟨k, ?_, by omega, by omega, c⟩
      show krun lt (if lt (gt' p m) (gt' p (m - 1)) = true then (if 0 > 0 then kas_desc f (kas_rev p (m - (0 + 1)) m) (m + 1) 0 else kas_desc f p (m + 1) 0) else _) = _
      rw [if_pos e, if_neg (by decide)]
      exact e1
    · refine ⟨m, ?_, Nat.le_refl _, Nat.le_add_right _ _, h⟩
      have e2 : lt (gt' p (m - 1)) (gt' p m) = true := by
        rw [T.tot _ _ (P.lt _ (by omega)) (P.lt _ (by omega)) (fun y => by have := P.inj _ _ (by omega) (by omega) y; omega)]
        rw [Bool.not_eq_true] at e
        rw [e]; rfl
      show krun lt (if lt (gt' p m) (gt' p (m - 1)) = true then _ else KasT.ask (gt' p (m - 1)) (gt' p m) fun d => if d = true then .ret (p, m, 0) else kas_desc f p (m + 1) (0 + 1)) = _
      rw [if_neg e]
      show krun lt (if lt (gt' p (m - 1)) (gt' p m) = true then KasT.ret (p, m, 0) else kas_desc f p (m + 1) (0 + 1)) = _
      rw [if_pos e2]
      rfl
theorem gt_rev {m : Nat} (hm : m ≤ p.size) (k : Nat) : gt' (kas_rev p 0 m) k = if k < m then gt' p (m - 1 - k) else gt' p k := by
  show (kas_rev p 0 m).getD k 0 = if k < m then p.getD (m - 1 - k) 0 else p.getD k 0
  unfold kas_rev
  rw [Array.getD_eq_getD_getElem?, Array.getD_eq_getD_getElem?, Array.getD_eq_getD_getElem?, getElem?_mirror_all hm]
  by_cases z : k < m
  · rw [if_pos ⟨Nat.zero_le _, z⟩, if_pos z, Nat.zero_add]
  · rw [if_neg fun y => z y.2, if_neg z]
theorem PT.rev {m : Nat} (P : PT n p) (hm : m ≤ n) : PT n (kas_rev p 0 m) := by
  have hs := P.sz
  refine ⟨by unfold kas_rev; exact (mirror_perm _ _ _ _).trans P.pm, by unfold kas_rev; rw [mirror_size]; exact hs, fun i hi => ?_, fun i j hi hj e => ?_⟩
  · rw [gt_rev (by omega)]
    split
    · exact P.lt _ (by omega)
    · exact P.lt _ hi
  · rw [gt_rev (by omega), gt_rev (by omega)] at e
    by_cases z1 : i < m
    · rw [if_pos z1] at e
      by_cases z2 : j < m
      · rw [if_pos z2] at e
        have := P.inj _ _ (by omega) (by omega) e
        omega
      · rw [if_neg z2] at e
        have := P.inj _ _ (by omega) (by omega) e
        omega
    · rw [if_neg z1] at e
      by_cases z2 : j < m
      · rw [if_pos z2] at e
        have := P.inj _ _ (by omega) (by omega) e
        omega
      · rw [if_neg z2] at e
        exact P.inj _ _ (by omega) (by omega) e
theorem Dsc.rev {m : Nat} (P : PT n p) (hm : m ≤ n) (h : Dsc lt p m) : Asc lt (kas_rev p 0 m) 0 m := by
  have hs := P.sz
  intro i j _ hij hj
  rw [gt_rev (by omega), gt_rev (by omega), if_pos (by omega), if_pos hj]
  exact h _ _ (by omega) (by omega)
theorem asc_one (T : LtT n lt) (P : PT n p) {f m : Nat} (hf : 0 < f) (h1 : 1 ≤ m) (hn : m + f ≤ n) (h : Asc lt p 0 m) (e : krun lt (kas_asc p f m) = m) : lt (gt' p m) (gt' p (m - 1)) = true := by
  cases f with
  | zero => exact absurd hf (Nat.lt_irrefl _)
  | succ f =>
    by_cases z : lt (gt' p m) (gt' p (m - 1)) = true
    · exact z
    · exfalso
      have e : krun lt (if lt (gt' p m) (gt' p (m - 1)) = true then .ret m else kas_asc p f (m + 1)) = m := e
      rw [if_neg z] at e
      have := (asc_run T P f (m + 1) (by omega) (by omega) (h.snoc T P h1 (by omega) (by rw [← Bool.not_eq_true]; exact z))).1
      omega
/-- so many are in order -/
structure Cnt (n : Nat) (lt : Nat → Nat → Bool) (r : Nat × Array Nat) : Prop where
  P : PT n r.2
  l : 1 ≤ r.1
  u : r.1 ≤ n
  a : Asc lt r.2 0 r.1
theorem tail3_ok (T : LtT n lt) (P : PT n p) {m : Nat} (h1 : 1 ≤ m) (hm : m ≤ n) (h : Dsc lt p m) : Cnt n lt (krun lt (kas_tail3 m n p)) := by
  unfold kas_tail3
  rw [krun_bind]
  obtain ⟨a, b, c⟩ := asc_run T (P.rev hm) (n - m) m h1 (by omega) (h.rev P hm)
  exact ⟨P.rev hm, Nat.le_trans h1 a, Nat.le_trans b (by omega), c⟩
theorem count_ok (T : LtT n lt) (P : PT n p) (h2 : 2 ≤ n) : Cnt n lt (krun lt (kas_count n p)) := by
  have h1 : Asc lt p 0 1 := fun i j _ hij hj => by omega
  obtain ⟨a, b, c⟩ := asc_run T P (n - 1) 1 (Nat.le_refl _) (by omega) h1
  have one := asc_one T P (f := n - 1) (m := 1) (by omega) (Nat.le_refl _) (by omega) h1
  unfold kas_count
  rw [krun_bind]
  generalize krun lt (kas_asc p (n - 1) 1) = m at a b c one ⊢
  by_cases z : m = n
  · subst z
    rw [if_pos (by simp)]
    exact ⟨P, a, Nat.le_refl _, c⟩
  · rw [if_neg (by simpa using z)]
    by_cases y : m > 1
    · rw [if_pos y]
      show Cnt n lt (krun lt (if lt (gt' p 0) (gt' p (m - 1)) = true then .ret (m, p) else _))
      rw [if_pos (c 0 (m - 1) (Nat.le_refl _) (by omega) (by omega))]
      exact (⟨P, a, (by omega : m ≤ n), c⟩ : Cnt n lt (m, p))
    · rw [if_neg y]
      have hm : m = 1 := by omega
      subst hm
      have e := one rfl
      unfold kas_descPart
      rw [krun_bind]
      have d2 : Dsc lt p 2 := fun i j hij hj => by
        have : i = 0 := by omega
        have : j = 1 := by omega
        subst i j
        exact e
      obtain ⟨k, e1, l1, l2, d⟩ := desc_run T P (n - (1 + 1)) (1 + 1) (by omega) (by omega) d2
      rw [e1]
      dsimp only
      rw [if_neg (by decide)]
      exact tail3_ok T P (by omega) (by omega) d
theorem place_ok (T : LtT n lt) (P : PT n p) {k : Nat} (hk : k < n) (A : Asc lt p 0 k) : ∀ (f l r : Nat), l ≤ r → r ≤ k → r - l ≤ f → (∀ i, i < l → lt (gt' p i) (gt' p k) = true) → (∀ i, r ≤ i → i < k → lt (gt' p k) (gt' p i) = true) →
    l ≤ krun lt (kas_place p k f l r) ∧ krun lt (kas_place p k f l r) ≤ r ∧ (∀ i, i < krun lt (kas_place p k f l r) → lt (gt' p i) (gt' p k) = true) ∧ ∀ i, krun lt (kas_place p k f l r) ≤ i → i < k → lt (gt' p k) (gt' p i) = true
  | 0, l, r, h1, h2, h3, hl, hr => ⟨Nat.le_refl _, h1, hl, fun i a b => hr i (by have : l ≤ i := a; omega) b⟩
  | f + 1, l, r, h1, h2, h3, hl, hr => by
    unfold kas_place
    by_cases z : l ≥ r
    · rw [if_pos z]
      exact ⟨Nat.le_refl _, h1, hl, fun i a b => hr i (by have : l ≤ i := a; omega) b⟩
    · rw [if_neg z]
      have hmid : (l + r) / 2 < r ∧ l ≤ (l + r) / 2 := by omega
      by_cases e : lt (gt' p k) (gt' p ((l + r) / 2)) = true
      · obtain ⟨a, b, c, d⟩ := place_ok T P hk A f l ((l + r) / 2) hmid.2 (by omega) (by omega) hl (fun i hi hik => by
          by_cases y : i = (l + r) / 2
          · rw [y]; exact e
          · exact T.tr _ _ _ (P.lt _ hk) (P.lt _ (by omega)) (P.lt _ (by omega)) e (A _ _ (Nat.zero_le _) (by omega) hik))
        show l ≤ krun lt (if lt (gt' p k) (gt' p ((l + r) / 2)) = true then kas_place p k f l ((l + r) / 2) else kas_place p k f ((l + r) / 2 + 1) r) ∧ krun lt (if lt (gt' p k) (gt' p ((l + r) / 2)) = true then kas_place p k f l ((l + r) / 2) else kas_place p k f ((l + r) / 2 + 1) r) ≤ r ∧ _
        rw [if_pos e]
        exact ⟨a, by omega, fun i hi => c i (by
          have hi : i < krun lt (if lt (gt' p k) (gt' p ((l + r) / 2)) = true then kas_place p k f l ((l + r) / 2) else kas_place p k f ((l + r) / 2 + 1) r) := hi
          rwa [if_pos e] at hi), fun i hi hik => d i (by
          have hi : krun lt (if lt (gt' p k) (gt' p ((l + r) / 2)) = true then kas_place p k f l ((l + r) / 2) else kas_place p k f ((l + r) / 2 + 1) r) ≤ i := hi
          rwa [if_pos e] at hi) hik⟩
      · have e2 : lt (gt' p ((l + r) / 2)) (gt' p k) = true := by
          rw [T.tot _ _ (P.lt _ (by omega)) (P.lt _ hk) (fun y => by have := P.inj _ _ (by omega) hk y; omega)]
          rw [Bool.not_eq_true] at e
          rw [e]; rfl
        obtain ⟨a, b, c, d⟩ := place_ok T P hk A f ((l + r) / 2 + 1) r (by omega) h2 (by omega) (fun i hi => by
          by_cases y : i = (l + r) / 2
          · rw [y]; exact e2
          · exact T.tr _ _ _ (P.lt _ (by omega)) (P.lt _ (by omega)) (P.lt _ hk) (A _ _ (Nat.zero_le _) (by omega) (by omega)) e2) hr
        show l ≤ krun lt (if lt (gt' p k) (gt' p ((l + r) / 2)) = true then kas_place p k f l ((l + r) / 2) else kas_place p k f ((l + r) / 2 + 1) r) ∧ krun lt (if lt (gt' p k) (gt' p ((l + r) / 2)) = true then kas_place p k f l ((l + r) / 2) else kas_place p k f ((l + r) / 2 + 1) r) ≤ r ∧ _
        rw [if_neg e]
        exact ⟨by omega, b, fun i hi => c i (by
          have hi : i < krun lt (if lt (gt' p k) (gt' p ((l + r) / 2)) = true then kas_place p k f l ((l + r) / 2) else kas_place p k f ((l + r) / 2 + 1) r) := hi
          rwa [if_neg e] at hi), fun i hi hik => d i (by
          have hi : krun lt (if lt (gt' p k) (gt' p ((l + r) / 2)) = true then kas_place p k f l ((l + r) / 2) else kas_place p k f ((l + r) / 2 + 1) r) ≤ i := hi
          rwa [if_neg e] at hi) hik⟩
theorem gt_bub {k d : Nat} (hk : k < p.size) (hd : d ≤ k) (j : Nat) : gt' (bubble p k d) j = if j = k - d then gt' p k else if k - d < j ∧ j ≤ k then gt' p (j - 1) else gt' p j := by
  show (bubble p k d).getD j 0 = if j = k - d then p.getD k 0 else if k - d < j ∧ j ≤ k then p.getD (j - 1) 0 else p.getD j 0
  rw [Array.getD_eq_getD_getElem?, Array.getD_eq_getD_getElem?, Array.getD_eq_getD_getElem?, Array.getD_eq_getD_getElem?, getElem?_bubble hk d hd]
  repeat' split
  all_goals rfl
theorem PT.bub {k d : Nat} (P : PT n p) (hk : k < n) (hd : d ≤ k) : PT n (bubble p k d) := by
  have hs := P.sz
  refine ⟨(bubble_perm _ _ _).trans P.pm, by rw [bubble_size]; exact hs, fun i hi => ?_, fun i j hi hj e => ?_⟩
  · rw [gt_bub (by omega) hd]
    split
    · exact P.lt _ hk
    · split
      · exact P.lt _ (by omega)
      · exact P.lt _ hi
  · rw [gt_bub (by omega) hd, gt_bub (by omega) hd] at e
    repeat' split at e
    all_goals (have := P.inj _ _ (by omega) (by omega) e; omega)
theorem bin_ok (T : LtT n lt) : ∀ (f : Nat) (p : Array Nat) (k : Nat), PT n p → 1 ≤ k → k + f = n → Asc lt p 0 k → PT n (krun lt (kas_bin f p k)) ∧ Asc lt (krun lt (kas_bin f p k)) 0 n
  | 0, p, k, P, _, hn, A => by
    have : k = n := by omega
    subst this
    exact ⟨P, A⟩
  | f + 1, p, k, P, h1, hn, A => by
    unfold kas_bin
    rw [krun_bind]
    obtain ⟨a, b, c, d⟩ := place_ok T P (k := k) (by omega) A k 0 k (Nat.zero_le _) (Nat.le_refl _) (by omega) (fun i hi => absurd hi (Nat.not_lt_zero _)) (fun i hi hik => by omega)
    generalize krun lt (kas_place p k k 0 k) = x at a b c d
    have hs := P.sz
    refine bin_ok T f _ (k + 1) (P.bub (by omega) (by omega)) (by omega) (by omega) fun i j _ hij hj => ?_
    rw [gt_bub (by omega) (by omega), gt_bub (by omega) (by omega)]
    have ex : k - (k - x) = x := by omega
    rw [ex]
    by_cases z1 : i = x
    · rw [if_pos z1]
      by_cases z2 : j = x
      · omega
      · rw [if_neg z2, if_pos (by omega)]
        exact d _ (by omega) (by omega)
    · rw [if_neg z1]
      by_cases z2 : j = x
      · rw [if_pos z2, if_neg (by omega)]
        exact c _ (by omega)
      · rw [if_neg z2]
        by_cases z3 : x < i ∧ i ≤ k
        · rw [if_pos z3, if_pos (by omega)]
          exact A _ _ (Nat.zero_le _) (by omega) (by omega)
        · rw [if_neg z3]
          by_cases z4 : x < j ∧ j ≤ k
          · rw [if_pos z4]
            by_cases z5 : i = j - 1
            · omega
            · exact A _ _ (Nat.zero_le _) (by omega) (by omega)
          · rw [if_neg z4]
            exact A _ _ (Nat.zero_le _) hij (by omega)
theorem PT.range : PT n (List.toArray (List.range n)) := by
  have g : ∀ i, i < n → gt' (List.toArray (List.range n)) i = i := fun i hi => by
    show (List.toArray (List.range n)).getD i 0 = i
    rw [Array.getD_eq_getD_getElem?]
    simp [hi]
  exact ⟨Array.Perm.refl _, by simp, fun i hi => by rw [g i hi]; exact hi, fun i j hi hj e => by rw [g i hi, g j hj] at e; exact e⟩
/-- the sort tells all of them, in order -/
theorem sort_ok (T : LtT n lt) (h2 : 2 ≤ n) : PT n (krun lt (kas_sort n)) ∧ Asc lt (krun lt (kas_sort n)) 0 n := by
  unfold kas_sort
  rw [krun_bind]
  have C := count_ok T (PT.range (n := n)) h2
  generalize krun lt (kas_count n (List.toArray (List.range n))) = r at C
  have c1 := C.l
  have c2 := C.u
  by_cases z : r.1 < n
  · rw [if_pos z]
    have em : max r.1 1 = r.1 := by omega
    rw [em]
    exact bin_ok T _ _ _ C.P c1 (by omega) C.a
  · rw [if_neg z]
    have e : r.1 = n := by omega
    have := C.a
    rw [e] at this
    exact ⟨C.P, this⟩
/-- it asks of these alone -/
def KOk {α : Type} (n : Nat) (lt : Nat → Nat → Bool) : KasT α → Prop
  | .ret _ => True
  | .ask i j k => i < n ∧ j < n ∧ KOk n lt (k (lt i j))
theorem KOk.bind {α β : Type} {f : α → KasT β} : ∀ {t : KasT α}, KOk n lt t → KOk n lt (f (krun lt t)) → KOk n lt (t.bind f)
  | .ret _, _, h => h
  | .ask i j k, h, g => ⟨h.1, h.2.1, KOk.bind h.2.2 g⟩
theorem krun_ok {α : Type} {cmp : Nat → Nat → (Bool → Shared → Prop) → Shared → Prop} {s : Shared} (h : ∀ i j C, i < n → j < n → C (lt i j) s → cmp i j C s) {Q : α → Shared → Prop} : ∀ t : KasT α, KOk n lt t → Q (krun lt t) s → t.kasWp cmp Q s
  | .ret _, _, q => q
  | .ask i j k, o, q => h i j _ o.1 o.2.1 (krun_ok h (k (lt i j)) o.2.2 q)
theorem gt_lt (P : PT n p) (hn : 0 < n) (i : Nat) : gt' p i < n := by
  by_cases h : i < n
  · exact P.lt i h
  · have : gt' p i = 0 := by
      have hs := P.sz
      show p.getD i 0 = 0
      rw [Array.getD_eq_getD_getElem?, Array.getElem?_eq_none (by omega)]
      rfl
    omega
theorem asc_k (P : PT n p) (hn : 0 < n) : ∀ (f m : Nat), KOk n lt (kas_asc p f m)
  | 0, _ => trivial
  | f + 1, m => ⟨gt_lt P hn _, gt_lt P hn _, by
      show KOk n lt (if lt (gt' p m) (gt' p (m - 1)) = true then .ret m else kas_asc p f (m + 1))
      split
      · trivial
      · exact asc_k P hn f (m + 1)⟩
theorem desc_k (T : LtT n lt) (P : PT n p) (hn0 : 0 < n) : ∀ (f m : Nat), 1 ≤ m → m + f ≤ n → KOk n lt (kas_desc f p m 0)
  | 0, _, _, _ => trivial
  | f + 1, m, h1, hn => ⟨gt_lt P hn0 _, gt_lt P hn0 _, by
      show KOk n lt (if lt (gt' p m) (gt' p (m - 1)) = true then (if 0 > 0 then kas_desc f (kas_rev p (m - (0 + 1)) m) (m + 1) 0 else kas_desc f p (m + 1) 0) else KasT.ask (gt' p (m - 1)) (gt' p m) fun d => if d = true then .ret (p, m, 0) else kas_desc f p (m + 1) (0 + 1))
      by_cases e : lt (gt' p m) (gt' p (m - 1)) = true
      · rw [if_pos e, if_neg (by decide)]
        exact desc_k T P hn0 f (m + 1) (by omega) (by omega)
      · rw [if_neg e]
        have e2 : lt (gt' p (m - 1)) (gt' p m) = true := by
          rw [T.tot _ _ (P.lt _ (by omega)) (P.lt _ (by omega)) (fun y => by have := P.inj _ _ (by omega) (by omega) y; omega)]
          rw [Bool.not_eq_true] at e
          rw [e]; rfl
        refine ⟨gt_lt P hn0 _, gt_lt P hn0 _, ?_⟩
        show KOk n lt (if lt (gt' p (m - 1)) (gt' p m) = true then KasT.ret (p, m, 0) else kas_desc f p (m + 1) (0 + 1))
        rw [if_pos e2]
        trivial⟩
theorem tail3_k (P : PT n p) (hn : 0 < n) {m : Nat} (hm : m ≤ n) : KOk n lt (kas_tail3 m n p) := KOk.bind (asc_k (P.rev hm) hn _ _) trivial
theorem count_k (T : LtT n lt) (P : PT n p) (h2 : 2 ≤ n) : KOk n lt (kas_count n p) := by
  have h1 : Asc lt p 0 1 := fun i j _ hij hj => by omega
  obtain ⟨a, b, c⟩ := asc_run T P (n - 1) 1 (Nat.le_refl _) (by omega) h1
  have one := asc_one T P (f := n - 1) (m := 1) (by omega) (Nat.le_refl _) (by omega) h1
  refine KOk.bind (asc_k P (by omega) _ _) ?_
  generalize krun lt (kas_asc p (n - 1) 1) = m at a b c one ⊢
  by_cases z : m = n
  · rw [if_pos (by simpa using z)]
    trivial
  · rw [if_neg (by simpa using z)]
    by_cases y : m > 1
    · rw [if_pos y]
      refine ⟨gt_lt P (by omega) _, gt_lt P (by omega) _, ?_⟩
      show KOk n lt (if lt (gt' p 0) (gt' p (m - 1)) = true then .ret (m, p) else _)
      rw [if_pos (c 0 (m - 1) (Nat.le_refl _) (by omega) (by omega))]
      trivial
    · rw [if_neg y]
      have hm : m = 1 := by omega
      subst hm
      have e := one rfl
      have d2 : Dsc lt p 2 := fun i j hij hj => by
        have : i = 0 := by omega
        have : j = 1 := by omega
        subst i j
        exact e
      refine KOk.bind (desc_k T P (by omega) _ _ (by omega) (by omega)) ?_
      obtain ⟨k, e1, l1, l2, d⟩ := desc_run T P (n - (1 + 1)) (1 + 1) (by omega) (by omega) d2
      rw [e1]
      dsimp only
      rw [if_neg (by decide)]
      exact tail3_k P (by omega) (by omega)
theorem place_k (P : PT n p) (hn : 0 < n) (k : Nat) : ∀ (f l r : Nat), KOk n lt (kas_place p k f l r)
  | 0, _, _ => trivial
  | f + 1, l, r => by
    unfold kas_place
    split
    · trivial
    · refine ⟨gt_lt P hn _, gt_lt P hn _, ?_⟩
      show KOk n lt (if lt (gt' p k) (gt' p ((l + r) / 2)) = true then kas_place p k f l ((l + r) / 2) else kas_place p k f ((l + r) / 2 + 1) r)
      split
      · exact place_k P hn k f _ _
      · exact place_k P hn k f _ _
theorem bin_k : ∀ (f : Nat) (p : Array Nat) (k : Nat), PT n p → k + f = n → KOk n lt (kas_bin f p k)
  | 0, _, _, _, _ => trivial
  | f + 1, p, k, P, hn => KOk.bind (place_k P (by omega) k k 0 k) (bin_k f _ (k + 1) (P.bub (by omega) (Nat.sub_le _ _)) (by omega))
theorem sort_k (T : LtT n lt) (h2 : 2 ≤ n) : KOk n lt (kas_sort n) := by
  have C := count_ok T (PT.range (n := n)) h2
  refine KOk.bind (count_k T PT.range h2) ?_
  generalize krun lt (kas_count n (List.toArray (List.range n))) = r at C ⊢
  have c1 := C.l
  have c2 := C.u
  by_cases z : r.1 < n
  · rw [if_pos z]
    have em : max r.1 1 = r.1 := by omega
    rw [em]
    exact bin_k _ _ _ C.P (by omega)
  · rw [if_neg z]
    trivial
/-! ### .. of pairs of numbers -/
def ltP (ps : List (Int × Int)) (i j : Nat) : Bool := let a := ps.getD i (0, 0); let b := ps.getD j (0, 0); if a.1 = b.1 then decide (a.2 < b.2) else decide (a.1 < b.1)
theorem ltP_ok {ps : List (Int × Int)} (nd : (ps.map (·.2)).Nodup) : LtT ps.length (ltP ps) := by
  have ne : ∀ i j, i < ps.length → j < ps.length → i ≠ j → (ps.getD i (0, 0)).2 ≠ (ps.getD j (0, 0)).2 := fun i j hi hj hij e => by
    have h1 : (ps.map (·.2))[i]? = some (ps.getD i (0, 0)).2 := by rw [List.getElem?_map, List.getD_eq_getElem?_getD, List.getElem?_eq_getElem hi]; rfl
    have h2 : (ps.map (·.2))[j]? = some (ps.getD j (0, 0)).2 := by rw [List.getElem?_map, List.getD_eq_getElem?_getD, List.getElem?_eq_getElem hj]; rfl
    rw [e] at h1
    exact hij ((List.getElem?_inj (by rw [List.length_map]; exact hi) nd).mp (h1.trans h2.symm))
  refine ⟨fun i j hi hj hij => ?_, fun i j k hi hj hk h1 h2 => ?_⟩
  · have := ne i j hi hj hij
    unfold ltP
    dsimp only
    by_cases z : (ps.getD i (0, 0)).1 = (ps.getD j (0, 0)).1
    · rw [if_pos z, if_pos z.symm]
      by_cases y : (ps.getD i (0, 0)).2 < (ps.getD j (0, 0)).2
      · rw [decide_eq_true y, decide_eq_false (by omega)]; rfl
      · rw [decide_eq_false y, decide_eq_true (by omega)]; rfl
    · rw [if_neg z, if_neg fun y => z y.symm]
      by_cases y : (ps.getD i (0, 0)).1 < (ps.getD j (0, 0)).1
      · rw [decide_eq_true y, decide_eq_false (by omega)]; rfl
      · rw [decide_eq_false y, decide_eq_true (by omega)]; rfl
  · unfold ltP at h1 h2 ⊢
    dsimp only at h1 h2 ⊢
    split at h1 <;> split at h2 <;> split <;> simp only [decide_eq_true_eq] at * <;> omega
end
/-! ### sorted(..) of pairs of numbers -/
section
open PySem.W PyProof.Rows PySem.Calls
def TupP (h : Heap) (v : Value) (p : Int × Int) : Prop := ∃ (a : Addr) (o : Obj) (t u : Tok) (n : Nat), v = .ref a ∧ h.get? a = some o ∧ o.cls = .type "tuple" ∧ o.data = .seq #[.int p.1 t, .int p.2 u] n
structure TupsP (h : Heap) (vs : List Value) (ps : List (Int × Int)) : Prop where
  l : vs.length = ps.length
  t : ∀ i, i < ps.length → TupP h (vs.getD i .none) (ps.getD i (0, 0))
theorem TupsP.keep {h h' : Heap} {vs : List Value} {ps : List (Int × Int)} (k : ∀ b o, h.get? b = some o → o.cls = .type "tuple" → h'.get? b = some o) (T : TupsP h vs ps) : TupsP h' vs ps := ⟨T.l, fun i hi => by
  obtain ⟨a, o, t, u, n, e1, e2, e3, e4⟩ := T.t i hi
  exact ⟨a, o, t, u, n, e1, k _ _ e2 e3, e3, e4⟩⟩
variable {prog : Program} {w : World} {A : Around} {E : Value → Shared → Prop} {s : Shared} {vs : List Value} {ps : List (Int × Int)}
theorem cmp_p (T : TupsP s.heap vs ps) (i j : Nat) (C : Bool → Shared → Prop) (hi : i < ps.length) (hj : j < ps.length) (q : C (ltP ps i j) s) : kas_ask prog w A (tuples' true) vs i j C s := by
  obtain ⟨a, o, t, u, n, e1, e2, e3, e4⟩ := T.t i hi
  obtain ⟨b, o', t', u', n', f1, f2, f3, f4⟩ := T.t j hj
  unfold kas_ask
  rw [e1, f1]
  refine kat_lt e2 e4 f2 f4 (kat_cons (wpAny_eqBool_int ?_))
  unfold ltP at q
  dsimp only at q
  by_cases z : (ps.getD i (0, 0)).1 = (ps.getD j (0, 0)).1
  · rw [if_pos z] at q
    have ez : ((ps.getD i (0, 0)).1 == (ps.getD j (0, 0)).1) = true := by simpa using z
    rw [ez]
    refine kat_yes (kat_cons (wpAny_eqBool_int ?_))
    by_cases y : (ps.getD i (0, 0)).2 = (ps.getD j (0, 0)).2
    · have ey : ((ps.getD i (0, 0)).2 == (ps.getD j (0, 0)).2) = true := by simpa using y
      rw [ey]
      refine kat_yes (kat_nil ?_)
      rw [decide_eq_false (by omega)] at q
      exact q
    · have ey : ((ps.getD i (0, 0)).2 == (ps.getD j (0, 0)).2) = false := by simpa using y
      rw [ey]
      exact kat_no (kat_one _ _ (lt_int q))
  · rw [if_neg z] at q
    have ez : ((ps.getD i (0, 0)).1 == (ps.getD j (0, 0)).1) = false := by simpa using z
    rw [ez]
    exact kat_no (oneLt_int q)
theorem getD_range (vs : List Value) : (List.range vs.length).map (fun i => vs.getD i .none) = vs := by
  apply List.ext_getElem
  · simp
  · intro i h1 h2
    simp [h2]
abbrev outP (vs : List Value) (q : Array Nat) : Array Value := List.toArray (q.toList.map fun i => vs.getD i .none)
theorem list_sort_p {a : Addr} {n : Nat} {P : PySem.Fin → Shared → Prop} (ho : s.heap.get? a = some (seqObj "list" vs.toArray n)) (T : TupsP s.heap vs ps) (nd : (ps.map (·.2)).Nodup) (h64 : vs.length < 64)
    (h : ∀ q : Array Nat, PT ps.length q → Asc (ltP ps) q 0 ps.length → P (.done (.ret .none)) { s with heap := sortedHeap s.heap a vs (outP vs q) }) :
    wpAny (model prog w) A (Builtin.«list.sort» ⟨[.ref a], []⟩) P E s := by
  rw [list_sort_plain]
  have ha : a < s.heap.objs.size := Heap.lt_size ho
  refine wpAny_bind (listItems_at ho rfl ?_)
  refine wpAny_bind (listUpdate_at ho rfl ?_ (by rw [List.size_toArray, sizeLine_eq]; omega) (Nat.zero_le _))
  obtain ⟨e1, ho1⟩ : ∃ e1, (s.heap.update a (Obj.mapSeq fun _ => #[])).get? a = some (seqObj "list" #[] e1) := ⟨_, get?_update_seq ho (fun _ => #[])⟩
  refine wpAny_bind (seqEpoch_at ho1 rfl ?_)
  refine wpAny_bind (wpAny_newTuple ?_ (by show vs.length ≤ _; rw [sizeLine_eq]; omega))
  refine wpAny_bind (wpAny_newList ?_ (Nat.zero_le _))
  refine wpAny_holding ?_
  have ho6 : (((s.heap.update a (Obj.mapSeq fun _ => #[])).push (seqObj "tuple" vs.toArray 0)).push (seqObj "list" #[] 0)).get? a = some (seqObj "list" #[] e1) := by
    rw [Heap.get?_push_ne _ _ _ (by rw [size_push', Heap.size_update]; exact Nat.ne_of_lt (Nat.lt_succ_of_lt ha)), Heap.get?_push_ne _ _ _ (by rw [Heap.size_update]; exact Nat.ne_of_lt ha)]
    exact ho1
  have T6 : TupsP (((s.heap.update a (Obj.mapSeq fun _ => #[])).push (seqObj "tuple" vs.toArray 0)).push (seqObj "list" #[] 0)) vs ps := T.keep fun b o e c => by
    have hb := Heap.lt_size e
    have hne : b ≠ a := fun z => by
      rw [z, ho] at e
      have e := Option.some.inj e
      rw [← e] at c
      have c : Value.type "list" = Value.type "tuple" := c
      injection c with c
      exact absurd c (by decide)
    rw [Heap.get?_push_ne _ _ _ (by rw [size_push', Heap.size_update]; exact Nat.ne_of_lt (Nat.lt_succ_of_lt hb)), Heap.get?_push_ne _ _ _ (by rw [Heap.size_update]; exact Nat.ne_of_lt hb), Heap.get?_update_ne _ _ _ _ hne]
    exact e
  show wpAny (model prog w) A _ P E { s with heap := ((s.heap.update a (Obj.mapSeq fun _ => #[])).push (seqObj "tuple" vs.toArray 0)).push (seqObj "list" #[] 0) }
  dsimp only
  have hpl := T.l
  by_cases h2 : vs.toArray.size < 2
  · rw [if_pos h2, if_pos h2]
    have h2' : vs.length < 2 := by rwa [List.size_toArray] at h2
    refine wpAny_bind (wpAny_pure ?_)
    rw [StateT.run_pure]
    refine wpAny_bind (wpAny_pure ?_)
    dsimp only
    refine wpAny_bind (seqEpoch_at ho6 rfl ?_)
    have hz : (arrOf (SortSt.mk' general' (vs.toArray.zip vs.toArray) #[] 7 none)).map (·.2) = vs.toArray := by
      show (vs.toArray.zip vs.toArray).map (·.2) = vs.toArray
      apply Array.toList_inj.mp
      have zz : ∀ l : List Value, (l.zip l).map (fun x => x.2) = l := fun l => by
        induction l with
        | nil => rfl
        | cons x l ih => show x :: ((l.zip l).map fun x => x.2) = x :: l; rw [ih]
      simpa using zz vs
    refine wpAny_bind (listUpdate_at ho6 rfl ?_ (Nat.zero_le _) (by show ((arrOf (SortSt.mk' general' (vs.toArray.zip vs.toArray) #[] 7 none)).map (·.2)).size ≤ _; rw [hz, List.size_toArray, sizeLine_eq]; omega))
    simp only [bne_self_eq_false, Bool.false_eq_true, if_false]
    refine wpAny_pure ?_
    have hh := h (List.toArray (List.range ps.length)) PT.range (fun i j _ hij hj => by omega)
    have eo : outP vs (List.toArray (List.range ps.length)) = vs.toArray := by
      show List.toArray ((List.range ps.length).map fun i => vs.getD i .none) = _
      rw [← hpl, getD_range]
    rw [eo] at hh
    show P (.done (.ret .none)) { s with heap := ((((s.heap.update a (Obj.mapSeq fun _ => #[])).push (seqObj "tuple" vs.toArray 0)).push (seqObj "list" #[] 0)).update a (Obj.mapSeq fun _ => (arrOf (SortSt.mk' general' (vs.toArray.zip vs.toArray) #[] 7 none)).map (·.2))) }
    rw [hz]
    exact hh
  · rw [if_neg h2, if_neg h2]
    have h2' : 2 ≤ vs.length := by rw [List.size_toArray] at h2; omega
    have LT := ltP_ok nd
    have tups : ∀ (ws : List Value) (qs : List (Int × Int)), ws.length = qs.length → (∀ i, i < qs.length → TupP (((s.heap.update a (Obj.mapSeq fun _ => #[])).push (seqObj "tuple" vs.toArray 0)).push (seqObj "list" #[] 0)) (ws.getD i .none) (qs.getD i (0, 0))) → ∃ fs, fs.length = ws.length ∧ (∀ f ∈ fs, ∃ i t, f = Value.int i t) ∧ KatTups (((s.heap.update a (Obj.mapSeq fun _ => #[])).push (seqObj "tuple" vs.toArray 0)).push (seqObj "list" #[] 0)) ws fs := by
      intro ws
      induction ws with
      | nil => exact fun qs _ _ => ⟨[], rfl, fun f hf => absurd hf List.not_mem_nil, KatTups.nil⟩
      | cons v ws ih =>
        intro qs hl ht
        cases qs with
        | nil => cases hl
        | cons q qs =>
          obtain ⟨fs, g1, g2, g3⟩ := ih qs (Nat.succ.inj hl) fun i hi => ht (i + 1) (Nat.succ_lt_succ hi)
          obtain ⟨b, o, t, u, m, x1, x2, x3, x4⟩ := ht 0 (Nat.succ_pos _)
          have x1 : v = .ref b := x1
          subst x1
          refine ⟨.int q.1 t :: fs, congrArg (· + 1) g1, fun f hf => ?_, KatTups.cons x2 x3 x4 rfl g3⟩
          rcases List.mem_cons.mp hf with rfl | hf
          · exact ⟨_, _, rfl⟩
          · exact g2 f hf
    obtain ⟨fs, g1, g2, g3⟩ := tups vs ps hpl T6.t
    refine wpAny_bind (kat_kind (T := .type "int") g3 (by omega) (fun f hf => by obtain ⟨i, t, rfl⟩ := g2 f hf; exact Looks.of_pure rfl) rfl ?_)
    have hk : (kas_sort vs.length).kasWp (kas_ask prog w A (tuples' (Value.type "int" != Value.type "tuple")) vs) (fun q s' => s' = { s with heap := ((s.heap.update a (Obj.mapSeq fun _ => #[])).push (seqObj "tuple" vs.toArray 0)).push (seqObj "list" #[] 0) } ∧ PT ps.length q ∧ Asc (ltP ps) q 0 ps.length) { s with heap := ((s.heap.update a (Obj.mapSeq fun _ => #[])).push (seqObj "tuple" vs.toArray 0)).push (seqObj "list" #[] 0) } := by
      rw [hpl]
      refine krun_ok (n := ps.length) (lt := ltP ps) (fun i j C hi hj q => ?_) _ (sort_k LT (by omega)) ⟨rfl, sort_ok LT (by omega)⟩
      exact cmp_p (s := { s with heap := _ }) T6 i j C hi hj q
    refine wpAny_bind (wpAny_mono (kat_run (Q := fun st' s' => s' = { s with heap := ((s.heap.update a (Obj.mapSeq fun _ => #[])).push (seqObj "tuple" vs.toArray 0)).push (seqObj "list" #[] 0) } ∧ failedOf st' = none ∧ ∃ q, PT ps.length q ∧ Asc (ltP ps) q 0 ps.length ∧ arrOf st' = q.map (kas_item (vs.toArray.zip vs.toArray))) rfl h2' h64 (fun q st' s' a1 a2 a3 a4 => ⟨a4.1, a3, q, a4.2.1, a4.2.2, a2⟩) hk) ?_ fun _ _ e => e)
    rintro ⟨⟨⟩, st'⟩ s' ⟨rfl, hf, q, hq, hA, har⟩
    dsimp only
    have hout := kat_snds rfl har
    refine wpAny_bind (seqEpoch_at ho6 rfl ?_)
    refine wpAny_bind (listUpdate_at ho6 rfl ?_ (Nat.zero_le _) (by
      show ((arrOf st').map (·.2)).size ≤ _
      rw [hout, List.size_toArray, List.length_map, Array.length_toList, hq.sz, sizeLine_eq]; omega))
    rw [hf]
    simp only [bne_self_eq_false, Bool.false_eq_true, if_false]
    refine wpAny_pure ?_
    have hh := h q hq hA
    show P (.done (.ret .none)) { s with heap := ((((s.heap.update a (Obj.mapSeq fun _ => #[])).push (seqObj "tuple" vs.toArray 0)).push (seqObj "list" #[] 0)).update a (Obj.mapSeq fun _ => (arrOf st').map (·.2))) }
    rw [hout]
    exact hh
theorem sorted_p {l : Addr} {Q : Value → Shared → Prop} (hl : s.heap.IsList l vs.toArray) (T : TupsP s.heap vs ps) (nd : (ps.map (·.2)).Nodup) (h64 : vs.length < 64)
    (h : ∀ q : Array Nat, PT ps.length q → Asc (ltP ps) q 0 ps.length → Q (.ref (s.heap.objs.size + 1)) { s with heap := sortedAll s.heap vs (outP vs q) }) :
    wpAny (model prog w) A (call (.builtin "sorted") [.ref l]) Q E s := by
  refine Calls.call_function_entry kind_sorted plain_sorted entry_sorted (args_sorted1 _) ?_
  unfold Builtin.«sorted»
  refine wpAny_bind (m := checkCount "sorted" 1 1 _) (wpAny_pure ?_)
  refine wpAny_bind (collect_list hl ?_ (by rw [sizeLine_eq]; omega))
  refine wpAny_bind (wpAny_newList ?_ (by rw [sizeLine_eq]; omega))
  have hsz : ((s.heap.push (seqObj "list" #[] 0)).update s.heap.objs.size (Obj.mapSeq (· ++ vs.toArray))).objs.size = s.heap.objs.size + 1 := by
    rw [Heap.size_update, size_push']
  have hoL : (((s.heap.push (seqObj "list" #[] 0)).update s.heap.objs.size (Obj.mapSeq (· ++ vs.toArray))).push (seqObj "list" vs.toArray 0)).get? (s.heap.objs.size + 1) = some (seqObj "list" vs.toArray 0) := by
    rw [← hsz]; exact Heap.get?_push_size _ rfl
  have T2 : TupsP (((s.heap.push (seqObj "list" #[] 0)).update s.heap.objs.size (Obj.mapSeq (· ++ vs.toArray))).push (seqObj "list" vs.toArray 0)) vs ps := T.keep fun b o q _ => by
    have hlt : b < s.heap.objs.size := Heap.lt_size q
    rw [Heap.get?_push_ne _ _ _ (by rw [hsz]; exact Nat.ne_of_lt (Nat.lt_succ_of_lt hlt)), Heap.get?_update_ne _ _ _ _ (Nat.ne_of_lt hlt), Heap.get?_push_ne _ _ _ (Nat.ne_of_lt hlt)]
    exact q
  show wpAny _ _ _ _ _ { s with heap := ((s.heap.push (seqObj "list" #[] 0)).update s.heap.objs.size (Obj.mapSeq (· ++ vs.toArray))).push (seqObj "list" vs.toArray 0) }
  rw [hsz]
  refine wpAny_bind (wpAny_holding (wpAny_call_entry slot_list_sort ⟨_, hoL, rfl⟩ entry_list_sort (list_sort_p (s := { s with heap := _ }) hoL T2 nd h64 fun q a1 a2 => ⟨_, rfl, ?_⟩) (args_list_sort _)))
  exact wpAny_pure ⟨_, rfl, h q a1 a2⟩
end
/-! ### .. as a rule -/
section
open PySem.W PyProof.Rows
def pairLt (a b : Int × Int) : Prop := (if a.1 = b.1 then decide (a.2 < b.2) else decide (a.1 < b.1)) = true
/-- a list of pairs -/
inductive PrA (H : Hp) : List Addr → List (Int × Int) → Prop
  | nil : PrA H [] []
  | cons {a : Addr} {p : Int × Int} {as : List Addr} {ps : List (Int × Int)} : H a = some (.tup [.int p.1, .int p.2]) → PrA H as ps → PrA H (a :: as) (p :: ps)
theorem PrA.len {H : Hp} {as : List Addr} {ps : List (Int × Int)} (h : PrA H as ps) : as.length = ps.length := by
  induction h with
  | nil => rfl
  | cons _ _ ih => exact congrArg (· + 1) ih
theorem PrA.at {H : Hp} {as : List Addr} {ps : List (Int × Int)} (h : PrA H as ps) : ∀ (i : Nat), i < ps.length → H (as.getD i 0) = some (.tup [.int (ps.getD i (0, 0)).1, .int (ps.getD i (0, 0)).2]) := by
  induction h with
  | nil => intro i hi; exact absurd hi (Nat.not_lt_zero _)
  | cons e _ ih =>
    intro i hi
    cases i with
    | zero => exact e
    | succ i => exact ih i (Nat.lt_of_succ_lt_succ hi)
def rSortedP (K : PySem.W.Frag) : List V → Hp → VK → Prop := fun vs H Q => ∃ (a : Addr) (ts : List Addr) (ps : List (Int × Int)), vs = [V.ref a] ∧ SqL K H a (ts.map V.ref) ∧ PrA H ts ps ∧ (ps.map (·.2)).Nodup ∧ ts.length < 64 ∧
  ∀ (q : List Nat) (p : Addr), q.Perm (List.range ps.length) → (q.map fun i => ps.getD i (0, 0)).Pairwise pairLt → H p = none → Q (.ref p) (upd H p (.lst ((q.map fun i => ts.getD i 0).map V.ref)))
theorem vals_refs {its : List Value} : ∀ {ts : List Addr}, Vals (ts.map V.ref) its → its = ts.map Value.ref
  | [], h => by cases h; rfl
  | t :: ts, h => by
    cases h with
    | cons r h =>
      have r : _ = Value.ref t := r
      rw [r, vals_refs h]
      rfl
theorem vals_of_refs : ∀ ts : List Addr, Vals (ts.map V.ref) (ts.map Value.ref)
  | [] => .nil
  | t :: ts => .cons rfl (vals_of_refs ts)
theorem cr_sortedP {X : Cx} : CallR X (.builtin "sorted") (rSortedP X.K) := by
  intro pins s σ H vs us Q I r h
  obtain ⟨a, ts, ps, rfl, hs, hp, nd, h64, q⟩ := h
  obtain ⟨its, rv, hl, _⟩ := I.list hs
  rw [Vals.ref1 r]
  obtain rfl := vals_refs rv
  have hlen := hp.len
  have T : TupsP s.heap (ts.map Value.ref) ps := ⟨by rw [List.length_map]; exact hlen, fun i hi => by
    have e := hp.at i hi
    have hi2 : i < ts.length := by omega
    obtain ⟨its2, r2, ⟨o, e1, e2, n, e3⟩, _⟩ := I.tuple (SqT.of e)
    have ev : (ts.map Value.ref).getD i .none = .ref (ts.getD i 0) := by
      rw [List.getD_eq_getElem?_getD, List.getElem?_map, List.getD_eq_getElem?_getD, List.getElem?_eq_getElem hi2]
      rfl
    cases r2 with
    | cons x1 r2 =>
      cases r2 with
      | cons x2 r2 =>
        cases r2
        obtain ⟨t, rfl⟩ := x1
        obtain ⟨u, rfl⟩ := x2
        exact ⟨_, o, t, u, n, ev, e1, e2, e3⟩⟩
  refine sorted_p hl.isList T nd (by rw [List.length_map]; exact h64) fun qa P A => ?_
  obtain ⟨ep, he'⟩ := sortedAll_at s.heap (ts.map Value.ref) (outP (ts.map Value.ref) qa)
  have hq : qa.toList.Perm (List.range ps.length) := by
    have := Array.perm_iff_toList_perm.mp P.pm
    exact this
  have hmem : ∀ i ∈ qa.toList, i < ps.length := fun i hi => List.mem_range.mp (hq.mem_iff.mp hi)
  have eo : (outP (ts.map Value.ref) qa).toList = (qa.toList.map fun i => ts.getD i 0).map Value.ref := by
    show (List.toArray (qa.toList.map fun i => (ts.map Value.ref).getD i .none)).toList = _
    rw [List.map_map]
    show qa.toList.map _ = _
    refine List.map_congr_left fun i hi => ?_
    have hi2 : i < ts.length := by have := hmem i hi; omega
    show (ts.map Value.ref).getD i .none = .ref (ts.getD i 0)
    rw [List.getD_eq_getElem?_getD, List.getElem?_map, List.getD_eq_getElem?_getD, List.getElem?_eq_getElem hi2]
    rfl
  have hll : (((qa.toList.map fun i => ts.getD i 0).map V.ref)).length ≤ sizeLine := by
    rw [List.length_map, List.length_map, hq.length_eq, List.length_range]
    exact small64 (by omega)
  refine ⟨.ref _, upd H (s.heap.objs.size + 1) (.lst ((qa.toList.map fun i => ts.getD i 0).map V.ref)), I.laid (t' := s.toks) (fun _ _ => sortedAll_old) (Nat.le_succ _) ⟨hll, (outP (ts.map Value.ref) qa).toList, ep, by rw [eo]; exact vals_of_refs _, he'⟩, rfl, q _ _ hq ?_ (I.hok.fresh (Nat.le_succ _))⟩
  rw [List.pairwise_iff_getElem]
  intro i j hi hj hij
  rw [List.length_map, Array.length_toList] at hi hj
  rw [P.sz] at hi hj
  have := A i j (Nat.zero_le _) hij hj
  have gq : ∀ k (hk : k < ps.length) (h2 : k < (qa.toList.map fun i => ps.getD i (0, 0)).length), (qa.toList.map fun i => ps.getD i (0, 0))[k] = ps.getD (gt' qa k) (0, 0) := fun k hk h2 => by
    rw [List.getElem_map]
    have hk2 : k < qa.size := by rw [P.sz]; exact hk
    show ps.getD (qa.toList[k]'(by simpa using hk2)) (0, 0) = ps.getD (qa.getD k 0) (0, 0)
    rw [Array.getD_eq_getD_getElem?, Array.getElem?_eq_getElem hk2]
    rfl
  rw [gq i hi, gq j hj]
  exact this
end

end K14

set_option maxHeartbeats 4000000
set_option Elab.async false
set_option linter.all false
set_option maxRecDepth 100000
namespace K14
open PySem L2
/-! ### sorted(.., key=..) of things whose keys are new pairs -/
section
open PySem.W PyProof.Rows PySem.Calls
variable {X : Cx} {pins : List (Addr × Obj)} {σ : L2.St} {H : Hp} {s : Shared}
theorem inv_adopt {D : Addr} {o : HO} {h' : Heap} {t' : Nat} (I : L2.Inv X pins σ H s) (hn : H D = none) (h0 : X.s_0.heap.get? D = none) (hL : D ≠ X.env.locals) (hC : ∀ x c, X.env.cells.lookup x = some c → c ≠ D) (hp : ∀ p ∈ X.pn ++ pins, p.1 ≠ D)
    (k : ∀ b u, b ≠ D → s.heap.get? b = some u → h'.get? b = some u) (new : ObjOk X.prog X.w (upd H D o) h' D o) : L2.Inv X pins σ (upd H D o) { s with heap := h', toks := t' } := by
  have hok : HOk X.prog X.w (upd H D o) h' := fun b u q => by
    by_cases z : b = D
    · subst z
      rw [upd_same] at q; cases q; exact new
    · rw [upd_ne z] at q
      refine (I.hok b u q).stay (fun c v hc e => k c v (fun y => ?_) e) (fun c q => ?_) fun c xs q => ?_
      · rcases hc with hc | hc
        · exact z (hc.symm.trans y)
        · rw [y, hn] at hc; cases hc
      · rw [upd_ne (ne_of_none q hn)]; exact q
      · rw [upd_ne (ne_of_none q hn)]; exact q
  have nD : ∀ {b : Addr}, b ∉ [D] → b ≠ D := fun {b} z y => z (by rw [y]; exact .head _)
  refine I.step (g' := s.gens) (d' := s.drawn) (ch := [D]) (fun b hb => ?_) (fun b o _ _ hc e _ => k b o (nD hc) e) (fun b o _ _ hc e _ => ⟨o.slots, k b o (nD hc) e⟩) (fun b u hc e n => by rw [upd_ne (nD hc)]; exact n) (fun b u hc e => ⟨u, k b u (nD hc) e⟩)
    (fun b xs q => by rw [upd_ne (ne_of_none q hn)]; exact q) (fun b u xs q => by rw [upd_ne (ne_of_none q hn)]; exact q) (fun b v q => ⟨v, by rw [upd_ne (ne_of_none q hn)]; exact q⟩) (fun b ps q => ⟨#[], by rw [upd_ne (ne_of_none q hn), q]; simp⟩) (fun m hm => ?_) hok I.bare
  · rw [List.mem_singleton.mp hb]
    exact ⟨.inr h0, hL, hC, hp⟩
  · obtain ⟨o', es', ep', ho', r'⟩ := hm
    exact ⟨o', es', ep', k _ _ hL.symm ho', r'⟩
theorem run_does2 {k : Nat} {Q : VK} {us : List Value} {vs : List V} {f : Addr} (hr : Room k X.A.in1.in1) (I : L2.Inv X pins σ H s) (r : Vals vs us) (h : DoesF X.prog X.w X.K X.mg X.base k f vs H Q E0) :
    wpAny (model X.prog X.w) X.A.in1.in1 (call (.ref f) us) (EP X pins σ Q) (fun _ _ => False) s := by
  refine wpAny_call (codeAny_mono (h.2 X.A.in1.in1 X.stack s us hr I.env0.in1.in1 r) fun r s' hq => ?_)
  cases r with
  | error e =>
    obtain ⟨ea, T, cls, d, a0, H', h1, h2, h3, h4, h5, h6, h7, h8, h9, h10, h11⟩ := hq
    exact h11.elim
  | ok fl =>
    cases fl with
    | ret u => exact I.after hq
    | next => exact False.elim hq
    | brk => exact False.elim hq
    | cont => exact False.elim hq
theorem PrA.same {H H' : Hp} {as : List Addr} {ps : List (Int × Int)} (h : PrA H as ps) (k : ∀ b xs, H b = some (.tup xs) → H' b = some (.tup xs)) : PrA H' as ps := by
  induction h with
  | nil => exact .nil
  | cons e _ ih => exact .cons (k _ _ e) ih
theorem PrA.snoc {H : Hp} {a : Addr} {p : Int × Int} {as : List Addr} {ps : List (Int × Int)} (h : PrA H as ps) (e : H a = some (.tup [.int p.1, .int p.2])) : PrA H (as ++ [a]) (ps ++ [p]) := by
  induction h with
  | nil => exact .cons e .nil
  | cons e1 _ ih => exact .cons e1 ih
/-- what a key does: a new pair -/
def KeyD (X : Cx) (k : Nat) (g : Addr) (H0 : Hp) (t : Addr) (p : Int × Int) : Prop := ∀ H1, Same H0 H1 → DoesF X.prog X.w X.K X.mg X.base k g [.ref t] H1 (fun v H2 => ∃ b, v = .ref b ∧ H2 b = some (.tup [.int p.1, .int p.2]) ∧ Same H1 H2) E0
theorem key_loop {k : Nat} {g kS : Addr} {H0 : Hp} {body : Value → PUnit → Sem (ForInStep PUnit)} {E : Value → Shared → Prop} (hr : Room k X.A.in1.in1) (h0 : H0 kS = none)
    (hb : ∀ (x : Value) (s : Shared) (C : Shared → Prop), wpAny (model X.prog X.w) X.A.in1.in1 (call (.ref g) [x]) (fun v s1 => ∃ (ks : List Value) (e : Nat), s1.heap.get? kS = some (seqObj "list" (List.toArray ks) e) ∧ ks.length < 64 ∧ C { s1 with heap := s1.heap.update kS (Obj.mapSeq (·.push v)) }) (fun _ _ => False) s → wpAny (model X.prog X.w) X.A.in1.in1 (body x ⟨⟩) (fun r s' => r = .yield ⟨⟩ ∧ C s') E s) :
    ∀ (r : List Addr) (pr : List (Int × Int)) (kd : List Addr) (pd : List (Int × Int)) (H : Hp) (s : Shared), L2.Inv X pins σ H s → H kS = some (.lst (kd.map V.ref)) → PrA H kd pd → r.length = pr.length → kd.length + r.length < 64 → Same H0 H → (∀ x ∈ r.zip pr, KeyD X k g H0 x.1 x.2) →
      wpAny (model X.prog X.w) X.A.in1.in1 (forIn (r.map Value.ref) PUnit.unit body) (fun _ s' => ∃ H' kd', L2.Inv X pins σ H' s' ∧ H' kS = some (.lst (kd'.map V.ref)) ∧ PrA H' kd' (pd ++ pr) ∧ Same H0 H') E s
  | [], [], kd, pd, H, s, I, hk, P, _, _, sm, _ => by
    rw [List.map_nil, List.forIn_nil]
    exact wpAny_pure ⟨H, kd, I, hk, by rw [List.append_nil]; exact P, sm⟩
  | [], _ :: _, _, _, _, _, _, _, _, hl, _, _, _ => nomatch hl
  | _ :: _, [], _, _, _, _, _, _, _, hl, _, _, _ => nomatch hl
  | x :: r, p :: pr, kd, pd, H, s, I, hk, P, hl, h64, sm, hf => by
    rw [List.length_cons] at h64
    rw [List.map_cons, List.forIn_cons]
    refine wpAny_bind (wpAny_mono (hb (.ref x) s (fun s' => ∃ H' kd', L2.Inv X pins σ H' s' ∧ H' kS = some (.lst (kd'.map V.ref)) ∧ PrA H' kd' (pd ++ [p]) ∧ kd'.length = kd.length + 1 ∧ Same H0 H') ?_) (fun q s' hq => ?_) fun _ _ e => e)
    · refine wpAny_mono (run_does2 (vs := [V.ref x]) (us := [Value.ref x]) hr I (.cons (show L2.RelV (V.ref x) (Value.ref x) from rfl) .nil) (hf (x, p) (.head _) H sm)) (fun v s1 hv => ?_) fun _ _ e => e
      obtain ⟨u, H2, I2, ru, b, rfl, eb, s2⟩ := hv
      obtain rfl : v = Value.ref b := ru
      have hk2 := s2 _ _ hk
      obtain ⟨hz, its, n, rv, hob⟩ := I2.hok _ _ hk2
      obtain rfl := vals_refs rv
      refine ⟨kd.map Value.ref, n, hob, by rw [List.length_map]; omega, ?_⟩
      have ea : (List.toArray (kd.map Value.ref)).push (.ref b) = List.toArray ((kd ++ [b]).map Value.ref) := by simp
      obtain ⟨c2, hc2⟩ : ∃ c2, (s1.heap.update kS (Obj.mapSeq (·.push (.ref b)))).get? kS = some (seqObj "list" (List.toArray ((kd ++ [b]).map Value.ref)) c2) := ⟨_, by rw [← ea]; exact get?_update_seq hob (·.push (.ref b))⟩
      have I3 : L2.Inv X pins σ (upd H2 kS (.lst ((kd ++ [b]).map V.ref))) { s1 with heap := s1.heap.update kS (Obj.mapSeq (·.push (.ref b))) } := I2.write (e := kS) (t' := s1.toks) (by rw [hk2]; trivial) (.inl rfl) (fun b' u hb hu => by rw [Heap.get?_update_ne _ _ _ _ hb]; exact hu) ⟨_, hc2⟩ ⟨by rw [List.length_map, List.length_append, List.length_singleton]; exact small64 (by omega), _, c2, vals_of_refs _, hc2⟩
      have kt : ∀ b' xs, H2 b' = some (.tup xs) → upd H2 kS (.lst ((kd ++ [b]).map V.ref)) b' = some (.tup xs) := fun b' xs e => by rw [upd_ne (ne_of e hk2 fun z => nomatch z)]; exact e
      refine ⟨_, kd ++ [b], I3, upd_same, ((P.same fun b' xs e => s2 _ _ e).same kt).snoc (kt _ _ eb), by rw [List.length_append]; rfl, fun b' o e => ?_⟩
      rw [upd_ne (ne_of_none e h0)]
      exact s2 _ _ (sm _ _ e)
    · obtain ⟨rfl, H', kd', I', hk', P', hl', sm'⟩ := hq
      have ih := key_loop hr h0 hb r pr kd' (pd ++ [p]) H' s' I' hk' P' (Nat.succ.inj hl) (by omega) sm' fun y hy => hf y (.tail _ hy)
      rw [List.append_assoc] at ih
      exact ih
theorem prA_tups {as : List Addr} {ps : List (Int × Int)} (I : L2.Inv X pins σ H s) (hp : PrA H as ps) : TupsP s.heap (as.map Value.ref) ps := ⟨by rw [List.length_map]; exact hp.len, fun i hi => by
    have hlen := hp.len
    have e := hp.at i hi
    have hi2 : i < as.length := by omega
    obtain ⟨its2, r2, ⟨o, e1, e2, n, e3⟩, _⟩ := I.tuple (SqT.of e)
    have ev : (as.map Value.ref).getD i .none = .ref (as.getD i 0) := by
      rw [List.getD_eq_getElem?_getD, List.getElem?_map, List.getD_eq_getElem?_getD, List.getElem?_eq_getElem hi2]
      rfl
    cases r2 with
    | cons x1 r2 =>
      cases r2 with
      | cons x2 r2 =>
        cases r2
        obtain ⟨t, rfl⟩ := x1
        obtain ⟨u, rfl⟩ := x2
        exact ⟨_, o, t, u, n, ev, e1, e2, e3⟩⟩
theorem tups_firsts {h : Heap} : ∀ (ws : List Value) (qs : List (Int × Int)), ws.length = qs.length → (∀ i, i < qs.length → TupP h (ws.getD i .none) (qs.getD i (0, 0))) → ∃ fs, fs.length = ws.length ∧ (∀ f ∈ fs, ∃ i t, f = Value.int i t) ∧ KatTups h ws fs
  | [], _, _, _ => ⟨[], rfl, fun f hf => absurd hf List.not_mem_nil, KatTups.nil⟩
  | _ :: _, [], hl, _ => nomatch hl
  | v :: ws, q :: qs, hl, ht => by
    obtain ⟨fs, g1, g2, g3⟩ := tups_firsts ws qs (Nat.succ.inj hl) fun i hi => ht (i + 1) (Nat.succ_lt_succ hi)
    obtain ⟨b, o, t, u, m, x1, x2, x3, x4⟩ := ht 0 (Nat.succ_pos _)
    have x1 : v = .ref b := x1
    subst x1
    refine ⟨.int q.1 t :: fs, congrArg (· + 1) g1, fun f hf => ?_, KatTups.cons x2 x3 x4 rfl g3⟩
    rcases List.mem_cons.mp hf with rfl | hf
    · exact ⟨_, _, rfl⟩
    · exact g2 f hf
theorem zip_snd : ∀ (l m : List Value), l.length = m.length → (l.zip m).map (fun x => x.2) = m
  | [], [], _ => rfl
  | [], _ :: _, h => nomatch h
  | _ :: _, [], h => nomatch h
  | x :: l, y :: m, h => by
    show y :: (l.zip m).map (fun x => x.2) = y :: m
    rw [zip_snd l m (Nat.succ.inj h)]
theorem list_sort_k {k : Nat} {g D : Addr} {n : Nat} {ts : List Addr} {ps : List (Int × Int)} {P : PySem.Fin → Shared → Prop} {E : Value → Shared → Prop} (hr : Room k X.A.in1.in1) (I : L2.Inv X pins σ H s) (ho : s.heap.get? D = some (seqObj "list" (ts.map Value.ref).toArray n)) (hlen : ts.length = ps.length) (nd : (ps.map (·.2)).Nodup) (h64 : ts.length < 64)
    (hD : H D = none) (h0 : X.s_0.heap.get? D = none) (hL : D ≠ X.env.locals) (hC : ∀ x c, X.env.cells.lookup x = some c → c ≠ D) (hp : ∀ p ∈ X.pn ++ pins, p.1 ≠ D) (hfs : D ∉ X.fs)
    (hf : ∀ x ∈ ts.zip ps, KeyD X k g H x.1 x.2)
    (h : ∀ (q : Array Nat) s4 H4, L2.Inv X pins σ H4 s4 → PT ps.length q → Asc (ltP ps) q 0 ps.length → Same H H4 → H4 D = some (.lst ((q.toList.map fun i => ts.getD i 0).map V.ref)) → P (.done (.ret .none)) s4) :
    wpAny (model X.prog X.w) X.A.in1.in1 (ksk_tree D (.ref g) false) P E s := by
  have ha : D < s.heap.objs.size := Heap.lt_size ho
  have hvl : (ts.map Value.ref).length = ts.length := List.length_map ..
  unfold ksk_tree
  refine wpAny_bind (listItems_at ho rfl ?_)
  refine wpAny_bind (listUpdate_at ho rfl ?_ (by rw [List.size_toArray, hvl, sizeLine_eq]; omega) (Nat.zero_le _))
  obtain ⟨e1, ho1⟩ : ∃ e1, (s.heap.update D (Obj.mapSeq fun _ => (#[] : Array Value))).get? D = some (seqObj "list" #[] e1) := ⟨_, get?_update_seq ho (fun _ => #[])⟩
  refine wpAny_bind (seqEpoch_at ho1 rfl ?_)
  refine wpAny_bind (wpAny_newTuple ?_ (by show (ts.map Value.ref).length ≤ _; rw [hvl, sizeLine_eq]; omega))
  refine wpAny_bind (wpAny_newList ?_ (Nat.zero_le _))
  refine wpAny_holding ?_
  obtain ⟨kS, hkS⟩ : ∃ kS, kS = ((s.heap.update D (Obj.mapSeq fun _ => (#[] : Array Value))).push (seqObj "tuple" (ts.map Value.ref).toArray 0)).objs.size := ⟨_, rfl⟩
  have hks1 : kS = s.heap.objs.size + 1 := by rw [hkS, size_push', Heap.size_update]
  have keep : ∀ b u, b ≠ D → s.heap.get? b = some u → (((s.heap.update D (Obj.mapSeq fun _ => (#[] : Array Value))).push (seqObj "tuple" (ts.map Value.ref).toArray 0)).push (seqObj "list" #[] 0)).get? b = some u := fun b u hne e => by
    have hb := Heap.lt_size e
    rw [Heap.get?_push_ne _ _ _ (by rw [size_push', Heap.size_update]; exact Nat.ne_of_lt (Nat.lt_succ_of_lt hb)), Heap.get?_push_ne _ _ _ (by rw [Heap.size_update]; exact Nat.ne_of_lt hb), Heap.get?_update_ne _ _ _ _ hne]
    exact e
  have hoD : (((s.heap.update D (Obj.mapSeq fun _ => (#[] : Array Value))).push (seqObj "tuple" (ts.map Value.ref).toArray 0)).push (seqObj "list" #[] 0)).get? D = some (seqObj "list" #[] e1) := Heap.get?_push_of_some _ (Heap.get?_push_of_some _ ho1)
  have hok0 : (((s.heap.update D (Obj.mapSeq fun _ => (#[] : Array Value))).push (seqObj "tuple" (ts.map Value.ref).toArray 0)).push (seqObj "list" #[] 0)).get? kS = some (seqObj "list" #[] 0) := by rw [hkS]; exact Heap.get?_push_size _ rfl
  show wpAny (model X.prog X.w) X.A.in1.in1 (ksk_rest D (.ref g) false (ts.map Value.ref).toArray e1 (.ref ((s.heap.update D (Obj.mapSeq fun _ => (#[] : Array Value))).push (seqObj "tuple" (ts.map Value.ref).toArray 0)).objs.size)) P E { s with heap := ((s.heap.update D (Obj.mapSeq fun _ => (#[] : Array Value))).push (seqObj "tuple" (ts.map Value.ref).toArray 0)).push (seqObj "list" #[] 0) }
  rw [← hkS]
  generalize ((s.heap.update D (Obj.mapSeq fun _ => (#[] : Array Value))).push (seqObj "tuple" (ts.map Value.ref).toArray 0)).push (seqObj "list" #[] 0) = h1 at keep hoD hok0
  have hkn : H kS = none := I.hok.fresh (by rw [hks1]; exact Nat.le_succ _)
  have hks0 : X.s_0.heap.get? kS = none := Heap.get?_none_of_le (Nat.le_trans I.sz (by rw [hks1]; exact Nat.le_succ _))
  have hkL : kS ≠ X.env.locals := fun z => by
    have h1 := I.lt
    rw [← z, hks1] at h1
    exact absurd h1 (Nat.not_lt_of_ge (Nat.le_succ _))
  have hkC : ∀ x c, X.env.cells.lookup x = some c → c ≠ kS := fun x c e z => by
    obtain ⟨v, o, ho', _⟩ := I.cell x c e
    have h1 := Heap.lt_size ho'
    rw [z, hks1] at h1
    exact absurd h1 (Nat.not_lt_of_ge (Nat.le_succ _))
  have hkp : ∀ p ∈ X.pn ++ pins, p.1 ≠ kS := fun p hp' z => by
    have h1 := Heap.lt_size (I.pin p hp').1
    rw [z, hks1] at h1
    exact absurd h1 (Nat.not_lt_of_ge (Nat.le_succ _))
  have I1 : L2.Inv X pins σ H { s with heap := h1 } := I.turned (t' := s.toks) keep hD hL (.inr h0) hC hp
  have I2 : L2.Inv X pins σ (upd H kS (.lst [])) { s with heap := h1 } := inv_adopt (s := { s with heap := h1 }) (h' := h1) (t' := s.toks) I1 hkn hks0 hkL hkC hkp (fun b u _ e => e) ⟨Nat.zero_le _, [], 0, .nil, hok0⟩
  have hDk : D ≠ kS := Nat.ne_of_lt (by rw [hks1]; exact Nat.lt_succ_of_lt ha)
  have I3 : L2.Inv X ((D, seqObj "list" #[] e1) :: pins) σ (upd H kS (.lst [])) { s with heap := h1 } := I2.pins_of fun p hp' => by
    rcases List.mem_cons.mp hp' with rfl | hp'
    · exact ⟨hoD, by rw [upd_ne hDk]; exact hD, hL, hfs, fun v z => nomatch z⟩
    · exact I2.pin p (List.mem_append_right _ hp')
  unfold ksk_rest
  refine wpAny_bind (wpAny_rule ?_)
  first
    | rw [List.forIn_toArray]
    | (rw [← Array.forIn_toList]; simp only [List.toList_toArray])
    | rw [← Array.forIn_toList]
  refine wpAny_bind (wpAny_mono (key_loop (H0 := H) hr hkn (fun x s C hx => ?_) ts ps [] [] _ _ I3 upd_same .nil hlen (by show 0 + ts.length < 64; omega) (same_alloc hkn) hf) (fun _ s' hd => ?_) fun _ _ x => x)
  · refine wpAny_bind (wpAny_attempt (wpAny_mono hx (fun v s1 hk => ?_) fun _ _ hF => hF.elim))
    obtain ⟨ks, e, hke, hl, c⟩ := hk
    try dsimp only
    refine wpAny_bind (listUpdate_at hke rfl ?_ (by rw [List.size_toArray, sizeLine_eq]; omega) (Nat.le_trans (Nat.le_of_eq (Array.size_push ..)) (by rw [List.size_toArray, sizeLine_eq]; omega)))
    exact wpAny_pure ⟨rfl, c⟩
  obtain ⟨H', kd, I', hk', P', sm'⟩ := hd
  have P' : PrA H' kd ps := P'
  try dsimp only
  obtain ⟨hz, its, n', rv, hob⟩ := I'.hok _ _ hk'
  obtain rfl := vals_refs rv
  refine wpAny_bind (listItems_at hob rfl ?_)
  obtain ⟨pD, pDn, _, _, _⟩ := I'.pin (D, seqObj "list" #[] e1) (List.mem_append_right _ (.head _))
  have hkl := P'.len
  have I4 : L2.Inv X pins σ H' s' := I'.pins_of fun p hp' => I'.pin p (List.mem_append_right _ (.tail _ hp'))
  -- the end, whatever the order
  have tail : ∀ (st : SortSt) (q : Array Nat), PT ps.length q → Asc (ltP ps) q 0 ps.length → (arrOf st).map (·.2) = outP (ts.map Value.ref) q → failedOf st = none → wpAny (model X.prog X.w) X.A.in1.in1 (ksk_tail D false e1 (.ref kS) st) P E s' := fun st q hq hA hout hfl => by
    have hmem : ∀ i ∈ q.toList, i < ps.length := fun i hi => List.mem_range.mp ((Array.perm_iff_toList_perm.mp hq.pm).mem_iff.mp hi)
    have eo : outP (ts.map Value.ref) q = List.toArray ((q.toList.map fun i => ts.getD i 0).map Value.ref) := by
      show List.toArray (q.toList.map fun i => (ts.map Value.ref).getD i .none) = _
      rw [List.map_map]
      congr 1
      refine List.map_congr_left fun i hi => ?_
      have hi2 : i < ts.length := by have := hmem i hi; omega
      show (ts.map Value.ref).getD i .none = .ref (ts.getD i 0)
      rw [List.getD_eq_getElem?_getD, List.getElem?_map, List.getD_eq_getElem?_getD, List.getElem?_eq_getElem hi2]
      rfl
    have hol : ((q.toList.map fun i => ts.getD i 0).map Value.ref).length = ps.length := by rw [List.length_map, List.length_map, Array.length_toList, hq.sz]
    unfold ksk_tail
    try dsimp only
    rw [hout, eo]
    obtain ⟨ck, hck⟩ : ∃ ck, (s'.heap.update kS (Obj.mapSeq fun _ => (#[] : Array Value))).get? kS = some (seqObj "list" #[] ck) := ⟨_, get?_update_seq hob fun _ => #[]⟩
    refine wpAny_bind (listUpdate_at hob rfl ?_ (by rw [List.size_toArray, List.length_map, sizeLine_eq]; omega) (Nat.zero_le _))
    have I5 : L2.Inv X pins σ (upd H' kS (.lst [])) { s' with heap := s'.heap.update kS (Obj.mapSeq fun _ => (#[] : Array Value)) } := I4.write (e := kS) (t' := s'.toks) (by rw [hk']; trivial) (.inl rfl) (fun b' u hb hu => by rw [Heap.get?_update_ne _ _ _ _ hb]; exact hu) ⟨_, hck⟩ ⟨Nat.zero_le _, [], ck, .nil, hck⟩
    have pD2 : (s'.heap.update kS (Obj.mapSeq fun _ => (#[] : Array Value))).get? D = some (seqObj "list" #[] e1) := by rw [Heap.get?_update_ne _ _ _ _ hDk]; exact pD
    refine wpAny_bind (wpAny_letGo ?_)
    refine wpAny_bind (seqEpoch_at pD2 rfl ?_)
    obtain ⟨c2, hc2⟩ : ∃ c2, ((s'.heap.update kS (Obj.mapSeq fun _ => (#[] : Array Value))).update D (Obj.mapSeq fun _ => List.toArray ((q.toList.map fun i => ts.getD i 0).map Value.ref))).get? D = some (seqObj "list" (List.toArray ((q.toList.map fun i => ts.getD i 0).map Value.ref)) c2) := ⟨_, get?_update_seq pD2 fun _ => _⟩
    refine wpAny_bind (listUpdate_at pD2 rfl ?_ (Nat.zero_le _) (by
      show (List.toArray ((q.toList.map fun i => ts.getD i 0).map Value.ref)).size ≤ _
      rw [List.size_toArray, hol, sizeLine_eq]; omega))
    rw [hfl]
    simp only [bne_self_eq_false, Bool.false_eq_true, if_false]
    refine wpAny_pure ?_
    have nD : upd H' kS (.lst []) D = none := by rw [upd_ne hDk]; exact pDn
    have I6 := inv_adopt (t' := s'.toks) (o := .lst ((q.toList.map fun i => ts.getD i 0).map V.ref)) (h' := (s'.heap.update kS (Obj.mapSeq fun _ => (#[] : Array Value))).update D (Obj.mapSeq fun _ => List.toArray ((q.toList.map fun i => ts.getD i 0).map Value.ref))) I5 nD h0 hL hC hp (fun b u hb hu => by rw [Heap.get?_update_ne _ _ _ _ hb]; exact hu) ⟨by rw [List.length_map, List.length_map, Array.length_toList, hq.sz]; exact small64 (by omega), _, c2, vals_of_refs _, hc2⟩
    refine h q _ _ I6 hq hA (fun b o e => ?_) upd_same
    rw [upd_ne (ne_of_none e hD), upd_ne (ne_of_none e hkn)]
    exact sm' _ _ e
  have T := prA_tups I4 P'
  have hkv : (kd.map Value.ref).length = (ts.map Value.ref).length := by rw [List.length_map, List.length_map, hkl, hlen]
  unfold ksk_end
  try dsimp only
  simp only [Bool.false_eq_true, if_false]
  by_cases h2 : (ts.map Value.ref).toArray.size < 2
  · rw [if_pos h2, if_pos h2]
    have h2' : ts.length < 2 := by rwa [List.size_toArray, List.length_map] at h2
    refine wpAny_bind (wpAny_pure ?_)
    rw [StateT.run_pure]
    refine wpAny_bind (wpAny_pure ?_)
    dsimp only
    refine tail _ (List.toArray (List.range ps.length)) PT.range (fun i j _ hij hj => by omega) ?_ rfl
    show ((List.toArray (kd.map Value.ref)).zip (ts.map Value.ref).toArray).map (·.2) = List.toArray ((List.range ps.length).map fun i => (ts.map Value.ref).getD i .none)
    rw [← hlen, ← hvl, getD_range]
    apply Array.toList_inj.mp
    simpa using zip_snd (kd.map Value.ref) (ts.map Value.ref) hkv
  · rw [if_neg h2, if_neg h2]
    have h2' : 2 ≤ (ts.map Value.ref).length := by rw [List.size_toArray] at h2; omega
    have LT := ltP_ok nd
    obtain ⟨fs, g1, g2, g3⟩ := tups_firsts (kd.map Value.ref) ps T.l T.t
    refine wpAny_bind (kat_kind (T := .type "int") g3 (by rw [g1, hkv]; omega) (fun f hf => by obtain ⟨i, t, rfl⟩ := g2 f hf; exact Looks.of_pure rfl) rfl ?_)
    have hk : (kas_sort (ts.map Value.ref).length).kasWp (kas_ask X.prog X.w X.A.in1.in1 (tuples' (Value.type "int" != Value.type "tuple")) (kd.map Value.ref)) (fun q s'' => s'' = s' ∧ PT ps.length q ∧ Asc (ltP ps) q 0 ps.length) s' := by
      rw [hvl, hlen]
      exact krun_ok (n := ps.length) (lt := ltP ps) (fun i j C hi hj q => cmp_p T i j C hi hj q) _ (sort_k LT (by omega)) ⟨rfl, sort_ok LT (by omega)⟩
    refine wpAny_bind (wpAny_mono (kat_run (Q := fun st' s'' => s'' = s' ∧ failedOf st' = none ∧ ∃ q, PT ps.length q ∧ Asc (ltP ps) q 0 ps.length ∧ arrOf st' = q.map (kas_item ((kd.map Value.ref).toArray.zip (ts.map Value.ref).toArray))) hkv h2' (by rw [hvl]; exact h64) (fun q st' s'' a1 a2 a3 a4 => ⟨a4.1, a3, q, a4.2.1, a4.2.2, a2⟩) hk) ?_ fun _ _ e => e)
    rintro ⟨⟨⟩, st'⟩ s'' ⟨rfl, hfl, q, hq, hA, har⟩
    try dsimp only
    exact tail st' q hq hA (kat_snds hkv har) hfl
def rSortedK (P : Program) (w : World) (K : PySem.W.Frag) (mg : Str → Option Value) (base : Heap) (k : Nat) : List V → List V → Hp → VK → Prop := fun vs zs H Q => ∃ (a g : Addr) (ts : List Addr) (ps : List (Int × Int)), vs = [.ref a] ∧ zs = [.ref g] ∧ SqL K H a (ts.map V.ref) ∧ ts.length = ps.length ∧ (ps.map (·.2)).Nodup ∧ ts.length < 64 ∧
  (∀ x ∈ ts.zip ps, ∀ H1, Same H H1 → DoesF P w K mg base k g [.ref x.1] H1 (fun v H2 => ∃ b, v = .ref b ∧ H2 b = some (.tup [.int x.2.1, .int x.2.2]) ∧ Same H1 H2) E0) ∧
  ∀ (q : List Nat) (p : Addr) (H' : Hp), q.Perm (List.range ps.length) → (q.map fun i => ps.getD i (0, 0)).Pairwise pairLt → Same H H' → H p = none → H' p = some (.lst ((q.map fun i => ts.getD i 0).map V.ref)) → Q (.ref p) H'
theorem asc_pw {ps : List (Int × Int)} {qa : Array Nat} (P : PT ps.length qa) (A : Asc (ltP ps) qa 0 ps.length) : (qa.toList.map fun i => ps.getD i (0, 0)).Pairwise pairLt := by
  rw [List.pairwise_iff_getElem]
  intro i j hi hj hij
  rw [List.length_map, Array.length_toList] at hi hj
  rw [P.sz] at hi hj
  have := A i j (Nat.zero_le _) hij hj
  have gq : ∀ k (hk : k < ps.length) (h2 : k < (qa.toList.map fun i => ps.getD i (0, 0)).length), (qa.toList.map fun i => ps.getD i (0, 0))[k] = ps.getD (gt' qa k) (0, 0) := fun k hk h2 => by
    rw [List.getElem_map]
    have hk2 : k < qa.size := by rw [P.sz]; exact hk
    show ps.getD (qa.toList[k]'(by simpa using hk2)) (0, 0) = ps.getD (qa.getD k 0) (0, 0)
    rw [Array.getD_eq_getD_getElem?, Array.getElem?_eq_getElem hk2]
    rfl
  rw [gq i hi, gq j hj]
  exact this
theorem cr_sortedK {k : Nat} (hr : Room (k + 2) X.A) : CallRK X (.builtin "sorted") ["key"] (rSortedK X.prog X.w X.K X.mg X.base k) := by
  intro pins s σ H vs zs us ws Q I r rz h
  obtain ⟨a, g, ts, ps, rfl, rfl, hs, hlen, nd, h64, hf, q⟩ := h
  obtain ⟨its, rv, hl, _⟩ := I.list hs
  rw [Vals.ref1 r]
  obtain ⟨u, rfl, ru⟩ := vals1 rz
  obtain rfl : u = Value.ref g := ru
  obtain rfl := vals_refs rv
  have hvl : (ts.map Value.ref).length = ts.length := List.length_map ..
  have hl := hl.isList
  show wpAny (model X.prog X.w) X.A (call (.builtin "sorted") [.ref a] [(Str.ofString "key", .ref g)]) _ _ s
  refine call_function_entry_kw kind_sorted plain_sorted entry_sorted (ksk_s1 _ _) ?_
  unfold Builtin.«sorted»
  refine wpAny_bind (m := checkCount "sorted" 1 1 _) (wpAny_pure ?_)
  refine wpAny_bind (collect_list hl ?_ (by rw [hvl, sizeLine_eq]; omega))
  refine wpAny_bind (wpAny_newList ?_ (by show (ts.map Value.ref).length ≤ _; rw [hvl, sizeLine_eq]; omega))
  have hsz : ((s.heap.push (seqObj "list" #[] 0)).update s.heap.objs.size (Obj.mapSeq (· ++ (ts.map Value.ref).toArray))).objs.size = s.heap.objs.size + 1 := by
    rw [Heap.size_update, size_push']
  have hoL : (((s.heap.push (seqObj "list" #[] 0)).update s.heap.objs.size (Obj.mapSeq (· ++ (ts.map Value.ref).toArray))).push (seqObj "list" (ts.map Value.ref).toArray 0)).get? (s.heap.objs.size + 1) = some (seqObj "list" (ts.map Value.ref).toArray 0) := by
    rw [← hsz]; exact Heap.get?_push_size _ rfl
  have keep : ∀ b o, s.heap.get? b = some o → (((s.heap.push (seqObj "list" #[] 0)).update s.heap.objs.size (Obj.mapSeq (· ++ (ts.map Value.ref).toArray))).push (seqObj "list" (ts.map Value.ref).toArray 0)).get? b = some o := fun b o q => by
    have hlt : b < s.heap.objs.size := Heap.lt_size q
    rw [Heap.get?_push_ne _ _ _ (by rw [hsz]; exact Nat.ne_of_lt (Nat.lt_succ_of_lt hlt)), Heap.get?_update_ne _ _ _ _ (Nat.ne_of_lt hlt), Heap.get?_push_ne _ _ _ (Nat.ne_of_lt hlt)]
    exact q
  show wpAny _ _ _ _ _ { s with heap := ((s.heap.push (seqObj "list" #[] 0)).update s.heap.objs.size (Obj.mapSeq (· ++ (ts.map Value.ref).toArray))).push (seqObj "list" (ts.map Value.ref).toArray 0) }
  rw [hsz]
  refine wpAny_bind (wpAny_holding (wpAny_call_entry_kw slot_list_sort ⟨_, hoL, rfl⟩ entry_list_sort ?body (ksk_l1 _ _)))
  case body =>
    show wpAny (model X.prog X.w) X.A.in1.in1 (Builtin.«list.sort» ⟨[.ref (s.heap.objs.size + 1)], [(Str.ofString "key", .ref g)]⟩) _ _ _
    rw [ksk_t1]
    have hge : ∀ {c : Addr}, c < s.heap.objs.size → c ≠ s.heap.objs.size + 1 := fun {c} h1 => Nat.ne_of_lt (Nat.lt_succ_of_lt h1)
    have I1 : L2.Inv X pins σ H { s with heap := ((s.heap.push (seqObj "list" #[] 0)).update s.heap.objs.size (Obj.mapSeq (· ++ (ts.map Value.ref).toArray))).push (seqObj "list" (ts.map Value.ref).toArray 0) } := I.kept (t' := s.toks) keep
    refine list_sort_k (s := { s with heap := _ }) hr.in1.in1 I1 hoL hlen nd h64 (I.hok.fresh (Nat.le_succ _)) (Heap.get?_none_of_le (Nat.le_trans I.sz (Nat.le_succ _))) (hge I.lt).symm (fun x c e => by
        obtain ⟨v, o, ho', _⟩ := I.cell x c e
        exact hge (Heap.lt_size ho')) (fun p hp' => hge (Heap.lt_size (I.pin p hp').1)) (I.nofs (Nat.le_succ _)) hf fun qa s4 H4 I4 P A sm hD => ⟨_, rfl, wpAny_pure ⟨_, rfl, ?_⟩⟩
    exact ⟨.ref (s.heap.objs.size + 1), H4, I4, rfl, q _ _ H4 (Array.perm_iff_toList_perm.mp P.pm) (asc_pw P A) sm (I.hok.fresh (Nat.le_succ _)) hD⟩
end
end K14

set_option maxHeartbeats 4000000
set_option Elab.async false
set_option linter.all false
set_option maxRecDepth 100000
namespace K14
open PySem L2
/-! ### a side of two rows that are merged -/
structure SideT (K : PySem.W.Frag) (mg : Str → Option Value) (CSd fDI fDL fDG : Addr) : Prop where
  cl : Cls K CSd
  nS : NoAttr K CSd "source"
  nK : NoAttr K CSd "key"
  nM : NoAttr K CSd "mark"
  nW : NoAttr K CSd "waits"
  mgC : mg "Side" = some (.ref CSd)
  mkr : Mk K CSd fDI
  mlk : Meth K CSd "look" fDL
  mgv : Meth K CSd "give" fDG
def sideF (so : Addr) (kv mk : V) (wt : Bool) : List (Str × V) := [("source", .ref so), ("key", kv), ("mark", mk), ("waits", .bl wt)]
theorem sdNe : ¬ (("source" : Str) = "key") ∧ ¬ (("source" : Str) = "mark") ∧ ¬ (("source" : Str) = "waits") ∧ ¬ (("key" : Str) = "mark") ∧ ¬ (("key" : Str) = "waits") ∧ ¬ (("mark" : Str) = "waits") := by decide +kernel
theorem sideF_mk (so : Addr) (kv mk : V) (wt : Bool) : putF "waits" (.bl wt) (putF "mark" mk (putF "key" kv (putF "source" (.ref so) []))) = sideF so kv mk wt := by
  obtain ⟨n1, n2, n3, n4, n5, n6⟩ := sdNe
  simp only [putF, n1, n2, n3, n4, n5, n6, if_false, sideF]
theorem sideF_mark (so : Addr) (kv mk mk' : V) (wt : Bool) : putF "mark" mk' (sideF so kv mk wt) = sideF so kv mk' wt := by
  obtain ⟨n1, n2, n3, n4, n5, n6⟩ := sdNe
  simp only [putF, n1, n2, n3, n4, n5, n6, if_false, if_true, sideF]
theorem sideF_waits (so : Addr) (kv mk : V) (wt wt' : Bool) : putF "waits" (.bl wt') (sideF so kv mk wt) = sideF so kv mk wt' := by
  obtain ⟨n1, n2, n3, n4, n5, n6⟩ := sdNe
  simp only [putF, n1, n2, n3, n4, n5, n6, if_false, if_true, sideF]
section
variable {P : Program} {w : World} {K : PySem.W.Frag} {mg : Str → Option Value} {base : Heap} {C CO CS CSd fI fD fSI fSA fDI fDL fDG : Addr}
def spSdInit (CSd CS : Addr) : Sp := fun vs H Q _ => ∃ (y dx r : Addr) (kv : V), vs = [.ref y, .ref r, kv] ∧ H y = some (.ins CSd dx []) ∧ ∀ so dxs H', H so = none → H dxs = none → so ≠ dxs → H' y = some (.ins CSd dx (sideF so kv .non false)) → H' so = some (.ins CS dxs (srcF r false .non)) → (∀ b o, H b = some o → b ≠ y → H' b = some o) → Q .non H'
theorem scSdInit : FnScope ["self", "row", "key"] ["self", "row", "key"] (defScope s_Side_init) := ⟨rfl, rfl, rfl, by decide +kernel, rfl, by decide +kernel, by decide +kernel⟩
theorem ok_sdinit {f : Addr} {fd fdS : FuncData} (F : Fun K "__init__" "Side.__init__" s_Side_init f fd) (M : SideT K mg CSd fDI fDL fDG) (S : SrcT K mg CS fSI fSA) (FS : Fun K "__init__" "Source.__init__" s_Source_init fSI fdS) (bS : Binds K fdS ["self", "row"] []) : FnOk P w K mg base (CXo P w) 3 f fd ["self", "row", "key"] (spSdInit CSd CS) := by
  have GS : FnOk P w K mg base (CXo P w) 1 fSI fdS ["self", "row"] (spSInit CS) := ok_sinit FS S
  refine F.okX scSdInit (fun vs H Q E h => ?_) (fun cdv A outer s H vs Q E hr h => ?_)
  · obtain ⟨q, dx, r, kv, rfl, _⟩ := h
    rfl
  · obtain ⟨y, dx, r, kv, rfl, hy, k⟩ := h
    refine ⟨_, (@pss_cons _ _ _ _ _ (@ps_fld _ _ _ _ _ _ _ _ (@pv _ 0 _ _ (by rfl) (by first
  | exact Or.inl rfl
  | exact Or.inr (Or.inl rfl)
  | exact Or.inr (Or.inr rfl)) (by decide) (by decide)) (@pe_make _ _ _ _ _ _ _ _ _ _ _ _ _ _ _ _ _ S.mkr GS hr rfl S.mgC bS .nil pass_no (@pa_Name _ _ _ _ _ _ (@pv _ 1 _ _ (by rfl) (by first
  | exact Or.inl rfl
  | exact Or.inr (Or.inl rfl)
  | exact Or.inr (Or.inr rfl)) (by decide) (by decide)) (@pa_nil _)) (by decide) (by rfl) (by rfl)) rfl) (@pss_cons _ _ _ _ _ (@ps_fld _ _ _ _ _ _ _ _ (@pv _ 0 _ _ (by rfl) (by first
  | exact Or.inl rfl
  | exact Or.inr (Or.inl rfl)
  | exact Or.inr (Or.inr rfl)) (by decide) (by decide)) (@pv _ 2 _ _ (by rfl) (by first
  | exact Or.inl rfl
  | exact Or.inr (Or.inl rfl)
  | exact Or.inr (Or.inr rfl)) (by decide) (by decide)) rfl) (@pss_cons _ _ _ _ _ (@ps_fld _ _ _ _ _ _ _ _ (@pv _ 0 _ _ (by rfl) (by first
  | exact Or.inl rfl
  | exact Or.inr (Or.inl rfl)
  | exact Or.inr (Or.inr rfl)) (by decide) (by decide)) (@pe_non _ _ _) rfl) (@pss_one _ _ _ (@ps_fld _ _ _ _ _ _ _ _ (@pv _ 0 _ _ (by rfl) (by first
  | exact Or.inl rfl
  | exact Or.inr (Or.inl rfl)
  | exact Or.inr (Or.inr rfl)) (by decide) (by decide)) (@pe_bl _ _ _ _) rfl))))), ?_⟩
    refine ⟨_, rfl, fun so dxs hso hdxs nds => ⟨so, dxs, r, rfl, upd_same, rfl, ?_⟩⟩
    rw [upd_upd]
    have ny1 : y ≠ so := ne_of_none hy hso
    have ny2 : y ≠ dxs := ne_of_none hy hdxs
    refine ⟨_, rfl, y, CSd, dx, [], rfl, by rw [upd_ne ny1, upd_ne ny2]; exact hy, M.cl, M.nS, (by show 0 < 1000; decide), ?_⟩
    refine ⟨_, rfl, _, rfl, y, CSd, dx, _, rfl, upd_same, M.cl, M.nK, (by show 1 < 1000; decide), ?_⟩
    refine ⟨_, rfl, y, CSd, dx, _, rfl, upd_same, M.cl, M.nM, (by show 2 < 1000; decide), ?_⟩
    refine ⟨_, rfl, y, CSd, dx, _, rfl, upd_same, M.cl, M.nW, (by show 3 < 1000; decide), ?_⟩
    rw [upd_upd, upd_upd, upd_upd, sideF_mk]
    refine k so dxs _ hso hdxs nds.symm upd_same ?_ fun b o e n => ?_
    · rw [upd_ne ny1.symm, upd_same]
    · rw [upd_ne n, upd_ne (ne_of_none e hso), upd_ne (ne_of_none e hdxs)]; exact e
theorem keyOf_mono {k : Nat} {vs : List V} {H : Hp} {Q Q' : VK} {E E' : XK} (h : spKeyOf P w K mg base k vs H Q E) (hQ : ∀ v H', Q v H' → Q' v H') (hE : ∀ c d H', E c d H' → E' c d H') : spKeyOf P w K mg base k vs H Q' E' := by
  obtain ⟨x, kv, rfl, h⟩ := h
  refine ⟨x, kv, rfl, ?_⟩
  rcases h with ⟨e, z, q⟩ | ⟨fw, fdw, e1, e2, d⟩
  · exact .inl ⟨e, z, hQ _ _ q⟩
  · exact .inr ⟨fw, fdw, e1, e2, d.mono (fun v H' z => ⟨z.1, hQ _ _ z.2⟩) hE⟩
/-- an item is looked for: its source is asked, then the key of what it told -/
def spLook (t : Tt) (CSd CS : Addr) (n : Nat) : Sp := fun vs H Q E => ∃ (y dy so : Addr) (kv mk : V) (wt : Bool), vs = [.ref y] ∧ H y = some (.ins CSd dy (sideF so kv mk wt)) ∧ (wt = true → Q .non H) ∧
  (wt = false → spAdv t CS n [.ref so] H (fun v H1 => (v = .bl false ∧ Q .non H1) ∨ (v = .bl true ∧ ∃ dS r x, H1 so = some (.ins CS dS (srcF r false x)) ∧ H1 y = some (.ins CSd dy (sideF so kv mk false)) ∧
    spKeyOf t.P t.w t.K t.mg t.base n [x, kv] H1 (fun m H2 => H2 y = some (.ins CSd dy (sideF so kv mk false)) ∧ Q .non (upd H2 y (.ins CSd dy (sideF so kv m true)))) E)) E)
theorem scLook : FnScope ["self"] ["self"] (defScope s_Side_look) := ⟨rfl, rfl, rfl, by decide +kernel, rfl, by decide +kernel, by decide +kernel⟩
theorem ok_look {f fKo fIt fAs : Addr} {fd fdSA fdD fdKo fdIt fdAs : FuncData} {n : Nat} (F : Fun K "look" "Side.look" s_Side_look f fd) (B : Blt mg) (M : SideT K mg CSd fDI fDL fDG) (S : SrcT K mg CS fSI fSA) (T : RowT K mg C CO fI fD) (FSA : Fun K "advance" "Source.advance" s_Source_advance fSA fdSA) (bSA : Binds K fdSA ["self"] []) (FD : Fun K "draw" "Row.draw" sDraw fD fdD) (bD : Binds K fdD ["self"] [])
    (FKo : Fun K "key_of" "key_of" sKeyOf fKo fdKo) (mKo : mg "key_of" = some (.ref fKo)) (bKo : Binds K fdKo ["x", "key"] []) (FIt : Fun K "key_itself" "key_itself" sKeyItself fIt fdIt) (mIt : mg "key_itself" = some (.ref fIt)) (bIt : Binds K fdIt ["x", "key"] []) (FAs : Fun K "as_it_is" "as_it_is" sAsItIs fAs fdAs) (mAs : mg "as_it_is" = some (.ref fAs)) (bAs : Binds K fdAs ["key"] []) :
    FnOk P w K mg base (CXo P w) (n + 3) f fd ["self"] (spLook ⟨P, w, K, mg, base, C, CO⟩ CSd CS n) := by
  have GV : FnOk P w K mg base (CXo P w) (n + 2) fSA fdSA ["self"] (spAdv ⟨P, w, K, mg, base, C, CO⟩ CS n) := ok_adv FSA S T FD bD
  have GKo : FnOk P w K mg base (CXo P w) (n + 2) fKo fdKo ["x", "key"] (spKeyOf P w K mg base n) := ok_keyof FKo B FIt mIt bIt FAs mAs bAs
  refine F.okX scLook (fun vs H Q E h => ?_) (fun cdv A outer s H vs Q E hr h => ?_)
  · obtain ⟨y, dy, so, kv, mk, wt, rfl, _⟩ := h
    rfl
  · obtain ⟨y, dy, so, kv, mk, wt, rfl, hy, k1, k2⟩ := h
    refine ⟨_, (@pss_one _ _ _ (@ps_if _ _ _ _ _ _ _ _ (@PW.pt _ _ _ (@pw_and _ _ _ _ _ _ _ (@pt_not _ _ _ _ (@pt_val _ _ _ (@pe_fld _ _ _ _ _ (@pv _ 0 _ _ (by rfl) (by first
  | exact Or.inl rfl
  | exact Or.inr (Or.inl rfl)
  | exact Or.inr (Or.inr rfl)) (by decide) (by decide)) rfl) (by intro _; rfl))) (@pw_and1 _ _ _ _ (@pt_val _ _ _ (@pe_methX0 _ _ _ _ _ _ _ _ _ _ _ _ _ _ _ _ (@pe_fld _ _ _ _ _ (@pv _ 0 _ _ (by rfl) (by first
  | exact Or.inl rfl
  | exact Or.inr (Or.inl rfl)
  | exact Or.inr (Or.inr rfl)) (by decide) (by decide)) rfl) S.cl S.md GV hr bSA .nil throws_fn (by rfl)) (by intro _; rfl))))) (@pss_cons _ _ _ _ _ (@ps_fld _ _ _ _ _ _ _ _ (@pv _ 0 _ _ (by rfl) (by first
  | exact Or.inl rfl
  | exact Or.inr (Or.inl rfl)
  | exact Or.inr (Or.inr rfl)) (by decide) (by decide)) (@pe_callX _ _ _ _ _ _ _ _ _ _ _ _ _ _ _ GKo hr rfl mKo FKo.kp bKo .nil throws_fn (@pa_Attribute _ _ _ _ _ _ _ (@pe_fld _ _ _ _ _ (@pe_fld _ _ _ _ _ (@pv _ 0 _ _ (by rfl) (by first
  | exact Or.inl rfl
  | exact Or.inr (Or.inl rfl)
  | exact Or.inr (Or.inr rfl)) (by decide) (by decide)) rfl) rfl) (@pa_Attribute _ _ _ _ _ _ _ (@pe_fld _ _ _ _ _ (@pv _ 0 _ _ (by rfl) (by first
  | exact Or.inl rfl
  | exact Or.inr (Or.inl rfl)
  | exact Or.inr (Or.inr rfl)) (by decide) (by decide)) rfl) (@pa_nil _))) (by decide) (by rfl) (by rfl)) rfl) (@pss_one _ _ _ (@ps_fld _ _ _ _ _ _ _ _ (@pv _ 0 _ _ (by rfl) (by first
  | exact Or.inl rfl
  | exact Or.inr (Or.inl rfl)
  | exact Or.inr (Or.inr rfl)) (by decide) (by decide)) (@pe_bl _ _ _ _) rfl))) (@pss_nil _))), ?_⟩
    refine ⟨_, rfl, y, CSd, dy, _, _, rfl, hy, M.cl, M.nW, rfl, wt, rfl, ?_⟩
    cases wt with
    | true => exact iteF (iteF (k1 rfl))
    | false =>
      have hk := k2 rfl
      obtain ⟨so', dS, r, e, v, q1, q2, _⟩ := id hk
      obtain rfl : so = so' := V.ref.inj (List.cons.inj q1).1
      refine iteT ⟨_, rfl, y, CSd, dy, _, _, rfl, hy, M.cl, M.nS, rfl, so, dS, _, rfl, q2, rfl, ?_⟩
      unfold tNil
      refine spAdv_mono hk (fun v H1 hv => ?_) fun _ _ _ he => he
      rcases hv with ⟨rfl, q⟩ | ⟨rfl, dS2, r2, x, h1, h2, q⟩
      · exact ⟨false, rfl, iteF q⟩
      · refine ⟨true, rfl, iteT ?_⟩
        refine ⟨_, rfl, y, CSd, dy, _, _, rfl, h2, M.cl, M.nS, rfl, so, CS, dS2, _, _, rfl, h1, S.cl, S.nF, rfl, _, rfl, y, CSd, dy, _, _, rfl, h2, M.cl, M.nK, rfl, ?_⟩
        refine keyOf_mono q (fun m H2 z => ?_) fun _ _ _ he => he
        obtain ⟨h3, h4⟩ := z
        refine ⟨_, rfl, y, CSd, dy, _, rfl, h3, M.cl, M.nM, (by show 4 < 1000; decide), ?_⟩
        rw [sideF_mark]
        refine ⟨_, rfl, y, CSd, dy, _, rfl, upd_same, M.cl, M.nW, (by show 4 < 1000; decide), ?_⟩
        rw [sideF_waits, upd_upd]
        exact h4
def spGive (CSd CS : Addr) : Sp := fun vs H Q _ => ∃ (y dy so dS r : Addr) (kv mk x : V) (wt e : Bool), vs = [.ref y] ∧ H y = some (.ins CSd dy (sideF so kv mk wt)) ∧ H so = some (.ins CS dS (srcF r e x)) ∧ Q x (upd H y (.ins CSd dy (sideF so kv mk false)))
theorem scGive : FnScope ["self"] ["self"] (defScope s_Side_give) := ⟨rfl, rfl, rfl, by decide +kernel, rfl, by decide +kernel, by decide +kernel⟩
theorem ok_give {f : Addr} {fd : FuncData} (F : Fun K "give" "Side.give" s_Side_give f fd) (M : SideT K mg CSd fDI fDL fDG) (S : SrcT K mg CS fSI fSA) (hne : CSd ≠ CS) : FnOk P w K mg base (CXo P w) 1 f fd ["self"] (spGive CSd CS) := by
  refine F.okX scGive (fun vs H Q E h => ?_) (fun cdv A outer s H vs Q E hr h => ?_)
  · obtain ⟨y, dy, so, dS, r, kv, mk, x, wt, e, rfl, _⟩ := h
    rfl
  · obtain ⟨y, dy, so, dS, r, kv, mk, x, wt, e, rfl, hy, hso, k⟩ := h
    have nys : so ≠ y := fun z => by rw [z, hy] at hso; have := HO.ins.inj (Option.some.inj hso); exact hne this.1
    refine ⟨_, (@pss_cons _ _ _ _ _ (@ps_fld _ _ _ _ _ _ _ _ (@pv _ 0 _ _ (by rfl) (by first
  | exact Or.inl rfl
  | exact Or.inr (Or.inl rfl)
  | exact Or.inr (Or.inr rfl)) (by decide) (by decide)) (@pe_bl _ _ _ _) rfl) (@pss_one _ _ _ (@ps_ret _ _ _ _ (@pe_fld _ _ _ _ _ (@pe_fld _ _ _ _ _ (@pv _ 0 _ _ (by rfl) (by first
  | exact Or.inl rfl
  | exact Or.inr (Or.inl rfl)
  | exact Or.inr (Or.inr rfl)) (by decide) (by decide)) rfl) rfl)))), ?_⟩
    refine ⟨_, rfl, y, CSd, dy, _, rfl, hy, M.cl, M.nW, (by show 4 < 1000; decide), ?_⟩
    rw [sideF_waits]
    exact ⟨_, rfl, y, CSd, dy, _, _, rfl, upd_same, M.cl, M.nS, rfl, so, CS, dS, _, _, rfl, by rw [upd_ne nys]; exact hso, S.cl, S.nF, rfl, k⟩
end
end K14

set_option maxHeartbeats 4000000
set_option Elab.async false
set_option linter.all false
set_option maxRecDepth 100000
namespace K14
open PySem L2
/-! ### merged: what it tells -/
abbrev sTellMg : Stmt := (defBody s_merged).getD 2 (.Pass ⟨0, 0, 0, 0⟩)
abbrev fdMg (cl cw : Addr) (doc pm : Value) (c' : Addr) (ctv : Value) : FuncData := cloF "tell" "merged.<locals>.tell" (defArgs sTellMg) (defBody sTellMg) (defScope sTellMg) [("right", cw), ("left", cl)] doc pm c' ctv
def posMg : Pos := match sTellMg with | .FunctionDef _ _ _ _ _ _ _ _ _ p => p | _ => ⟨0, 0, 0, 0⟩
section
variable {P : Program} {w : World} {K : PySem.W.Frag} {mg : Str → Option Value} {base : Heap} {C CO CS CSd fI fD fSI fSA fDI fDL fDG : Addr}
def CelM (cl cw y1 y2 : Addr) (H : Hp) : Prop := H cl = some (.cel (some (.ref y1))) ∧ H cw = some (.cel (some (.ref y2)))
/-- the head that is told -/
def MgPick (CSd CS y1 y2 CO : Addr) (wt1 wt2 : Bool) (mk1 mk2 : V) (H : Hp) (Q : VK) (E : XK) : Prop :=
  (wt1 = false → wt2 = false → E (.ref CO) none H) ∧ (wt1 = false → wt2 = true → spGive CSd CS [.ref y2] H Q E) ∧ (wt1 = true → wt2 = false → spGive CSd CS [.ref y1] H Q E) ∧
  (wt1 = true → wt2 = true → ∃ i j, mk1 = .int i ∧ mk2 = .int j ∧ (j < i → spGive CSd CS [.ref y2] H Q E) ∧ (¬ j < i → spGive CSd CS [.ref y1] H Q E))
def spTellMg (t : Tt) (CSd CS : Addr) (n : Nat) (f cl cw : Addr) (doc pm : Value) (c' : Addr) (ctv : Value) : Sp := fun vs H Q E => vs = [] ∧ CloAt H f (fdMg cl cw doc pm c' ctv) c' "merged.<locals>.tell" [("right", cw), ("left", cl)] ∧
  ∃ (y1 y2 : Addr), CelM cl cw y1 y2 H ∧ spLook t CSd CS n [.ref y1] H (fun _ H1 => CelM cl cw y1 y2 H1 ∧ spLook t CSd CS n [.ref y2] H1 (fun _ H2 => CelM cl cw y1 y2 H2 ∧ ∃ dy1 so1 kv1 mk1 wt1 dy2 so2 kv2 mk2 wt2, H2 y1 = some (.ins CSd dy1 (sideF so1 kv1 mk1 wt1)) ∧ H2 y2 = some (.ins CSd dy2 (sideF so2 kv2 mk2 wt2)) ∧ MgPick CSd CS y1 y2 t.CO wt1 wt2 mk1 mk2 H2 Q E) E) E
theorem scTMg : CloScope [] [] ["right", "left"] (defScope sTellMg) := ⟨rfl, rfl, rfl, List.nodup_nil, List.nodup_nil, by decide +kernel, by decide +kernel, by decide +kernel, by decide +kernel, by decide +kernel⟩
theorem spLook_mono {t : Tt} {n : Nat} {vs : List V} {H : Hp} {Q Q' : VK} {E E' : XK} (h : spLook t CSd CS n vs H Q E) (hQ : ∀ v H', Q v H' → Q' v H') (hE : ∀ c d H', E c d H' → E' c d H') : spLook t CSd CS n vs H Q' E' := by
  obtain ⟨y, dy, so, kv, mk, wt, h1, h2, h3, h4⟩ := h
  refine ⟨y, dy, so, kv, mk, wt, h1, h2, fun z => hQ _ _ (h3 z), fun z => spAdv_mono (h4 z) (fun v H1 hv => ?_) hE⟩
  rcases hv with ⟨e, q⟩ | ⟨e, dS, r, x, g1, g2, q⟩
  · exact .inl ⟨e, hQ _ _ q⟩
  · exact .inr ⟨e, dS, r, x, g1, g2, keyOf_mono q (fun m H2 z => ⟨z.1, hQ _ _ z.2⟩) hE⟩
theorem ok_tellMg {f cl cw c' : Addr} {doc pm ctv : Value} {n : Nat} {fdL fdG : FuncData} (T : RowT K mg C CO fI fD) (M : SideT K mg CSd fDI fDL fDG) (GL : FnOk P w K mg base (CXo P w) (n + 3) fDL fdL ["self"] (spLook ⟨P, w, K, mg, base, C, CO⟩ CSd CS n)) (bL : Binds K fdL ["self"] []) (GG : FnOk P w K mg base (CXo P w) 1 fDG fdG ["self"] (spGive CSd CS)) (bG : Binds K fdG ["self"] []) :
    FnOk P w K mg base (CXo P w) (n + 4) f (fdMg cl cw doc pm c' ctv) [] (spTellMg ⟨P, w, K, mg, base, C, CO⟩ CSd CS n f cl cw doc pm c' ctv) := by
  refine clo_of (N := []) scTMg (fun vs H Q E h => ?_) (fun vs H Q E h => h.2.1) (fun A outer s H vs Q E hr h => ?_)
  · obtain ⟨rfl, _⟩ := h
    rfl
  · obtain ⟨rfl, hC, y1, y2, ⟨h1, h2⟩, h3⟩ := h
    have hr1 : Room 1 _ := hr.mono (by omega)
    refine ⟨_, (@pss_cons _ _ _ _ _ (@ps_expr _ _ _ _ (@pe_methX0 _ _ _ _ _ _ _ _ _ _ _ _ _ _ _ _ (@pe_cel _ _ (cl) _ (.inr rfl) rfl (by decide) (by decide)) M.cl M.mlk GL hr bL .nil (throws_E rfl) (by rfl)) (by rfl)) (@pss_cons _ _ _ _ _ (@ps_expr _ _ _ _ (@pe_methX0 _ _ _ _ _ _ _ _ _ _ _ _ _ _ _ _ (@pe_cel _ _ (cw) _ (.inr rfl) rfl (by decide) (by decide)) M.cl M.mlk GL hr bL .nil (throws_E rfl) (by rfl)) (by rfl)) (@pss_cons _ _ _ _ _ (@ps_if _ _ _ _ _ _ _ _ (@PW.pt _ _ _ (@pw_and _ _ _ _ _ _ _ (@pt_not _ _ _ _ (@pt_val _ _ _ (@pe_fld _ _ _ _ _ (@pe_cel _ _ (cl) _ (.inr rfl) rfl (by decide) (by decide)) rfl) (by intro _; rfl))) (@pw_and1 _ _ _ _ (@pt_not _ _ _ _ (@pt_val _ _ _ (@pe_fld _ _ _ _ _ (@pe_cel _ _ (cw) _ (.inr rfl) rfl (by decide) (by decide)) rfl) (by intro _; rfl)))))) (@pss_one _ _ _ (@ps_raise _ _ _ _ _ _ _ _ _ _ _ _ _ _ rfl rfl T.mgO T.exO PySem.F.excBase_ValueError (throws_E rfl) (@pa_Constant _ _ _ _ _ _ _ (@pe_str _ _ _ _) (@pa_nil _)) (by decide) (by rfl) (by rfl))) (@pss_nil _)) (@pss_cons _ _ _ _ _ (@ps_if _ _ _ _ _ _ _ _ (@PW.pt _ _ _ (@pw_or _ _ _ _ _ _ _ (@pt_not _ _ _ _ (@pt_val _ _ _ (@pe_fld _ _ _ _ _ (@pe_cel _ _ (cl) _ (.inr rfl) rfl (by decide) (by decide)) rfl) (by intro _; rfl))) (@pw_or1 _ _ _ _ (@PW.pt _ _ _ (@pw_and _ _ _ _ _ _ _ (@pt_val _ _ _ (@pe_fld _ _ _ _ _ (@pe_cel _ _ (cw) _ (.inr rfl) rfl (by decide) (by decide)) rfl) (by intro _; rfl)) (@pw_and1 _ _ _ _ (@pt_cmpR _ _ _ _ _ _ _ _ op_lt (@pe_fld _ _ _ _ _ (@pe_cel _ _ (cw) _ (.inr rfl) rfl (by decide) (by decide)) rfl) (@pe_fld _ _ _ _ _ (@pe_cel _ _ (cl) _ (.inr rfl) rfl (by decide) (by decide)) rfl) (nomark _)))))))) (@pss_one _ _ _ (@ps_ret _ _ _ _ (@pe_methX0 _ _ _ _ _ _ _ _ _ _ _ _ _ _ _ _ (@pe_cel _ _ (cw) _ (.inr rfl) rfl (by decide) (by decide)) M.cl M.mgv GG hr1 bG .nil (throws_E rfl) (by rfl)))) (@pss_nil _)) (@pss_one _ _ _ (@ps_ret _ _ _ _ (@pe_methX0 _ _ _ _ _ _ _ _ _ _ _ _ _ _ _ _ (@pe_cel _ _ (cl) _ (.inr rfl) rfl (by decide) (by decide)) M.cl M.mgv GG hr1 bG .nil (throws_E rfl) (by rfl)))))))), ?_⟩
    obtain ⟨y, dy, so, kv, mk, wt, e, q2, _⟩ := id h3
    obtain rfl : y1 = y := V.ref.inj (List.cons.inj e).1
    refine ⟨_, h1, y1, dy, _, rfl, q2, rfl, ?_⟩
    unfold tNil
    refine spLook_mono h3 (fun _ H1 z => ?_) fun _ _ _ he => he
    obtain ⟨⟨g1, g2⟩, h4⟩ := z
    obtain ⟨y', dy', so', kv', mk', wt', e', q2', _⟩ := id h4
    obtain rfl : y2 = y' := V.ref.inj (List.cons.inj e').1
    refine ⟨_, g2, y2, dy', _, rfl, q2', rfl, ?_⟩
    refine spLook_mono h4 (fun _ H2 z => ?_) fun _ _ _ he => he
    obtain ⟨⟨k1, k2⟩, dy1, so1, kv1, mk1, wt1, dy2, so2, kv2, mk2, wt2, e1, e2, p1, p2, p3, p4⟩ := z
    refine ⟨_, k1, y1, CSd, dy1, _, _, rfl, e1, M.cl, M.nW, rfl, wt1, rfl, ?_⟩
    cases wt1 with
    | false =>
      refine iteT ⟨_, k2, y2, CSd, dy2, _, _, rfl, e2, M.cl, M.nW, rfl, wt2, rfl, ?_⟩
      cases wt2 with
      | false => exact iteT ⟨(by show 1 ≤ sizeLine; decide), p1 rfl rfl⟩
      | true =>
        refine iteF ⟨_, k1, y1, CSd, dy1, _, _, rfl, e1, M.cl, M.nW, rfl, false, rfl, ?_⟩
        exact iteT (iteT ⟨_, k2, y2, dy2, _, rfl, e2, rfl, p2 rfl rfl⟩)
    | true =>
      refine iteF (iteF ⟨_, k1, y1, CSd, dy1, _, _, rfl, e1, M.cl, M.nW, rfl, true, rfl, iteF ⟨_, k2, y2, CSd, dy2, _, _, rfl, e2, M.cl, M.nW, rfl, wt2, rfl, ?_⟩⟩)
      cases wt2 with
      | false => exact iteF (iteF ⟨_, k1, y1, dy1, _, rfl, e1, rfl, p3 rfl rfl⟩)
      | true =>
        obtain ⟨i, j, rfl, rfl, pa, pb⟩ := p4 rfl rfl
        refine iteT ⟨_, k2, y2, CSd, dy2, _, _, rfl, e2, M.cl, M.nM, rfl, _, k1, y1, CSd, dy1, _, _, rfl, e1, M.cl, M.nM, rfl, _, _, rfl, rfl, _, rfl, ?_⟩
        by_cases hlt : j < i
        · rw [show decide (j < i) = true from decide_eq_true hlt]
          exact iteT ⟨_, k2, y2, dy2, _, rfl, e2, rfl, pa hlt⟩
        · rw [show decide (j < i) = false from decide_eq_false hlt]
          exact iteF ⟨_, k1, y1, dy1, _, rfl, e1, rfl, pb hlt⟩
def spMerged (C CSd CS Pt : Addr) : Sp := fun vs H Q _ => ∃ (r1 r2 : Addr) (kv : V), vs = [.ref r1, .ref r2, kv] ∧ Tab H Pt posMg "merged.<locals>.tell" ∧
  ∀ (m f c1 c2 y1 d1 so1 x1 y2 d2 so2 x2 c' dx : Addr) (doc pm ctv : Value) (H3 H' : Hp), Same H H3 → (∀ b ∈ [c1, c2, y1, so1, y2, so2], H b = none) → c1 ≠ c2 ∧ y1 ≠ y2 ∧ so1 ≠ so2 → H3 c1 = some (.cel (some (.ref y1))) → H3 c2 = some (.cel (some (.ref y2))) →
    H3 y1 = some (.ins CSd d1 (sideF so1 kv .non false)) → H3 so1 = some (.ins CS x1 (srcF r1 false .non)) → H3 y2 = some (.ins CSd d2 (sideF so2 kv .non false)) → H3 so2 = some (.ins CS x2 (srcF r2 false .non)) →
    RowM C H3 H' Pt posMg "merged.<locals>.tell" m f c' dx (fdMg c1 c2 doc pm c' ctv) [("right", c2), ("left", c1)] → Q (.ref m) H'
theorem scMerged : FnScopeC2 ["one", "other", "key", "tell"] ["one", "other", "key"] (defScope s_merged) := ⟨rfl, rfl, rfl, by decide +kernel, by decide +kernel, by decide +kernel, by decide +kernel, by decide +kernel, by decide +kernel⟩
theorem ok_merged {f cc Pt : Addr} {fd fdI fdDI fdS : FuncData} (F : Fun K "merged" "merged" s_merged f fd) (T : RowT K mg C CO fI fD) (FI : Fun K "__init__" "Row.__init__" sInit fI fdI) (bI : Binds K fdI ["self", "tell"] []) (hcode : fd.code = .ref cc)
    (hT : PySem.W.CodeHd base cc Pt ∧ mainGlobals ≠ Pt ∧ base.BuiltinsAt mg Pt) (M : SideT K mg CSd fDI fDL fDG) (S : SrcT K mg CS fSI fSA) (FS : Fun K "__init__" "Source.__init__" s_Source_init fSI fdS) (bS : Binds K fdS ["self", "row"] []) (FDI : Fun K "__init__" "Side.__init__" s_Side_init fDI fdDI) (bDI : Binds K fdDI ["self", "row", "key"] []) : FnOk P w K mg base (CXo P w) 5 f fd ["one", "other", "key"] (spMerged C CSd CS Pt) := by
  have GI : FnOk P w K mg base (CXo P w) 1 fI fdI ["self", "tell"] (spInit C) := ok_init FI T
  have GD : FnOk P w K mg base (CXo P w) 3 fDI fdDI ["self", "row", "key"] (spSdInit CSd CS) := ok_sdinit FDI M S FS bS
  refine F.okC2 scMerged (fun vs H Q E h => ?_) (fun cdv A outer s H vs Q E hcd hr h fresh => ?_)
  · obtain ⟨r1, r2, kv, rfl, _⟩ := h
    rfl
  · obtain ⟨r1, r2, kv, rfl, hTab, k⟩ := h
    have hcd' : cdv = .ref cc := hcd.symm.trans hcode
    have hr1 : Room 2 _ := hr.mono (by decide)
    refine ⟨_, (@pss_cons _ _ _ _ _ (@ps_asg _ _ _ _ _ _ (@pe_make _ _ _ _ _ _ _ _ _ _ _ _ _ _ _ _ _ M.mkr GD hr rfl M.mgC bDI .nil pass_no (@pa_Name _ _ _ _ _ _ (@pv _ 0 _ _ (by rfl) (by first
  | exact Or.inl rfl
  | exact Or.inr (Or.inl rfl)
  | exact Or.inr (Or.inr rfl)) (by decide) (by decide)) (@pa_Name _ _ _ _ _ _ (@pv _ 2 _ _ (by rfl) (by first
  | exact Or.inl rfl
  | exact Or.inr (Or.inl rfl)
  | exact Or.inr (Or.inr rfl)) (by decide) (by decide)) (@pa_nil _))) (by decide) (by rfl) (by rfl)) (@pg_cel _ _ (s.heap.objs.size + 1) _ (.inl rfl) rfl) (by rfl) (by rfl) (by rfl)) (@pss_cons _ _ _ _ _ (@ps_asg _ _ _ _ _ _ (@pe_make _ _ _ _ _ _ _ _ _ _ _ _ _ _ _ _ _ M.mkr GD hr rfl M.mgC bDI .nil pass_no (@pa_Name _ _ _ _ _ _ (@pv _ 1 _ _ (by rfl) (by first
  | exact Or.inl rfl
  | exact Or.inr (Or.inl rfl)
  | exact Or.inr (Or.inr rfl)) (by decide) (by decide)) (@pa_Name _ _ _ _ _ _ (@pv _ 2 _ _ (by rfl) (by first
  | exact Or.inl rfl
  | exact Or.inr (Or.inl rfl)
  | exact Or.inr (Or.inr rfl)) (by decide) (by decide)) (@pa_nil _))) (by decide) (by rfl) (by rfl)) (@pg_cel _ _ (s.heap.objs.size + 2) _ (.inl rfl) rfl) (by rfl) (by rfl) (by rfl)) (@pss_cons _ _ _ _ _ (@ps_def _ (cc) (Pt) _ ("merged.<locals>.tell") _ _ _ ([("right", s.heap.objs.size + 2), ("left", s.heap.objs.size + 1)]) _ (3) scMerged.nd rfl rfl ⟨hcd', hT.1, hT.2.1, hT.2.2⟩ (by kernel_rfl) (by rfl) rfl rfl rfl) (@pss_one _ _ _ (@ps_ret _ _ _ _ (@pe_make _ _ _ _ _ _ _ _ _ _ _ _ _ _ _ _ _ T.mkr GI hr1 rfl T.mgC bI .nil pass_no (@pa_Name _ _ _ _ _ _ (@pv _ 3 _ _ (by rfl) (by first
  | exact Or.inl rfl
  | exact Or.inr (Or.inl rfl)
  | exact Or.inr (Or.inr rfl)) (by decide) (by decide)) (@pa_nil _)) (by decide) (by rfl) (by rfl))))))), ?_⟩
    have C0 : CelO H (Hcel (fun x => (([("one" : Str), "other", "key"] : List Str).zip [V.ref r1, .ref r2, kv]).lookup x) (hcl ["one", "other", "key", "tell"] (s.heap.objs.size + 1) (defScope s_merged).names) H) [(s.heap.objs.size + 1, none), (s.heap.objs.size + 2, none)] := (CelO.start (H := H) (b := fun x => (([("one" : Str), "other", "key"] : List Str).zip [V.ref r1, .ref r2, kv]).lookup x) (cs := [("right", s.heap.objs.size + 2), ("left", s.heap.objs.size + 1)]) (by simp) (by simp [fresh])).rev
    generalize Hcel (fun x => (([("one" : Str), "other", "key"] : List Str).zip [V.ref r1, .ref r2, kv]).lookup x) (hcl ["one", "other", "key", "tell"] (s.heap.objs.size + 1) (defScope s_merged).names) H = H0 at C0 ⊢
    generalize s.heap.objs.size + 1 = c1 at C0 ⊢
    generalize s.heap.objs.size + 2 = c2 at C0 ⊢
    refine ⟨_, rfl, _, rfl, fun y1 d1 hy1 hd1 n1 => ⟨y1, d1, r1, kv, rfl, upd_same, fun so1 x1 H1 hso1 hx1 ns1 ey1 eso1 kp1 => ⟨rfl, ?_⟩⟩⟩
    have sm1 : Same H0 (upd (upd H0 d1 (.own y1)) y1 (.ins CSd d1 [])) := fun b o e => by rw [upd_ne (ne_of_none e hy1), upd_ne (ne_of_none e hd1)]; exact e
    have s01 : Same H0 H1 := fun b o e => kp1 b o (sm1 _ _ e) (ne_of_none e hy1)
    have C1 := C0.grow s01
    refine ⟨C1.at 0 rfl, ?_⟩
    have C2 := C1.put (u := .ref y1) 0 rfl
    have fy1 : upd H1 c1 (.cel (some (.ref y1))) y1 = some (.ins CSd d1 (sideF so1 kv .non false)) := by rw [upd_ne (ne_of ey1 (C1.get 0 rfl) fun z => nomatch z)]; exact ey1
    have fso1 : upd H1 c1 (.cel (some (.ref y1))) so1 = some (.ins CS x1 (srcF r1 false .non)) := by rw [upd_ne (ne_of eso1 (C1.get 0 rfl) fun z => nomatch z)]; exact eso1
    generalize upd H1 c1 (.cel (some (.ref y1))) = H2 at C2 fy1 fso1 ⊢
    refine ⟨_, rfl, _, rfl, fun y2 d2 hy2 hd2 n2 => ⟨y2, d2, r2, kv, rfl, upd_same, fun so2 x2 H3 hso2 hx2 ns2 ey2 eso2 kp2 => ⟨rfl, ?_⟩⟩⟩
    have sm2 : Same H2 (upd (upd H2 d2 (.own y2)) y2 (.ins CSd d2 [])) := fun b o e => by rw [upd_ne (ne_of_none e hy2), upd_ne (ne_of_none e hd2)]; exact e
    have s23 : Same H2 H3 := fun b o e => kp2 b o (sm2 _ _ e) (ne_of_none e hy2)
    have C3 := C2.grow s23
    refine ⟨C3.at 1 rfl, ?_⟩
    have C4 := C3.put (u := .ref y2) 1 rfl
    have kp4 : ∀ {b o}, H3 b = some o → (∀ v, o ≠ .cel v) → upd H3 c2 (.cel (some (.ref y2))) b = some o := fun {b o} e n => by rw [upd_ne (ne_of e (C3.get 1 rfl) (n _))]; exact e
    have gy1 := kp4 (s23 _ _ fy1) fun v z => nomatch z
    have gso1 := kp4 (s23 _ _ fso1) fun v z => nomatch z
    have gy2 := kp4 ey2 fun v z => nomatch z
    have gso2 := kp4 eso2 fun v z => nomatch z
    generalize upd H3 c2 (.cel (some (.ref y2))) = H4 at C4 gy1 gso1 gy2 gso2 ⊢
    have n12 : c1 ≠ c2 := C4.diff (i := 0) (j := 1) rfl rfl (by decide)
    refine ⟨hTab.same C4.same, fun f c' doc pm ctv H' hf hc ncf eP eC eF eO => ?_⟩
    have D := DefM.of (hTab.same C4.same) hf hc eP eC eF eO
    refine ⟨_, rfl, fun m dx hr0 hdx ndx => ⟨m, dx, f, rfl, upd_same, rfl, ?_⟩⟩
    rw [upd_upd]
    refine k m f c1 c2 y1 d1 so1 x1 y2 d2 so2 x2 c' dx doc pm ctv H4 _ C4.same (fun b hb => ?_) ⟨n12, ne_of_none fy1 hy2, ne_of_none (sm2 _ _ fso1) hso2⟩ (C4.get 0 rfl) (C4.get 1 rfl) gy1 gso1 gy2 gso2 (RowM.of (hTab.same C4.same) D hr0 hdx (fun p hp => ?_) (by simp [n12, n12.symm]))
    · simp only [List.mem_cons, List.not_mem_nil, or_false] at hb
      rcases hb with rfl | rfl | rfl | rfl | rfl | rfl
      · exact C4.new _ (.head _)
      · exact C4.new _ (.tail _ (.head _))
      · exact C0.same.free hy1
      · exact C0.same.free (sm1.free hso1)
      · exact C2.same.free hy2
      · exact C2.same.free (sm2.free hso2)
    · simp only [List.mem_cons, List.not_mem_nil, or_false] at hp
      rcases hp with rfl | rfl
      · exact C4.at 1 rfl
      · exact C4.at 0 rfl
end
end K14

set_option maxHeartbeats 4000000
set_option Elab.async false
set_option linter.all false
set_option maxRecDepth 100000
namespace K14
open PySem L2
/-! ### the law's key, which notes what it is asked -/
abbrev sCallKy : Stmt := (defBody s__law_key).getD 0 (.Pass ⟨0, 0, 0, 0⟩)
abbrev fdKy (cl : Addr) (doc pm : Value) (c' : Addr) (ctv : Value) : FuncData := cloF "_law_call" "_law_key.<locals>._law_call" (defArgs sCallKy) (defBody sCallKy) (defScope sCallKy) [("_law_log", cl)] doc pm c' ctv
def posKy : Pos := match sCallKy with | .FunctionDef _ _ _ _ _ _ _ _ _ p => p | _ => ⟨0, 0, 0, 0⟩
section
variable {P : Program} {w : World} {K : PySem.W.Frag} {mg : Str → Option Value} {base : Heap}
def spKeyCall (f cl : Addr) (doc pm : Value) (c' : Addr) (ctv : Value) : Sp := fun vs H Q _ => ∃ (t lg : Addr) (ls : List V) (a b : Int), vs = [.ref t] ∧ CloAt H f (fdKy cl doc pm c' ctv) c' "_law_key.<locals>._law_call" [("_law_log", cl)] ∧ H cl = some (.cel (some (.ref lg))) ∧ H lg = some (.lst ls) ∧ H t = some (.tup [.int a, .int b]) ∧ ls.length < 100000 ∧ Q (.int a) (upd H lg (.lst (ls ++ [.int b])))
theorem scCKy : CloScope ["_law_one"] ["_law_one"] ["_law_log"] (defScope sCallKy) := ⟨rfl, rfl, rfl, by decide +kernel, by decide +kernel, by decide +kernel, by decide +kernel, by decide +kernel, by decide +kernel, by decide +kernel⟩
theorem ok_keycall {f cl c' : Addr} {doc pm ctv : Value} : FnOk P w K mg base (CXo P w) 1 f (fdKy cl doc pm c' ctv) ["_law_one"] (spKeyCall f cl doc pm c' ctv) := by
  refine clo_of (N := ["_law_one"]) scCKy (fun vs H Q E h => ?_) (fun vs H Q E h => ?_) (fun A outer s H vs Q E hr h => ?_)
  · obtain ⟨t, lg, ls, a, b, rfl, _⟩ := h
    rfl
  · obtain ⟨t, lg, ls, a, b, _, hC, _⟩ := h
    exact hC
  · obtain ⟨t, lg, ls, a, b, rfl, hC, h1, h2, h3, h4, q⟩ := h
    have big : sizeLine = 16777216 := sizeLine_eq
    refine ⟨_, (@pss_cons _ _ _ _ _ (@ps_expr _ _ _ _ (@pe_bm _ _ _ _ _ _ _ _ _ _ _ _ PySem.F.plainAttrs_list PySem.F.slot_list_append PySem.F.type_list_append mt_append (@pe_cel _ _ (cl) _ (.inr rfl) rfl (by decide) (by decide)) (@pa_Subscript _ _ _ _ _ _ _ (@pe_ix _ _ _ _ _ _ (rIxT K) ix_tup (@pv _ 0 _ _ (by rfl) (by first
  | exact Or.inl rfl
  | exact Or.inr (Or.inl rfl)
  | exact Or.inr (Or.inr rfl)) (by decide) (by decide)) (@pe_int _ _ _ _) (fun _ _ => rfl)) (@pa_nil _)) (by rfl) (by rfl) (by rfl) (by rfl) (by rfl)) (by rfl)) (@pss_one _ _ _ (@ps_ret _ _ _ _ (@pe_ix _ _ _ _ _ _ (rIxT K) ix_tup (@pv _ 0 _ _ (by rfl) (by first
  | exact Or.inl rfl
  | exact Or.inr (Or.inl rfl)
  | exact Or.inr (Or.inr rfl)) (by decide) (by decide)) (@pe_int _ _ _ _) (fun _ _ => rfl))))), ?_⟩
    refine ⟨_, h1, .inl ⟨rfl, _, SqL.of h2⟩, _, rfl, t, _, _, _, rfl, rfl, SqT.of h3, rfl, lg, _, _, rfl, rfl, h2, by rw [big]; omega, ?_⟩
    have n : t ≠ lg := ne_of h3 h2 fun z => nomatch z
    exact ⟨_, rfl, t, _, _, _, rfl, rfl, SqT.of (by rw [upd_ne n]; exact h3), rfl, q⟩
def spLawKey (Pt : Addr) : Sp := fun vs H Q _ => ∃ (lg : Addr), vs = [.ref lg] ∧ Tab H Pt posKy "_law_key.<locals>._law_call" ∧
  ∀ (f cl c' : Addr) (doc pm ctv : Value) (H3 H' : Hp), Same H H3 → H cl = none → H3 cl = some (.cel (some (.ref lg))) → DefM H3 H' Pt posKy "_law_key.<locals>._law_call" f c' (fdKy cl doc pm c' ctv) → Q (.ref f) H'
theorem scLawKey : FnScopeC ["_law_call"] ["_law_log"] (defScope s__law_key) := ⟨rfl, rfl, rfl, by decide +kernel, by decide +kernel, by decide +kernel, by decide +kernel, by decide +kernel, by decide +kernel⟩
theorem ok_lawkey {f cc Pt : Addr} {fd : FuncData} (F : Fun K "_law_key" "_law_key" s__law_key f fd) (hcode : fd.code = .ref cc) (hT : PySem.W.CodeHd base cc Pt ∧ mainGlobals ≠ Pt ∧ base.BuiltinsAt mg Pt) : FnOk P w K mg base (CXo P w) 1 f fd ["_law_log"] (spLawKey Pt) := by
  refine F.okC scLawKey (fun vs H Q E h => ?_) (fun cdv A outer s H vs Q E hcd hr h fresh => ?_)
  · obtain ⟨lg, rfl, _⟩ := h
    rfl
  · obtain ⟨lg, rfl, hTab, k⟩ := h
    have hcd' : cdv = .ref cc := hcd.symm.trans hcode
    refine ⟨_, (@pss_cons _ _ _ _ _ (@ps_def _ (cc) (Pt) _ ("_law_key.<locals>._law_call") _ _ _ ([("_law_log", s.heap.objs.size + 1)]) _ (0) scLawKey.nd rfl rfl ⟨hcd', hT.1, hT.2.1, hT.2.2⟩ (by kernel_rfl) (by rfl) rfl rfl rfl) (@pss_one _ _ _ (@ps_ret _ _ _ _ (@pv _ 0 _ _ (by rfl) (by first
  | exact Or.inl rfl
  | exact Or.inr (Or.inl rfl)
  | exact Or.inr (Or.inr rfl)) (by decide) (by decide))))), ?_⟩
    have C0 : CelO H (Hcel (fun x => (([("_law_log" : Str)] : List Str).zip [V.ref lg]).lookup x) (cellsFrom (s.heap.objs.size + 1) (defScope s__law_key).names []) H) [(s.heap.objs.size + 1, some (.ref lg))] := (CelO.start (H := H) (b := fun x => (([("_law_log" : Str)] : List Str).zip [V.ref lg]).lookup x) (cs := [("_law_log", s.heap.objs.size + 1)]) (by simp) (by simp [fresh])).rev
    generalize Hcel (fun x => (([("_law_log" : Str)] : List Str).zip [V.ref lg]).lookup x) (cellsFrom (s.heap.objs.size + 1) (defScope s__law_key).names []) H = H0 at C0 ⊢
    generalize s.heap.objs.size + 1 = c1 at C0 ⊢
    refine ⟨hTab.same C0.same, fun f c' doc pm ctv H' hf hc ncf eP eC eF eO => ⟨_, rfl, k f c1 c' doc pm ctv H0 H' C0.same (C0.new _ (.head _)) (C0.get 0 rfl) (DefM.of (hTab.same C0.same) hf hc eP eC eF eO)⟩⟩
end
end K14

set_option maxHeartbeats 4000000
set_option Elab.async false
set_option linter.all false
set_option maxRecDepth 100000
namespace K14
open PySem L2
/-! ### the law's pairs -/
section
variable {P : Program} {w : World} {K : PySem.W.Frag} {mg : Str → Option Value} {base : Heap}
theorem at_in14 {l : List V} {i : Int} (h0 : 0 ≤ i) (h1 : i < (l.length : Int)) : ∃ (j : Nat) (v : V), i = (j : Int) ∧ l[j]? = some v ∧ v ∈ l := by
  have hj : i.toNat < l.length := by omega
  exact ⟨i.toNat, l[i.toNat], by omega, List.getElem?_eq_getElem hj, List.getElem_mem hj⟩
theorem But.free {p q : Addr} {len : Nat} {H H1 H2 : Hp} (B1 : But p q H H1) (C2 : But p q H1 H2) (S : HS H p q len) (S1 : HS H1 p q len) {b : Addr} (e : H2 b = none) (S2 : HS H2 p q len := by assumption) : H b = none := by
  cases h : H b with
  | none => rfl
  | some o =>
    by_cases z1 : b = p
    · obtain ⟨_, y⟩ := S2.p
      rw [← z1, e] at y; cases y
    · by_cases z2 : b = q
      · obtain ⟨_, y⟩ := S2.q
        rw [← z2, e] at y; cases y
      · rw [C2 b o (B1 b o h z1 z2) z1 z2] at e; cases e
def spLawPairs : Sp := fun vs H Q _ => ∃ (p q : Addr) (len : Nat) (side : Int), vs = [.ref p, .int side] ∧ 0 < side ∧ side < 10 ∧ HS H p q len ∧
  ∀ H' l ts ps, HS H' p q len → But p q H H' → H l = none → H' l = some (.lst (ts.map V.ref)) → PrA H' ts ps → (∀ t ∈ ts, H t = none) → ps.length ≤ 9 → ps.map (·.2) = (List.range ps.length).map (fun (k : Nat) => side * 100 + (k : Int)) → Q (.ref l) H'
theorem scLawPairs : FnScope ["_law_h", "_law_side", "_law_by", "_law_k"] ["_law_h", "_law_side"] (defScope s__law_pairs) := ⟨rfl, rfl, rfl, by decide +kernel, rfl, by decide +kernel, by decide +kernel⟩
theorem ok_lawpairs {f fN : Addr} {fd fdN : FuncData} (F : Fun K "_law_pairs" "_law_pairs" s__law_pairs f fd) (B : Blt mg) (FN : Fun K "_law_next" "_law_next" sNext fN fdN) (mN : mg "_law_next" = some (.ref fN)) (bN : Binds K fdN ["_law_h", "_law_many"] []) : FnOk P w K mg base (CXo P w) 2 f fd ["_law_h", "_law_side"] spLawPairs := by
  have GN : FnOk P w K mg base (CXo P w) 1 fN fdN ["_law_h", "_law_many"] spNext := ok_next FN B
  refine F.okX scLawPairs (fun vs H Q E h => ?_) (fun cdv A outer s H vs Q E hr h => ?_)
  · obtain ⟨p, q, len, side, rfl, _⟩ := h
    rfl
  · obtain ⟨p, q, len, side, rfl, sd0, sd1, S, k⟩ := h
    have big : sizeLine = 16777216 := sizeLine_eq
    refine ⟨_, (@pss_cons _ _ _ _ _ (@ps_set _ _ (2) _ _ _ _ scLawPairs.nd rfl (Or.inr rfl) (@pe_ix _ _ _ _ _ _ _ ix_list (@pe_lst _ _ _ _ (@pa_Constant _ _ _ _ _ _ _ (@pe_int _ _ _ _) (@pa_Constant _ _ _ _ _ _ _ (@pe_int _ _ _ _) (@pa_Constant _ _ _ _ _ _ _ (@pe_int _ _ _ _) (@pa_nil _))))) (@pe_call _ _ _ _ _ _ _ _ _ _ _ _ _ _ _ _ GN hr rfl mN FN.kp bN .nil pass_no (@pa_Name _ _ _ _ _ _ (@pv _ 0 _ _ (by rfl) (by first
  | exact Or.inl rfl
  | exact Or.inr (Or.inl rfl)
  | exact Or.inr (Or.inr rfl)) (by decide) (by decide)) (@pa_Constant _ _ _ _ _ _ _ (@pe_int _ _ _ _) (@pa_nil _))) (by decide) (by rfl) (by rfl)) (fun _ _ => rfl)) (by rfl) (by first
  | exact .inl rfl
  | exact .inr rfl
  | assumption)) (@pss_one _ _ _ (@ps_ret _ _ _ _ (@pe_lc _ _ _ _ _ _ ([("_law_k", 3)]) _ _ (gName 3) _ _ (by rfl) scLawPairs.nd (@pi_range1 _ _ _ _ _ _ (by rfl) B.range (@pa_Call _ _ _ _ _ _ _ _ (@pe_call _ _ _ _ _ _ _ _ _ _ _ _ _ _ _ _ GN hr rfl mN FN.kp bN .nil pass_no (@pa_Name _ _ _ _ _ _ (@pv _ 0 _ _ (by rfl) (by first
  | exact Or.inl rfl
  | exact Or.inr (Or.inl rfl)
  | exact Or.inr (Or.inr rfl)) (by decide) (by decide)) (@pa_Constant _ _ _ _ _ _ _ (@pe_int _ _ _ _) (@pa_nil _))) (by decide) (by rfl) (by rfl)) (@pa_nil _)) (by rfl)) (blkOk_by (own := [("_law_k", 3)]) (N := ["_law_h", "_law_side", "_law_by", "_law_k"]) (by kernel_rfl)) (fun _ _ _ _ _ => @pg_name _ _ (3) _ scLawPairs.nd rfl (Or.inl rfl) (by first
  | exact .inl rfl
  | exact .inr rfl
  | assumption)) (fun _ _ _ _ _ => @pts_nil _) (fun _ _ _ _ _ => (@pe_tup _ _ _ _ _ (@pa_BinOp _ _ _ _ _ _ _ _ (@pe_op _ _ _ _ _ _ _ _ op_mul (@pe_call _ _ _ _ _ _ _ _ _ _ _ _ _ _ _ _ GN hr rfl mN FN.kp bN .nil pass_no (@pa_Name _ _ _ _ _ _ (@pv _ 0 _ _ (by rfl) (by first
  | exact Or.inl rfl
  | exact Or.inr (Or.inl rfl)
  | exact Or.inr (Or.inr rfl)) (by decide) (by decide)) (@pa_Subscript _ _ _ _ _ _ _ (@pe_ix _ _ _ _ _ _ (rIxL K) ix_list (@pe_lst _ _ _ _ (@pa_Constant _ _ _ _ _ _ _ (@pe_int _ _ _ _) (@pa_Constant _ _ _ _ _ _ _ (@pe_int _ _ _ _) (@pa_nil _)))) (@pe_call _ _ _ _ _ _ _ _ _ _ _ _ _ _ _ _ GN hr rfl mN FN.kp bN .nil pass_no (@pa_Name _ _ _ _ _ _ (@pv _ 0 _ _ (by rfl) (by first
  | exact Or.inl rfl
  | exact Or.inr (Or.inl rfl)
  | exact Or.inr (Or.inr rfl)) (by decide) (by decide)) (@pa_Constant _ _ _ _ _ _ _ (@pe_int _ _ _ _) (@pa_nil _))) (by decide) (by rfl) (by rfl)) (fun _ _ => rfl)) (@pa_nil _))) (by decide) (by rfl) (by rfl)) (@pv _ 2 _ _ (by rfl) (by first
  | exact Or.inl rfl
  | exact Or.inr (Or.inl rfl)
  | exact Or.inr (Or.inr rfl)) (by decide) (by decide))) (@pa_BinOp _ _ _ _ _ _ _ _ (@pe_op _ _ _ _ _ _ _ _ op_add (@pe_op _ _ _ _ _ _ _ _ op_mul (@pv _ 1 _ _ (by rfl) (by first
  | exact Or.inl rfl
  | exact Or.inr (Or.inl rfl)
  | exact Or.inr (Or.inr rfl)) (by decide) (by decide)) (@pe_int _ _ _ _)) (@pv _ 3 _ _ (by rfl) (by first
  | exact Or.inl rfl
  | exact Or.inr (Or.inl rfl)
  | exact Or.inr (Or.inr rfl)) (by decide) (by decide))) (@pa_nil _))))) (by intro _; rfl))))), ?_⟩
    have npq : ∀ {b : Addr} {H1 : Hp}, HS H1 p q len → H1 b = none → b ≠ p ∧ b ≠ q := fun {b H1} S1 e => ⟨(fun z => by obtain ⟨_, y⟩ := S1.p; rw [← z, e] at y; cases y), (fun z => by obtain ⟨_, y⟩ := S1.q; rw [← z, e] at y; cases y)⟩
    refine ⟨by rw [big]; show 3 ≤ 16777216; decide, fun D hD => ⟨_, rfl, p, q, len, 3, rfl, S.same (same_alloc hD), by decide, by decide, fun r1 H1 c1 d1 S1 C1 => ?_⟩⟩
    have eD : H1 D = some (.lst [.int 1, .int 1, .int 700]) := C1 _ _ upd_same (npq S hD).1 (npq S hD).2
    obtain ⟨j, v, ej, hv, mv⟩ := at_in14 (l := [V.int 1, .int 1, .int 700]) c1 d1
    subst ej
    obtain ⟨by', rfl, by0, by1⟩ : ∃ b : Int, v = .int b ∧ 0 < b ∧ b ≤ 700 := by
      simp only [List.mem_cons, List.not_mem_nil, or_false] at mv
      rcases mv with rfl | rfl | rfl <;> exact ⟨_, rfl, by decide, by decide⟩
    refine ⟨D, _, _, _, rfl, rfl, SqL.of eD, atI_nat hv, ?_⟩
    have B1 : But p q H H1 := fun b o e n1 n2 => C1 b o (same_alloc hD _ _ e) n1 n2
    refine ⟨_, rfl, p, q, len, 10, rfl, S1, by decide, by decide, fun r2 H2 c2 d2 S2 C2 => ?_⟩
    refine ⟨r2, rfl, by omega, by omega, fun l hl => lc_range (lo := 0) (n := r2.toNat) (fun i H' => ∃ ts ps, ps.length = i ∧ HS H' p q len ∧ H' l = some (.lst (ts.map V.ref)) ∧ PrA H' ts ps ∧ (∀ t ∈ ts, H2 t = none) ∧ ps.map (·.2) = (List.range i).map (fun (k : Nat) => side * 100 + (k : Int)) ∧ ∀ b o, H2 b = some o → b ≠ p → b ≠ q → H' b = some o)
      ⟨[], [], rfl, S2.same (same_alloc hl), upd_same, .nil, fun t ht => absurd ht List.not_mem_nil, rfl, fun b o e _ _ => same_alloc hl _ _ e⟩ ?_ ?_⟩
    · rintro i H3 hi ⟨ts, ps, hl3, S3, e3, P3, f3, m3, k3⟩
      have nl := npq S2 hl
      refine ⟨rfl, tYes_if ⟨_, rfl, by rw [big]; show 2 ≤ 16777216; decide, fun D2 hD2 => ⟨_, rfl, p, q, len, 2, rfl, S3.same (same_alloc hD2), by decide, by decide, fun r4 H4 c4 d4 S4 C4 => ?_⟩⟩⟩
      have n2' := npq S3 hD2
      have eD2 := C4 _ _ upd_same n2'.1 n2'.2
      obtain ⟨j4, v4, ej4, hv4, mv4⟩ := at_in14 (l := [V.int 4, .int 30]) c4 d4
      subst ej4
      obtain ⟨n4, rfl, n40, n41⟩ : ∃ b : Int, v4 = .int b ∧ 0 < b ∧ b ≤ 30 := by
        simp only [List.mem_cons, List.not_mem_nil, or_false] at mv4
        rcases mv4 with rfl | rfl <;> exact ⟨_, rfl, by decide, by decide⟩
      refine ⟨D2, _, _, _, rfl, rfl, SqL.of eD2, atI_nat hv4, p, q, len, n4, rfl, S4, n40, by omega, fun z H5 z0 z1 S5 C5 => ⟨_, rfl, _, _, rfl, rfl, ?_, _, rfl, _, _, rfl, rfl, ?_, _, rfl, _, _, rfl, rfl, by rw [big]; show 2 ≤ 16777216; decide, fun t ht => ?_⟩⟩
      · exact .inr ⟨by omega, by omega⟩
      · exact .inr ⟨by decide, by decide⟩
      · have k5 : ∀ b o, H3 b = some o → b ≠ p → b ≠ q → H5 b = some o := fun b o e n1 n2 => C5 _ _ (C4 _ _ (same_alloc hD2 _ _ e) n1 n2) n1 n2
        have st := same_alloc (o := .tup [.int (z * by'), .int (side * 100 + (0 + (i : Int)))]) ht
        have el := st _ _ (k5 _ _ e3 nl.1 nl.2)
        have kt : ∀ b xs, H3 b = some (.tup xs) → upd (upd H5 t (.tup [.int (z * by'), .int (side * 100 + (0 + (i : Int)))])) l (.lst (ts.map V.ref ++ [.ref t])) b = some (.tup xs) := fun b xs e => by
          obtain ⟨_, hp⟩ := S3.p
          obtain ⟨_, hq⟩ := S3.q
          rw [upd_ne (ne_of e e3 fun z => nomatch z)]
          exact st _ _ (k5 _ _ e (ne_of e hp fun z => nomatch z) (ne_of e hq fun z => nomatch z))
        have ntl : t ≠ l := (ne_of_none (k5 _ _ e3 nl.1 nl.2) ht).symm
        refine ⟨_, el, by rw [List.length_map, P3.len, big]; omega, ts ++ [t], ps ++ [(z * by', side * 100 + (0 + (i : Int)))], by simp [hl3], (S5.same st).kept fun b xs e y => by rw [upd_ne (y.elim (fun y => by rw [y]; exact nl.1.symm) fun y => by rw [y]; exact nl.2.symm)]; exact e, by rw [List.map_append]; exact upd_same, (P3.same kt).snoc (by rw [upd_ne ntl, upd_same]), fun t' ht' => ?_, ?_, fun b o e n1 n2 => ?_⟩
        · rcases List.mem_append.mp ht' with ht' | ht'
          · exact f3 t' ht'
          · rw [List.mem_singleton.mp ht']
            cases hh : H2 t with
            | none => rfl
            | some o =>
              exfalso
              by_cases y1 : t = p
              · obtain ⟨_, y⟩ := S5.p
                rw [← y1, ht] at y; cases y
              · by_cases y2 : t = q
                · obtain ⟨_, y⟩ := S5.q
                  rw [← y2, ht] at y; cases y
                · rw [k5 _ _ (k3 _ _ hh y1 y2) y1 y2] at ht; cases ht
        · rw [List.map_append, m3, List.range_succ, List.map_append]
          simp
        · rw [upd_ne (ne_of_none e hl)]
          exact st _ _ (k5 _ _ (k3 _ _ e n1 n2) n1 n2)
    · rintro H3 ⟨ts, ps, hl3, S3, e3, P3, f3, m3, k3⟩
      have hr2 : r2.toNat ≤ 9 := by omega
      refine k H3 l ts ps S3 (fun b o e n1 n2 => k3 b o (C2 b o (B1 b o e n1 n2) n1 n2) n1 n2) ?_ e3 P3 (fun t ht => ?_) (by omega) (by rw [hl3]; exact m3)
      · exact But.free B1 C2 S S1 hl
      · exact But.free B1 C2 S S1 (f3 t ht)
end
end K14

set_option maxHeartbeats 4000000
set_option Elab.async false
set_option linter.all false
set_option maxRecDepth 100000
namespace K14
open PySem L2
/-! ### two heads -/
structure SdA where
  y : Addr
  d : Addr
  so : Addr
  x : Addr
  r : Addr
  dx : Addr
  f : Addr
  cc : Addr
  l : Addr
  c' : Addr
  doc : Value
  pm : Value
  ctv : Value
structure SdS where
  mark : V
  wt : Bool
  e : Bool
  v : V
  o : Bool
  ts : List Addr
structure KyA where
  g : Addr
  ck : Addr
  c' : Addr
  doc : Value
  pm : Value
  ctv : Value
def sdO (C CSd CS : Addr) (kv : V) (A : SdA) (s : SdS) : List (Addr × HO) := [(A.y, .ins CSd A.d (sideF A.so kv s.mark s.wt)), (A.so, .ins CS A.x (srcF A.r s.e s.v)), (A.r, .ins C A.dx (rowF A.f s.o)), (A.cc, .cel (some (.ref A.l))), (A.l, .lst (s.ts.map V.ref).reverse)]
def sdX (A : SdA) : List (Addr × HO) := [(A.f, cloO A.f (fd0 A.cc A.doc A.pm A.c' A.ctv)), (A.c', codO A.c' "listed.<locals>.tell")]
/-- what is asked anew -/
def nw (s : SdS) (ps : List (Int × Int)) : List V := if s.wt = true then [] else (ps.take 1).map fun x => V.int x.2
theorem nw_wt {s : SdS} {ps : List (Int × Int)} (h : s.wt = true) : nw s ps = [] := if_pos h
theorem nw_nil {s : SdS} : nw s [] = [] := by unfold nw; split <;> rfl
theorem nw_cons {s : SdS} {a b : Int} {ps : List (Int × Int)} (h : s.wt = false) : nw s ((a, b) :: ps) = [.int b] := by unfold nw; rw [if_neg (by rw [h]; decide)]; rfl
def kyX (A : KyA) : List (Addr × HO) := [(A.g, cloO A.g (fdKy A.ck A.doc A.pm A.c' A.ctv)), (A.c', codO A.c' "_law_key.<locals>._law_call")]
/-- what a side's state stands for: the pairs that are left -/
inductive SdOk (H : Hp) : SdS → List (Int × Int) → Prop
  | rest {mk v ts ps e o} : PrA H ts ps → (e = true → ts = []) → (o = true → ts = []) → SdOk H ⟨mk, false, e, v, o, ts⟩ ps
  | wait {t a b ts ps} : H t = some (.tup [.int a, .int b]) → PrA H ts ps → SdOk H ⟨.int a, true, false, .ref t, false, ts⟩ ((a, b) :: ps)
theorem SdOk.kp {H H' : Hp} {s : SdS} {ps : List (Int × Int)} (h : SdOk H s ps) (k : KpC H H') : SdOk H' s ps := by
  cases h with
  | rest a b c => exact .rest (a.same fun b xs e => k _ _ e rfl) b c
  | wait a b => exact .wait (k _ _ a rfl) (b.same fun b xs e => k _ _ e rfl)
section
variable {P : Program} {w : World} {K : PySem.W.Frag} {mg : Str → Option Value} {base : Heap} {C CO CS CSd fI fD fSI fSA fDI fDL fDG : Addr} {T : List (Addr × Pos × Str)} {p q : Addr} {len : Nat} {W : Ap} {H : Hp} {kv : V} {A : SdA} {s : SdS} {rl : List (Addr × HO)} {Q : VK} {E : XK}
theorem clo_sd (Kw : Kn T p q len (sdO C CSd CS kv A s ++ rl) W H) (hx : XF (sdX A) H) : CloAt H A.f (fd0 A.cc A.doc A.pm A.c' A.ctv) A.c' "listed.<locals>.tell" [("waiting", A.cc)] := ⟨hx.get 0 rfl, hx.get 1 rfl, fun x hx' => by
  rcases List.mem_cons.mp hx' with rfl | hx'
  · exact ⟨_, Kw.get 3 rfl⟩
  · exact absurd hx' List.not_mem_nil, by simp⟩
theorem draw_nil (T0 : RowT K mg C CO fI fD) (Kw : Kn T p q len (sdO C CSd CS kv A s ++ rl) W H) (hx : XF (sdX A) H) (hts : s.ts = []) (k : ∀ H', Kn T p q len (sdO C CSd CS kv A { s with o := true } ++ rl) W H' → KpC H H' → E (.ref CO) none H') : spDraw ⟨P, w, K, mg, base, C, CO⟩ 1 [.ref A.r] H Q E := by
  obtain ⟨mk, wt, e, v, o, ts⟩ := s
  obtain rfl : ts = [] := hts
  refine ⟨A.r, A.dx, A.f, o, rfl, Kw.get 2 rfl, fun z => ?_, fun z => ?_⟩
  · subst z
    exact k H Kw fun _ _ e _ => e
  · subst z
    refine DoesF.of (hx.get 0 rfl) (ok_tell0 (k := 0) T0) (Binds.all fun us hl => match us, hl with | [], _ => rfl) ⟨rfl, clo_sd Kw hx, A.l, _, Kw.get 3 rfl, Kw.get 4 rfl, fun _ => .inl ⟨rfl, A.dx, Kw.get 2 rfl, ?_⟩, fun ys y z => ?_⟩
    · exact k _ (Kw.put (u := .ins C A.dx (rowF A.f true)) 2 rfl) (KpC.put (Kw.get 2 rfl) rfl)
    · simp at z
theorem draw_cons (T0 : RowT K mg C CO fI fD) {t : Addr} {ts : List Addr} (Kw : Kn T p q len (sdO C CSd CS kv A s ++ rl) W H) (hx : XF (sdX A) H) (hts : s.ts = t :: ts) (ho : s.o = false) (k : ∀ H', Kn T p q len (sdO C CSd CS kv A { s with ts := ts } ++ rl) W H' → KpC H H' → Q (.ref t) H') : spDraw ⟨P, w, K, mg, base, C, CO⟩ 1 [.ref A.r] H Q E := by
  obtain ⟨mk, wt, e, v, o, ts0⟩ := s
  obtain rfl : ts0 = t :: ts := hts
  obtain rfl : o = false := ho
  refine ⟨A.r, A.dx, A.f, false, rfl, Kw.get 2 rfl, (fun z => nomatch z), fun _ => ?_⟩
  refine DoesF.of (hx.get 0 rfl) (ok_tell0 (k := 0) T0) (Binds.all fun us hl => match us, hl with | [], _ => rfl) ⟨rfl, clo_sd Kw hx, A.l, _, Kw.get 3 rfl, Kw.get 4 rfl, fun z => ?_, fun ys y z => ?_⟩
  · simp at z
  · rw [List.map_cons, List.reverse_cons] at z
    obtain ⟨z1, z2⟩ := List.append_inj' z rfl
    obtain rfl := z1
    obtain rfl := (List.cons.inj z2).1
    exact k _ (Kw.put (u := .lst (ts.map V.ref).reverse) 4 rfl) (KpC.put (Kw.get 4 rfl) rfl)
/-- a side looks for its head -/
theorem look14 {lg : Addr} {log : List V} {Y : KyA} {ps : List (Int × Int)} (T0 : RowT K mg C CO fI fD) (Kw : Kn T p q len (sdO C CSd CS (.ref Y.g) A s ++ (lg, .lst log) :: (Y.ck, .cel (some (.ref lg))) :: rl) W H) (hx : XF (sdX A) H) (hy : XF (kyX Y) H) (ok : SdOk H s ps) (hl : log.length < 1000)
    (k : ∀ s' H', Kn T p q len (sdO C CSd CS (.ref Y.g) A s' ++ (lg, .lst (log ++ nw s ps)) :: (Y.ck, .cel (some (.ref lg))) :: rl) W H' → KpC H H' → SdOk H' s' ps → s'.wt = !ps.isEmpty → Q .non H') : spLook ⟨P, w, K, mg, base, C, CO⟩ CSd CS 1 [.ref A.y] H Q E := by
  refine ⟨A.y, A.d, A.so, .ref Y.g, s.mark, s.wt, rfl, Kw.get 0 rfl, fun hw => ?_, fun hw => ?_⟩
  · refine k s H ?_ (fun _ _ e _ => e) ok ?_
    · rw [nw_wt hw, List.append_nil]; exact Kw
    · cases ok with
      | rest => cases hw
      | wait => rfl
  · cases ok with
    | wait => cases hw
    | @rest mk v ts _ e o hP he ho =>
      refine ⟨A.so, A.x, A.r, e, v, rfl, Kw.get 1 rfl, fun z => .inl ⟨rfl, ?_⟩, fun z => ?_⟩
      · obtain rfl := he z
        cases hP
        refine k ⟨mk, false, e, v, o, []⟩ H ?_ (fun _ _ e _ => e) (.rest .nil he ho) rfl
        rw [nw_nil, List.append_nil]
        exact Kw
      · subst z
        cases hP with
        | nil =>
          refine draw_nil T0 Kw hx rfl fun H' K' kc => .inl ⟨rfl, A.x, v, K'.get 1 rfl, .inl ⟨rfl, ?_⟩⟩
          refine k ⟨mk, false, true, v, true, []⟩ _ ?_ (kc.trans (KpC.put (K'.get 1 rfl) rfl)) (.rest .nil (fun _ => rfl) fun _ => rfl) rfl
          have := K'.put (u := .ins CS A.x (srcF A.r true v)) 1 rfl
          rw [nw_nil, List.append_nil]
          exact this
        | @cons t pr ts ps ht hP =>
          obtain ⟨a, b⟩ := pr
          have oF : o = false := by
            cases o with
            | false => rfl
            | true => exact nomatch ho rfl
          subst oF
          refine draw_cons T0 Kw hx rfl rfl fun H' K' kc => ⟨A.x, v, K'.get 1 rfl, .inr ⟨rfl, A.x, A.r, .ref t, upd_same, ?_⟩⟩
          have K2 : Kn T p q len (sdO C CSd CS (.ref Y.g) A ⟨mk, false, false, .ref t, false, ts⟩ ++ (lg, .lst log) :: (Y.ck, .cel (some (.ref lg))) :: rl) W (upd H' A.so (.ins CS A.x (srcF A.r false (.ref t)))) := K'.put (u := .ins CS A.x (srcF A.r false (.ref t))) 1 rfl
          have kc2 := kc.trans (KpC.put (u := .ins CS A.x (srcF A.r false (.ref t))) (K'.get 1 rfl) rfl)
          refine ⟨K2.get 0 rfl, _, _, rfl, .inr ⟨Y.g, _, rfl, (hy.kpc kc2).get 0 rfl, DoesF.of ((hy.kpc kc2).get 0 rfl) ok_keycall (Binds.all fun us hl => match us, hl with | [_], _ => rfl) ⟨t, lg, log, a, b, rfl, ⟨(hy.kpc kc2).get 0 rfl, (hy.kpc kc2).get 1 rfl, fun x hx' => ?_, by simp⟩, K2.get 6 rfl, K2.get 5 rfl, kc2 _ _ ht rfl, by omega, ⟨a, rfl⟩, ?_⟩⟩⟩
          · rcases List.mem_cons.mp hx' with rfl | hx'
            · exact ⟨_, K2.get 6 rfl⟩
            · exact absurd hx' List.not_mem_nil
          have K3 := K2.put (u := .lst (log ++ [.int b])) 5 rfl
          have kc3 := kc2.trans (KpC.put (u := .lst (log ++ [.int b])) (K2.get 5 rfl) rfl)
          refine ⟨K3.get 0 rfl, ?_⟩
          have K4 := K3.put (u := .ins CSd A.d (sideF A.so (.ref Y.g) (.int a) true)) 0 rfl
          have kc4 := kc3.trans (KpC.put (u := .ins CSd A.d (sideF A.so (.ref Y.g) (.int a) true)) (K3.get 0 rfl) rfl)
          refine k ⟨.int a, true, false, .ref t, false, ts⟩ _ ?_ kc4 (.wait (kc4 _ _ ht rfl) (hP.same fun b xs e => kc4 _ _ e rfl)) rfl
          rw [nw_cons rfl]
          exact K4
end
/-! the row of two heads -/
structure MgA where
  m : Addr
  dx : Addr
  f : Addr
  c1 : Addr
  c2 : Addr
  c' : Addr
  doc : Value
  pm : Value
  ctv : Value
def mgX (M : MgA) : List (Addr × HO) := [(M.f, cloO M.f (fdMg M.c1 M.c2 M.doc M.pm M.c' M.ctv)), (M.c', codO M.c' "merged.<locals>.tell")]
def mgR (C : Addr) (M : MgA) (y1 y2 : Addr) (o : Bool) : List (Addr × HO) := [(M.c1, .cel (some (.ref y1))), (M.c2, .cel (some (.ref y2))), (M.m, .ins C M.dx (rowF M.f o))]
def mgO (C CSd CS : Addr) (Y : KyA) (M : MgA) (A1 A2 : SdA) (lg : Addr) (log : List V) (s1 s2 : SdS) (o : Bool) : List (Addr × HO) := sdO C CSd CS (.ref Y.g) A1 s1 ++ (lg, .lst log) :: (Y.ck, .cel (some (.ref lg))) :: (sdO C CSd CS (.ref Y.g) A2 s2 ++ mgR C M A1.y A2.y o)
/-- .. the other side first -/
def mgO2 (C CSd CS : Addr) (Y : KyA) (M : MgA) (A1 A2 : SdA) (lg : Addr) (log : List V) (s1 s2 : SdS) (o : Bool) : List (Addr × HO) := sdO C CSd CS (.ref Y.g) A2 s2 ++ (lg, .lst log) :: (Y.ck, .cel (some (.ref lg))) :: (sdO C CSd CS (.ref Y.g) A1 s1 ++ mgR C M A1.y A2.y o)
theorem perm_sides {α : Type} (a b m r : List α) (x y : α) : (a ++ x :: y :: (b ++ r)).Perm (b ++ x :: y :: (a ++ r)) := by
  have h1 : (a ++ x :: y :: (b ++ r)).Perm ([x, y] ++ (a ++ (b ++ r))) := List.perm_append_comm_assoc a [x, y] (b ++ r)
  have h2 : (b ++ x :: y :: (a ++ r)).Perm ([x, y] ++ (b ++ (a ++ r))) := List.perm_append_comm_assoc b [x, y] (a ++ r)
  exact h1.trans ((List.Perm.append_left _ (List.perm_append_comm_assoc a b r)).trans h2.symm)
/-- which head is told: the one's -/
def pickB : List (Int × Int) → List (Int × Int) → Bool
  | [], _ => false
  | _ :: _, [] => true
  | p :: _, r :: _ => !decide (r.1 < p.1)
section
variable {P : Program} {w : World} {K : PySem.W.Frag} {mg : Str → Option Value} {base : Heap} {C CO CS CSd fI fD fSI fSA fDI fDL fDG : Addr} {T : List (Addr × Pos × Str)} {p q : Addr} {len : Nat} {W : Ap} {H : Hp} {A1 A2 : SdA} {s1 s2 : SdS} {rl : List (Addr × HO)} {Q : VK} {E : XK} {Y : KyA} {M : MgA} {lg : Addr} {log : List V} {o : Bool}
theorem mg_swap (h : Kn T p q len (mgO C CSd CS Y M A1 A2 lg log s1 s2 o ++ rl) W H) : Kn T p q len (mgO2 C CSd CS Y M A1 A2 lg log s1 s2 o ++ rl) W H := h.perm (List.Perm.append_right _ (perm_sides _ _ [] _ _ _))
theorem mg_swap2 (h : Kn T p q len (mgO2 C CSd CS Y M A1 A2 lg log s1 s2 o ++ rl) W H) : Kn T p q len (mgO C CSd CS Y M A1 A2 lg log s1 s2 o ++ rl) W H := h.perm (List.Perm.append_right _ (perm_sides _ _ [] _ _ _))
/-- the code that the row hangs on -/
structure MgF (Y : KyA) (M : MgA) (A1 A2 : SdA) (H : Hp) : Prop where
  y : XF (kyX Y) H
  a1 : XF (sdX A1) H
  a2 : XF (sdX A2) H
  m : XF (mgX M) H
theorem MgF.kp {H' : Hp} (h : MgF Y M A1 A2 H) (k : KpC H H') : MgF Y M A1 A2 H' := ⟨h.y.kpc k, h.a1.kpc k, h.a2.kpc k, h.m.kpc k⟩
theorem give14 {ps : List (Int × Int)} {s : SdS} {A : SdA} {x y : Int} {kv : V} (Kw : Kn T p q len (sdO C CSd CS kv A s ++ rl) W H) (ok : SdOk H s ((x, y) :: ps)) (hw : s.wt = true)
    (k : ∀ t s' H', Kn T p q len (sdO C CSd CS kv A s' ++ rl) W H' → KpC H H' → SdOk H' s' ps → s'.wt = false → H' t = some (.tup [.int x, .int y]) → Q (.ref t) H') : spGive CSd CS [.ref A.y] H Q E := by
  cases ok with
  | rest => cases hw
  | @wait t _ _ ts _ ht hP =>
    refine ⟨A.y, A.d, A.so, A.x, A.r, kv, .int x, .ref t, true, false, rfl, Kw.get 0 rfl, Kw.get 1 rfl, ?_⟩
    have kc := KpC.put (u := .ins CSd A.d (sideF A.so kv (.int x) false)) (Kw.get 0 rfl) rfl
    exact k t ⟨.int x, false, false, .ref t, false, ts⟩ _ (Kw.put (u := .ins CSd A.d (sideF A.so kv (.int x) false)) 0 rfl) kc (.rest (hP.same fun b xs e => kc _ _ e rfl) (fun z => nomatch z) fun z => nomatch z) rfl (kc _ _ ht rfl)
/-- THE DRAW: the lesser head, or over -/
theorem draw14 {ps1 ps2 : List (Int × Int)} (T0 : RowT K mg C CO fI fD) (S0 : SideT K mg CSd fDI fDL fDG)
    (GT : ∀ {f cl cw c' : Addr} {doc pm ctv : Value}, FnOk P w K mg base (CXo P w) 5 f (fdMg cl cw doc pm c' ctv) [] (spTellMg ⟨P, w, K, mg, base, C, CO⟩ CSd CS 1 f cl cw doc pm c' ctv))
    (Kw : Kn T p q len (mgO C CSd CS Y M A1 A2 lg log s1 s2 o ++ rl) W H) (hx : MgF Y M A1 A2 H) (ok1 : SdOk H s1 ps1) (ok2 : SdOk H s2 ps2) (ho : o = true → ps1 = [] ∧ ps2 = []) (hl : log.length < 900)
    (kO : ps1 = [] → ps2 = [] → ∀ s1' s2' H', Kn T p q len (mgO C CSd CS Y M A1 A2 lg log s1' s2' true ++ rl) W H' → KpC H H' → SdOk H' s1' [] → SdOk H' s2' [] → E (.ref CO) none H')
    (kL : ∀ a b ps, ps1 = (a, b) :: ps → pickB ps1 ps2 = true → ∀ t s1' s2' H', Kn T p q len (mgO C CSd CS Y M A1 A2 lg (log ++ nw s1 ps1 ++ nw s2 ps2) s1' s2' false ++ rl) W H' → KpC H H' → SdOk H' s1' ps → SdOk H' s2' ps2 → s1'.wt = false → s2'.wt = !ps2.isEmpty → H' t = some (.tup [.int a, .int b]) → Q (.ref t) H')
    (kR : ∀ a b ps, ps2 = (a, b) :: ps → pickB ps1 ps2 = false → ∀ t s1' s2' H', Kn T p q len (mgO C CSd CS Y M A1 A2 lg (log ++ nw s1 ps1 ++ nw s2 ps2) s1' s2' false ++ rl) W H' → KpC H H' → SdOk H' s1' ps1 → SdOk H' s2' ps → s1'.wt = (!ps1.isEmpty) → s2'.wt = false → H' t = some (.tup [.int a, .int b]) → Q (.ref t) H') :
    spDraw ⟨P, w, K, mg, base, C, CO⟩ 5 [.ref M.m] H Q E := by
  refine ⟨M.m, M.dx, M.f, o, rfl, Kw.get 14 rfl, fun z => ?_, fun z => ?_⟩
  · obtain ⟨rfl, rfl⟩ := ho z
    subst z
    exact kO rfl rfl s1 s2 H Kw (fun _ _ e _ => e) ok1 ok2
  · subst z
    refine DoesF.of (hx.m.get 0 rfl) GT (Binds.all fun us hl => match us, hl with | [], _ => rfl) ⟨rfl, ⟨hx.m.get 0 rfl, hx.m.get 1 rfl, fun x hx' => ?_, ?_⟩, A1.y, A2.y, ⟨Kw.get 12 rfl, Kw.get 13 rfl⟩, ?_⟩
    · rcases List.mem_cons.mp hx' with rfl | hx'
      · exact ⟨_, Kw.get 13 rfl⟩
      · rcases List.mem_cons.mp hx' with rfl | hx'
        · exact ⟨_, Kw.get 12 rfl⟩
        · exact absurd hx' List.not_mem_nil
    · have := Kw.diff 12 13 rfl rfl (by decide)
      simp [this.symm]
    · have KL : Kn T p q len (sdO C CSd CS (.ref Y.g) A1 s1 ++ (lg, .lst log) :: (Y.ck, .cel (some (.ref lg))) :: (sdO C CSd CS (.ref Y.g) A2 s2 ++ mgR C M A1.y A2.y false ++ rl)) W H := by
        have e : mgO C CSd CS Y M A1 A2 lg log s1 s2 false ++ rl = sdO C CSd CS (.ref Y.g) A1 s1 ++ (lg, .lst log) :: (Y.ck, .cel (some (.ref lg))) :: (sdO C CSd CS (.ref Y.g) A2 s2 ++ mgR C M A1.y A2.y false ++ rl) := rfl
        exact e ▸ Kw
      refine look14 T0 KL hx.a1 hx.y ok1 (by omega) fun s1' H1 K1 kc1 ok1' w1 => ?_
      have K1' : Kn T p q len (mgO C CSd CS Y M A1 A2 lg (log ++ nw s1 ps1) s1' s2 false ++ rl) W H1 := K1
      refine ⟨⟨K1'.get 12 rfl, K1'.get 13 rfl⟩, ?_⟩
      have hn1 : (nw s1 ps1).length ≤ 1 := by unfold nw; split <;> simp <;> omega
      have KR : Kn T p q len (sdO C CSd CS (.ref Y.g) A2 s2 ++ (lg, .lst (log ++ nw s1 ps1)) :: (Y.ck, .cel (some (.ref lg))) :: (sdO C CSd CS (.ref Y.g) A1 s1' ++ mgR C M A1.y A2.y false ++ rl)) W H1 := mg_swap K1'
      refine look14 T0 KR (hx.a2.kpc kc1) (hx.y.kpc kc1) (ok2.kp kc1) (by rw [List.length_append]; omega) fun s2' H2 K2 kc2 ok2' w2 => ?_
      have K2' : Kn T p q len (mgO C CSd CS Y M A1 A2 lg (log ++ nw s1 ps1 ++ nw s2 ps2) s1' s2' false ++ rl) W H2 := mg_swap2 K2
      have kc := kc1.trans kc2
      have ok1'' := ok1'.kp kc2
      refine ⟨⟨K2'.get 12 rfl, K2'.get 13 rfl⟩, A1.d, A1.so, .ref Y.g, s1'.mark, s1'.wt, A2.d, A2.so, .ref Y.g, s2'.mark, s2'.wt, K2'.get 0 rfl, K2'.get 7 rfl, fun e1 e2 => ?_, fun e1 e2 => ?_, fun e1 e2 => ?_, fun e1 e2 => ?_⟩
      · have z1 : ps1 = [] := by rw [e1] at w1; cases ps1 with | nil => rfl | cons _ _ => cases w1
        have z2 : ps2 = [] := by rw [e2] at w2; cases ps2 with | nil => rfl | cons _ _ => cases w2
        subst z1 z2
        refine .inl ⟨rfl, M.dx, K2'.get 14 rfl, ?_⟩
        have K3 := K2'.put (u := .ins C M.dx (rowF M.f true)) 14 rfl
        have kc3 := KpC.put (u := .ins C M.dx (rowF M.f true)) (K2'.get 14 rfl) rfl
        rw [nw_nil, nw_nil, List.append_nil, List.append_nil] at K3
        exact kO rfl rfl s1' s2' _ K3 (kc.trans kc3) (ok1''.kp kc3) (ok2'.kp kc3)
      · have z1 : ps1 = [] := by rw [e1] at w1; cases ps1 with | nil => rfl | cons _ _ => cases w1
        subst z1
        cases ps2 with
        | nil => rw [e2] at w2; cases w2
        | cons pr ps =>
          obtain ⟨a, b⟩ := pr
          refine give14 (mg_swap K2') ok2' e2 fun t s3 H3 K3 kc3 ok3 w3 ht => ?_
          exact kR a b ps rfl rfl t s1' s3 H3 (mg_swap2 K3) (kc.trans kc3) (ok1''.kp kc3) ok3 w1 w3 ht
      · have z2 : ps2 = [] := by rw [e2] at w2; cases ps2 with | nil => rfl | cons _ _ => cases w2
        subst z2
        cases ps1 with
        | nil => rw [e1] at w1; cases w1
        | cons pr ps =>
          obtain ⟨a, b⟩ := pr
          refine give14 (rl := (lg, .lst (log ++ nw s1 ((a, b) :: ps) ++ nw s2 [])) :: (Y.ck, .cel (some (.ref lg))) :: (sdO C CSd CS (.ref Y.g) A2 s2' ++ mgR C M A1.y A2.y false) ++ rl) K2' ok1'' e1 fun t s3 H3 K3 kc3 ok3 w3 ht => ?_
          exact kL a b ps rfl rfl t s3 s2' H3 K3 (kc.trans kc3) ok3 (ok2'.kp kc3) w3 w2 ht
      · cases ps1 with
        | nil => rw [e1] at w1; cases w1
        | cons pr ps =>
          obtain ⟨a, b⟩ := pr
          cases ps2 with
          | nil => rw [e2] at w2; cases w2
          | cons pr' ps' =>
            obtain ⟨a', b'⟩ := pr'
            have m1 : s1'.mark = .int a := by cases ok1'' with | rest => cases e1 | wait => rfl
            have m2 : s2'.mark = .int a' := by cases ok2' with | rest => cases e2 | wait => rfl
            refine ⟨a, a', m1, m2, fun hlt => ?_, fun hlt => ?_⟩
            · refine give14 (mg_swap K2') ok2' e2 fun t s3 H3 K3 kc3 ok3 w3 ht => ?_
              exact kR a' b' ps' rfl (by show (!decide (a' < a)) = false; rw [decide_eq_true hlt]; rfl) t s1' s3 H3 (mg_swap2 K3) (kc.trans kc3) (ok1''.kp kc3) ok3 w1 w3 ht
            · refine give14 (rl := (lg, .lst (log ++ nw s1 ((a, b) :: ps) ++ nw s2 ((a', b') :: ps'))) :: (Y.ck, .cel (some (.ref lg))) :: (sdO C CSd CS (.ref Y.g) A2 s2' ++ mgR C M A1.y A2.y false) ++ rl) K2' ok1'' e1 fun t s3 H3 K3 kc3 ok3 w3 ht => ?_
              exact kL a b ps rfl (by show (!decide (a' < a)) = true; rw [decide_eq_false hlt]; rfl) t s3 s2' H3 K3 (kc.trans kc3) ok3 (ok2'.kp kc3) w3 w2 ht
end
end K14

set_option maxHeartbeats 4000000
set_option Elab.async false
set_option linter.all false
set_option maxRecDepth 100000
namespace K14
open PySem L2
section
variable {P : Program} {w : World} {K : PySem.W.Frag} {mg : Str → Option Value} {base : Heap} {C CO fI fD : Addr}
theorem scItems : FnScope ["_law_row", "_law_times", "_law_found", "_law_time"] ["_law_row", "_law_times"] (defScope sItems) := ⟨rfl, rfl, rfl, by decide +kernel, rfl, by decide +kernel, by decide +kernel⟩
theorem ok_items {f : Addr} {fd fdD : FuncData} {n : Nat} (F : Fun K "_law_items" "_law_items" sItems f fd) (B : Blt mg) (T : RowT K mg C CO fI fD) (FD : Fun K "draw" "Row.draw" sDraw fD fdD) (bD : Binds K fdD ["self"] []) :
    FnOk P w K mg base (CXo P w) (n + 2) f fd ["_law_row", "_law_times"] (spItems ⟨P, w, K, mg, base, C, CO⟩ n) := by
  have GD : FnOk P w K mg base (CXo P w) (n + 1) fD fdD ["self"] (spDraw ⟨P, w, K, mg, base, C, CO⟩ n) := ok_draw FD T
  refine F.okX scItems (fun vs H Q E h => ?_) (fun cdv A outer s H vs Q E hr h => ?_)
  · obtain ⟨r, j, rfl, _⟩ := h
    rfl
  · obtain ⟨r, j, rfl, hj, k⟩ := h
    refine ⟨_, pss_cons (ps_set (i := 2) scItems.nd rfl (Or.inl rfl) (pe_lst pa_nil))
      (pss_cons (ps_for passes_fn rfl (pi_range1 (by rfl) B.range (pa_cons (pv 1) pa_nil)) (pg_name (i := 3) scItems.nd rfl (Or.inl rfl))
        (pss_one (ps_try (tb := fun Rk' => tDrop (tBM K "list" rAppend (tVar 2) (tCons (tMethX C "draw" (spDraw ⟨P, w, K, mg, base, C, CO⟩ n) [] Rk' (tVar 0) tNil) tNil)))
          (fun xe' pn' Rk' th po => pss_one (ps_expr (pe_bm PySem.F.plainAttrs_list PySem.F.slot_list_append PySem.F.type_list_append mt_append (pv 2) (pa_cons (pe_methX0 (pv 0) T.cl T.md GD hr bD .nil th) pa_nil))))
          (ph_cons (C := CO) (ts := fun ea cls d => tRet (tTup (tCons (tVar 2) (tCons (tC (.bl true)) tNil)))) rfl T.mgO (fun _ => PassesOwnAt.leaving) (fun ea T' oe oT cls d a0 S => pss_one (ps_ret (pe_tup (pa_cons (pv 2) (pa_cons pe_bl pa_nil))))) (ph_nil throws_fn)))))
      (pss_one (ps_ret (pe_tup (pa_cons (pv 2) (pa_cons pe_bl pa_nil)))))), ?_⟩
    refine ⟨Nat.zero_le _, fun l hl => ?_⟩
    refine ⟨_, rfl, (j : Int), rfl, by omega, by omega, for_range (lo := 0) (n := (j : Int).toNat) (fun i σ H2 => i ≤ j ∧ ∃ (acc : List V) (v : Option V), σ = [some (.ref r), some (.int j), some (.ref l), v] ∧ acc.length = i ∧ WI ⟨P, w, K, mg, base, C, CO⟩ n r l Q (j - i) acc H2)
      ⟨Nat.zero_le _, [], none, rfl, rfl, by rw [Nat.sub_zero]; exact k l hl⟩ ?_ ?_⟩
    · rintro i σ H2 hi ⟨hij, acc, v, rfl, ha, hW⟩
      have hi' : i < j := by omega
      obtain ⟨j', ej⟩ : ∃ j', j - i = j' + 1 := ⟨j - i - 1, by omega⟩
      rw [ej] at hW
      obtain ⟨h1, h2⟩ := hW
      refine ⟨_, rfl, .inl ⟨rfl, _, SqL.of h1⟩, _, rfl, ?_⟩
      obtain ⟨r', dx, fr, o, e, hr0, _⟩ := id h2
      cases e
      refine ⟨r, dx, _, rfl, hr0, rfl, ?_⟩
      unfold tNil
      refine spDraw_mono h2 ?_ ?_
      · rintro x H3 ⟨q1, q2⟩
        exact ⟨l, acc, x, rfl, rfl, q1, by have := sizeK; omega, by omega, acc ++ [x], _, rfl, by simp [ha], by rw [show j - (i + 1) = j' from by omega]; exact q2⟩
      · rintro cls d H3 ⟨q1, q2, q3⟩ ea he
        subst q1
        refine ⟨true, matO T, iteT ?_⟩
        exact ⟨_, rfl, (by show 2 ≤ sizeLine; decide), fun t ht => q3 t ht⟩
    · rintro σ H2 ⟨hij, acc, v, rfl, ha, hW⟩
      rw [show j - (j : Int).toNat = 0 from by omega] at hW
      exact ⟨_, rfl, (by show 2 ≤ sizeLine; decide), fun t ht => hW.2 t ht⟩
end
end K14

set_option maxHeartbeats 4000000
set_option Elab.async false
set_option linter.all false
set_option maxRecDepth 100000
namespace K14
open PySem L2
/-! ### the law's own key -/
abbrev lam14 : Expr := atE (kwE (atE (subE (atE (subE (atE (subE (ifT (atS (ifB (atS (forB (atS (defBody sLaw) 1)) 1)) 2))) 0)) 1)) 0)) 0
def entL : List (Pos × Str) := [(lamP lam14, qLam)]
theorem ent_all : ∀ e ∈ entL, e.2 = qLam := by simp [entL]
abbrev fdL (dV doc pm : Value) (c' : Addr) (ctv : Value) : FuncData := fnD "<lambda>" qLam (lamA lam14) (.expr (lamB lam14)) (lamS lam14) [] dV doc pm c' ctv
section
variable {P : Program} {w : World} {K : PySem.W.Frag} {mg : Str → Option Value} {base : Heap}
theorem scL14 : CloScope ["_law_pair"] ["_law_pair"] [] (lamS lam14) := ⟨rfl, rfl, rfl, by decide +kernel, by decide +kernel, by decide +kernel, by decide +kernel, by decide +kernel, by decide +kernel, by decide +kernel⟩
def spLam14 (f c' : Addr) (fd : FuncData) : Sp := fun vs H Q _ => ∃ (t : Addr) (a b : Int), vs = [.ref t] ∧ CloAt H f fd c' qLam [] ∧ H t = some (.tup [.int a, .int b]) ∧ ∀ u, H u = none → Q (.ref u) (upd H u (.tup [.int a, .int b]))
theorem ok_lam14 {f c' : Addr} {dV doc pm ctv : Value} {n : Nat} : FnOk P w K mg base (CXo P w) (n + 1) f (fdL dV doc pm c' ctv) ["_law_pair"] (spLam14 f c' (fdL dV doc pm c' ctv)) := by
  refine clo_ofL (N := ["_law_pair"]) scL14 (fun vs H Q E h => ?_) (fun vs H Q E h => ?_) (fun A outer s H vs Q E hr h => ?_)
  · obtain ⟨t, a, b, rfl, _⟩ := h
    rfl
  · obtain ⟨t, a, b, _, hC, _⟩ := h
    exact hC
  · obtain ⟨t, a, b, rfl, hC, ht, k⟩ := h
    have big : sizeLine = 16777216 := sizeLine_eq
    refine ⟨_, pe_tup (pa_Subscript (pe_ix (r := rIxT K) ix_tup (pv 0) pe_int (fun _ _ => rfl)) (pa_Subscript (pe_ix (r := rIxT K) ix_tup (pv 0) pe_int (fun _ _ => rfl)) pa_nil)), ?_⟩
    refine ⟨_, rfl, t, _, _, _, rfl, rfl, SqT.of ht, rfl, _, rfl, t, _, _, _, rfl, rfl, SqT.of ht, rfl, by rw [big]; show 2 ≤ 16777216; decide, fun u hu => k u hu⟩
/-- as the key of a sort: it tells a new pair -/
theorem lam14_key {f c' t : Addr} {a b : Int} {doc pm ctv : Value} {H : Hp} (hC : CloAt H f (fdL .none doc pm c' ctv) c' qLam []) (ht : H t = some (.tup [.int a, .int b])) : DoesF P w K mg base 1 f [.ref t] H (fun v H2 => ∃ u, v = .ref u ∧ H2 u = some (.tup [.int a, .int b]) ∧ Same H H2) E0 :=
  DoesF.of hC.fn (ok_lam14 (n := 0)) (Binds.all fun us hl => match us, hl with | [_], _ => rfl) ⟨t, a, b, rfl, hC, ht, fun u hu => ⟨u, rfl, upd_same, same_alloc hu⟩⟩
end
end K14

set_option maxHeartbeats 4000000
set_option Elab.async false
set_option linter.all false
set_option maxRecDepth 100000
namespace K14
open PySem L2
/-! ### the row of two heads, made -/
def KpU (H H' : Hp) : Prop := ∀ b o, H b = some o → isExt o = true → (∀ ps, o ≠ .tbl ps) → H' b = some o
theorem KpU.of {H H' : Hp} (k : KpC H H') : KpU H H' := fun b o e x _ => k b o e x
theorem KpU.trans {H H1 H2 : Hp} (a : KpU H H1) (b : KpU H1 H2) : KpU H H2 := fun c o e x n => b c o (a c o e x n) x n
theorem KpU.kpc {H H' : Hp} {xl : List (Addr × HO)} (h : XF xl H) (k : KpU H H') : XF xl H' := fun x hx => ⟨k _ _ (h x hx).1 (isX_ext (h x hx).2).1 (isX_ext (h x hx).2).2, (h x hx).2⟩
theorem PrA.kpu {H H' : Hp} {ts : List Addr} {ps : List (Int × Int)} (h : PrA H ts ps) (k : KpU H H') : PrA H' ts ps := h.same fun b xs e => k _ _ e rfl fun _ z => nomatch z
theorem SdOk.kpu {H H' : Hp} {s : SdS} {ps : List (Int × Int)} (h : SdOk H s ps) (k : KpU H H') : SdOk H' s ps := by
  cases h with
  | rest a b c => exact .rest (a.kpu k) b c
  | wait a b => exact .wait (k _ _ a rfl fun _ z => nomatch z) (b.kpu k)
theorem MgF.kpu {Y : KyA} {M : MgA} {A1 A2 : SdA} {H H' : Hp} (h : MgF Y M A1 A2 H) (k : KpU H H') : MgF Y M A1 A2 H' := ⟨k.kpc h.y, k.kpc h.a1, k.kpc h.a2, k.kpc h.m⟩
section
variable {P : Program} {w : World} {K : PySem.W.Frag} {mg : Str → Option Value} {base : Heap} {C CO CS CSd fI fD fSI fSA fDI fDL fDG : Addr} {T : List (Addr × Pos × Str)} {p q : Addr} {len : Nat} {PL : Addr} {ent : List (Pos × Str)} {H : Hp} {rl : List (Addr × HO)} {Q : VK} {E : XK}
theorem _root_.L2.KL.madeAdd {H' : Hp} {Pt r f c' dx : Addr} {pos : Pos} {qu : Str} {fd : FuncData} {cl : List (Str × Addr)} (Kl : KL T p q len PL ent rl H) (hm : (Pt, pos, qu) ∈ T) (M : RowM C H H' Pt pos qu r f c' dx fd cl) : KL T p q len PL ent ((r, .ins C dx (rowF f false)) :: rl) H' := ⟨Kl.k.madeAdd hm M, (Kl.made hm M.kp M.tab).t, Kl.n⟩
theorem _root_.L2.KL.addN {H' : Hp} (Kl : KL T p q len PL ent rl H) (s : Same H H') (xs : List (Addr × HO)) (h : ∀ x ∈ xs, H x.1 = none ∧ H' x.1 = some x.2 ∧ isExt x.2 = false) (nd : (xs.map (·.1)).Nodup) : KL T p q len PL ent (xs ++ rl) H' := ⟨Kl.k.addN s xs h nd, Kl.t.same s, Kl.n⟩
theorem _root_.L2.KL.perm {l' : List (Addr × HO)} (Kl : KL T p q len PL ent rl H) (h : rl.Perm l') : KL T p q len PL ent l' H := ⟨Kl.k.perm h, Kl.t, Kl.n⟩
theorem _root_.L2.KL.of {H' : Hp} {l' : List (Addr × HO)} (Kl : KL T p q len PL ent rl H) (h : Kn T p q len l' (fun _ => False) H') (k : KpC H H') : KL T p q len PL ent l' H' := ⟨h, by
  obtain ⟨l, e1, e2⟩ := Kl.t
  exact ⟨l, k _ _ e1 rfl, fun x hx => by
    obtain ⟨e, h1, h2, h3, h4⟩ := e2 x hx
    exact ⟨e, h1, h2, h3, k _ _ h4 rfl⟩⟩, Kl.n⟩
theorem listed14 {a Pt : Addr} {xs : List V} (Kl : KL T p q len PL ent rl H) (hm : (Pt, pos0, ("listed.<locals>.tell" : Str)) ∈ T) (he : H a = some (.lst xs))
    (k : ∀ (r f c l' c' dx : Addr) (doc pm ctv : Value) (H' : Hp), KL T p q len PL ent ((r, .ins C dx (rowF f false)) :: (c, .cel (some (.ref l'))) :: (l', .lst xs.reverse) :: rl) H' → XF [(f, cloO f (fd0 c doc pm c' ctv)), (c', codO c' "listed.<locals>.tell")] H' → KpU H H' → Q (.ref r) H') : spListed K C Pt [.ref a] H Q E := by
  refine ⟨a, xs, rfl, SqL.of he, Kl.k.tb _ hm, fun r f c l' c' dx doc pm ctv H3 H' s3 hc hl e1 e2 M => ?_⟩
  have ncl : c ≠ l' := ne_of e1 e2 (fun z => nomatch z)
  have K1 := Kl.addN s3 [(c, .cel (some (.ref l'))), (l', .lst xs.reverse)] (fun x hx => by
    simp only [List.mem_cons, List.not_mem_nil, or_false] at hx
    rcases hx with rfl | rfl
    · exact ⟨hc, e1, rfl⟩
    · exact ⟨hl, e2, rfl⟩) (by simp [ncl])
  exact k r f c l' c' dx doc pm ctv H' (K1.madeAdd hm M) ((XF.nil.cons M.clo.cd rfl).cons M.clo.fn rfl) ((KpU.of (KpC.same s3)).trans fun b o e _ n => M.keep (K1.k.tb _ hm) e n)
theorem lawkey14 {lg Pt : Addr} (Kl : KL T p q len PL ent rl H) (hm : (Pt, posKy, ("_law_key.<locals>._law_call" : Str)) ∈ T)
    (k : ∀ (Y : KyA) (H' : Hp), KL T p q len PL ent ((Y.ck, .cel (some (.ref lg))) :: rl) H' → XF (kyX Y) H' → KpU H H' → Q (.ref Y.g) H') : spLawKey Pt [.ref lg] H Q E := by
  refine ⟨lg, rfl, Kl.k.tb _ hm, fun f cl c' doc pm ctv H3 H' s3 hc e1 D => ?_⟩
  have K1 := Kl.addN s3 [(cl, .cel (some (.ref lg)))] (fun x hx => by
    rw [List.mem_singleton.mp hx]
    exact ⟨hc, e1, rfl⟩) (by simp)
  obtain ⟨ps, hP⟩ := (K1.k.tb _ hm).is
  exact k ⟨f, cl, c', doc, pm, ctv⟩ H' (K1.made hm D.kp D.tab) ((XF.nil.cons D.cd rfl).cons D.fn rfl) ((KpU.of (KpC.same s3)).trans fun b o e _ n => D.kp b o e (ne_of e hP (n ps)))
/-- the row's state beside what the law knows -/
structure St14 (C CSd CS : Addr) (T : List (Addr × Pos × Str)) (p q : Addr) (len : Nat) (PL : Addr) (ent : List (Pos × Str)) (Y : KyA) (M : MgA) (A1 A2 : SdA) (lg : Addr) (log : List V) (s1 s2 : SdS) (o : Bool) (ps1 ps2 : List (Int × Int)) (rl : List (Addr × HO)) (H : Hp) : Prop where
  K : KL T p q len PL ent (mgO C CSd CS Y M A1 A2 lg log s1 s2 o ++ rl) H
  X : MgF Y M A1 A2 H
  o1 : SdOk H s1 ps1
  o2 : SdOk H s2 ps2
  ho : o = true → ps1 = [] ∧ ps2 = []
theorem merged14 {r1 f1 k1 l1 c1' dx1 r2 f2 k2 l2 c2' dx2 lg Pt : Addr} {Y : KyA} {doc1 pm1 ctv1 doc2 pm2 ctv2 : Value} {ts1 ts2 : List Addr} {ps1 ps2 : List (Int × Int)} (Kl : KL T p q len PL ent ((Y.ck, .cel (some (.ref lg))) :: (lg, .lst []) :: (r2, .ins C dx2 (rowF f2 false)) :: (k2, .cel (some (.ref l2))) :: (l2, .lst (ts2.map V.ref).reverse) :: (r1, .ins C dx1 (rowF f1 false)) :: (k1, .cel (some (.ref l1))) :: (l1, .lst (ts1.map V.ref).reverse) :: rl) H)
    (hy : XF (kyX Y) H) (h1 : XF [(f1, cloO f1 (fd0 k1 doc1 pm1 c1' ctv1)), (c1', codO c1' "listed.<locals>.tell")] H) (h2 : XF [(f2, cloO f2 (fd0 k2 doc2 pm2 c2' ctv2)), (c2', codO c2' "listed.<locals>.tell")] H) (P1 : PrA H ts1 ps1) (P2 : PrA H ts2 ps2)
    (hm : (Pt, posMg, ("merged.<locals>.tell" : Str)) ∈ T)
    (k : ∀ (M : MgA) (A1 A2 : SdA) (s1 s2 : SdS) (H' : Hp), St14 C CSd CS T p q len PL ent Y M A1 A2 lg [] s1 s2 false ps1 ps2 rl H' → s1.wt = false → s2.wt = false → KpU H H' → Q (.ref M.m) H') : spMerged C CSd CS Pt [.ref r1, .ref r2, .ref Y.g] H Q E := by
  refine ⟨r1, r2, .ref Y.g, rfl, Kl.k.tb _ hm, fun m f c1 c2 y1 d1 so1 x1 y2 d2 so2 x2 c' dx doc pm ctv H3 H' s3 fr nn e1 e2 e3 e4 e5 e6 Mr => ?_⟩
  obtain ⟨n1, n2, n3⟩ := nn
  have K1 := Kl.addN s3 [(c1, .cel (some (.ref y1))), (c2, .cel (some (.ref y2))), (y1, .ins CSd d1 (sideF so1 (.ref Y.g) .non false)), (so1, .ins CS x1 (srcF r1 false .non)), (y2, .ins CSd d2 (sideF so2 (.ref Y.g) .non false)), (so2, .ins CS x2 (srcF r2 false .non))] (fun x hx => by
    simp only [List.mem_cons, List.not_mem_nil, or_false] at hx
    rcases hx with rfl | rfl | rfl | rfl | rfl | rfl
    · exact ⟨fr _ (by simp), e1, rfl⟩
    · exact ⟨fr _ (by simp), e2, rfl⟩
    · exact ⟨fr _ (by simp), e3, rfl⟩
    · exact ⟨fr _ (by simp), e4, rfl⟩
    · exact ⟨fr _ (by simp), e5, rfl⟩
    · exact ⟨fr _ (by simp), e6, rfl⟩) ?_
  · have K2 := (K1.madeAdd hm Mr).pick 15 [3, 4, 12, 13, 14, 8, 7, 5, 6, 9, 10, 11, 1, 2, 0] (by decide)
    have ku : KpU H H' := (KpU.of (KpC.same s3)).trans fun b o e _ n => Mr.keep (K1.k.tb _ hm) e n
    refine k ⟨m, dx, f, c1, c2, c', doc, pm, ctv⟩ ⟨y1, d1, so1, x1, r1, dx1, f1, k1, l1, c1', doc1, pm1, ctv1⟩ ⟨y2, d2, so2, x2, r2, dx2, f2, k2, l2, c2', doc2, pm2, ctv2⟩ ⟨.non, false, false, .non, false, ts1⟩ ⟨.non, false, false, .non, false, ts2⟩ H' ⟨K2, ⟨ku.kpc hy, ku.kpc h1, ku.kpc h2, (XF.nil.cons Mr.clo.cd rfl).cons Mr.clo.fn rfl⟩, .rest (P1.kpu ku) (fun z => nomatch z) (fun z => nomatch z), .rest (P2.kpu ku) (fun z => nomatch z) (fun z => nomatch z), fun z => nomatch z⟩ rfl rfl ku
  · have a1 : c1 ≠ y1 := ne_of e1 e3 fun z => nomatch z
    have a2 : c1 ≠ so1 := ne_of e1 e4 fun z => nomatch z
    have a3 : c1 ≠ y2 := ne_of e1 e5 fun z => nomatch z
    have a4 : c1 ≠ so2 := ne_of e1 e6 fun z => nomatch z
    have b1 : c2 ≠ y1 := ne_of e2 e3 fun z => nomatch z
    have b2 : c2 ≠ so1 := ne_of e2 e4 fun z => nomatch z
    have b3 : c2 ≠ y2 := ne_of e2 e5 fun z => nomatch z
    have b4 : c2 ≠ so2 := ne_of e2 e6 fun z => nomatch z
    have ss : ∀ {a1 a2 : Addr} {c c' : Addr} {s : Addr} {kv mk v : V} {wt e : Bool} {r : Addr}, HO.ins c a1 (sideF s kv mk wt) ≠ HO.ins c' a2 (srcF r e v) := fun z => by
      have := (HO.ins.inj z).2.2
      have := congrArg List.length this
      exact absurd this (by show ¬ (4 = 3); decide)
    have g1 : y1 ≠ so1 := ne_of e3 e4 ss
    have g2 : y1 ≠ so2 := ne_of e3 e6 ss
    have g3 : y2 ≠ so1 := ne_of e5 e4 ss
    have g4 : y2 ≠ so2 := ne_of e5 e6 ss
    simp [n1, n2, n3, a1, a2, a3, a4, b1, b2, b3, b4, g1, g2, g3.symm, g4]
end
section
variable {P : Program} {w : World} {K : PySem.W.Frag} {mg : Str → Option Value} {base : Heap} {C CO CS CSd fI fD fSI fSA fDI fDL fDG : Addr} {T : List (Addr × Pos × Str)} {p q : Addr} {len : Nat} {PL : Addr} {ent : List (Pos × Str)} {H H' : Hp} {rl rl' : List (Addr × HO)} {Q : VK} {E : XK} {Y : KyA} {M : MgA} {A1 A2 : SdA} {lg : Addr} {log : List V} {s1 s2 : SdS} {o : Bool} {ps1 ps2 : List (Int × Int)}
theorem St14.re (S : St14 C CSd CS T p q len PL ent Y M A1 A2 lg log s1 s2 o ps1 ps2 rl H) (h : KL T p q len PL ent (mgO C CSd CS Y M A1 A2 lg log s1 s2 o ++ rl') H') (k : KpU H H') : St14 C CSd CS T p q len PL ent Y M A1 A2 lg log s1 s2 o ps1 ps2 rl' H' := ⟨h, S.X.kpu k, S.o1.kpu k, S.o2.kpu k, S.ho⟩
theorem St14.same (S : St14 C CSd CS T p q len PL ent Y M A1 A2 lg log s1 s2 o ps1 ps2 rl H) (k : Same H H') : St14 C CSd CS T p q len PL ent Y M A1 A2 lg log s1 s2 o ps1 ps2 rl H' := S.re (S.K.same k) (KpU.of (KpC.same k))
theorem St14.alloc {a : Addr} {u : HO} (S : St14 C CSd CS T p q len PL ent Y M A1 A2 lg log s1 s2 o ps1 ps2 rl H) (ha : H a = none) (no : isExt u = false := by rfl) : St14 C CSd CS T p q len PL ent Y M A1 A2 lg log s1 s2 o ps1 ps2 ((a, u) :: rl) (upd H a u) :=
  S.re ((S.K.alloc ha no).perm (List.perm_middle (l₁ := mgO C CSd CS Y M A1 A2 lg log s1 s2 o)).symm) (KpU.of (KpC.same (same_alloc ha)))
theorem St14.put {a : Addr} {u u' : HO} (S : St14 C CSd CS T p q len PL ent Y M A1 A2 lg log s1 s2 o ps1 ps2 rl H) (i : Nat) (h : rl[i]? = some (a, u)) (no : isExt u' = false := by rfl) : St14 C CSd CS T p q len PL ent Y M A1 A2 lg log s1 s2 o ps1 ps2 (rl.set i (a, u')) (upd H a u') := by
  have hi : (mgO C CSd CS Y M A1 A2 lg log s1 s2 o ++ rl)[15 + i]? = some (a, u) := by rw [List.getElem?_append_right (Nat.le_add_right 15 i)]; show rl[15 + i - 15]? = _; rw [Nat.add_sub_cancel_left]; exact h
  have e : (mgO C CSd CS Y M A1 A2 lg log s1 s2 o ++ rl).set (15 + i) (a, u') = mgO C CSd CS Y M A1 A2 lg log s1 s2 o ++ rl.set i (a, u') := by rw [List.set_append_right _ _ (Nat.le_add_right 15 i)]; show _ ++ rl.set (15 + i - 15) _ = _; rw [Nat.add_sub_cancel_left]
  exact S.re (e ▸ S.K.put (u := u') (15 + i) hi no) (KpU.of (KpC.put (S.K.get _ hi) (S.K.k.ob _ (List.mem_of_getElem? hi)).2.1))
theorem St14.get {a : Addr} {u : HO} (S : St14 C CSd CS T p q len PL ent Y M A1 A2 lg log s1 s2 o ps1 ps2 rl H) (i : Nat) (h : rl[i]? = some (a, u)) : H a = some u := by
  have hi : (mgO C CSd CS Y M A1 A2 lg log s1 s2 o ++ rl)[15 + i]? = some (a, u) := by rw [List.getElem?_append_right (Nat.le_add_right 15 i)]; show rl[15 + i - 15]? = _; rw [Nat.add_sub_cancel_left]; exact h
  exact S.K.get _ hi
theorem St14.lgs (S : St14 C CSd CS T p q len PL ent Y M A1 A2 lg log s1 s2 o ps1 ps2 rl H) : H lg = some (.lst log) := S.K.get 5 rfl
theorem St14.rest (S : St14 C CSd CS T p q len PL ent Y M A1 A2 lg log s1 s2 o ps1 ps2 rl H) : KL T p q len PL ent rl H := ⟨S.K.k.drop 15, S.K.t, S.K.n⟩
theorem St14.draw (S : St14 C CSd CS T p q len PL ent Y M A1 A2 lg log s1 s2 o ps1 ps2 rl H) (T0 : RowT K mg C CO fI fD) (S0 : SideT K mg CSd fDI fDL fDG)
    (GT : ∀ {f cl cw c' : Addr} {doc pm ctv : Value}, FnOk P w K mg base (CXo P w) 5 f (fdMg cl cw doc pm c' ctv) [] (spTellMg ⟨P, w, K, mg, base, C, CO⟩ CSd CS 1 f cl cw doc pm c' ctv)) (hl : log.length < 900)
    (kO : ps1 = [] → ps2 = [] → ∀ s1' s2' H', St14 C CSd CS T p q len PL ent Y M A1 A2 lg log s1' s2' true [] [] rl H' → KpC H H' → E (.ref CO) none H')
    (kL : ∀ a b ps, ps1 = (a, b) :: ps → pickB ps1 ps2 = true → ∀ t s1' s2' H', St14 C CSd CS T p q len PL ent Y M A1 A2 lg (log ++ nw s1 ps1 ++ nw s2 ps2) s1' s2' false ps ps2 rl H' → KpC H H' → s1'.wt = false → s2'.wt = !ps2.isEmpty → H' t = some (.tup [.int a, .int b]) → Q (.ref t) H')
    (kR : ∀ a b ps, ps2 = (a, b) :: ps → pickB ps1 ps2 = false → ∀ t s1' s2' H', St14 C CSd CS T p q len PL ent Y M A1 A2 lg (log ++ nw s1 ps1 ++ nw s2 ps2) s1' s2' false ps1 ps rl H' → KpC H H' → s1'.wt = (!ps1.isEmpty) → s2'.wt = false → H' t = some (.tup [.int a, .int b]) → Q (.ref t) H') :
    spDraw ⟨P, w, K, mg, base, C, CO⟩ 5 [.ref M.m] H Q E :=
  draw14 T0 S0 GT S.K.k S.X S.o1 S.o2 S.ho hl
    (fun e1 e2 s1' s2' H' K' kc q1 q2 => kO e1 e2 s1' s2' H' ⟨S.K.of K' kc, S.X.kp kc, q1, q2, fun _ => ⟨rfl, rfl⟩⟩ kc)
    (fun a b ps e pk t s1' s2' H' K' kc q1 q2 w1 w2 ht => kL a b ps e pk t s1' s2' H' ⟨S.K.of K' kc, S.X.kp kc, q1, q2, fun z => nomatch z⟩ kc w1 w2 ht)
    (fun a b ps e pk t s1' s2' H' K' kc q1 q2 w1 w2 ht => kR a b ps e pk t s1' s2' H' ⟨S.K.of K' kc, S.X.kp kc, q1, q2, fun z => nomatch z⟩ kc w1 w2 ht)
end
end K14

set_option maxHeartbeats 4000000
set_option Elab.async false
set_option linter.all false
set_option maxRecDepth 100000
namespace K14
open PySem L2
/-! ### two rising lists merged -/
theorem pairLt_iff {a b : Int × Int} : pairLt a b ↔ a.1 < b.1 ∨ (a.1 = b.1 ∧ a.2 < b.2) := by
  unfold pairLt
  by_cases h : a.1 = b.1
  · rw [if_pos h, decide_eq_true_iff]; omega
  · rw [if_neg h, decide_eq_true_iff]; omega
theorem pairLt_trans {a b c : Int × Int} (h1 : pairLt a b) (h2 : pairLt b c) : pairLt a c := by
  rw [pairLt_iff] at h1 h2 ⊢; omega
theorem sorted_eqP {l m : List (Int × Int)} (h1 : l.Pairwise pairLt) (h2 : m.Pairwise pairLt) (h : l.Perm m) : l = m :=
  List.Perm.eq_of_pairwise (fun a b _ _ x y => by rw [pairLt_iff] at x y; omega) h1 h2 h
theorem sorted_eqI {l m : List Int} (h1 : l.Pairwise (· ≤ ·)) (h2 : m.Pairwise (· ≤ ·)) (h : l.Perm m) : l = m :=
  List.Perm.eq_of_pairwise (fun a b _ _ x y => Int.le_antisymm x y) h1 h2 h
inductive Mg : List (Int × Int) → List (Int × Int) → List (Int × Int) → Prop
  | nil : Mg [] [] []
  | left {a as bs out} : pickB (a :: as) bs = true → Mg as bs out → Mg (a :: as) bs (a :: out)
  | right {b as bs out} : pickB as (b :: bs) = false → Mg as bs out → Mg as (b :: bs) (b :: out)
theorem Mg.perm {as bs out : List (Int × Int)} (h : Mg as bs out) : out.Perm (as ++ bs) := by
  induction h with
  | nil => exact .nil
  | left _ _ ih => exact ih.cons _
  | right _ _ ih => exact (ih.cons _).trans List.perm_middle.symm
theorem Mg.rising {as bs out : List (Int × Int)} (h : Mg as bs out) : as.Pairwise pairLt → bs.Pairwise pairLt → (∀ x ∈ as, ∀ y ∈ bs, x.2 < y.2) → out.Pairwise pairLt := by
  induction h with
  | nil => intro _ _ _; exact .nil
  | @left a as bs out hp hm ih =>
    intro h1 h2 h3
    refine List.pairwise_cons.mpr ⟨fun x hx => ?_, ih (List.pairwise_cons.mp h1).2 h2 fun x hx => h3 x (.tail _ hx)⟩
    rcases List.mem_append.mp (hm.perm.mem_iff.mp hx) with hx | hx
    · exact (List.pairwise_cons.mp h1).1 x hx
    · cases bs with
      | nil => exact absurd hx List.not_mem_nil
      | cons b bs =>
        have hab : pairLt a b := by
          have hp : (!decide (b.1 < a.1)) = true := hp
          have : ¬ b.1 < a.1 := by simpa using hp
          have := h3 a (.head _) b (.head _)
          rw [pairLt_iff]; omega
        rcases List.mem_cons.mp hx with rfl | hx
        · exact hab
        · exact pairLt_trans hab ((List.pairwise_cons.mp h2).1 x hx)
  | @right b as bs out hp hm ih =>
    intro h1 h2 h3
    refine List.pairwise_cons.mpr ⟨fun x hx => ?_, ih h1 (List.pairwise_cons.mp h2).2 fun x hx y hy => h3 x hx y (.tail _ hy)⟩
    rcases List.mem_append.mp (hm.perm.mem_iff.mp hx) with hx | hx
    · cases as with
      | nil => exact absurd hx List.not_mem_nil
      | cons a as =>
        have hba : pairLt b a := by
          have hp : (!decide (b.1 < a.1)) = false := hp
          have : b.1 < a.1 := by simpa using hp
          rw [pairLt_iff]; omega
        rcases List.mem_cons.mp hx with rfl | hx
        · exact hba
        · exact pairLt_trans hba ((List.pairwise_cons.mp h1).1 x hx)
    · exact (List.pairwise_cons.mp h2).1 x hx
/-! what is noted -/
def nwI (s : SdS) (ps : List (Int × Int)) : List Int := if s.wt = true then [] else (ps.take 1).map (·.2)
theorem nw_eq (s : SdS) (ps : List (Int × Int)) : nw s ps = (nwI s ps).map V.int := by
  unfold nw nwI
  split
  · rfl
  · rw [List.map_map]; rfl
theorem nwI_len (s : SdS) (ps : List (Int × Int)) : (nwI s ps).length ≤ 1 := by
  unfold nwI
  split
  · exact Nat.zero_le _
  · rw [List.length_map, List.length_take]; omega
def bN (b : Bool) : Nat := if b = true then 1 else 0
theorem nwI_take {s : SdS} {l : List (Int × Int)} {k : Nat} : (l.take (k + bN s.wt)).map (·.2) ++ nwI s (l.drop k) = (l.take (k + 1)).map (·.2) := by
  unfold nwI bN
  cases h : s.wt with
  | true => simp
  | false => simp [List.take_add]
theorem log_step {s1 s2 : SdS} {one two : List (Int × Int)} {k1 k2 : Nat} {L : List Int} (h : L.Perm ((one.take (k1 + bN s1.wt)).map (·.2) ++ (two.take (k2 + bN s2.wt)).map (·.2))) :
    (L ++ nwI s1 (one.drop k1) ++ nwI s2 (two.drop k2)).Perm ((one.take (k1 + 1)).map (·.2) ++ (two.take (k2 + 1)).map (·.2)) := by
  have h1 : (one.take (k1 + 1)).map (·.2) ++ (two.take (k2 + 1)).map (·.2) = ((one.take (k1 + bN s1.wt)).map (·.2) ++ nwI s1 (one.drop k1)) ++ ((two.take (k2 + bN s2.wt)).map (·.2) ++ nwI s2 (two.drop k2)) := by rw [nwI_take, nwI_take]
  rw [h1]
  generalize (one.take (k1 + bN s1.wt)).map (·.2) = A at *
  generalize (two.take (k2 + bN s2.wt)).map (·.2) = B at *
  generalize nwI s1 (one.drop k1) = n1
  generalize nwI s2 (two.drop k2) = n2
  refine ((h.append_right n1).append_right n2).trans ?_
  rw [List.append_assoc, List.append_assoc, List.append_assoc]
  refine List.Perm.append_left A ?_
  exact List.perm_append_comm_assoc B n1 n2
theorem take_wt {l : List (Int × Int)} {k : Nat} : l.take (k + bN (!(l.drop k).isEmpty)) = l.take (k + 1) := by
  unfold bN
  cases h : l.drop k with
  | nil =>
    have hl : l.length ≤ k := List.drop_eq_nil_iff.mp h
    rw [if_neg (by simp), List.take_of_length_le (by omega), List.take_of_length_le (by omega)]
  | cons a as => rw [if_pos (by simp)]
theorem drop_succ_of {α : Type} {l : List α} {k : Nat} {a : α} {as : List α} (h : l.drop k = a :: as) : l.drop (k + 1) = as ∧ k < l.length := by
  have hk : k < l.length := by
    by_cases hk : k < l.length
    · exact hk
    · rw [List.drop_of_length_le (by omega)] at h; cases h
  refine ⟨?_, hk⟩
  rw [← List.drop_drop, h]; rfl
/-! lists of pairs -/
theorem PrA.append {H : Hp} {ts us : List Addr} {ps qs : List (Int × Int)} (h : PrA H ts ps) (g : PrA H us qs) : PrA H (ts ++ us) (ps ++ qs) := by
  induction h with
  | nil => exact g
  | cons e _ ih => exact .cons e ih
theorem PrA.pick {H : Hp} {ts : List Addr} {ps : List (Int × Int)} (h : PrA H ts ps) : ∀ (q : List Nat), (∀ i ∈ q, i < ps.length) → PrA H (q.map fun i => ts.getD i 0) (q.map fun i => ps.getD i (0, 0))
  | [], _ => .nil
  | i :: q, hq => .cons (h.at i (hq i (.head _))) (PrA.pick h q fun j hj => hq j (.tail _ hj))
theorem PrA.drop {H : Hp} {ts : List Addr} {ps : List (Int × Int)} (h : PrA H ts ps) (k : Nat) : PrA H (ts.drop k) (ps.drop k) := by
  induction h generalizing k with
  | nil => rw [List.drop_nil, List.drop_nil]; exact .nil
  | cons e h ih =>
    cases k with
    | zero => exact .cons e h
    | succ k => exact ih k
theorem PrA.take {H : Hp} {ts : List Addr} {ps : List (Int × Int)} (h : PrA H ts ps) (k : Nat) : PrA H (ts.take k) (ps.take k) := by
  induction h generalizing k with
  | nil => rw [List.take_nil, List.take_nil]; exact .nil
  | cons e h ih =>
    cases k with
    | zero => exact .nil
    | succ k => exact .cons e (ih k)
theorem PrA.get {H : Hp} {ts : List Addr} {ps : List (Int × Int)} (h : PrA H ts ps) {i : Nat} {t : Addr} (e : ts[i]? = some t) : ∃ p, ps[i]? = some p ∧ H t = some (.tup [.int p.1, .int p.2]) := by
  induction h generalizing i with
  | nil => simp at e
  | cons e1 _ ih =>
    cases i with
    | zero => simp at e; subst e; exact ⟨_, rfl, e1⟩
    | succ i => exact ih (by simpa using e)
theorem Alk.pair {H : Hp} {n : Nat} {t u : Addr} {a b : Int} (ht : H t = some (.tup [.int a, .int b])) (hu : H u = some (.tup [.int a, .int b])) : Alk H (n + 2) (.ref t) (.ref u) := Alk.tup2 ht hu (Alk.flat rfl) (Alk.flat rfl)
theorem Alk.pairs {H : Hp} {n : Nat} {a b : Addr} {ts us : List Addr} {ps : List (Int × Int)} (ha : H a = some (.lst (ts.map V.ref))) (hb : H b = some (.lst (us.map V.ref))) (P1 : PrA H ts ps) (P2 : PrA H us ps) (hl : ps.length ≤ 900) : Alk H (n + 3) (.ref a) (.ref b) := by
  refine .inr ⟨a, b, _, _, rfl, rfl, .inl ⟨ha, hb⟩, by rw [List.length_map, List.length_map, P1.len, P2.len], by rw [List.length_map, P1.len]; omega, fun i x y e1 e2 => ?_⟩
  rw [List.getElem?_map] at e1 e2
  cases q1 : ts[i]? with
  | none => rw [q1] at e1; cases e1
  | some t =>
    cases q2 : us[i]? with
    | none => rw [q2] at e2; cases e2
    | some u =>
      rw [q1] at e1; cases e1
      rw [q2] at e2; cases e2
      obtain ⟨p1, h1, h2⟩ := P1.get q1
      obtain ⟨p2, h3, h4⟩ := P2.get q2
      rw [h1] at h3; cases h3
      exact Alk.pair h2 h4
/-! so many draws of the row -/
section
variable {P : Program} {w : World} {K : PySem.W.Frag} {mg : Str → Option Value} {base : Heap} {C CO CS CSd fI fD fSI fSA fDI fDL fDG : Addr} {T : List (Addr × Pos × Str)} {p q : Addr} {len : Nat} {PL : Addr} {ent : List (Pos × Str)} {rl : List (Addr × HO)} {Q : VK} {Y : KyA} {M : MgA} {A1 A2 : SdA} {lg l : Addr}
theorem items14 (T0 : RowT K mg C CO fI fD) (S0 : SideT K mg CSd fDI fDL fDG)
    (GT : ∀ {f cl cw c' : Addr} {doc pm ctv : Value}, FnOk P w K mg base (CXo P w) 5 f (fdMg cl cw doc pm c' ctv) [] (spTellMg ⟨P, w, K, mg, base, C, CO⟩ CSd CS 1 f cl cw doc pm c' ctv)) :
    ∀ (j : Nat) {H : Hp} {log : List V} {s1 s2 : SdS} {o : Bool} {ps1 ps2 done : List (Int × Int)} {acc : List Addr}, St14 C CSd CS T p q len PL ent Y M A1 A2 lg log s1 s2 o ps1 ps2 ((l, .lst (acc.map V.ref)) :: rl) H → PrA H acc done → ps1.length + ps2.length < j → log.length + 2 * j < 900 →
    (∀ acc' out log' s1' s2' H', St14 C CSd CS T p q len PL ent Y M A1 A2 lg log' s1' s2' true [] [] ((l, .lst (acc'.map V.ref)) :: rl) H' → PrA H' acc' (done ++ out) → Mg ps1 ps2 out → (ps1 = [] → ps2 = [] → log' = log) → KpC H H' → ∀ t, H' t = none → Q (.ref t) (upd H' t (.tup [.ref l, .bl true]))) →
    WI ⟨P, w, K, mg, base, C, CO⟩ 5 M.m l Q j (acc.map V.ref) H
  | 0, _, _, _, _, _, _, _, _, _, _, _, hj, _, _ => absurd hj (Nat.not_lt_zero _)
  | j + 1, H, log, s1, s2, o, ps1, ps2, done, acc, S, Pa, hj, hl, k => by
    have hn1 : (nw s1 ps1).length ≤ 1 := by rw [nw_eq, List.length_map]; exact nwI_len _ _
    have hn2 : (nw s2 ps2).length ≤ 1 := by rw [nw_eq, List.length_map]; exact nwI_len _ _
    have hl2 : (log ++ nw s1 ps1 ++ nw s2 ps2).length + 2 * j < 900 := by rw [List.length_append, List.length_append]; omega
    refine ⟨S.get 0 rfl, S.draw T0 S0 GT (by omega) (fun e1 e2 s1' s2' H' S' kc => ⟨rfl, S'.get 0 rfl, fun t ht => ?_⟩) (fun a b ps e pk t s1' s2' H' S' kc _ _ ht => ⟨S'.get 0 rfl, ?_⟩) (fun a b ps e pk t s1' s2' H' S' kc _ _ ht => ⟨S'.get 0 rfl, ?_⟩)⟩
    · subst e1 e2
      exact k acc [] log s1' s2' H' S' (by rw [List.append_nil]; exact Pa.same fun b xs e => kc _ _ e rfl) .nil (fun _ _ => rfl) kc t ht
    · subst e
      have S2 := S'.put (u' := .lst (acc.map V.ref ++ [.ref t])) 0 rfl
      have kc2 := kc.trans (KpC.put (u := .lst (acc.map V.ref ++ [.ref t])) (S'.get 0 rfl) rfl)
      have Pa2 : PrA (upd H' l (.lst (acc.map V.ref ++ [.ref t]))) (acc ++ [t]) (done ++ [(a, b)]) := (Pa.same fun b xs e => kc2 _ _ e rfl).snoc (KpC.put (S'.get 0 rfl) rfl _ _ ht rfl)
      have em : acc.map V.ref ++ [V.ref t] = (acc ++ [t]).map V.ref := by rw [List.map_append]; rfl
      rw [em] at S2 Pa2 kc2 ⊢
      refine items14 T0 S0 GT j S2 Pa2 (by rw [List.length_cons] at hj; omega) hl2 fun acc' out log' s1'' s2'' H'' S'' P'' hm _ kc' t ht => k acc' ((a, b) :: out) log' s1'' s2'' H'' S'' ?_ (.left pk hm) (fun z => nomatch z) (kc2.trans kc') t ht
      rw [List.append_assoc] at P''
      exact P''
    · subst e
      have S2 := S'.put (u' := .lst (acc.map V.ref ++ [.ref t])) 0 rfl
      have kc2 := kc.trans (KpC.put (u := .lst (acc.map V.ref ++ [.ref t])) (S'.get 0 rfl) rfl)
      have Pa2 : PrA (upd H' l (.lst (acc.map V.ref ++ [.ref t]))) (acc ++ [t]) (done ++ [(a, b)]) := (Pa.same fun b xs e => kc2 _ _ e rfl).snoc (KpC.put (S'.get 0 rfl) rfl _ _ ht rfl)
      have em : acc.map V.ref ++ [V.ref t] = (acc ++ [t]).map V.ref := by rw [List.map_append]; rfl
      rw [em] at S2 Pa2 kc2 ⊢
      refine items14 T0 S0 GT j S2 Pa2 (by rw [List.length_cons] at hj; omega) hl2 fun acc' out log' s1'' s2'' H'' S'' P'' hm _ kc' t ht => k acc' ((a, b) :: out) log' s1'' s2'' H'' S'' ?_ (.right pk hm) (fun _ z => nomatch z) (kc2.trans kc') t ht
      rw [List.append_assoc] at P''
      exact P''
end
end K14

set_option maxHeartbeats 4000000
set_option Elab.async false
set_option linter.all false
set_option maxRecDepth 100000
namespace K14
open PySem L2
/-! ### what the law asks of its lists -/
def prD (ps : List (Int × Int)) : List (List Int) := ps.map fun p => [p.1, p.2]
theorem PrA.logs {H : Hp} {ts : List Addr} {ps : List (Int × Int)} (h : PrA H ts ps) : Logs H (ts.map V.ref) (prD ps) := by
  refine ⟨ts, rfl, by unfold prD; rw [List.length_map, List.length_map, h.len], fun i t e h1 h2 => ?_⟩
  obtain ⟨p, q1, q2⟩ := h.get h1
  unfold prD at h2
  rw [List.getElem?_map, List.getElem?_map, q1] at h2
  cases h2
  exact q2
theorem eqv_evD_nil (es : List (List Int)) : PyData.eqv (.list (evD es)) (.list []) = es.isEmpty := by
  cases es with
  | nil => rfl
  | cons e es => rfl
section
variable {K : PySem.W.Frag} {H : Hp} {a b : Addr} {ts : List Addr} {ps : List (Int × Int)} {Q : VK}
theorem ne_nil14 (ha : H a = some (.lst (ts.map V.ref))) (hb : H b = some (.lst [])) (h : PrA H ts ps) (q : Q (.bl (!ps.isEmpty)) H) : rNeD K (.ref a) (.ref b) H Q := by
  refine ⟨_, _, .lst (SqL.of ha) h.logs.dp, .lst (SqL.of hb) .nil, evD_shaped _, evD_shaped [], ?_⟩
  rw [eqv_evD_nil, show (prD ps).isEmpty = ps.isEmpty from by cases ps <;> rfl]
  exact q
theorem eq_nil14 (ha : H a = some (.lst (ts.map V.ref))) (hb : H b = some (.lst [])) (h : PrA H ts ps) (q : Q (.bl ps.isEmpty) H) : rEqD K (.ref a) (.ref b) H Q := by
  refine ⟨_, _, .lst (SqL.of ha) h.logs.dp, .lst (SqL.of hb) .nil, evD_shaped _, evD_shaped [], ?_⟩
  rw [eqv_evD_nil, show (prD ps).isEmpty = ps.isEmpty from by cases ps <;> rfl]
  exact q
theorem ints_ne14 {xs : List Int} (ha : H a = some (.lst (xs.map V.int))) (hb : H b = some (.lst (xs.map V.int))) (hl : xs.length ≤ 60) (q : Q (.bl false) H) : rNeD K (.ref a) (.ref b) H Q := by
  have hs : SeqAt.shaped (.list (xs.map PyData.int)) = true := by
    obtain ⟨h1, h2⟩ := ints_lay xs
    unfold SeqAt.shaped
    have e1 : PyData.canLay0 (.list (xs.map PyData.int)) = true := by rw [PyData.canLay0]; exact h1
    have e2 : PyData.depth (.list (xs.map PyData.int)) ≤ 64 := by rw [PyData.depth]; omega
    rw [e1, decide_eq_true e2]
    rfl
  refine ⟨_, _, .lst (SqL.of ha) (dp_ints xs), .lst (SqL.of hb) (dp_ints xs), hs, hs, ?_⟩
  rw [SeqAt.eqv_refl _ (by rw [PyData.canLay0]; exact (ints_lay xs).1)]
  exact q
end
theorem at0 {x : V} {xs : List V} : atI (x :: xs) 0 = some x := atI_nat (j := 0) rfl
/-- which side is told -/
theorem side14 {K : PySem.W.Frag} {H : Hp} {lf rt : Addr} {ls rs : List Addr} {p1 p2 : List (Int × Int)} {v0 v1 v2 v3 v4 v5 v6 v7 v10 v11 v12 : Option V} {Qs : VK} (el : H lf = some (.lst (ls.map V.ref))) (er : H rt = some (.lst (rs.map V.ref))) (Pl : PrA H ls p1) (Pr : PrA H rs p2) (hne : p1 ≠ [] ∨ p2 ≠ [])
    (k : ∀ H', Same H H' → Qs (.ref (if pickB p1 p2 = true then lf else rt)) H') :
    tIf (tOr (tTest (tOp (rEqD K) (tVar 9) (tLst tNil))) (tAnd (tTest (tOp (rNeD K) (tVar 8) (tLst tNil))) (tTest (tOp (rI0 fun i j => V.bl (decide (i ≤ j))) (tOp (rIxT K) (tOp (rIxL K) (tVar 8) (tC (V.int 0))) (tC (V.int 0))) (tOp (rIxT K) (tOp (rIxL K) (tVar 9) (tC (V.int 0))) (tC (V.int 0))))))) (tVar 8) (tVar 9)
      [v0, v1, v2, v3, v4, v5, v6, v7, some (.ref lf), some (.ref rt), v10, v11, v12] H Qs := by
  refine ⟨_, rfl, Nat.zero_le _, fun b1 hb1 => eq_nil14 (ts := rs) (ps := p2) (same_alloc hb1 _ _ er) upd_same (Pr.same fun b xs e => same_alloc hb1 _ _ e) ⟨_, rfl, ?_⟩⟩
  have s1 := same_alloc (o := .lst []) hb1
  cases p2 with
  | nil =>
    refine iteT (iteT ⟨_, rfl, ?_⟩)
    have := k _ s1
    rcases hne with hne | hne
    · rw [show pickB p1 [] = true from by cases p1 with | nil => exact absurd rfl hne | cons _ _ => rfl, if_pos rfl] at this
      exact this
    · exact absurd rfl hne
  | cons r p2 =>
    refine iteF ⟨_, rfl, Nat.zero_le _, fun b2 hb2 => ?_⟩
    have s2 := s1.trans (same_alloc (o := .lst []) hb2)
    refine ne_nil14 (ts := ls) (ps := p1) (s2 _ _ el) upd_same (Pl.same fun b xs e => s2 _ _ e) ⟨_, rfl, ?_⟩
    cases p1 with
    | nil => exact iteF (iteF ⟨_, rfl, k _ s2⟩)
    | cons l p1 =>
      cases Pl with
      | @cons tl _ ls _ hl Pl =>
      cases Pr with
      | @cons tr _ rs _ hr Pr =>
      refine iteT ⟨_, rfl, lf, _, 0, .ref tl, rfl, rfl, SqL.of (s2 _ _ el), at0, tl, _, 0, .int l.1, rfl, rfl, SqT.of (s2 _ _ hl), rfl, _, rfl, rt, _, 0, .ref tr, rfl, rfl, SqL.of (s2 _ _ er), at0, tr, _, 0, .int r.1, rfl, rfl, SqT.of (s2 _ _ hr), rfl, _, _, rfl, rfl, _, rfl, ?_⟩
      have := k _ s2
      have e : pickB (l :: p1) (r :: p2) = decide (l.1 ≤ r.1) := by
        show (!decide (r.1 < l.1)) = _
        by_cases h : l.1 ≤ r.1
        · rw [decide_eq_true h, decide_eq_false (by omega)]; rfl
        · rw [decide_eq_false h, decide_eq_true (by omega)]; rfl
      rw [e] at this
      cases hd : decide (l.1 ≤ r.1) with
      | true => rw [hd, if_pos rfl] at this; exact iteT ⟨_, rfl, this⟩
      | false => rw [hd, if_neg (by decide)] at this; exact iteF ⟨_, rfl, this⟩
/-- what was noted, and what was to be asked, sorted -/
theorem sortcmp14 {K : PySem.W.Frag} {H : Hp} {lg cl : Addr} {ts : List Addr} {ps : List (Int × Int)} {L : List Int} {v0 v1 v2 v3 v4 v5 v7 v8 v9 v11 v12 : Option V} {Qs : Bool → Hp → Prop} (e1 : H lg = some (.lst (L.map V.int))) (e2 : H cl = some (.lst (ts.map V.ref))) (hP : PrA H ts ps) (hp : L.Perm (ps.map (·.2))) (hl : ps.length ≤ 40)
    (k : ∀ H', Same H H' → Qs false H') :
    tTest (tOp (rNeD K) (tCB (rSorted K) (tCons (tVar 6) tNil)) (tCB (rSorted K) (tCons (tLc (iList K (tVar 10)) (gName 12) tYes (tOp (rIxT K) (tVar 12) (tC (V.int 1))) (List.map (fun x => x.2) [(("_law_pair" : Str), 12)])) tNil)))
      [v0, v1, v2, v3, v4, v5, some (.ref lg), v7, v8, v9, some (.ref cl), v11, v12] H Qs := by
  have hL : L.length = ps.length := by rw [hp.length_eq, List.length_map]
  refine ⟨_, rfl, lg, L, rfl, SqL.of e1, by omega, fun n1 q1 hn1 hs1 hq1 => ?_⟩
  have s1 := same_alloc (o := .lst (n1.map V.int)) hq1
  have f1 : upd H q1 (.lst (n1.map V.int)) q1 = some (.lst (n1.map V.int)) := upd_same
  generalize upd H q1 (.lst (n1.map V.int)) = H1 at s1 f1 ⊢
  have hP1 := hP.same fun b xs e => s1 _ _ e
  have hlen := hP.len
  refine ⟨_, rfl, cl, rfl, ⟨_, SqL.of (s1 _ _ e2)⟩, fun D hD => lc_list (xs := ts.map V.ref) (fun j H' => Same H1 H' ∧ H' D = some (.lst ((ps.take j).map fun p => V.int p.2))) ⟨same_alloc hD, upd_same⟩ (fun i H' _ h => SqL.of (h.1 _ _ (s1 _ _ e2))) (fun j x H' hx h => ?_) (fun H' h => ?_)⟩
  · obtain ⟨s, eD⟩ := h
    rw [List.getElem?_map] at hx
    cases ht : ts[j]? with
    | none => rw [ht] at hx; cases hx
    | some t =>
      rw [ht] at hx
      cases hx
      obtain ⟨pr, g1, g2⟩ := hP1.get ht
      refine ⟨rfl, tYes_if ⟨_, rfl, t, _, 1, .int pr.2, rfl, rfl, SqT.of (s _ _ g2), rfl, _, eD, ?_, ?_, ?_⟩⟩
      · rw [List.length_map, List.length_take]; have := sizeK; omega
      · exact fun b o e => by rw [upd_ne (ne_of_none e hD)]; exact s _ _ e
      · rw [upd_same, List.take_add_one, g1, List.map_append]; rfl
  · obtain ⟨s, eD⟩ := h
    rw [List.length_map, hlen, List.take_of_length_le (Nat.le_refl _), show (ps.map fun p => V.int p.2) = (ps.map (·.2)).map V.int from by rw [List.map_map]; rfl] at eD
    refine ⟨D, _, rfl, SqL.of eD, by rw [List.length_map]; omega, fun n2 q2 hn2 hs2 hq2 => ?_⟩
    have en : n1 = n2 := sorted_eqI hs1 hs2 ((hn1.trans hp).trans hn2.symm)
    subst en
    have s2 := same_alloc (o := .lst (n1.map V.int)) hq2
    exact ints_ne14 (s2 _ _ (s _ _ f1)) upd_same (by rw [hn1.length_eq]; omega) ⟨_, rfl, k _ ((s1.trans s).trans s2)⟩
theorem pick_perm {ps : List (Int × Int)} {q : List Nat} (h : q.Perm (List.range ps.length)) : (q.map fun i => ps.getD i (0, 0)).Perm ps := by
  refine (h.map _).trans (List.Perm.of_eq ?_)
  refine List.ext_getElem? fun i => ?_
  rw [List.getElem?_map]
  by_cases hi : i < ps.length
  · rw [List.getElem?_range hi, List.getElem?_eq_getElem hi]
    show some (ps.getD i (0, 0)) = _
    rw [List.getD_eq_getElem?_getD, List.getElem?_eq_getElem hi]; rfl
  · rw [List.getElem?_eq_none (by simpa using hi), List.getElem?_eq_none (by omega)]; rfl
theorem ids_lt {ps : List (Int × Int)} {side : Int} (h : ps.map (·.2) = (List.range ps.length).map fun (k : Nat) => side * 100 + (k : Int)) (hl : ps.length ≤ 9) : (ps.map (·.2)).Nodup ∧ ∀ x ∈ ps, side * 100 ≤ x.2 ∧ x.2 < side * 100 + 10 := by
  refine ⟨?_, fun x hx => ?_⟩
  · rw [h]
    exact List.Pairwise.map (R := (· ≠ ·)) _ (fun a b n z => n (by omega)) List.nodup_range
  · have : x.2 ∈ ps.map (·.2) := List.mem_map.mpr ⟨x, hx, rfl⟩
    rw [h] at this
    obtain ⟨k, hk, e⟩ := List.mem_map.mp this
    have := List.mem_range.mp hk
    omega
end K14

set_option maxHeartbeats 0
set_option Elab.async false
set_option linter.all false
set_option maxRecDepth 100000
namespace K14
open PySem L2
theorem nd_ne {l : List Addr} (h : l.Nodup) (i j : Nat) {a b : Addr} (hi : l[i]? = some a) (hj : l[j]? = some b) (n : i ≠ j) : a ≠ b := fun z => by
  subst z
  have hl : i < l.length := (List.getElem?_eq_some_iff.mp hi).1
  exact n ((List.getElem?_inj hl h).mp (hi.trans hj.symm))
theorem nd_all {l : List Addr} {T : List (Addr × Pos × Str)} (h : l.Nodup) (j : Nat) {b : Addr} (hj : l[j]? = some b) (is : List Nat) (e : is.map (fun i => l[i]?) = T.map fun x => some x.1) (hn : j ∉ is) : ∀ x ∈ T, x.1 ≠ b := fun x hx => by
  have : some x.1 ∈ is.map (fun i => l[i]?) := by rw [e]; exact List.mem_map.mpr ⟨x, hx, rfl⟩
  obtain ⟨i, hi, e2⟩ := List.mem_map.mp this
  exact nd_ne h i j e2 hj fun z => hn (by rw [← z]; exact hi)
theorem seq_join {t u : TS} {D : Ends} {σ : St} {H : Hp} (J : St → Hp → Prop) (h1 : ∀ N : St → Hp → Prop, (∀ σ H, J σ H → N σ H) → t { D with nx := N } σ H) (h2 : ∀ σ H, J σ H → u D σ H) : tSeq t u D σ H := h1 _ h2
theorem seqIx0 {n : Nat} : seqIndex? 0 (n + 1) = some 0 := by
  unfold seqIndex?
  simp
theorem PrA.zip {H : Hp} {ts : List Addr} {ps : List (Int × Int)} (h : PrA H ts ps) : ∀ x ∈ ts.zip ps, H x.1 = some (.tup [.int x.2.1, .int x.2.2]) := by
  induction h with
  | nil => intro x hx; exact absurd hx List.not_mem_nil
  | cons e _ ih =>
    intro x hx
    rcases List.mem_cons.mp hx with rfl | hx
    · exact e
    · exact ih x hx
theorem PrA.cons_inv {H : Hp} {ts : List Addr} {p : Int × Int} {ps : List (Int × Int)} (h : PrA H ts (p :: ps)) : ∃ t ts', ts = t :: ts' ∧ H t = some (.tup [.int p.1, .int p.2]) ∧ PrA H ts' ps := by
  cases h with
  | cons e h => exact ⟨_, _, rfl, e, h⟩
theorem St14.less {C CSd CS : Addr} {T : List (Addr × Pos × Str)} {p q : Addr} {len : Nat} {PL : Addr} {ent : List (Pos × Str)} {H : Hp} {rl : List (Addr × HO)} {Y : KyA} {M : MgA} {A1 A2 : SdA} {lg : Addr} {log : List V} {s1 s2 : SdS} {o : Bool} {ps1 ps2 : List (Int × Int)} {x : Addr × HO} (S : St14 C CSd CS T p q len PL ent Y M A1 A2 lg log s1 s2 o ps1 ps2 (x :: rl) H) : St14 C CSd CS T p q len PL ent Y M A1 A2 lg log s1 s2 o ps1 ps2 rl H :=
  S.re ⟨S.K.k.sub ((List.sublist_cons_self x rl).append_left _), S.K.t, S.K.n⟩ fun _ _ e _ _ => e
/-- the text's defs, as the top has made them -/
structure Tx (P : Program) (K : PySem.W.Frag) (mg : Str → Option Value) (base : Heap) (CD CO C fI fD CS fSI fSA CSd fDI fDL fDG fKof fKit fAsi fMerged ccMerged PtMerged fLst ccLst PtLst fMix fNext fAlk fItm fPairs fKey ccKey PtKey ccLaw PtLaw : Addr) (dI dD dSI dSA dDI dDL dDG dKof dKit dAsi dMerged dLst dMix dNext dAlk dItm dPairs dKey : FuncData) : Prop where
  B : Blt mg
  mVE : mg "ValueError" = none
  mED : mg "DrawError" = some (.ref CD)
  ZD : ClsE K CD
  EGD : ExcG K CD
  exD : PySem.W.excIn K CD [.type "ValueError", .type "Exception", .type "BaseException", .type "object"] "ValueError.__new__" = true
  mEO : mg "Over" = some (.ref CO)
  ZO : ClsE K CO
  EGO : ExcG K CO
  exO : PySem.W.excIn K CO [.type "ValueError", .type "Exception", .type "BaseException", .type "object"] "ValueError.__new__" = true
  T : RowT K mg C CO fI fD
  FI : Fun K "__init__" "Row.__init__" sInit fI dI
  bI : Binds K dI ["self", "tell"] []
  FD : Fun K "draw" "Row.draw" sDraw fD dD
  bD : Binds K dD ["self"] []
  S : SrcT K mg CS fSI fSA
  FSI : Fun K "__init__" "Source.__init__" s_Source_init fSI dSI
  bSI : Binds K dSI ["self", "row"] []
  FSA : Fun K "advance" "Source.advance" s_Source_advance fSA dSA
  bSA : Binds K dSA ["self"] []
  Sd : SideT K mg CSd fDI fDL fDG
  FDI : Fun K "__init__" "Side.__init__" s_Side_init fDI dDI
  bDI : Binds K dDI ["self", "row", "key"] []
  FDL : Fun K "look" "Side.look" s_Side_look fDL dDL
  bDL : Binds K dDL ["self"] []
  FDG : Fun K "give" "Side.give" s_Side_give fDG dDG
  bDG : Binds K dDG ["self"] []
  FKof : Fun K "key_of" "key_of" sKeyOf fKof dKof
  mKof : mg "key_of" = some (.ref fKof)
  bKof : Binds K dKof ["x", "key"] []
  FKit : Fun K "key_itself" "key_itself" sKeyItself fKit dKit
  mKit : mg "key_itself" = some (.ref fKit)
  bKit : Binds K dKit ["x", "key"] []
  FAsi : Fun K "as_it_is" "as_it_is" sAsItIs fAsi dAsi
  mAsi : mg "as_it_is" = some (.ref fAsi)
  bAsi : Binds K dAsi ["key"] []
  FMerged : Fun K "merged" "merged" s_merged fMerged dMerged
  mMerged : mg "merged" = some (.ref fMerged)
  bMerged : Binds K dMerged ["one", "other", "key"] []
  FLst : Fun K "listed" "listed" sListed fLst dLst
  mLst : mg "listed" = some (.ref fLst)
  bLst : Binds K dLst ["items"] []
  FMix : Fun K "_law_mix" "_law_mix" sMix fMix dMix
  mMix : mg "_law_mix" = some (.ref fMix)
  bMix : Binds K dMix ["_law_script", "_law_seed"] []
  FNext : Fun K "_law_next" "_law_next" sNext fNext dNext
  mNext : mg "_law_next" = some (.ref fNext)
  bNext : Binds K dNext ["_law_h", "_law_many"] []
  FAlk : Fun K "_law_alike" "_law_alike" sAlike fAlk dAlk
  mAlk : mg "_law_alike" = some (.ref fAlk)
  bAlk : Binds K dAlk ["_law_found", "_law_due"] []
  FItm : Fun K "_law_items" "_law_items" sItems fItm dItm
  mItm : mg "_law_items" = some (.ref fItm)
  bItm : Binds K dItm ["_law_row", "_law_times"] []
  FPairs : Fun K "_law_pairs" "_law_pairs" s__law_pairs fPairs dPairs
  mPairs : mg "_law_pairs" = some (.ref fPairs)
  bPairs : Binds K dPairs ["_law_h", "_law_side"] []
  FKey : Fun K "_law_key" "_law_key" s__law_key fKey dKey
  mKey : mg "_law_key" = some (.ref fKey)
  bKey : Binds K dKey ["_law_log"] []
  cMerged : dMerged.code = .ref ccMerged
  tMerged : PySem.W.CodeHd base ccMerged PtMerged ∧ mainGlobals ≠ PtMerged ∧ base.BuiltinsAt mg PtMerged
  cLst : dLst.code = .ref ccLst
  tLst : PySem.W.CodeHd base ccLst PtLst ∧ mainGlobals ≠ PtLst ∧ base.BuiltinsAt mg PtLst
  cKey : dKey.code = .ref ccKey
  tKey : PySem.W.CodeHd base ccKey PtKey ∧ mainGlobals ≠ PtKey ∧ base.BuiltinsAt mg PtKey
  tLaw : PySem.W.CodeHd base ccLaw PtLaw ∧ mainGlobals ≠ PtLaw ∧ base.BuiltinsAt mg PtLaw
  nd : ([PtMerged, PtLst, PtKey, PtLaw] : List Addr).Nodup
  neSd : CSd ≠ CS
section
variable {P : Program} {w : World} {K : PySem.W.Frag} {mg : Str → Option Value} {base : Heap} {CD CO C fI fD CS fSI fSA CSd fDI fDL fDG fKof fKit fAsi fMerged ccMerged PtMerged fLst ccLst PtLst fMix fNext fAlk fItm fPairs fKey ccKey PtKey ccLaw PtLaw : Addr} {dI dD dSI dSA dDI dDL dDG dKof dKit dAsi dMerged dLst dMix dNext dAlk dItm dPairs dKey : FuncData}
abbrev TL (PtMerged PtLst PtKey PtLaw : Addr) : List (Addr × Pos × Str) := [(PtMerged, posMg, "merged.<locals>.tell"), (PtLst, pos0, "listed.<locals>.tell"), (PtKey, posKy, "_law_key.<locals>._law_call")]
def spLaw (K : PySem.W.Frag) (PtMerged PtLst PtKey PtLaw : Addr) : Sp := fun vs H Q _ => ∃ (a : Addr) (ns : List Int), vs = [.ref a] ∧ SqL K H a (ns.map V.int) ∧ ns.length ≤ 63 ∧ (H PtMerged = some (.tbl #[]) ∧ H PtLst = some (.tbl #[]) ∧ H PtKey = some (.tbl #[]) ∧ H PtLaw = some (.tbl #[])) ∧ ∀ H', Q (.bl true) H'
theorem scLaw : FnScopeC2 ["_law_script", "_law_h", "_law_turn", "_law_one", "_law_two", "_law_found", "_law_log", "_law_row", "_law_left", "_law_right", "_law_calls", "_law_side", "_law_pair"] ["_law_script"] (defScope sLaw) := ⟨rfl, rfl, rfl, by decide +kernel, by decide +kernel, by decide +kernel, by decide +kernel, by decide +kernel, by decide +kernel⟩
theorem ok_law {f : Addr} {fd : FuncData} (F : Fun K "law" "law" sLaw f fd) (hcL : fd.code = .ref ccLaw) (X : Tx P K mg base CD CO C fI fD CS fSI fSA CSd fDI fDL fDG fKof fKit fAsi fMerged ccMerged PtMerged fLst ccLst PtLst fMix fNext fAlk fItm fPairs fKey ccKey PtKey ccLaw PtLaw dI dD dSI dSA dDI dDL dDG dKof dKit dAsi dMerged dLst dMix dNext dAlk dItm dPairs dKey) : FnOk P w K mg base (CXo P w) 40 f fd ["_law_script"] (spLaw K PtMerged PtLst PtKey PtLaw) := by
  have B := X.B
  have T := X.T
  have S := X.S
  have Sd := X.Sd
  have tn0 : ((TL PtMerged PtLst PtKey PtLaw).map (·.1)).Nodup := (List.Sublist.cons₂ _ (List.Sublist.cons₂ _ (List.Sublist.cons₂ _ (List.Sublist.cons _ .slnil)))).nodup X.nd
  have nL0 : ∀ x ∈ TL PtMerged PtLst PtKey PtLaw, x.1 ≠ PtLaw := nd_all X.nd 3 rfl [0, 1, 2] rfl (by decide)
  have GRD : FnOk P w K mg base (CXo P w) 6 fD dD ["self"] (spDraw ⟨P, w, K, mg, base, C, CO⟩ 5) := ok_draw X.FD T
  have GL : FnOk P w K mg base (CXo P w) 4 fDL dDL ["self"] (spLook ⟨P, w, K, mg, base, C, CO⟩ CSd CS 1) := ok_look (n := 1) X.FDL B Sd S T X.FSA X.bSA X.FD X.bD X.FKof X.mKof X.bKof X.FKit X.mKit X.bKit X.FAsi X.mAsi X.bAsi
  have GMix : FnOk P w K mg base (CXo P w) 1 fMix dMix ["_law_script", "_law_seed"] (spMix K) := ok_mix X.FMix B
  have GNext : FnOk P w K mg base (CXo P w) 1 fNext dNext ["_law_h", "_law_many"] spNext := ok_next X.FNext B
  have GAlk : FnOk P w K mg base (CXo P w) 4 fAlk dAlk ["_law_found", "_law_due"] (spAlike 4) := ok_alike X.FAlk B X.mAlk X.bAlk 4
  have GLst : FnOk P w K mg base (CXo P w) 3 fLst dLst ["items"] (spListed K C PtLst) := ok_listed X.FLst B T X.FI X.bI X.cLst X.tLst
  have GMerged : FnOk P w K mg base (CXo P w) 5 fMerged dMerged ["one", "other", "key"] (spMerged C CSd CS PtMerged) := ok_merged X.FMerged T X.FI X.bI X.cMerged X.tMerged Sd S X.FSI X.bSI X.FDI X.bDI
  have GPairs : FnOk P w K mg base (CXo P w) 2 fPairs dPairs ["_law_h", "_law_side"] spLawPairs := ok_lawpairs X.FPairs B X.FNext X.mNext X.bNext
  have GKey : FnOk P w K mg base (CXo P w) 1 fKey dKey ["_law_log"] (spLawKey PtKey) := ok_lawkey X.FKey X.cKey X.tKey
  have GItm : FnOk P w K mg base (CXo P w) 7 fItm dItm ["_law_row", "_law_times"] (spItems ⟨P, w, K, mg, base, C, CO⟩ 5) := ok_items (n := 5) X.FItm B T X.FD X.bD
  refine F.okC2 scLaw (fun vs H Q E h => ?_) (fun cdv A outer s H vs Q E hcd hr h fresh => ?_)
  · obtain ⟨a, ns, rfl, _⟩ := h
    rfl
  · obtain ⟨a, ns, rfl, hS, hlen, ⟨tMerged, tLst, tKey, tLaw⟩, k⟩ := h
    have hr1 : Room 1 _ := hr.mono (by decide)
    have hr2 : Room 2 _ := hr.mono (by decide)
    have hr3 : Room 3 _ := hr.mono (by decide)
    have hr4 : Room 4 _ := hr.mono (by decide)
    have hr5 : Room 5 _ := hr.mono (by decide)
    have hr6 : Room 6 _ := hr.mono (by decide)
    have hr7 : Room 7 _ := hr.mono (by decide)
    have hcd2 : cdv = .ref ccLaw := hcd.symm.trans hcL
    refine ⟨_, (@pss_cons _ _ _ _ _ (@ps_set _ _ (1) _ _ _ _ scLaw.nd rfl (Or.inl rfl) (@pe_call _ _ _ _ _ _ _ _ _ _ _ _ _ _ _ _ GMix hr1 rfl X.mMix X.FMix.kp X.bMix .nil pass_no (@pa_Name _ _ _ _ _ _ (@pv _ 0 _ _ (by rfl) (by first
  | exact Or.inl rfl
  | exact Or.inr (Or.inl rfl)
  | exact Or.inr (Or.inr rfl)) (by decide) (by decide)) (@pa_Constant _ _ _ _ _ _ _ (@pe_int _ _ _ _) (@pa_nil _))) (by decide) (by rfl) (by rfl)) (by rfl) (by first
  | exact .inl rfl
  | exact .inr rfl
  | assumption)) (@pss_cons _ _ _ _ _ (@ps_for _ _ _ _ _ _ _ _ passes_F rfl (@pi_range1 _ _ _ _ _ _ (by rfl) B.range (@pa_Constant _ _ _ _ _ _ _ (@pe_int _ _ _ _) (@pa_nil _)) (by rfl)) (@pg_name _ _ (2) _ scLaw.nd rfl (Or.inl rfl) (by first
  | exact .inl rfl
  | exact .inr rfl
  | assumption)) (@pss_cons _ _ _ _ _ (@ps_par _ _ (3) (4) _ _ _ _ _ _ _ _ _ _ _ rfl scLaw.nd rfl rfl (by decide) rfl rfl (@pa_Call _ _ _ _ _ _ _ _ (@pe_call _ _ _ _ _ _ _ _ _ _ _ _ _ _ _ _ GPairs hr2 rfl X.mPairs X.FPairs.kp X.bPairs .nil pass_no (@pa_Name _ _ _ _ _ _ (@pv _ 1 _ _ (by rfl) (by first
  | exact Or.inl rfl
  | exact Or.inr (Or.inl rfl)
  | exact Or.inr (Or.inr rfl)) (by decide) (by decide)) (@pa_Constant _ _ _ _ _ _ _ (@pe_int _ _ _ _) (@pa_nil _))) (by decide) (by rfl) (by rfl)) (@pa_Call _ _ _ _ _ _ _ _ (@pe_call _ _ _ _ _ _ _ _ _ _ _ _ _ _ _ _ GPairs hr2 rfl X.mPairs X.FPairs.kp X.bPairs .nil pass_no (@pa_Name _ _ _ _ _ _ (@pv _ 1 _ _ (by rfl) (by first
  | exact Or.inl rfl
  | exact Or.inr (Or.inl rfl)
  | exact Or.inr (Or.inr rfl)) (by decide) (by decide)) (@pa_Constant _ _ _ _ _ _ _ (@pe_int _ _ _ _) (@pa_nil _))) (by decide) (by rfl) (by rfl)) (@pa_nil _))) (by rfl) (by rfl)) (@pss_cons _ _ _ _ _ (@ps_if _ _ _ _ _ _ _ _ (@pt_cmpR _ _ _ _ _ _ _ _ op_eq (@pe_call _ _ _ _ _ _ _ _ _ _ _ _ _ _ _ _ GNext hr1 rfl X.mNext X.FNext.kp X.bNext .nil pass_no (@pa_Name _ _ _ _ _ _ (@pv _ 1 _ _ (by rfl) (by first
  | exact Or.inl rfl
  | exact Or.inr (Or.inl rfl)
  | exact Or.inr (Or.inr rfl)) (by decide) (by decide)) (@pa_Constant _ _ _ _ _ _ _ (@pe_int _ _ _ _) (@pa_nil _))) (by decide) (by rfl) (by rfl)) (@pe_int _ _ _ _) (nomark _)) (@pss_cons _ _ _ _ _ (@ps_par _ _ (3) (4) _ _ _ _ _ _ _ _ _ _ _ rfl scLaw.nd rfl rfl (by decide) rfl rfl (@pa_Call _ _ _ _ _ _ _ _ (@pe_callB _ _ _ _ _ _ _ _ _ cr_sortedP (by rfl) B.sorted (by decide +kernel) (@pa_Name _ _ _ _ _ _ (@pv _ 3 _ _ (by rfl) (by first
  | exact Or.inl rfl
  | exact Or.inr (Or.inl rfl)
  | exact Or.inr (Or.inr rfl)) (by decide) (by decide)) (@pa_nil _)) (by decide) (by decide) (by rfl) (by rfl)) (@pa_Call _ _ _ _ _ _ _ _ (@pe_callB _ _ _ _ _ _ _ _ _ cr_sortedP (by rfl) B.sorted (by decide +kernel) (@pa_Name _ _ _ _ _ _ (@pv _ 4 _ _ (by rfl) (by first
  | exact Or.inl rfl
  | exact Or.inr (Or.inl rfl)
  | exact Or.inr (Or.inr rfl)) (by decide) (by decide)) (@pa_nil _)) (by decide) (by decide) (by rfl) (by rfl)) (@pa_nil _))) (by rfl) (by rfl)) (@pss_cons _ _ _ _ _ (@ps_set _ _ (5) _ _ _ _ scLaw.nd rfl (Or.inl rfl) (@pe_call _ _ _ _ _ _ _ _ _ _ _ _ _ _ _ _ GItm hr7 rfl X.mItm X.FItm.kp X.bItm .nil pass_no (@pa_Call _ _ _ _ _ _ _ _ (@pe_call _ _ _ _ _ _ _ _ _ _ _ _ _ _ _ _ GMerged hr5 rfl X.mMerged X.FMerged.kp X.bMerged .nil pass_no (@pa_Call _ _ _ _ _ _ _ _ (@pe_call _ _ _ _ _ _ _ _ _ _ _ _ _ _ _ _ GLst hr3 rfl X.mLst X.FLst.kp X.bLst .nil pass_no (@pa_Name _ _ _ _ _ _ (@pv _ 3 _ _ (by rfl) (by first
  | exact Or.inl rfl
  | exact Or.inr (Or.inl rfl)
  | exact Or.inr (Or.inr rfl)) (by decide) (by decide)) (@pa_nil _)) (by decide) (by rfl) (by rfl)) (@pa_Call _ _ _ _ _ _ _ _ (@pe_call _ _ _ _ _ _ _ _ _ _ _ _ _ _ _ _ GLst hr3 rfl X.mLst X.FLst.kp X.bLst .nil pass_no (@pa_Name _ _ _ _ _ _ (@pv _ 4 _ _ (by rfl) (by first
  | exact Or.inl rfl
  | exact Or.inr (Or.inl rfl)
  | exact Or.inr (Or.inr rfl)) (by decide) (by decide)) (@pa_nil _)) (by decide) (by rfl) (by rfl)) (@pa_Call _ _ _ _ _ _ _ _ (@pe_call _ _ _ _ _ _ _ _ _ _ _ _ _ _ _ _ GKey hr1 rfl X.mKey X.FKey.kp X.bKey .nil pass_no (@pa_List _ _ _ _ _ _ (@pe_lst _ _ _ _ (@pa_nil _)) (@pa_nil _)) (by decide) (by rfl) (by rfl)) (@pa_nil _)))) (by decide) (by rfl) (by rfl)) (@pa_Constant _ _ _ _ _ _ _ (@pe_int _ _ _ _) (@pa_nil _))) (by decide) (by rfl) (by rfl)) (by rfl) (by first
  | exact .inl rfl
  | exact .inr rfl
  | assumption)) (@pss_one _ _ _ (@ps_if _ _ _ _ _ _ _ _ (@pt_not _ _ _ _ (@pt_val _ _ _ (@pe_call _ _ _ _ _ _ _ _ _ _ _ _ _ _ _ _ GAlk hr4 rfl X.mAlk X.FAlk.kp X.bAlk .nil pass_no (@pa_Name _ _ _ _ _ _ (@pv _ 5 _ _ (by rfl) (by first
  | exact Or.inl rfl
  | exact Or.inr (Or.inl rfl)
  | exact Or.inr (Or.inr rfl)) (by decide) (by decide)) (@pa_Tuple _ _ _ _ _ _ _ (@pe_tup _ _ _ _ _ (@pa_Call _ _ _ _ _ _ _ _ (@pe_callBK _ _ _ _ _ _ _ _ _ _ _ _ (cr_sortedK hr3) (by rfl) B.sorted (by decide +kernel) (@pa_BinOp _ _ _ _ _ _ _ _ (@pe_op _ _ _ _ _ _ _ _ op_cat (@pv _ 3 _ _ (by rfl) (by first
  | exact Or.inl rfl
  | exact Or.inr (Or.inl rfl)
  | exact Or.inr (Or.inr rfl)) (by decide) (by decide)) (@pv _ 4 _ _ (by rfl) (by first
  | exact Or.inl rfl
  | exact Or.inr (Or.inl rfl)
  | exact Or.inr (Or.inr rfl)) (by decide) (by decide))) (@pa_nil _)) (@pk_cons _ _ _ _ _ _ _ (@pe_lamX _ _ (PtLaw) (entL) (qLam) _ _ ([]) _ _ ⟨hcd2, X.tLaw.1, X.tLaw.2.1, X.tLaw.2.2⟩ (by kernel_rfl) (by rfl) ⟨.head _, fun e he _ _ => ent_all e he⟩ rfl) (@pk_nil _)) (by rfl) (by decide) (by decide) (by rfl) (by rfl) (by rfl) (by rfl)) (@pa_Constant _ _ _ _ _ _ _ (@pe_bl _ _ _ _) (@pa_nil _)))) (@pa_nil _))) (by decide) (by rfl) (by rfl)) (by intro _; rfl))) (@pss_one _ _ _ (@ps_ret _ _ _ _ (@pe_bl _ _ _ _))) (@pss_nil _))))) (@pss_nil _)) (@pss_cons _ _ _ _ _ (@ps_set _ _ (6) _ _ _ _ scLaw.nd rfl (Or.inl rfl) (@pe_lst _ _ _ _ (@pa_nil _)) (by rfl) (by first
  | exact .inl rfl
  | exact .inr rfl
  | assumption)) (@pss_cons _ _ _ _ _ (@ps_set _ _ (7) _ _ _ _ scLaw.nd rfl (Or.inl rfl) (@pe_call _ _ _ _ _ _ _ _ _ _ _ _ _ _ _ _ GMerged hr5 rfl X.mMerged X.FMerged.kp X.bMerged .nil pass_no (@pa_Call _ _ _ _ _ _ _ _ (@pe_call _ _ _ _ _ _ _ _ _ _ _ _ _ _ _ _ GLst hr3 rfl X.mLst X.FLst.kp X.bLst .nil pass_no (@pa_Name _ _ _ _ _ _ (@pv _ 3 _ _ (by rfl) (by first
  | exact Or.inl rfl
  | exact Or.inr (Or.inl rfl)
  | exact Or.inr (Or.inr rfl)) (by decide) (by decide)) (@pa_nil _)) (by decide) (by rfl) (by rfl)) (@pa_Call _ _ _ _ _ _ _ _ (@pe_call _ _ _ _ _ _ _ _ _ _ _ _ _ _ _ _ GLst hr3 rfl X.mLst X.FLst.kp X.bLst .nil pass_no (@pa_Name _ _ _ _ _ _ (@pv _ 4 _ _ (by rfl) (by first
  | exact Or.inl rfl
  | exact Or.inr (Or.inl rfl)
  | exact Or.inr (Or.inr rfl)) (by decide) (by decide)) (@pa_nil _)) (by decide) (by rfl) (by rfl)) (@pa_Call _ _ _ _ _ _ _ _ (@pe_call _ _ _ _ _ _ _ _ _ _ _ _ _ _ _ _ GKey hr1 rfl X.mKey X.FKey.kp X.bKey .nil pass_no (@pa_Name _ _ _ _ _ _ (@pv _ 6 _ _ (by rfl) (by first
  | exact Or.inl rfl
  | exact Or.inr (Or.inl rfl)
  | exact Or.inr (Or.inr rfl)) (by decide) (by decide)) (@pa_nil _)) (by decide) (by rfl) (by rfl)) (@pa_nil _)))) (by decide) (by rfl) (by rfl)) (by rfl) (by first
  | exact .inl rfl
  | exact .inr rfl
  | assumption)) (@pss_cons _ _ _ _ _ (@ps_par _ _ (8) (9) _ _ _ _ _ _ _ _ _ _ _ rfl scLaw.nd rfl rfl (by decide) rfl rfl (@pa_Call _ _ _ _ _ _ _ _ (@pe_callTy _ _ _ _ _ _ _ _ _ call_list_of (by rfl) B.list (by decide +kernel) (@pa_Name _ _ _ _ _ _ (@pv _ 3 _ _ (by rfl) (by first
  | exact Or.inl rfl
  | exact Or.inr (Or.inl rfl)
  | exact Or.inr (Or.inr rfl)) (by decide) (by decide)) (@pa_nil _)) (by decide) (by decide) (by rfl) (by rfl)) (@pa_Call _ _ _ _ _ _ _ _ (@pe_callTy _ _ _ _ _ _ _ _ _ call_list_of (by rfl) B.list (by decide +kernel) (@pa_Name _ _ _ _ _ _ (@pv _ 4 _ _ (by rfl) (by first
  | exact Or.inl rfl
  | exact Or.inr (Or.inl rfl)
  | exact Or.inr (Or.inr rfl)) (by decide) (by decide)) (@pa_nil _)) (by decide) (by decide) (by rfl) (by rfl)) (@pa_nil _))) (by rfl) (by rfl)) (@pss_cons _ _ _ _ _ (@ps_while _ _ _ _ _ _ passes_F (@pt_cmpR _ _ _ _ _ _ _ _ (op_neD hr.units) (@pe_op _ _ _ _ _ _ _ _ op_cat (@pv _ 8 _ _ (by rfl) (by first
  | exact Or.inl rfl
  | exact Or.inr (Or.inl rfl)
  | exact Or.inr (Or.inr rfl)) (by decide) (by decide)) (@pv _ 9 _ _ (by rfl) (by first
  | exact Or.inl rfl
  | exact Or.inr (Or.inl rfl)
  | exact Or.inr (Or.inr rfl)) (by decide) (by decide))) (@pe_lst _ _ _ _ (@pa_nil _)) (nomark _)) (@pss_cons _ _ _ _ _ (@ps_set _ _ (10) _ _ _ _ scLaw.nd rfl (Or.inl rfl) (@pe_op _ _ _ _ _ _ _ _ op_cat (@pe_slice _ _ _ _ _ _ _ _ _ _ sl_list (@pv _ 3 _ _ (by rfl) (by first
  | exact Or.inl rfl
  | exact Or.inr (Or.inl rfl)
  | exact Or.inr (Or.inr rfl)) (by decide) (by decide)) (@po_none _) (@po_some _ _ _ (@pe_op _ _ _ _ _ _ _ _ op_add (@pe_op _ _ _ _ _ _ _ _ op_sub (@pe_callB _ _ _ _ _ _ _ _ _ call_len_seq (by rfl) B.len PySem.boot_len (@pa_cons _ _ _ _ _ (@pv _ 3 _ _ (by rfl) (by first
  | exact Or.inl rfl
  | exact Or.inr (Or.inl rfl)
  | exact Or.inr (Or.inr rfl)) (by decide) (by decide)) (@pa_nil _) (by rfl)) (by decide) (by decide) (by rfl) (by rfl)) (@pe_callB _ _ _ _ _ _ _ _ _ call_len_seq (by rfl) B.len PySem.boot_len (@pa_cons _ _ _ _ _ (@pv _ 8 _ _ (by rfl) (by first
  | exact Or.inl rfl
  | exact Or.inr (Or.inl rfl)
  | exact Or.inr (Or.inr rfl)) (by decide) (by decide)) (@pa_nil _) (by rfl)) (by decide) (by decide) (by rfl) (by rfl))) (@pe_int _ _ _ _)))) (@pe_slice _ _ _ _ _ _ _ _ _ _ sl_list (@pv _ 4 _ _ (by rfl) (by first
  | exact Or.inl rfl
  | exact Or.inr (Or.inl rfl)
  | exact Or.inr (Or.inr rfl)) (by decide) (by decide)) (@po_none _) (@po_some _ _ _ (@pe_op _ _ _ _ _ _ _ _ op_add (@pe_op _ _ _ _ _ _ _ _ op_sub (@pe_callB _ _ _ _ _ _ _ _ _ call_len_seq (by rfl) B.len PySem.boot_len (@pa_cons _ _ _ _ _ (@pv _ 4 _ _ (by rfl) (by first
  | exact Or.inl rfl
  | exact Or.inr (Or.inl rfl)
  | exact Or.inr (Or.inr rfl)) (by decide) (by decide)) (@pa_nil _) (by rfl)) (by decide) (by decide) (by rfl) (by rfl)) (@pe_callB _ _ _ _ _ _ _ _ _ call_len_seq (by rfl) B.len PySem.boot_len (@pa_cons _ _ _ _ _ (@pv _ 9 _ _ (by rfl) (by first
  | exact Or.inl rfl
  | exact Or.inr (Or.inl rfl)
  | exact Or.inr (Or.inr rfl)) (by decide) (by decide)) (@pa_nil _) (by rfl)) (by decide) (by decide) (by rfl) (by rfl))) (@pe_int _ _ _ _))))) (by rfl) (by first
  | exact .inl rfl
  | exact .inr rfl
  | assumption)) (@pss_cons _ _ _ _ _ (@ps_set _ _ (11) _ _ _ _ scLaw.nd rfl (Or.inl rfl) (@pe_ifExp _ _ _ _ _ _ _ _ (@PW.pt _ _ _ (@pw_or _ _ _ _ _ _ _ (@pt_cmpR _ _ _ _ _ _ _ _ (op_eqD hr.units) (@pv _ 9 _ _ (by rfl) (by first
  | exact Or.inl rfl
  | exact Or.inr (Or.inl rfl)
  | exact Or.inr (Or.inr rfl)) (by decide) (by decide)) (@pe_lst _ _ _ _ (@pa_nil _)) (nomark _)) (@pw_or1 _ _ _ _ (@PW.pt _ _ _ (@pw_and _ _ _ _ _ _ _ (@pt_cmpR _ _ _ _ _ _ _ _ (op_neD hr.units) (@pv _ 8 _ _ (by rfl) (by first
  | exact Or.inl rfl
  | exact Or.inr (Or.inl rfl)
  | exact Or.inr (Or.inr rfl)) (by decide) (by decide)) (@pe_lst _ _ _ _ (@pa_nil _)) (nomark _)) (@pw_and1 _ _ _ _ (@pt_cmpR _ _ _ _ _ _ _ _ op_le (@pe_ix _ _ _ _ _ _ (rIxT K) ix_tup (@pe_ix _ _ _ _ _ _ _ ix_list (@pv _ 8 _ _ (by rfl) (by first
  | exact Or.inl rfl
  | exact Or.inr (Or.inl rfl)
  | exact Or.inr (Or.inr rfl)) (by decide) (by decide)) (@pe_int _ _ _ _) (fun _ _ => rfl)) (@pe_int _ _ _ _) (fun _ _ => rfl)) (@pe_ix _ _ _ _ _ _ (rIxT K) ix_tup (@pe_ix _ _ _ _ _ _ _ ix_list (@pv _ 9 _ _ (by rfl) (by first
  | exact Or.inl rfl
  | exact Or.inr (Or.inl rfl)
  | exact Or.inr (Or.inr rfl)) (by decide) (by decide)) (@pe_int _ _ _ _) (fun _ _ => rfl)) (@pe_int _ _ _ _) (fun _ _ => rfl)) (nomark _)))))))) (@pv _ 8 _ _ (by rfl) (by first
  | exact Or.inl rfl
  | exact Or.inr (Or.inl rfl)
  | exact Or.inr (Or.inr rfl)) (by decide) (by decide)) (@pv _ 9 _ _ (by rfl) (by first
  | exact Or.inl rfl
  | exact Or.inr (Or.inl rfl)
  | exact Or.inr (Or.inr rfl)) (by decide) (by decide))) (by rfl) (by first
  | exact .inl rfl
  | exact .inr rfl
  | assumption)) (@pss_one _ _ _ (@ps_if _ _ _ _ _ _ _ _ (@PW.pt _ _ _ (@pw_or _ _ _ _ _ _ _ (@pt_not _ _ _ _ (@pt_val _ _ _ (@pe_call _ _ _ _ _ _ _ _ _ _ _ _ _ _ _ _ GAlk hr4 rfl X.mAlk X.FAlk.kp X.bAlk .nil pass_no (@pa_Call _ _ _ _ _ _ _ _ (@pe_meth0 _ _ _ _ _ _ _ _ _ _ _ _ _ _ _ _ _ (@pv _ 7 _ _ (by rfl) (by first
  | exact Or.inl rfl
  | exact Or.inr (Or.inl rfl)
  | exact Or.inr (Or.inr rfl)) (by decide) (by decide)) T.cl T.md GRD hr6 X.bD .nil pass_no (by rfl)) (@pa_Call _ _ _ _ _ _ _ _ (@pe_bm _ _ _ _ _ _ _ _ _ _ _ _ PySem.F.plainAttrs_list PySem.F.slot_list_pop PySem.F.type_list_pop mt_popAt (@pv _ 11 _ _ (by rfl) (by first
  | exact Or.inl rfl
  | exact Or.inr (Or.inl rfl)
  | exact Or.inr (Or.inr rfl)) (by decide) (by decide)) (@pa_Constant _ _ _ _ _ _ _ (@pe_int _ _ _ _) (@pa_nil _)) (by rfl) (by rfl) (by rfl) (by rfl) (by rfl)) (@pa_nil _))) (by decide) (by rfl) (by rfl)) (by intro _; rfl))) (@pw_or1 _ _ _ _ (@pt_cmpR _ _ _ _ _ _ _ _ (op_neD hr.units) (@pe_callB _ _ _ _ _ _ _ _ _ cr_sorted (by rfl) B.sorted (by decide +kernel) (@pa_Name _ _ _ _ _ _ (@pv _ 6 _ _ (by rfl) (by first
  | exact Or.inl rfl
  | exact Or.inr (Or.inl rfl)
  | exact Or.inr (Or.inr rfl)) (by decide) (by decide)) (@pa_nil _)) (by decide) (by decide) (by rfl) (by rfl)) (@pe_callB _ _ _ _ _ _ _ _ _ cr_sorted (by rfl) B.sorted (by decide +kernel) (@pa_ListComp _ _ _ _ _ _ _ _ (@pe_lc _ _ _ _ _ _ ([("_law_pair", 12)]) _ _ (gName 12) _ _ (by rfl) scLaw.nd (@pi_list _ _ _ _ (@pv _ 10 _ _ (by rfl) (by first
  | exact Or.inl rfl
  | exact Or.inr (Or.inl rfl)
  | exact Or.inr (Or.inr rfl)) (by decide) (by decide))) (blkOk_by (own := [("_law_pair", 12)]) (N := ["_law_script", "_law_h", "_law_turn", "_law_one", "_law_two", "_law_found", "_law_log", "_law_row", "_law_left", "_law_right", "_law_calls", "_law_side", "_law_pair"]) (by kernel_rfl)) (fun _ _ _ _ _ => @pg_name _ _ (12) _ scLaw.nd rfl (Or.inl rfl) (by first
  | exact .inl rfl
  | exact .inr rfl
  | assumption)) (fun _ _ _ _ _ => @pts_nil _) (fun _ _ _ _ _ => (@pe_ix _ _ _ _ _ _ (rIxT K) ix_tup (@pv _ 12 _ _ (by rfl) (by first
  | exact Or.inl rfl
  | exact Or.inr (Or.inl rfl)
  | exact Or.inr (Or.inr rfl)) (by decide) (by decide)) (@pe_int _ _ _ _) (fun _ _ => rfl))) (by intro _; rfl)) (@pa_nil _)) (by decide) (by decide) (by rfl) (by rfl)) (nomark _))))) (@pss_one _ _ _ (@ps_ret _ _ _ _ (@pe_bl _ _ _ _))) (@pss_nil _)))))) (@pss_one _ _ _ (@ps_if _ _ _ _ _ _ _ _ (@PW.pt _ _ _ (@pw_or _ _ _ _ _ _ _ (@pt_cmpR _ _ _ _ _ _ _ _ (op_neD hr.units) (@pe_call _ _ _ _ _ _ _ _ _ _ _ _ _ _ _ _ GItm hr7 rfl X.mItm X.FItm.kp X.bItm .nil pass_no (@pa_Name _ _ _ _ _ _ (@pv _ 7 _ _ (by rfl) (by first
  | exact Or.inl rfl
  | exact Or.inr (Or.inl rfl)
  | exact Or.inr (Or.inr rfl)) (by decide) (by decide)) (@pa_Constant _ _ _ _ _ _ _ (@pe_int _ _ _ _) (@pa_nil _))) (by decide) (by rfl) (by rfl)) (@pe_tup _ _ _ _ _ (@pa_List _ _ _ _ _ _ (@pe_lst _ _ _ _ (@pa_nil _)) (@pa_Constant _ _ _ _ _ _ _ (@pe_bl _ _ _ _) (@pa_nil _)))) (nomark _)) (@pw_or1 _ _ _ _ (@pt_cmpR _ _ _ _ _ _ _ _ op_ne (@pe_callB _ _ _ _ _ _ _ _ _ call_len_seq (by rfl) B.len PySem.boot_len (@pa_cons _ _ _ _ _ (@pv _ 6 _ _ (by rfl) (by first
  | exact Or.inl rfl
  | exact Or.inr (Or.inl rfl)
  | exact Or.inr (Or.inr rfl)) (by decide) (by decide)) (@pa_nil _) (by rfl)) (by decide) (by decide) (by rfl) (by rfl)) (@pe_callB _ _ _ _ _ _ _ _ _ call_len_seq (by rfl) B.len PySem.boot_len (@pa_cons _ _ _ _ _ (@pe_op _ _ _ _ _ _ _ _ op_cat (@pv _ 3 _ _ (by rfl) (by first
  | exact Or.inl rfl
  | exact Or.inr (Or.inl rfl)
  | exact Or.inr (Or.inr rfl)) (by decide) (by decide)) (@pv _ 4 _ _ (by rfl) (by first
  | exact Or.inl rfl
  | exact Or.inr (Or.inl rfl)
  | exact Or.inr (Or.inr rfl)) (by decide) (by decide))) (@pa_nil _) (by rfl)) (by decide) (by decide) (by rfl) (by rfl)) (nomark _))))) (@pss_one _ _ _ (@ps_ret _ _ _ _ (@pe_bl _ _ _ _))) (@pss_nil _))))))))) (by intro _; rfl)) (@pss_one _ _ _ (@ps_ret _ _ _ _ (@pe_bl _ _ _ _))))), ?_⟩
    have big : sizeLine = 16777216 := sizeLine_eq
    have GT : ∀ {f cl cw c' : Addr} {doc pm ctv : Value}, FnOk P w K mg base (CXo P w) 5 f (fdMg cl cw doc pm c' ctv) [] (spTellMg ⟨P, w, K, mg, base, C, CO⟩ CSd CS 1 f cl cw doc pm c' ctv) := fun {f cl cw c' doc pm ctv} => ok_tellMg (n := 1) T Sd GL X.bDL (ok_give X.FDG Sd S X.neSd) X.bDG
    have C0 : CelO H (Hcel (fun x => (([("_law_script" : Str)] : List Str).zip [V.ref a]).lookup x) (hcl ["_law_script", "_law_h", "_law_turn", "_law_one", "_law_two", "_law_found", "_law_log", "_law_row", "_law_left", "_law_right", "_law_calls", "_law_side", "_law_pair"] (s.heap.objs.size + 1) (defScope sLaw).names) H) [] := (CelO.start (H := H) (b := fun x => (([("_law_script" : Str)] : List Str).zip [V.ref a]).lookup x) (cs := []) (by simp) (by simp)).rev
    generalize Hcel (fun x => (([("_law_script" : Str)] : List Str).zip [V.ref a]).lookup x) (hcl ["_law_script", "_law_h", "_law_turn", "_law_one", "_law_two", "_law_found", "_law_log", "_law_row", "_law_left", "_law_right", "_law_calls", "_law_side", "_law_pair"] (s.heap.objs.size + 1) (defScope sLaw).names) H = H0 at C0 ⊢
    -- h
    refine ⟨_, rfl, a, 47, ns, rfl, C0.same.seq hS, hlen, fun p q m H1 hp hq npq ep eq s1 => ?_⟩
    have J0 : KL (TL PtMerged PtLst PtKey PtLaw) p q ns.length PtLaw entL [] H1 := by
      have up : ∀ {b : Addr}, H b = some (.tbl #[]) → H1 b = some (.tbl #[]) := fun e => s1 _ _ (C0.same _ _ e)
      refine ⟨Kn.start (fun x hx => ?_) tn0 ⟨⟨m, 0, ns, ep, eq, rfl⟩, hlen⟩, TabX.none (up tLaw), nL0⟩
      simp only [TL, List.mem_cons, List.not_mem_nil, or_false] at hx
      rcases hx with rfl | rfl | rfl
      · exact .inl (up tMerged)
      · exact .inl (up tLst)
      · exact .inl (up tKey)
    have mMg : (PtMerged, posMg, ("merged.<locals>.tell" : Str)) ∈ TL PtMerged PtLst PtKey PtLaw := .head _
    have mLst : (PtLst, pos0, ("listed.<locals>.tell" : Str)) ∈ TL PtMerged PtLst PtKey PtLaw := .tail _ (.head _)
    have mKy : (PtKey, posKy, ("_law_key.<locals>._law_call" : Str)) ∈ TL PtMerged PtLst PtKey PtLaw := .tail _ (.tail _ (.head _))
    generalize hTT : TL PtMerged PtLst PtKey PtLaw = TT at J0 mMg mLst mKy ⊢
    refine ⟨6, rfl, by decide, by decide, for_range (lo := 0) (n := (6 : Int).toNat) (fun i σ H2 => (∃ v2 v3 v4 v5 v6 v7 v8 v9 v10 v11 v12 : Option V, σ = [some (.ref a), some (.ref p), v2, v3, v4, v5, v6, v7, v8, v9, v10, v11, v12]) ∧ KL TT p q ns.length PtLaw entL [] H2)
      ⟨⟨_, _, _, _, _, _, _, _, _, _, _, rfl⟩, J0⟩ ?_ ?_⟩
    rotate_left 1
    · rintro σ H2 ⟨_, _⟩
      exact k H2
    rintro i σ H2 hi ⟨⟨v2, v3, v4, v5, v6, v7, v8, v9, v10, v11, v12, rfl⟩, K2⟩
    clear J0
    -- pairs
    refine ⟨_, rfl, p, q, _, 1, rfl, by decide, by decide, K2.hs, fun H3 one ts1 ps1 S3 B3 f3 e3 P1 _ n1 id1 => ?_⟩
    have K3 : KL TT p q ns.length PtLaw entL [(one, .lst (ts1.map V.ref))] H3 := K2.butAdd f3 S3 B3 e3
    refine ⟨_, rfl, p, q, _, 2, rfl, by decide, by decide, K3.hs, fun H4 two ts2 ps2 S4 B4 f4 e4 P2 _ n2 id2 => ⟨_, _, rfl, ?_⟩⟩
    have K4 : KL TT p q ns.length PtLaw entL [(one, .lst (ts1.map V.ref)), (two, .lst (ts2.map V.ref))] H4 := (K3.butAdd f4 S4 B4 e4).pick 2 [1, 0] (by decide)
    have P1 := P1.same (KpT.but K3.hs B4)
    obtain ⟨nd1, b1⟩ := ids_lt (side := 1) id1 n1
    obtain ⟨nd2, b2⟩ := ids_lt (side := 2) id2 n2
    clear K2 K3
    dsimp only
    refine seq_join (fun σ H => ∃ (one two : Addr) (ts1 ts2 : List Addr) (ps1 ps2 : List (Int × Int)) (v2 v5 v6 v7 v8 v9 v10 v11 v12 : Option V), σ = [some (.ref a), some (.ref p), v2, some (.ref one), some (.ref two), v5, v6, v7, v8, v9, v10, v11, v12] ∧ KL TT p q ns.length PtLaw entL [(one, .lst (ts1.map V.ref)), (two, .lst (ts2.map V.ref))] H ∧ PrA H ts1 ps1 ∧ PrA H ts2 ps2 ∧ ps1.length ≤ 9 ∧ ps2.length ≤ 9) (fun N hN => ?_) ?_
    · refine ⟨_, rfl, p, q, _, 2, rfl, K4.hs, by decide, by decide, fun r H5 r0 r1 S5 B5 => ⟨rfl, _, rfl, ?_⟩⟩
      have K5 := K4.but S5 B5
      have P15 := P1.same (KpT.but K4.hs B5)
      have P25 := P2.same (KpT.but K4.hs B5)
      generalize decide (V.int r = V.int 0) = yes
      cases yes with
      | false => exact iteF (hN _ _ ⟨one, two, ts1, ts2, ps1, ps2, _, _, _, _, _, _, _, _, _, rfl, K5, P15, P25, n1, n2⟩)
      | true =>
        refine iteT ?_
        -- sorted
        refine ⟨_, rfl, one, ts1, ps1, rfl, SqL.of (K5.get 0 rfl), P15, nd1, by rw [P15.len]; omega, fun q1 o1 hq1 pw1 ho1 => ⟨_, rfl, two, ts2, ps2, rfl, SqL.of (same_alloc ho1 _ _ (K5.get 1 rfl)), P25.same (fun b xs e => same_alloc ho1 _ _ e), nd2, by rw [P25.len]; omega, fun q2 o2 hq2 pw2 ho2 => ⟨_, _, rfl, ?_⟩⟩⟩
        have K7 := ((K5.alloc ho1).alloc (o := .lst ((q2.map fun i => ts2.getD i 0).map V.ref)) ho2).pick 4 [1, 0] (by decide)
        have kt : ∀ b xs, H5 b = some (.tup xs) → upd (upd H5 o1 (.lst ((q1.map fun i => ts1.getD i 0).map V.ref))) o2 (.lst ((q2.map fun i => ts2.getD i 0).map V.ref)) b = some (.tup xs) := fun b xs e => same_alloc ho2 _ _ (same_alloc ho1 _ _ e)
        have P16 := (P15.pick q1 fun i hi => List.mem_range.mp (hq1.mem_iff.mp hi)).same kt
        have P26 := (P25.pick q2 fun i hi => List.mem_range.mp (hq2.mem_iff.mp hi)).same kt
        have m1 := pick_perm hq1
        have m2 := pick_perm hq2
        have K7 : KL TT p q ns.length PtLaw entL [(o1, .lst ((q1.map fun i => ts1.getD i 0).map V.ref)), (o2, .lst ((q2.map fun i => ts2.getD i 0).map V.ref))] _ := K7
        generalize upd (upd H5 o1 (.lst ((q1.map fun i => ts1.getD i 0).map V.ref))) o2 (.lst ((q2.map fun i => ts2.getD i 0).map V.ref)) = H7 at K7 P16 P26 ⊢
        clear kt
        generalize (q1.map fun i => ts1.getD i 0) = us1 at K7 P16
        generalize (q2.map fun i => ts2.getD i 0) = us2 at K7 P26
        generalize (q1.map fun i => ps1.getD i (0, 0)) = qs1 at P16 pw1 m1
        generalize (q2.map fun i => ps2.getD i (0, 0)) = qs2 at P26 pw2 m2
        have l1 : qs1.length ≤ 9 := by rw [m1.length_eq]; exact n1
        have l2 : qs2.length ≤ 9 := by rw [m2.length_eq]; exact n2
        have lt12 : ∀ x ∈ qs1, ∀ y ∈ qs2, x.2 < y.2 := fun x hx y hy => by
          have h1 := b1 x (m1.mem_iff.mp hx)
          have h2 := b2 y (m2.mem_iff.mp hy)
          omega
        have nd12 : ((qs1 ++ qs2).map (·.2)).Nodup := by
          rw [List.map_append, List.nodup_append]
          refine ⟨(m1.map (·.2)).symm.nodup nd1, (m2.map (·.2)).symm.nodup nd2, fun x hx y hy z => ?_⟩
          obtain ⟨x', hx', rfl⟩ := List.mem_map.mp hx
          obtain ⟨y', hy', rfl⟩ := List.mem_map.mp hy
          have := lt12 x' hx' y' hy'
          omega
        -- found
        refine ⟨_, rfl, ?_⟩
        try unfold tNil
        dsimp only
        refine listed14 K7 mLst (K7.get 0 rfl) fun r1 f1 k1 g1 c1 dx1 d1 pm1 ct1 H8 K8 x1 u1 => ?_
        refine ⟨_, rfl, ?_⟩
        try unfold tNil
        dsimp only
        refine listed14 K8 mLst (K8.get 4 rfl) fun r2 f2 k2 g2 c2 dx2 d2 pm2 ct2 H9 K9 x2 u2 => ?_
        refine ⟨Nat.zero_le _, fun lg hlg => ?_⟩
        try unfold tNil
        dsimp only
        refine lawkey14 (K9.alloc (o := .lst []) hlg) mKy fun Y H10 K10 xy u3 => ?_
        have ub := (KpU.of (KpC.same (same_alloc (o := .lst []) hlg))).trans u3
        have ua := u2.trans ub
        refine merged14 K10 xy (ua.kpc x1) (ub.kpc x2) (P16.kpu (u1.trans ua)) (P26.kpu (u1.trans ua)) mMg fun M A1 A2 s1 s2 H11 S11 w1 w2 u4 => ?_
        have Q1 := P16.kpu ((u1.trans ua).trans u4)
        have Q2 := P26.kpu ((u1.trans ua).trans u4)
        clear K7 K8 K9 K10 P16 P26 x1 x2 xy u1 u2 u3 ub ua u4
        refine ⟨M.m, 30, rfl, by decide, fun l hl => ?_⟩
        refine items14 (acc := []) (done := []) T Sd GT 30 (S11.alloc (u := .lst []) hl) .nil (by omega) (by show 0 + 2 * 30 < 900; omega) fun acc out log' s1' s2' H13 S13 Pa hm _ kc t ht => ?_
        have Q1 := Q1.kpu ((KpU.of (KpC.same (same_alloc (o := .lst []) hl))).trans (KpU.of kc))
        have Q2 := Q2.kpu ((KpU.of (KpC.same (same_alloc (o := .lst []) hl))).trans (KpU.of kc))
        have st := same_alloc (o := .tup [.ref l, .bl true]) ht
        have S14 := S13.same st
        have Q1 := Q1.same fun b xs e => st _ _ e
        have Q2 := Q2.same fun b xs e => st _ _ e
        have Pa := Pa.same fun b xs e => st _ _ e
        have et : upd H13 t (.tup [.ref l, .bl true]) t = some (.tup [.ref l, .bl true]) := upd_same
        generalize upd H13 t (.tup [.ref l, .bl true]) = H14 at S14 Q1 Q2 Pa et ⊢
        -- sorted(one + two, key=..)
        refine ⟨_, rfl, _, rfl, _, rfl, o1, o2, _, _, rfl, rfl, S14.get 1 rfl, S14.get 2 rfl, by rw [List.length_map, List.length_map, Q1.len, Q2.len, big]; omega, fun pc hpc => ?_⟩
        rw [← List.map_append]
        have sp := same_alloc (o := .lst ((us1 ++ us2).map V.ref)) hpc
        have S15 := S14.alloc (u := .lst ((us1 ++ us2).map V.ref)) hpc
        have Q12 := (Q1.append Q2).same fun b xs e => sp _ _ e
        have Q1 := Q1.same fun b xs e => sp _ _ e
        have Q2 := Q2.same fun b xs e => sp _ _ e
        have Pa := Pa.same fun b xs e => sp _ _ e
        have et := sp _ _ et
        generalize upd H14 pc (.lst ((us1 ++ us2).map V.ref)) = H15 at S15 Q1 Q2 Q12 Pa et ⊢
        refine ⟨S15.K.t, fun f c' doc pm ctv H16 fnm => ?_⟩
        obtain ⟨tb, hPL⟩ := S15.K.t.is
        have u16 : KpU H15 H16 := fun b o e x n => fnm.old b o e (ne_of e hPL (n _))
        have S16 := S15.re (S15.K.fnm fnm) u16
        have Q1 := Q1.kpu u16
        have Q2 := Q2.kpu u16
        have Q12 := Q12.kpu u16
        have Pa := Pa.kpu u16
        have et := u16 _ _ et rfl fun _ z => nomatch z
        have hlen : us1.length + us2.length = qs1.length + qs2.length := by rw [Q1.len, Q2.len]
        refine ⟨pc, f, us1 ++ us2, qs1 ++ qs2, rfl, rfl, SqL.of (S16.get 0 rfl), Q12.len, nd12, by rw [List.length_append]; omega, fun x hx H17 s17 => lam14_key ⟨s17 _ _ fnm.fn, s17 _ _ fnm.cd, fun z hz => absurd hz List.not_mem_nil, List.nodup_nil⟩ (s17 _ _ (Q12.zip x hx)), fun qq pp H17 hqq pwq sm hpn epp => ?_⟩
        refine ⟨by rw [big]; show 2 ≤ 16777216; decide, fun t2 ht2 => ?_⟩
        have s2' := sm.trans (same_alloc (o := .tup [.ref pp, .bl true]) ht2)
        have eout : out = qq.map fun i => (qs1 ++ qs2).getD i (0, 0) := sorted_eqP (hm.rising pw1 pw2 lt12) pwq (hm.perm.trans (pick_perm hqq).symm)
        have Pq := (Q12.pick qq fun i hi => List.mem_range.mp (hqq.mem_iff.mp hi)).same fun b xs e => s2' _ _ e
        rw [← eout] at Pq
        refine ⟨_, _, rfl, Alk.tup2 (n := 3) (s2' _ _ et) upd_same (Alk.pairs (n := 0) (s2' _ _ (S16.get 1 rfl)) (same_alloc ht2 _ _ epp) (Pa.same fun b xs e => s2' _ _ e) Pq ?_) (Alk.flat rfl), fun H18 s18 => ⟨true, rfl, iteF (hN _ _ ⟨o1, o2, us1, us2, qs1, qs2, _, _, _, _, _, _, _, _, _, rfl, ?_, (Q1.same fun b xs e => s2' _ _ e).same fun b xs e => s18 _ _ e, (Q2.same fun b xs e => s2' _ _ e).same fun b xs e => s18 _ _ e, l1, l2⟩)⟩⟩
        · rw [List.nil_append, hm.perm.length_eq, List.length_append]; omega
        · exact ((S16.rest.pick 4 [2, 3] (by decide)).same s2').same s18
    rintro σ H20 ⟨one, two, ts1, ts2, ps1, ps2, v2, v5, v6, v7, v8, v9, v10, v11, v12, rfl, K20, P1, P2, n1, n2⟩
    clear K4 nd1 b1 nd2 b2
    -- log, row
    refine ⟨Nat.zero_le _, fun lg hlg => ?_⟩
    have K21 := K20.alloc (o := .lst []) hlg
    have P1 := P1.same fun b xs e => same_alloc (o := .lst []) hlg _ _ e
    have P2 := P2.same fun b xs e => same_alloc (o := .lst []) hlg _ _ e
    generalize upd H20 lg (.lst []) = H21 at K21 P1 P2 ⊢
    refine ⟨_, rfl, ?_⟩
    try unfold tNil
    dsimp only
    refine listed14 K21 mLst (K21.get 1 rfl) fun r1 f1 k1 g1 c1 dx1 d1 pm1 ct1 H22 K22 x1 u1 => ?_
    refine ⟨_, rfl, ?_⟩
    try unfold tNil
    dsimp only
    refine listed14 K22 mLst (K22.get 5 rfl) fun r2 f2 k2 g2 c2 dx2 d2 pm2 ct2 H23 K23 x2 u2 => ?_
    refine ⟨_, rfl, ?_⟩
    try unfold tNil
    dsimp only
    refine lawkey14 K23 mKy fun Y H24 K24 xy u3 => ?_
    refine merged14 (K24.pick 8 [0, 7, 1, 2, 3, 4, 5, 6] (by decide)) xy ((u2.trans u3).kpc x1) (u3.kpc x2) (P1.kpu (u1.trans (u2.trans u3))) (P2.kpu (u1.trans (u2.trans u3))) mMg fun M A1 A2 s1 s2 H25 S25 w1 w2 u4 => ?_
    have P1 := P1.kpu ((u1.trans (u2.trans u3)).trans u4)
    have P2 := P2.kpu ((u1.trans (u2.trans u3)).trans u4)
    clear K20 K21 K22 K23 K24 x1 x2 xy u1 u2 u3 u4
    -- left, right
    refine ⟨_, rfl, one, _, rfl, .inl (SqL.of (S25.get 0 rfl)), fun lf hlf => ⟨_, rfl, two, _, rfl, .inl (SqL.of (same_alloc hlf _ _ (S25.get 1 rfl))), fun rt hrt => ⟨_, _, rfl, ?_⟩⟩⟩
    have S26 := (S25.alloc (u := .lst (ts1.map V.ref)) hlf).alloc (u := .lst (ts2.map V.ref)) hrt
    have kt : ∀ b xs, H25 b = some (.tup xs) → upd (upd H25 lf (.lst (ts1.map V.ref))) rt (.lst (ts2.map V.ref)) b = some (.tup xs) := fun b xs e => same_alloc hrt _ _ (same_alloc hlf _ _ e)
    have P1 := P1.same kt
    have P2 := P2.same kt
    clear kt S25
    generalize upd (upd H25 lf (.lst (ts1.map V.ref))) rt (.lst (ts2.map V.ref)) = H26 at S26 P1 P2 ⊢
    -- while
    refine ⟨fun m σ H => ∃ (k1 k2 : Nat) (L : List Int) (s1 s2 : SdS) (v2 v5 v10 v11 v12 : Option V), m = (ps1.length - k1) + (ps2.length - k2) ∧ k1 ≤ ps1.length ∧ k2 ≤ ps2.length ∧ σ = [some (.ref a), some (.ref p), v2, some (.ref one), some (.ref two), v5, some (.ref lg), some (.ref M.m), some (.ref lf), some (.ref rt), v10, v11, v12] ∧
      St14 C CSd CS TT p q ns.length PtLaw entL Y M A1 A2 lg (L.map V.int) s1 s2 false (ps1.drop k1) (ps2.drop k2) [(rt, .lst ((ts2.drop k2).map V.ref)), (lf, .lst ((ts1.drop k1).map V.ref)), (one, .lst (ts1.map V.ref)), (two, .lst (ts2.map V.ref))] H ∧ PrA H ts1 ps1 ∧ PrA H ts2 ps2 ∧ L.Perm ((ps1.take (k1 + bN s1.wt)).map (·.2) ++ (ps2.take (k2 + bN s2.wt)).map (·.2)),
      ⟨_, 0, 0, [], s1, s2, _, _, _, _, _, rfl, Nat.zero_le _, Nat.zero_le _, rfl, S26, P1, P2, by rw [w1, w2]; exact .nil⟩, ?_⟩
    clear S26 P1 P2 w1 w2
    rintro m σ H27 ⟨k1, k2, L, s1, s2, v2, v5, v10, v11, v12, hm, hk1, hk2, rfl, S27, P1, P2, hL⟩
    have tl1 := P1.len
    have tl2 := P2.len
    refine ⟨_, rfl, _, rfl, lf, rt, _, _, rfl, rfl, S27.get 1 rfl, S27.get 0 rfl, by rw [List.length_map, List.length_map, List.length_drop, List.length_drop, big]; omega, fun b1 hb1 => ⟨Nat.zero_le _, fun b2 hb2 => ?_⟩⟩
    rw [← List.map_append] at hb2 ⊢
    have s28 := (same_alloc (o := .lst ((ts1.drop k1 ++ ts2.drop k2).map V.ref)) hb1).trans (same_alloc (o := .lst []) hb2)
    have eb1 : upd (upd H27 b1 (.lst ((ts1.drop k1 ++ ts2.drop k2).map V.ref))) b2 (.lst []) b1 = some (.lst ((ts1.drop k1 ++ ts2.drop k2).map V.ref)) := same_alloc hb2 _ _ upd_same
    have S28 := S27.same s28
    have P1 := P1.same fun b xs e => s28 _ _ e
    have P2 := P2.same fun b xs e => s28 _ _ e
    have eb2 : upd (upd H27 b1 (.lst ((ts1.drop k1 ++ ts2.drop k2).map V.ref))) b2 (.lst []) b2 = some (.lst []) := upd_same
    clear S27
    generalize upd (upd H27 b1 (.lst ((ts1.drop k1 ++ ts2.drop k2).map V.ref))) b2 (.lst []) = H28 at S28 P1 P2 eb1 eb2 ⊢
    refine ne_nil14 (ps := ps1.drop k1 ++ ps2.drop k2) eb1 eb2 ((P1.drop k1).append (P2.drop k2)) ⟨_, rfl, ?_⟩
    have hLl := hL.length_eq
    rw [List.length_append, List.length_map, List.length_map, List.length_take, List.length_take] at hLl
    by_cases hne : ps1.drop k1 ++ ps2.drop k2 = []
    · rw [hne]
      refine iteF ?_
      obtain ⟨z1, z2⟩ := List.append_eq_nil_iff.mp hne
      have y1 : ps1.length ≤ k1 := List.drop_eq_nil_iff.mp z1
      have y2 : ps2.length ≤ k2 := List.drop_eq_nil_iff.mp z2
      rw [z1, z2] at S28
      refine ⟨_, rfl, M.m, 2, rfl, by decide, fun l hl => ?_⟩
      refine items14 (acc := []) (done := []) T Sd GT 2 (S28.alloc (u := .lst []) hl) .nil (by decide) (by rw [List.length_map]; omega) fun acc out log' s1' s2' H29 S29 Pa hmg hlog kc t ht => ?_
      obtain rfl := hlog rfl rfl
      cases hmg
      cases Pa
      have st := same_alloc (o := .tup [.ref l, .bl true]) ht
      have et : upd H29 t (.tup [.ref l, .bl true]) t = some (.tup [.ref l, .bl true]) := upd_same
      have S30 := S29.same st
      generalize upd H29 t (.tup [.ref l, .bl true]) = H30 at S30 et ⊢
      refine ⟨Nat.zero_le _, fun n1' hn1 => ⟨by rw [big]; show 2 ≤ 16777216; decide, fun t3 ht3 => ?_⟩⟩
      have s31 := (same_alloc (o := .lst []) hn1).trans (same_alloc (o := .tup [.ref n1', .bl true]) ht3)
      have S31 := S30.same s31
      refine ⟨.tuple [.list [], .bool true], .tuple [.list [], .bool true], .tup (SqT.of (s31 _ _ et)) (.cons (.lst (SqL.of (S31.get 0 rfl)) .nil) (.cons (.bl true) .nil)), .tup (SqT.of upd_same) (.cons (.lst (SqL.of (same_alloc ht3 _ _ upd_same)) .nil) (.cons (.bl true) .nil)), by decide +kernel, by decide +kernel, _, rfl, ?_⟩
      rw [show (!PyData.eqv (.tuple [.list [], .bool true]) (.tuple [.list [], .bool true])) = false from by decide +kernel]
      refine iteF ?_
      generalize upd (upd H30 n1' (.lst [])) t3 (.tup [.ref n1', .bl true]) = H31 at S31 ⊢
      refine ⟨_, rfl, lg, _, rfl, .inl (SqL.of S31.lgs), _, rfl, _, rfl, one, two, _, _, rfl, rfl, S31.get 3 rfl, S31.get 4 rfl, by rw [List.length_map, List.length_map, big]; omega, fun b3 hb3 => ⟨b3, _, rfl, .inl (SqL.of upd_same), rfl, _, rfl, ?_⟩⟩
      rw [show (!decide (V.int ((L.map V.int).length : Nat) = V.int ((ts1.map V.ref ++ ts2.map V.ref).length : Nat))) = false from by
        rw [List.length_map, List.length_append, List.length_map, List.length_map, decide_eq_true (by rw [show L.length = ts1.length + ts2.length from by omega])]; rfl]
      refine iteF ⟨⟨_, _, _, _, _, _, _, _, _, _, _, rfl⟩, ?_⟩
      exact (S31.rest.same (same_alloc hb3)).pick 5 [] (by decide)
    · have hem : (!(ps1.drop k1 ++ ps2.drop k2).isEmpty) = true := by
        cases h : ps1.drop k1 ++ ps2.drop k2 with
        | nil => exact absurd h hne
        | cons _ _ => rfl
      rw [hem]
      refine iteT ⟨fun σ' H' => ∃ (k1' k2' : Nat) (L' : List Int) (s1' s2' : SdS) (v2 v5 v10 v11 v12 : Option V), (ps1.length - k1') + (ps2.length - k2') < m ∧ k1' ≤ ps1.length ∧ k2' ≤ ps2.length ∧ σ' = [some (.ref a), some (.ref p), v2, some (.ref one), some (.ref two), v5, some (.ref lg), some (.ref M.m), some (.ref lf), some (.ref rt), v10, v11, v12] ∧ St14 C CSd CS TT p q ns.length PtLaw entL Y M A1 A2 lg (L'.map V.int) s1' s2' false (ps1.drop k1') (ps2.drop k2') [(rt, .lst ((ts2.drop k2').map V.ref)), (lf, .lst ((ts1.drop k1').map V.ref)), (one, .lst (ts1.map V.ref)), (two, .lst (ts2.map V.ref))] H' ∧ PrA H' ts1 ps1 ∧ PrA H' ts2 ps2 ∧ L'.Perm ((ps1.take (k1' + bN s1'.wt)).map (·.2) ++ (ps2.take (k2' + bN s2'.wt)).map (·.2)), fun σ' H' ⟨k1', k2', L', s1', s2', w2, w5, w10, w11, w12, h1, h2, h3, h4, h5, h6, h7, h8⟩ => ⟨_, h1, k1', k2', L', s1', s2', w2, w5, w10, w11, w12, rfl, h2, h3, h4, h5, h6, h7, h8⟩, ?_⟩
      -- calls
      refine ⟨_, rfl, _, rfl, one, _, rfl, .inl (SqL.of (S28.get 2 rfl)), _, rfl, lf, _, rfl, .inl (SqL.of (S28.get 1 rfl)), _, _, rfl, rfl, _, _, rfl, rfl, _, rfl, one, _, rfl, SqL.of (S28.get 2 rfl), fun sp1 hsp1 => ?_⟩
      have cut1 : cutV (ts1.map V.ref) none (some (((ts1.map V.ref).length : Nat) - (((ts1.drop k1).map V.ref).length : Nat) + 1 : Int)) = (ts1.take (k1 + 1)).map V.ref := by
        rw [show (((ts1.map V.ref).length : Nat) - (((ts1.drop k1).map V.ref).length : Nat) + 1 : Int) = ((k1 + 1 : Nat) : Int) from by rw [List.length_map, List.length_map, List.length_drop]; omega, cutV_to, List.map_take]
      rw [cut1]
      have sa := same_alloc (o := .lst ((ts1.take (k1 + 1)).map V.ref)) hsp1
      have S29 := S28.same sa
      have P1 := P1.same fun b xs e => sa _ _ e
      have P2 := P2.same fun b xs e => sa _ _ e
      have ea : upd H28 sp1 (.lst ((ts1.take (k1 + 1)).map V.ref)) sp1 = some (.lst ((ts1.take (k1 + 1)).map V.ref)) := upd_same
      clear S28 eb1 eb2 cut1
      generalize upd H28 sp1 (.lst ((ts1.take (k1 + 1)).map V.ref)) = H29 at S29 P1 P2 ea ⊢
      refine ⟨_, rfl, _, rfl, two, _, rfl, .inl (SqL.of (S29.get 3 rfl)), _, rfl, rt, _, rfl, .inl (SqL.of (S29.get 0 rfl)), _, _, rfl, rfl, _, _, rfl, rfl, _, rfl, two, _, rfl, SqL.of (S29.get 3 rfl), fun sp2 hsp2 => ?_⟩
      have cut2 : cutV (ts2.map V.ref) none (some (((ts2.map V.ref).length : Nat) - (((ts2.drop k2).map V.ref).length : Nat) + 1 : Int)) = (ts2.take (k2 + 1)).map V.ref := by
        rw [show (((ts2.map V.ref).length : Nat) - (((ts2.drop k2).map V.ref).length : Nat) + 1 : Int) = ((k2 + 1 : Nat) : Int) from by rw [List.length_map, List.length_map, List.length_drop]; omega, cutV_to, List.map_take]
      rw [cut2]
      have sb := same_alloc (o := .lst ((ts2.take (k2 + 1)).map V.ref)) hsp2
      have S30 := S29.same sb
      have P1 := P1.same fun b xs e => sb _ _ e
      have P2 := P2.same fun b xs e => sb _ _ e
      have ea := sb _ _ ea
      have eb : upd H29 sp2 (.lst ((ts2.take (k2 + 1)).map V.ref)) sp2 = some (.lst ((ts2.take (k2 + 1)).map V.ref)) := upd_same
      clear S29 cut2
      generalize upd H29 sp2 (.lst ((ts2.take (k2 + 1)).map V.ref)) = H30 at S30 P1 P2 ea eb ⊢
      refine ⟨sp1, sp2, _, _, rfl, rfl, ea, eb, by rw [List.length_map, List.length_map, List.length_take, List.length_take, big]; omega, fun cl hcl => ?_⟩
      rw [← List.map_append] at ⊢
      have sc := same_alloc (o := .lst ((ts1.take (k1 + 1) ++ ts2.take (k2 + 1)).map V.ref)) hcl
      have S31 := S30.alloc (u := .lst ((ts1.take (k1 + 1) ++ ts2.take (k2 + 1)).map V.ref)) hcl
      have P1 := P1.same fun b xs e => sc _ _ e
      have P2 := P2.same fun b xs e => sc _ _ e
      clear S30 ea eb
      generalize upd H30 cl (.lst ((ts1.take (k1 + 1) ++ ts2.take (k2 + 1)).map V.ref)) = H31 at S31 P1 P2 ⊢
      -- side
      dsimp only
      refine side14 (K := K) (lf := lf) (rt := rt) (S31.get 2 rfl) (S31.get 1 rfl) (P1.drop k1) (P2.drop k2) (by
        by_cases h : ps1.drop k1 = []
        · right; intro h2; exact hne (by rw [h, h2]; rfl)
        · exact .inl h) (fun H32 s32 => ?_)
      have S32 := S31.same s32
      have P1 := P1.same fun b xs e => s32 _ _ e
      have P2 := P2.same fun b xs e => s32 _ _ e
      clear S31
      have hL2 := log_step hL
      have hlt : (ps1.length - k1) + (ps2.length - k2) = m := hm.symm
      -- draw
      refine ⟨_, rfl, M.m, M.dx, _, rfl, S32.K.get 14 rfl, rfl, ?_⟩
      refine S32.draw T Sd GT (by rw [List.length_map]; omega) (fun e1 e2 => absurd (by rw [e1, e2]; rfl) hne) (fun x y ps e pk t s1' s2' H31 S31 kc w1 w2 ht => ?_) (fun x y ps e pk t s1' s2' H31 S31 kc w1 w2 ht => ?_)
      · rw [if_pos pk]
        have hd := (P1.drop k1)
        rw [e] at hd
        obtain ⟨t0, ts', et, ht0, hd'⟩ := hd.cons_inv
        obtain ⟨et', _⟩ := drop_succ_of et
        obtain ⟨ep', hkl⟩ := drop_succ_of e
        have P1 := P1.same fun b xs e => kc _ _ e rfl
        have P2 := P2.same fun b xs e => kc _ _ e rfl
        have ht0 := kc _ _ ht0 rfl
        have elf := S31.get 2 rfl
        rw [et] at elf
        refine ⟨_, rfl, .inl ⟨rfl, _, SqL.of elf⟩, lf, _, 0, 0, .ref t0, rfl, rfl, elf, by decide, by decide, seqIx0, rfl, ?_⟩
        have S32 := S31.put (u' := .lst (ts'.map V.ref)) 2 rfl
        have kp := KpC.put (u := .lst (ts'.map V.ref)) (S31.get 2 rfl) rfl
        have P1 := P1.same fun b xs e => kp _ _ e rfl
        have P2 := P2.same fun b xs e => kp _ _ e rfl
        have ht0 := kp _ _ ht0 rfl
        have ht := kp _ _ ht rfl
        have eer : ((t0 :: ts').map V.ref).eraseIdx 0 = ts'.map V.ref := rfl
        rw [eer]
        generalize upd H31 lf (.lst (ts'.map V.ref)) = H32 at S32 P1 P2 ht0 ht ⊢
        refine ⟨_, _, rfl, Alk.pair (n := 2) ht ht0, fun H33 s33 => ⟨true, rfl, iteF ?_⟩⟩
        have S33 := S32.same s33
        have P1 := P1.same fun b xs e => s33 _ _ e
        have P2 := P2.same fun b xs e => s33 _ _ e
        rw [nw_eq, nw_eq, ← List.map_append, ← List.map_append] at S33
        refine sortcmp14 (L := L ++ nwI s1 (ps1.drop k1) ++ nwI s2 (ps2.drop k2)) S33.lgs (S33.get 0 rfl) ((P1.take (k1 + 1)).append (P2.take (k2 + 1))) (by rw [List.map_append]; exact hL2) (by rw [List.length_append, List.length_take, List.length_take]; omega) fun H34 s34 => iteF ?_
        refine ⟨(k1 + 1), k2, L ++ nwI s1 (ps1.drop k1) ++ nwI s2 (ps2.drop k2), s1', s2', _, _, _, _, _, by omega, by omega, by omega, rfl, ?_, P1.same (fun b xs e => s34 _ _ e), P2.same (fun b xs e => s34 _ _ e), ?_⟩
        · have S34 := (S33.less).same s34
          rw [ep', et']
          exact S34
        · rw [w1, w2]
          rw [take_wt]
          exact hL2
      · rw [if_neg (by rw [pk]; decide)]
        have hd := (P2.drop k2)
        rw [e] at hd
        obtain ⟨t0, ts', et, ht0, hd'⟩ := hd.cons_inv
        obtain ⟨et', _⟩ := drop_succ_of et
        obtain ⟨ep', hkl⟩ := drop_succ_of e
        have P1 := P1.same fun b xs e => kc _ _ e rfl
        have P2 := P2.same fun b xs e => kc _ _ e rfl
        have ht0 := kc _ _ ht0 rfl
        have elf := S31.get 1 rfl
        rw [et] at elf
        refine ⟨_, rfl, .inl ⟨rfl, _, SqL.of elf⟩, rt, _, 0, 0, .ref t0, rfl, rfl, elf, by decide, by decide, seqIx0, rfl, ?_⟩
        have S32 := S31.put (u' := .lst (ts'.map V.ref)) 1 rfl
        have kp := KpC.put (u := .lst (ts'.map V.ref)) (S31.get 1 rfl) rfl
        have P1 := P1.same fun b xs e => kp _ _ e rfl
        have P2 := P2.same fun b xs e => kp _ _ e rfl
        have ht0 := kp _ _ ht0 rfl
        have ht := kp _ _ ht rfl
        have eer : ((t0 :: ts').map V.ref).eraseIdx 0 = ts'.map V.ref := rfl
        rw [eer]
        generalize upd H31 rt (.lst (ts'.map V.ref)) = H32 at S32 P1 P2 ht0 ht ⊢
        refine ⟨_, _, rfl, Alk.pair (n := 2) ht ht0, fun H33 s33 => ⟨true, rfl, iteF ?_⟩⟩
        have S33 := S32.same s33
        have P1 := P1.same fun b xs e => s33 _ _ e
        have P2 := P2.same fun b xs e => s33 _ _ e
        rw [nw_eq, nw_eq, ← List.map_append, ← List.map_append] at S33
        refine sortcmp14 (L := L ++ nwI s1 (ps1.drop k1) ++ nwI s2 (ps2.drop k2)) S33.lgs (S33.get 0 rfl) ((P1.take (k1 + 1)).append (P2.take (k2 + 1))) (by rw [List.map_append]; exact hL2) (by rw [List.length_append, List.length_take, List.length_take]; omega) fun H34 s34 => iteF ?_
        refine ⟨k1, (k2 + 1), L ++ nwI s1 (ps1.drop k1) ++ nwI s2 (ps2.drop k2), s1', s2', _, _, _, _, _, by omega, by omega, by omega, rfl, ?_, P1.same (fun b xs e => s34 _ _ e), P2.same (fun b xs e => s34 _ _ e), ?_⟩
        · have S34 := (S33.less).same s34
          rw [ep', et']
          exact S34
        · rw [w1, w2]
          rw [take_wt]
          exact hL2
end
end K14

set_option maxHeartbeats 0
set_option Elab.async false
set_option linter.all false
set_option maxRecDepth 100000
namespace K14
open PySem L2
def spTop (K : PySem.W.Frag) (tabs : List (Addr × Addr)) : Sp := fun vs H Q _ => ∃ (a : Addr) (ns : List Int), vs = [.ref a] ∧ SqL K H a (ns.map V.int) ∧ ns.length ≤ 63 ∧ (∀ q ∈ tabs, H q.2 = some (.tbl #[])) ∧ ∀ H', Q (.bl true) H'
theorem all_mk {l : PySem.W.OpenLaw} {w : World} {K : PySem.W.Frag} {q : Program} {loose : List Str} {mean : ExcName → Option Value} {mg mb : Str → Option Value} {h : Heap} {fa fLaw : Addr}
    {CD CO C fI fD CS fSI fSA CSd fDI fDL fDG fKof fKit fAsi fMerged ccMerged PtMerged fLst ccLst PtLst fMix fNext fAlk fItm fPairs fKey ccKey PtKey ccLaw PtLaw : Addr} {oc1 kV1 dc1 pm1 ct1 cd1 oc2 kV2 dc2 pm2 ct2 cd2 oc_SI kV_SI dc_SI pm_SI ct_SI cd_SI oc_SA kV_SA dc_SA pm_SA ct_SA cd_SA oc_DI kV_DI dc_DI pm_DI ct_DI cd_DI oc_DL kV_DL dc_DL pm_DL ct_DL cd_DL oc_DG kV_DG dc_DG pm_DG ct_DG cd_DG ocKof kVKof dcKof pmKof ctKof cdKof ocKit kVKit dcKit pmKit ctKit cdKit ocAsi kVAsi dcAsi pmAsi ctAsi cdAsi ocMerged kVMerged dcMerged pmMerged ctMerged oTMerged ocLst kVLst dcLst pmLst ctLst oTLst ocMix kVMix dcMix pmMix ctMix cdMix ocNext kVNext dcNext pmNext ctNext cdNext ocAlk kVAlk dcAlk pmAlk ctAlk cdAlk ocItm kVItm dcItm pmItm ctItm cdItm ocPairs kVPairs dcPairs pmPairs ctPairs cdPairs ocKey kVKey dcKey pmKey ctKey oTKey ocLaw kVLaw dcLaw pmLaw ctLaw oTLaw : Value} {od1 an1 od2 an2 od_SI an_SI od_SA an_SA od_DI an_DI od_DL an_DL od_DG an_DG odKof anKof odKit anKit odAsi anAsi odMerged anMerged odTMerged odLst anLst odTLst odMix anMix odNext anNext odAlk anAlk odItm anItm odPairs anPairs odKey anKey odTKey odLaw anLaw odTLaw : Option Addr} {sl1 sl2 sl_SI sl_SA sl_DI sl_DL sl_DG slKof slKit slAsi slMerged slMergedT slLst slLstT slMix slNext slAlk slItm slPairs slKey slKeyT slLaw slLawT : Array (Option Value)} {vMerged vLst vKey vLaw : Array Value} {drMerged drLst drKey drLaw : DefRec}  
    (X : K.In h) (TT : PyProof.Rows.Top q loose mean mg mb h) (hfa : mg "law" = some (.ref fa)) (hnt : PySem.W.noTabs K = true)
    (z1 : PySem.W.nsIn K mainGlobals "list" = some none)
    (z2 : PySem.W.nsIn K mainGlobals "max" = some none)
    (z3 : PySem.W.nsIn K mainGlobals "len" = some none)
    (z4 : PySem.W.nsIn K mainGlobals "range" = some none)
    (z5 : PySem.W.nsIn K mainGlobals "isinstance" = some none)
    (z6 : PySem.W.nsIn K mainGlobals "tuple" = some none)
    (z7 : PySem.W.nsIn K mainGlobals "str" = some none)
    (z8 : PySem.W.nsIn K mainGlobals "int" = some none)
    (z9 : PySem.W.nsIn K mainGlobals "bool" = some none)
    (z10 : PySem.W.nsIn K mainGlobals "min" = some none)
    (z11 : PySem.W.nsIn K mainGlobals "dict" = some none)
    (z12 : PySem.W.nsIn K mainGlobals "bytes" = some none)
    (z13 : PySem.W.nsIn K mainGlobals "all" = some none)
    (z14 : PySem.W.nsIn K mainGlobals "sorted" = some none)
    (z15 : PySem.W.nsIn K mainGlobals "sum" = some none)
    (z16 : PySem.W.nsIn K mainGlobals "zip" = some none)
    (z17 : PySem.W.nsIn K mainGlobals "enumerate" = some none)
    (z18 : PySem.W.nsIn K mainGlobals "divmod" = some none)
    (cgE : PySem.W.specialIn K (.builtin "object.__class__") "__get__" = some (some (.builtin "getset_descriptor.__get__")))
    (ctE : PySem.W.takesIn K (.builtin "object.__class__") = some true)
    (zVE : PySem.W.nsIn K mainGlobals "ValueError" = some none)
    (aED : PySem.W.nsIn K mainGlobals "DrawError" = some (some (.ref CD)))
    (tyED : PySem.W.typeIn K (.ref CD) = some (.type "type"))
    (scED : (PySem.W.clsIn K CD).isSome = true)
    (baED : PySem.W.mroIn K CD (.type "BaseException") = some true)
    (gaED : PySem.W.findIn K (.ref CD) "__getattribute__" = some (some (.builtin "BaseException.__getattribute__")))
    (gtED : PySem.W.findIn K (.ref CD) "__getattr__" = some none)
    (caED : PySem.W.findIn K (.ref CD) "__class__" = some (some (.builtin "object.__class__")))
    (obED : PySem.W.mroIn K CD (.type "object") = some true)
    (exED : PySem.W.excIn K CD [.type "ValueError", .type "Exception", .type "BaseException", .type "object"] "ValueError.__new__" = true)
    (aEO : PySem.W.nsIn K mainGlobals "Over" = some (some (.ref CO)))
    (tyEO : PySem.W.typeIn K (.ref CO) = some (.type "type"))
    (scEO : (PySem.W.clsIn K CO).isSome = true)
    (baEO : PySem.W.mroIn K CO (.type "BaseException") = some true)
    (gaEO : PySem.W.findIn K (.ref CO) "__getattribute__" = some (some (.builtin "BaseException.__getattribute__")))
    (gtEO : PySem.W.findIn K (.ref CO) "__getattr__" = some none)
    (caEO : PySem.W.findIn K (.ref CO) "__class__" = some (some (.builtin "object.__class__")))
    (obEO : PySem.W.mroIn K CO (.type "object") = some true)
    (exEO : PySem.W.excIn K CO [.type "ValueError", .type "Exception", .type "BaseException", .type "object"] "ValueError.__new__" = true)
    (aC : PySem.W.nsIn K mainGlobals "Row" = some (some (.ref C)))
    (a1 : PySem.W.findIn K (.ref C) "__init__" = some (some (.ref fI)))
    (i1 : PySem.W.isFn K (.ref fI) = true)
    (l1 : K.lookup fI = some ⟨oc1, od1, .func (PySem.W.fnOf "__init__" "Row.__init__" (defArgs sInit) (defBody sInit) (defScope sInit) .none kV1 dc1 pm1 an1 cd1 ct1), sl1⟩)
    (c1 : PySem.W.codeIn K cd1 "Row.__init__" = true)
    (k1 : PySem.W.keepIn K (.ref fI) = true)
    (a2 : PySem.W.findIn K (.ref C) "draw" = some (some (.ref fD)))
    (i2 : PySem.W.isFn K (.ref fD) = true)
    (l2 : K.lookup fD = some ⟨oc2, od2, .func (PySem.W.fnOf "draw" "Row.draw" (defArgs sDraw) (defBody sDraw) (defScope sDraw) .none kV2 dc2 pm2 an2 cd2 ct2), sl2⟩)
    (c2 : PySem.W.codeIn K cd2 "Row.draw" = true)
    (k2 : PySem.W.keepIn K (.ref fD) = true)
    (pgC : PySem.W.plainGet K C Str.empty = true)
    (hdC : PySem.W.hasDictIn K C = true)
    (poC : PySem.W.plainOver K C = true)
    (saC : PySem.W.findIn K (.ref C) "__setattr__" = some (some (.builtin "object.__setattr__")))
    (mkC : PySem.W.makesIn K C = true)
    (kcC : PySem.W.keepIn K (.ref C) = true)
    (nC0 : PySem.W.findIn K (.ref C) "tell" = some none)
    (nC1 : PySem.W.findIn K (.ref C) "over" = some none)
    (aCS : PySem.W.nsIn K mainGlobals "Source" = some (some (.ref CS)))
    (sSI : PySem.W.findIn K (.ref CS) "__init__" = some (some (.ref fSI)))
    (jSI : PySem.W.isFn K (.ref fSI) = true)
    (l_SI : K.lookup fSI = some ⟨oc_SI, od_SI, .func (PySem.W.fnOf "__init__" "Source.__init__" (defArgs s_Source_init) (defBody s_Source_init) (defScope s_Source_init) .none kV_SI dc_SI pm_SI an_SI cd_SI ct_SI), sl_SI⟩)
    (c_SI : PySem.W.codeIn K cd_SI "Source.__init__" = true)
    (k_SI : PySem.W.keepIn K (.ref fSI) = true)
    (sSA : PySem.W.findIn K (.ref CS) "advance" = some (some (.ref fSA)))
    (jSA : PySem.W.isFn K (.ref fSA) = true)
    (l_SA : K.lookup fSA = some ⟨oc_SA, od_SA, .func (PySem.W.fnOf "advance" "Source.advance" (defArgs s_Source_advance) (defBody s_Source_advance) (defScope s_Source_advance) .none kV_SA dc_SA pm_SA an_SA cd_SA ct_SA), sl_SA⟩)
    (c_SA : PySem.W.codeIn K cd_SA "Source.advance" = true)
    (k_SA : PySem.W.keepIn K (.ref fSA) = true)
    (pgCS : PySem.W.plainGet K CS Str.empty = true)
    (hdCS : PySem.W.hasDictIn K CS = true)
    (poCS : PySem.W.plainOver K CS = true)
    (saCS : PySem.W.findIn K (.ref CS) "__setattr__" = some (some (.builtin "object.__setattr__")))
    (mkCS : PySem.W.makesIn K CS = true)
    (kcCS : PySem.W.keepIn K (.ref CS) = true)
    (nCS0 : PySem.W.findIn K (.ref CS) "row" = some none)
    (nCS1 : PySem.W.findIn K (.ref CS) "ended" = some none)
    (nCS2 : PySem.W.findIn K (.ref CS) "fresh" = some none)
    (aCSd : PySem.W.nsIn K mainGlobals "Side" = some (some (.ref CSd)))
    (sDI : PySem.W.findIn K (.ref CSd) "__init__" = some (some (.ref fDI)))
    (jDI : PySem.W.isFn K (.ref fDI) = true)
    (l_DI : K.lookup fDI = some ⟨oc_DI, od_DI, .func (PySem.W.fnOf "__init__" "Side.__init__" (defArgs s_Side_init) (defBody s_Side_init) (defScope s_Side_init) .none kV_DI dc_DI pm_DI an_DI cd_DI ct_DI), sl_DI⟩)
    (c_DI : PySem.W.codeIn K cd_DI "Side.__init__" = true)
    (k_DI : PySem.W.keepIn K (.ref fDI) = true)
    (sDL : PySem.W.findIn K (.ref CSd) "look" = some (some (.ref fDL)))
    (jDL : PySem.W.isFn K (.ref fDL) = true)
    (l_DL : K.lookup fDL = some ⟨oc_DL, od_DL, .func (PySem.W.fnOf "look" "Side.look" (defArgs s_Side_look) (defBody s_Side_look) (defScope s_Side_look) .none kV_DL dc_DL pm_DL an_DL cd_DL ct_DL), sl_DL⟩)
    (c_DL : PySem.W.codeIn K cd_DL "Side.look" = true)
    (k_DL : PySem.W.keepIn K (.ref fDL) = true)
    (sDG : PySem.W.findIn K (.ref CSd) "give" = some (some (.ref fDG)))
    (jDG : PySem.W.isFn K (.ref fDG) = true)
    (l_DG : K.lookup fDG = some ⟨oc_DG, od_DG, .func (PySem.W.fnOf "give" "Side.give" (defArgs s_Side_give) (defBody s_Side_give) (defScope s_Side_give) .none kV_DG dc_DG pm_DG an_DG cd_DG ct_DG), sl_DG⟩)
    (c_DG : PySem.W.codeIn K cd_DG "Side.give" = true)
    (k_DG : PySem.W.keepIn K (.ref fDG) = true)
    (pgCSd : PySem.W.plainGet K CSd Str.empty = true)
    (hdCSd : PySem.W.hasDictIn K CSd = true)
    (poCSd : PySem.W.plainOver K CSd = true)
    (saCSd : PySem.W.findIn K (.ref CSd) "__setattr__" = some (some (.builtin "object.__setattr__")))
    (mkCSd : PySem.W.makesIn K CSd = true)
    (kcCSd : PySem.W.keepIn K (.ref CSd) = true)
    (nCSd0 : PySem.W.findIn K (.ref CSd) "source" = some none)
    (nCSd1 : PySem.W.findIn K (.ref CSd) "key" = some none)
    (nCSd2 : PySem.W.findIn K (.ref CSd) "mark" = some none)
    (nCSd3 : PySem.W.findIn K (.ref CSd) "waits" = some none)
    (aKof : PySem.W.nsIn K mainGlobals "key_of" = some (some (.ref fKof)))
    (lKof : K.lookup fKof = some ⟨ocKof, odKof, .func (PySem.W.fnOf "key_of" "key_of" (defArgs sKeyOf) (defBody sKeyOf) (defScope sKeyOf) .none kVKof dcKof pmKof anKof cdKof ctKof), slKof⟩)
    (cKof : PySem.W.codeIn K cdKof "key_of" = true)
    (kKof : PySem.W.keepIn K (.ref fKof) = true)
    (aKit : PySem.W.nsIn K mainGlobals "key_itself" = some (some (.ref fKit)))
    (lKit : K.lookup fKit = some ⟨ocKit, odKit, .func (PySem.W.fnOf "key_itself" "key_itself" (defArgs sKeyItself) (defBody sKeyItself) (defScope sKeyItself) .none kVKit dcKit pmKit anKit cdKit ctKit), slKit⟩)
    (cKit : PySem.W.codeIn K cdKit "key_itself" = true)
    (kKit : PySem.W.keepIn K (.ref fKit) = true)
    (aAsi : PySem.W.nsIn K mainGlobals "as_it_is" = some (some (.ref fAsi)))
    (lAsi : K.lookup fAsi = some ⟨ocAsi, odAsi, .func (PySem.W.fnOf "as_it_is" "as_it_is" (defArgs sAsItIs) (defBody sAsItIs) (defScope sAsItIs) .none kVAsi dcAsi pmAsi anAsi cdAsi ctAsi), slAsi⟩)
    (cAsi : PySem.W.codeIn K cdAsi "as_it_is" = true)
    (kAsi : PySem.W.keepIn K (.ref fAsi) = true)
    (aMerged : PySem.W.nsIn K mainGlobals "merged" = some (some (.ref fMerged)))
    (lMerged : K.lookup fMerged = some ⟨ocMerged, odMerged, .func (PySem.W.fnOf "merged" "merged" (defArgs s_merged) (defBody s_merged) (defScope s_merged) .none kVMerged dcMerged pmMerged anMerged (.ref ccMerged) ctMerged), slMerged⟩)
    (cMerged : PySem.W.codeIn K (.ref ccMerged) "merged" = true)
    (kMerged : PySem.W.keepIn K (.ref fMerged) = true)
    (oMerged' : K.lookup ccMerged = some ⟨oTMerged, odTMerged, .fields vMerged, slMergedT⟩)
    (vMerged' : (vMerged[(11 : Nat)]? : Option Value) = some (.ref PtMerged))
    (rMerged : @List.find? DefRec (fun e : DefRec => @BEq.beq Str _ e.name ("merged" : Str)) (PyProof.Rows.recsOf q) = @some DefRec drMerged)
    (aLst : PySem.W.nsIn K mainGlobals "listed" = some (some (.ref fLst)))
    (lLst : K.lookup fLst = some ⟨ocLst, odLst, .func (PySem.W.fnOf "listed" "listed" (defArgs sListed) (defBody sListed) (defScope sListed) .none kVLst dcLst pmLst anLst (.ref ccLst) ctLst), slLst⟩)
    (cLst : PySem.W.codeIn K (.ref ccLst) "listed" = true)
    (kLst : PySem.W.keepIn K (.ref fLst) = true)
    (oLst' : K.lookup ccLst = some ⟨oTLst, odTLst, .fields vLst, slLstT⟩)
    (vLst' : (vLst[(11 : Nat)]? : Option Value) = some (.ref PtLst))
    (rLst : @List.find? DefRec (fun e : DefRec => @BEq.beq Str _ e.name ("listed" : Str)) (PyProof.Rows.recsOf q) = @some DefRec drLst)
    (aMix : PySem.W.nsIn K mainGlobals "_law_mix" = some (some (.ref fMix)))
    (lMix : K.lookup fMix = some ⟨ocMix, odMix, .func (PySem.W.fnOf "_law_mix" "_law_mix" (defArgs sMix) (defBody sMix) (defScope sMix) .none kVMix dcMix pmMix anMix cdMix ctMix), slMix⟩)
    (cMix : PySem.W.codeIn K cdMix "_law_mix" = true)
    (kMix : PySem.W.keepIn K (.ref fMix) = true)
    (aNext : PySem.W.nsIn K mainGlobals "_law_next" = some (some (.ref fNext)))
    (lNext : K.lookup fNext = some ⟨ocNext, odNext, .func (PySem.W.fnOf "_law_next" "_law_next" (defArgs sNext) (defBody sNext) (defScope sNext) .none kVNext dcNext pmNext anNext cdNext ctNext), slNext⟩)
    (cNext : PySem.W.codeIn K cdNext "_law_next" = true)
    (kNext : PySem.W.keepIn K (.ref fNext) = true)
    (aAlk : PySem.W.nsIn K mainGlobals "_law_alike" = some (some (.ref fAlk)))
    (lAlk : K.lookup fAlk = some ⟨ocAlk, odAlk, .func (PySem.W.fnOf "_law_alike" "_law_alike" (defArgs sAlike) (defBody sAlike) (defScope sAlike) .none kVAlk dcAlk pmAlk anAlk cdAlk ctAlk), slAlk⟩)
    (cAlk : PySem.W.codeIn K cdAlk "_law_alike" = true)
    (kAlk : PySem.W.keepIn K (.ref fAlk) = true)
    (aItm : PySem.W.nsIn K mainGlobals "_law_items" = some (some (.ref fItm)))
    (lItm : K.lookup fItm = some ⟨ocItm, odItm, .func (PySem.W.fnOf "_law_items" "_law_items" (defArgs sItems) (defBody sItems) (defScope sItems) .none kVItm dcItm pmItm anItm cdItm ctItm), slItm⟩)
    (cItm : PySem.W.codeIn K cdItm "_law_items" = true)
    (kItm : PySem.W.keepIn K (.ref fItm) = true)
    (aPairs : PySem.W.nsIn K mainGlobals "_law_pairs" = some (some (.ref fPairs)))
    (lPairs : K.lookup fPairs = some ⟨ocPairs, odPairs, .func (PySem.W.fnOf "_law_pairs" "_law_pairs" (defArgs s__law_pairs) (defBody s__law_pairs) (defScope s__law_pairs) .none kVPairs dcPairs pmPairs anPairs cdPairs ctPairs), slPairs⟩)
    (cPairs : PySem.W.codeIn K cdPairs "_law_pairs" = true)
    (kPairs : PySem.W.keepIn K (.ref fPairs) = true)
    (aKey : PySem.W.nsIn K mainGlobals "_law_key" = some (some (.ref fKey)))
    (lKey : K.lookup fKey = some ⟨ocKey, odKey, .func (PySem.W.fnOf "_law_key" "_law_key" (defArgs s__law_key) (defBody s__law_key) (defScope s__law_key) .none kVKey dcKey pmKey anKey (.ref ccKey) ctKey), slKey⟩)
    (cKey : PySem.W.codeIn K (.ref ccKey) "_law_key" = true)
    (kKey : PySem.W.keepIn K (.ref fKey) = true)
    (oKey' : K.lookup ccKey = some ⟨oTKey, odTKey, .fields vKey, slKeyT⟩)
    (vKey' : (vKey[(11 : Nat)]? : Option Value) = some (.ref PtKey))
    (rKey : @List.find? DefRec (fun e : DefRec => @BEq.beq Str _ e.name ("_law_key" : Str)) (PyProof.Rows.recsOf q) = @some DefRec drKey)
    (aLaw : PySem.W.nsIn K mainGlobals "law" = some (some (.ref fLaw)))
    (lLaw : K.lookup fLaw = some ⟨ocLaw, odLaw, .func (PySem.W.fnOf "law" "law" (defArgs sLaw) (defBody sLaw) (defScope sLaw) .none kVLaw dcLaw pmLaw anLaw (.ref ccLaw) ctLaw), slLaw⟩)
    (cLaw : PySem.W.codeIn K (.ref ccLaw) "law" = true)
    (kLaw : PySem.W.keepIn K (.ref fLaw) = true)
    (oLaw' : K.lookup ccLaw = some ⟨oTLaw, odTLaw, .fields vLaw, slLawT⟩)
    (vLaw' : (vLaw[(11 : Nat)]? : Option Value) = some (.ref PtLaw))
    (rLaw : @List.find? DefRec (fun e : DefRec => @BEq.beq Str _ e.name ("law" : Str)) (PyProof.Rows.recsOf q) = @some DefRec drLaw)
    (nd : ([PtMerged, PtLst, PtKey, PtLaw] : List Addr).Nodup)
    (hSdS : CSd ≠ CS)
    : PySem.W.noTabs K = true ∧ ∃ (tabs : List (Addr × Addr)) (fd : FuncData), PySem.W.TabsAt tabs h ∧ (∀ (s : Shared) (u : Value), BindsTo s fd ⟨[u], []⟩ [("_law_script", u)]) ∧
      ∀ base : Heap, K.In base → base.Ns mainGlobals mg → (∀ q ∈ tabs, PySem.W.CodeHd base q.1 q.2 ∧ mainGlobals ≠ q.2 ∧ base.BuiltinsAt mg q.2) → FnOk l.prog w K mg base (CXo l.prog w) 40 fa fd ["_law_script"] (spTop K tabs) := by
  have G := TT.g
  have e := hfa.symm.trans (PySem.W.mg_of X G aLaw)
  cases e
  refine ⟨hnt, [(ccMerged, PtMerged), (ccLst, PtLst), (ccKey, PtKey), (ccLaw, PtLaw)], PySem.W.fnOf "law" "law" (defArgs sLaw) (defBody sLaw) (defScope sLaw) .none kVLaw dcLaw pmLaw anLaw (.ref ccLaw) ctLaw, ?_, fun s u => .of_eq rfl, fun base kb nb ht => ?_⟩
  · intro q hq
    rcases List.mem_cons.mp hq with rfl | hq
    · exact PySem.W.tab_of TT X rMerged (tabIn_of aMerged lMerged rfl oMerged' vMerged')
    rcases List.mem_cons.mp hq with rfl | hq
    · exact PySem.W.tab_of TT X rLst (tabIn_of aLst lLst rfl oLst' vLst')
    rcases List.mem_cons.mp hq with rfl | hq
    · exact PySem.W.tab_of TT X rKey (tabIn_of aKey lKey rfl oKey' vKey')
    rcases List.mem_cons.mp hq with rfl | hq
    · exact PySem.W.tab_of TT X rLaw (tabIn_of aLaw lLaw rfl oLaw' vLaw')
    exact absurd hq List.not_mem_nil
  · have W : Tx l.prog K mg base CD CO C fI fD CS fSI fSA CSd fDI fDL fDG fKof fKit fAsi fMerged ccMerged PtMerged fLst ccLst PtLst fMix fNext fAlk fItm fPairs fKey ccKey PtKey ccLaw PtLaw _ _ _ _ _ _ _ _ _ _ _ _ _ _ _ _ _ _ := ⟨⟨PySem.W.mg_none_of X G z1, PySem.W.mg_none_of X G z2, PySem.W.mg_none_of X G z3, PySem.W.mg_none_of X G z4, PySem.W.mg_none_of X G z5, PySem.W.mg_none_of X G z6, PySem.W.mg_none_of X G z7, PySem.W.mg_none_of X G z8, PySem.W.mg_none_of X G z9, PySem.W.mg_none_of X G z10, PySem.W.mg_none_of X G z11, PySem.W.mg_none_of X G z12, PySem.W.mg_none_of X G z13, PySem.W.mg_none_of X G z14, PySem.W.mg_none_of X G z15, PySem.W.mg_none_of X G z16, PySem.W.mg_none_of X G z17, PySem.W.mg_none_of X G z18⟩,
      PySem.W.mg_none_of X G zVE,
      PySem.W.mg_of X G aED,
      ⟨tyED, scED, baED⟩,
      ⟨baED, scED, gaED, gtED, caED, cgE, ctE, obED⟩,
      exED,
      PySem.W.mg_of X G aEO,
      ⟨tyEO, scEO, baEO⟩,
      ⟨baEO, scEO, gaEO, gtEO, caEO, cgE, ctE, obEO⟩,
      exEO,
      ⟨⟨pgC, hdC, poC, saC⟩, nC0, nC1, PySem.W.mg_of X G aC, ⟨mkC, a1, i1, kcC⟩, ⟨a2, i2, k2⟩, PySem.W.mg_of X G aEO, exEO⟩,
      fun_mk l1 c1 k1,
      (fun_mk l1 c1 k1).binds fun _ _ _ _ _ _ us hl => match us, hl with | [_, _], _ => rfl,
      fun_mk l2 c2 k2,
      (fun_mk l2 c2 k2).binds fun _ _ _ _ _ _ us hl => match us, hl with | [_], _ => rfl,
      ⟨⟨pgCS, hdCS, poCS, saCS⟩, nCS0, nCS1, nCS2, PySem.W.mg_of X G aCS, ⟨mkCS, sSI, jSI, kcCS⟩, ⟨sSA, jSA, k_SA⟩⟩,
      fun_mk l_SI c_SI k_SI,
      (fun_mk l_SI c_SI k_SI).binds fun _ _ _ _ _ _ us hl => match us, hl with | [_, _], _ => rfl,
      fun_mk l_SA c_SA k_SA,
      (fun_mk l_SA c_SA k_SA).binds fun _ _ _ _ _ _ us hl => match us, hl with | [_], _ => rfl,
      ⟨⟨pgCSd, hdCSd, poCSd, saCSd⟩, nCSd0, nCSd1, nCSd2, nCSd3, PySem.W.mg_of X G aCSd, ⟨mkCSd, sDI, jDI, kcCSd⟩, ⟨sDL, jDL, k_DL⟩, ⟨sDG, jDG, k_DG⟩⟩,
      fun_mk l_DI c_DI k_DI,
      (fun_mk l_DI c_DI k_DI).binds fun _ _ _ _ _ _ us hl => match us, hl with | [_, _, _], _ => rfl,
      fun_mk l_DL c_DL k_DL,
      (fun_mk l_DL c_DL k_DL).binds fun _ _ _ _ _ _ us hl => match us, hl with | [_], _ => rfl,
      fun_mk l_DG c_DG k_DG,
      (fun_mk l_DG c_DG k_DG).binds fun _ _ _ _ _ _ us hl => match us, hl with | [_], _ => rfl,
      fun_mk lKof cKof kKof,
      PySem.W.mg_of X G aKof,
      (fun_mk lKof cKof kKof).binds fun _ _ _ _ _ _ us hl => match us, hl with | [_, _], _ => rfl,
      fun_mk lKit cKit kKit,
      PySem.W.mg_of X G aKit,
      (fun_mk lKit cKit kKit).binds fun _ _ _ _ _ _ us hl => match us, hl with | [_, _], _ => rfl,
      fun_mk lAsi cAsi kAsi,
      PySem.W.mg_of X G aAsi,
      (fun_mk lAsi cAsi kAsi).binds fun _ _ _ _ _ _ us hl => match us, hl with | [_], _ => rfl,
      fun_mk lMerged cMerged kMerged,
      PySem.W.mg_of X G aMerged,
      (fun_mk lMerged cMerged kMerged).binds fun _ _ _ _ _ _ us hl => match us, hl with | [_, _, _], _ => rfl,
      fun_mk lLst cLst kLst,
      PySem.W.mg_of X G aLst,
      (fun_mk lLst cLst kLst).binds fun _ _ _ _ _ _ us hl => match us, hl with | [_], _ => rfl,
      fun_mk lMix cMix kMix,
      PySem.W.mg_of X G aMix,
      (fun_mk lMix cMix kMix).binds fun _ _ _ _ _ _ us hl => match us, hl with | [_, _], _ => rfl,
      fun_mk lNext cNext kNext,
      PySem.W.mg_of X G aNext,
      (fun_mk lNext cNext kNext).binds fun _ _ _ _ _ _ us hl => match us, hl with | [_, _], _ => rfl,
      fun_mk lAlk cAlk kAlk,
      PySem.W.mg_of X G aAlk,
      (fun_mk lAlk cAlk kAlk).binds fun _ _ _ _ _ _ us hl => match us, hl with | [_, _], _ => rfl,
      fun_mk lItm cItm kItm,
      PySem.W.mg_of X G aItm,
      (fun_mk lItm cItm kItm).binds fun _ _ _ _ _ _ us hl => match us, hl with | [_, _], _ => rfl,
      fun_mk lPairs cPairs kPairs,
      PySem.W.mg_of X G aPairs,
      (fun_mk lPairs cPairs kPairs).binds fun _ _ _ _ _ _ us hl => match us, hl with | [_, _], _ => rfl,
      fun_mk lKey cKey kKey,
      PySem.W.mg_of X G aKey,
      (fun_mk lKey cKey kKey).binds fun _ _ _ _ _ _ us hl => match us, hl with | [_], _ => rfl,
      rfl,
      ht (ccMerged, PtMerged) (.head _),
      rfl,
      ht (ccLst, PtLst) (.tail _ (.head _)),
      rfl,
      ht (ccKey, PtKey) (.tail _ (.tail _ (.head _))),
      ht (ccLaw, PtLaw) (.tail _ (.tail _ (.tail _ (.head _)))),
      nd,
      hSdS⟩
    exact (ok_law (fun_mk lLaw cLaw kLaw) rfl W).imp fun vs H Q E ⟨a, ns, h1, h2, h3, h4, h5⟩ => ⟨a, ns, h1, h2, h3, ⟨h4 (ccMerged, PtMerged) (.head _), h4 (ccLst, PtLst) (.tail _ (.head _)), h4 (ccKey, PtKey) (.tail _ (.tail _ (.head _))), h4 (ccLaw, PtLaw) (.tail _ (.tail _ (.tail _ (.head _))))⟩, h5⟩
end K14

set_option Elab.async false
open PySem PySem.W PyProof.Rows
set_option maxRecDepth 100000 in
set_option maxHeartbeats 0 in
theorem PySem.Challenge.cw_drawnworks_k14_whole_two_merged_holds : PySem.Challenge.rw_drawnworks_k14_whole_two_merged.Holds := by
  w_on; o_law; k_head; (case hw => w_witness2)
  k_fill
  refine L2.walk_ofT2 (l := PySem.Challenge.rw_drawnworks_k14_whole_two_merged) (n := 63) (k := 40) (x := "_law_script") (sp := K14.spTop) rfl (by decide) rfl ⟨rfl, by decide, by decide⟩ (fun w h Y => PySem.W.km_in_of Y) ?F ?S
  case S => exact fun K tabs H a ns hl hT hS => ⟨a, ns, rfl, hS, hl, hT, fun _ => rfl⟩
  case F =>
    intro w mean mg mb fa h KX TT hmg
    refine' K14.all_mk KX TT hmg ?nt ?h0 ?h1 ?h2 ?h3 ?h4 ?h5 ?h6 ?h7 ?h8 ?h9 ?h10 ?h11 ?h12 ?h13 ?h14 ?h15 ?h16 ?h17 ?h18 ?h19 ?h20 ?h21 ?h22 ?h23 ?h24 ?h25 ?h26 ?h27 ?h28 ?h29 ?h30 ?h31 ?h32 ?h33 ?h34 ?h35 ?h36 ?h37 ?h38 ?h39 ?h40 ?h41 ?h42 ?h43 ?h44 ?h45 ?h46 ?h47 ?h48 ?h49 ?h50 ?h51 ?h52 ?h53 ?h54 ?h55 ?h56 ?h57 ?h58 ?h59 ?h60 ?h61 ?h62 ?h63 ?h64 ?h65 ?h66 ?h67 ?h68 ?h69 ?h70 ?h71 ?h72 ?h73 ?h74 ?h75 ?h76 ?h77 ?h78 ?h79 ?h80 ?h81 ?h82 ?h83 ?h84 ?h85 ?h86 ?h87 ?h88 ?h89 ?h90 ?h91 ?h92 ?h93 ?h94 ?h95 ?h96 ?h97 ?h98 ?h99 ?h100 ?h101 ?h102 ?h103 ?h104 ?h105 ?h106 ?h107 ?h108 ?h109 ?h110 ?h111 ?h112 ?h113 ?h114 ?h115 ?h116 ?h117 ?h118 ?h119 ?h120 ?h121 ?h122 ?h123 ?h124 ?h125 ?h126 ?h127 ?h128 ?h129 ?h130 ?h131 ?h132 ?h133 ?h134 ?h135 ?h136 ?h137 ?h138 ?h139 ?h140 ?h141 ?h142 ?h143 ?h144 ?h145 ?h146 ?h147 ?h148 ?h149 ?h150 ?h151 ?h152 ?h153 ?h154 ?h155 ?h156 ?h157 ?h158 ?h159 ?h160 ?h161 ?h162 ?h163 ?h164 ?h165
    (case nt => kernel_rfl)
    (case h0 => k_is)
    (case h1 => k_is)
    (case h2 => k_is)
    (case h3 => k_is)
    (case h4 => k_is)
    (case h5 => k_is)
    (case h6 => k_is)
    (case h7 => k_is)
    (case h8 => k_is)
    (case h9 => k_is)
    (case h10 => k_is)
    (case h11 => k_is)
    (case h12 => k_is)
    (case h13 => k_is)
    (case h14 => k_is)
    (case h15 => k_is)
    (case h16 => k_is)
    (case h17 => k_is)
    (case h18 => k_is)
    (case h19 => k_is)
    (case h20 => k_is)
    (case h21 => k_is)
    (case h22 => k_is)
    (case h23 => kernel_rfl)
    (case h24 => k_is)
    (case h25 => k_is)
    (case h26 => k_is)
    (case h27 => k_is)
    (case h28 => k_is)
    (case h29 => k_exc)
    (case h30 => k_is)
    (case h31 => k_is)
    (case h32 => kernel_rfl)
    (case h33 => k_is)
    (case h34 => k_is)
    (case h35 => k_is)
    (case h36 => k_is)
    (case h37 => k_is)
    (case h38 => k_exc)
    (case h39 => k_is)
    (case h40 => k_is)
    (case h41 => k_is)
    (case h42 => k_is)
    (case h43 => k_is)
    (case h44 => k_is)
    (case h45 => k_is)
    (case h46 => k_is)
    (case h47 => k_is)
    (case h48 => k_is)
    (case h49 => k_is)
    (case h50 => k_is)
    (case h51 => k_is)
    (case h52 => k_is)
    (case h53 => k_is)
    (case h54 => k_is)
    (case h55 => k_is)
    (case h56 => k_is)
    (case h57 => k_is)
    (case h58 => k_is)
    (case h59 => k_is)
    (case h60 => k_is)
    (case h61 => k_is)
    (case h62 => k_is)
    (case h63 => k_is)
    (case h64 => k_is)
    (case h65 => k_is)
    (case h66 => k_is)
    (case h67 => k_is)
    (case h68 => k_is)
    (case h69 => k_is)
    (case h70 => k_is)
    (case h71 => k_is)
    (case h72 => k_is)
    (case h73 => k_is)
    (case h74 => k_is)
    (case h75 => k_is)
    (case h76 => k_is)
    (case h77 => k_is)
    (case h78 => k_is)
    (case h79 => k_is)
    (case h80 => k_is)
    (case h81 => k_is)
    (case h82 => k_is)
    (case h83 => k_is)
    (case h84 => k_is)
    (case h85 => k_is)
    (case h86 => k_is)
    (case h87 => k_is)
    (case h88 => k_is)
    (case h89 => k_is)
    (case h90 => k_is)
    (case h91 => k_is)
    (case h92 => k_is)
    (case h93 => k_is)
    (case h94 => k_is)
    (case h95 => k_is)
    (case h96 => k_is)
    (case h97 => k_is)
    (case h98 => k_is)
    (case h99 => k_is)
    (case h100 => k_is)
    (case h101 => k_is)
    (case h102 => k_is)
    (case h103 => k_is)
    (case h104 => k_is)
    (case h105 => k_is)
    (case h106 => k_is)
    (case h107 => k_is)
    (case h108 => k_is)
    (case h109 => k_is)
    (case h110 => k_is)
    (case h111 => k_is)
    (case h112 => k_is)
    (case h113 => k_is)
    (case h114 => k_is)
    (case h115 => k_is)
    (case h116 => k_is)
    (case h117 => k_is)
    (case h118 => k_is)
    (case h119 => k_is)
    (case h120 => k_is)
    (case h121 => rfl)
    (case h122 => rfl)
    (case h123 => k_is)
    (case h124 => k_is)
    (case h125 => k_is)
    (case h126 => k_is)
    (case h127 => k_is)
    (case h128 => rfl)
    (case h129 => rfl)
    (case h130 => k_is)
    (case h131 => k_is)
    (case h132 => k_is)
    (case h133 => k_is)
    (case h134 => k_is)
    (case h135 => k_is)
    (case h136 => k_is)
    (case h137 => k_is)
    (case h138 => k_is)
    (case h139 => k_is)
    (case h140 => k_is)
    (case h141 => k_is)
    (case h142 => k_is)
    (case h143 => k_is)
    (case h144 => k_is)
    (case h145 => k_is)
    (case h146 => k_is)
    (case h147 => k_is)
    (case h148 => k_is)
    (case h149 => k_is)
    (case h150 => k_is)
    (case h151 => k_is)
    (case h152 => k_is)
    (case h153 => k_is)
    (case h154 => k_is)
    (case h155 => rfl)
    (case h156 => rfl)
    (case h157 => k_is)
    (case h158 => k_is)
    (case h159 => k_is)
    (case h160 => k_is)
    (case h161 => k_is)
    (case h162 => rfl)
    (case h163 => rfl)
    (case h164 => decide)
    (case h165 => decide)
#print axioms PySem.Challenge.cw_drawnworks_k14_whole_two_merged_holds
