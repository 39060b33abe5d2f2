import PyProof.Rows.All
import Wide.All
import OpenK.AllK
import Wide.FinOn
import Lean
import PyProof.EqAt
import PyProof.EqKinds
import PyProof.TupleCall
import PyProof.ZipIter
import PyProof.Rows.SumAny
import PyProof.Rows.SortWalk
import PyProof.NeKinds
import OpenK.KRaise
import PyProof.Rows.FStr
import PyProof.Rows.RegStrFacts
import PyProof.Rows.Own
import OpenK.KOwn
import PyProof.ExcArgsOwn
import PyProof.IsiBase
import PyProof.ExcAttrAll.ValueError
import KE.KLam
import KE.KTryMore
import PyProof.NsDelKeeps
import PySem.Challenge.RW_thawfront_k06_amounts_refused
set_option Elab.async false
set_option linter.all false
set_option maxRecDepth 100000
set_option maxHeartbeats 4000000
set_option Elab.async false
set_option linter.all false
set_option maxRecDepth 100000
/-! THE HAND LAYER, for ints, bools, texts, own classes, LISTS and tuples (index, slices, in, append, pop ..), calls, loops. Paste it whole ahead of your own text; what your proof does not reach may be deleted. -/
namespace L2
open PySem PySem.Spec PyProof.Rows

/-- a key: an int or a str -/
abbrev Key := Sum Int Str
def keyIs : Key → Value → Bool
  | .inl k, v => Value.isInt k v
  | .inr x, v => Value.isStrOf x v
def keyH (w : World) : Key → Int
  | .inl k => hashInt k
  | .inr x => hashStr w x
theorem keyIs_shape : ∀ {k : Key} {v : Value}, keyIs k v = true → (∃ i t, k = Sum.inl i ∧ v = Value.int i t) ∨ (∃ x t, k = Sum.inr x ∧ v = Value.str x t)
  | .inl i, v, h => by
    obtain ⟨t, e⟩ := Value.isInt_shape (k := i) (v := v) h
    exact .inl ⟨i, t, rfl, e⟩
  | .inr x, v, h => by
    obtain ⟨t, e⟩ := Value.isStrOf_shape (x := x) (v := v) h
    exact .inr ⟨x, t, rfl, e⟩
theorem key_ll (a b : Int) : decide ((Sum.inl a : Key) = Sum.inl b) = (a == b) := by
  by_cases e : a = b
  · subst e; simp
  · have h : ¬ (Sum.inl a : Key) = Sum.inl b := fun q => e (Sum.inl.inj q)
    rw [decide_eq_false h]
    exact (beq_eq_false_iff_ne.mpr e).symm
theorem key_rr (a b : Str) : decide ((Sum.inr a : Key) = Sum.inr b) = decide (a = b) := by
  by_cases e : a = b
  · subst e; simp
  · have h : ¬ (Sum.inr a : Key) = Sum.inr b := fun q => e (Sum.inr.inj q)
    rw [decide_eq_false h, decide_eq_false e]
theorem key_lr (a : Int) (b : Str) : decide ((Sum.inl a : Key) = Sum.inr b) = false := decide_eq_false (fun q => nomatch q)
theorem key_rl (a : Str) (b : Int) : decide ((Sum.inr a : Key) = Sum.inl b) = false := decide_eq_false (fun q => nomatch q)

def mixKind (prog : Program) (w : World) : PySem.KeyKind prog w Key where
  is := keyIs
  hash := keyH w
  inj := fun v a b ha hb => by
    rcases keyIs_shape ha with ⟨i, t, rfl, rfl⟩ | ⟨x, t, rfl, rfl⟩
    · rcases keyIs_shape hb with ⟨j, u, rfl, e⟩ | ⟨y, u, rfl, e⟩
      · injection e with e1 _; rw [e1]
      · exact nomatch e
    · rcases keyIs_shape hb with ⟨j, u, rfl, e⟩ | ⟨y, u, rfl, e⟩
      · exact nomatch e
      · injection e with e1 _; rw [e1]
  byValue := fun k v h => by
    rcases keyIs_shape h with ⟨i, t, rfl, rfl⟩ | ⟨x, t, rfl, rfl⟩ <;> rfl
  pyHash := fun hv h => by
    rcases keyIs_shape hv with ⟨i, t, rfl, rfl⟩ | ⟨x, t, rfl, rfl⟩
    · exact wpAny_pyHash_int h
    · exact wpAny_pyHash_str h
  eqBool := fun hu hv h => by
    rcases keyIs_shape hu with ⟨i, t, rfl, rfl⟩ | ⟨x, t, rfl, rfl⟩
    · rcases keyIs_shape hv with ⟨j, u, rfl, rfl⟩ | ⟨y, u, rfl, rfl⟩
      · rw [key_ll] at h; exact wpAny_eqBool_int h
      · rw [key_lr] at h; exact SeqAt.EqAt.int_str i t y u _ _ _ _ h
    · rcases keyIs_shape hv with ⟨j, u, rfl, rfl⟩ | ⟨y, u, rfl, rfl⟩
      · rw [key_rl] at h; exact SeqAt.EqAt.str_int x t j u _ _ _ _ h
      · rw [key_rr] at h; exact wpAny_eqBool_str h
  «strs» := fun k x t v h => by
    rcases keyIs_shape h with ⟨i, u, rfl, e⟩ | ⟨y, u, rfl, e⟩
    · exact nomatch e
    · injection e with e1 _
      subst e1
      cases v <;> rfl

end L2

namespace L2
open PySem PySem.Spec PyProof.Rows

/-- a value, without the heap -/
inductive V where
  | non | bl (b : Bool) | int (i : Int) | str (x : Str) | byt (b : Array UInt8) | flt (b : UInt64) | ref (a : Addr) | ty (n : String)
  deriving DecidableEq

def RelV : V → Value → Prop
  | .non, u => u = Value.none
  | .bl b, u => u = Value.bool b
  | .int i, u => ∃ t, u = Value.int i t
  | .str x, u => ∃ t, u = Value.str x t
  | .byt b, u => ∃ t, u = Value.bytes b t
  | .flt b, u => ∃ t, u = Value.float b t
  | .ref a, u => u = Value.ref a
  | .ty n, u => u = Value.type n

abbrev Vals : List V → List Value → Prop := Paired RelV
theorem Vals.length {xs : List V} {us : List Value} (r : Vals xs us) : xs.length = us.length := Paired.length r
theorem Vals.get : ∀ {xs : List V} {us : List Value} {i : Nat} {x : V}, Vals xs us → xs[i]? = some x → ∃ u, us[i]? = some u ∧ RelV x u
  | _, _, _, _, .nil, e => by simp at e
  | _, _, 0, _, .cons r _, e => by simp at e; subst e; exact ⟨_, rfl, r⟩
  | _, _, i + 1, x, .cons _ t, e => by
    obtain ⟨u, h1, h2⟩ := Vals.get (i := i) (x := x) t (by simpa using e)
    exact ⟨u, by simpa using h1, h2⟩
theorem Vals.set {x : V} {u : Value} (r : RelV x u) : ∀ {xs : List V} {us : List Value} (i : Nat), Vals xs us → Vals (xs.set i x) (us.set i u)
  | _, _, _, .nil => .nil
  | _, _, 0, .cons _ t => .cons r t
  | _, _, i + 1, .cons q t => .cons q (Vals.set r i t)
theorem Vals.append : ∀ {xs ys : List V} {us ws : List Value}, Vals xs us → Vals ys ws → Vals (xs ++ ys) (us ++ ws)
  | _, _, _, _, .nil, s => s
  | _, _, _, _, .cons r t, s => .cons r (Vals.append t s)
theorem Vals.take : ∀ {xs : List V} {us : List Value} (n : Nat), Vals xs us → Vals (xs.take n) (us.take n)
  | _, _, 0, _ => .nil
  | _, _, _ + 1, .nil => .nil
  | _, _, n + 1, .cons r t => .cons r (Vals.take n t)
theorem Vals.drop : ∀ {xs : List V} {us : List Value} (n : Nat), Vals xs us → Vals (xs.drop n) (us.drop n)
  | _, _, 0, r => r
  | _, _, _ + 1, .nil => .nil
  | _, _, n + 1, .cons _ t => Vals.drop n t
def RelO : Option V → Option Value → Prop
  | some v, some u => RelV v u
  | none, none => True
  | _, _ => False
def KV {κ : Type} : List (κ × V) → List (κ × Value) → Prop := Paired fun (p : κ × V) (q : κ × Value) => p.1 = q.1 ∧ RelV p.2 q.2

/-- a key of a dict (00_mix): an int or a text -/
def kV : Key → V
  | .inl i => .int i
  | .inr x => .str x

/-- what stands at a tracked address -/
inductive HO where
  /-- a list -/
  | lst (xs : List V)
  /-- a tuple (never changes) -/
  | tup (xs : List V)
  /-- a dict whose keys are ints and texts; one whose keys are tuples of ints and texts (the empty one is both) -/
  | dK (kvs : List (Key × V)) | dT (kvs : List (List Key × V))
  /-- a set of ints: its members, its size -/
  | set (S : Int → Bool) (n : Nat)
  /-- an instance of the class at C, its dict at dx, its attributes -/
  | ins (C dx : Addr) (fs : List (Str × V))
  /-- the dict of the instance at x -/
  | own (x : Addr)
  /-- the dict of an exception -/
  | xd (fs : List (Str × V))
  /-- a bound method, f of x -/
  | met (f x : Addr)
  /-- a range object lo, lo + 1, .. below hi -/
  | rng (lo hi : Int)
  /-- a thing that is known to the object (the script; a dict while a loop walks it): read, never written while it is so -/
  | frz (o : Obj) (u : HO)
  /-- a code object's table -/
  | tbl (ps : Array Value)
  /-- any other thing, by what is true of its one object (a def of one's own: SetO a S n := HO.ext fun h => ..) -/
  | ext (φ : Heap → Prop)

abbrev Hp := Addr → Option HO
def upd (H : Hp) (a : Addr) (o : HO) : Hp := fun b => if b = a then some o else H b
theorem upd_same {H : Hp} {a : Addr} {o : HO} : upd H a o a = some o := by unfold upd; rw [if_pos rfl]
theorem upd_ne {H : Hp} {a b : Addr} {o : HO} (h : b ≠ a) : upd H a o b = H b := by unfold upd; rw [if_neg h]
theorem upd_upd {H : Hp} {a : Addr} {o u : HO} : upd (upd H a o) a u = upd H a u := by
  funext b; unfold upd; split <;> rfl
/-- two objects of different content stand apart -/
theorem ne_of {H : Hp} {a b : Addr} {o u : HO} (h : H a = some o) (h' : H b = some u) (d : o ≠ u) : a ≠ b := by
  intro e; subst e; rw [h] at h'; exact d (Option.some.inj h')
theorem ne_of_none {H : Hp} {a b : Addr} {o : HO} (h : H a = some o) (h' : H b = none) : a ≠ b := by
  intro e; subst e; rw [h] at h'; cases h'

section
variable (P : Program) (w : World)
def ObjOk (H : Hp) (h : Heap) (a : Addr) : HO → Prop
  | .lst xs => xs.length ≤ sizeLine ∧ ∃ (its : List Value) (n : Nat), Vals xs its ∧ h.get? a = some { cls := .type "list", data := .seq its.toArray n }
  | .tup xs => xs.length ≤ sizeLine ∧ ∃ its : List Value, Vals xs its ∧ IsTup h a its.toArray
  | .dK kvs => kvs.length ≤ sizeLine ∧ (a == sysModules) = false ∧ ∃ vs, KV kvs vs ∧ h.DictOf (mixKind P w) a vs
  | .dT kvs => kvs.length ≤ sizeLine ∧ (a == sysModules) = false ∧ ∃ xs : List (List Key × Addr × Value),
      Paired (fun (p : List Key × V) (q : List Key × Addr × Value) => p.1 = q.1 ∧ H q.2.1 = some (.tup (p.1.map kV)) ∧ RelV p.2 q.2.2) kvs xs ∧
      ∃ o es ep, h.get? a = some o ∧ o.ExactDict ∧ o.data = .dict es ep ∧ es.toList = xs.map (entryOfKey (tupleKind (mixKind P w))) ∧ (xs.map (·.1)).Nodup
  | .set S n => h.SetOf (intKind P w) a S n
  | .ins C dx fs => H dx = some (.own a) ∧ fs.length ≤ 1000 ∧ dx ≠ a ∧ h.get? a = some (PySem.W.instObj C dx) ∧
      ∃ mA, h.Ns1 dx mA ∧ (∀ f, RelO (fs.lookup f) (mA f)) ∧ PySem.Within mA (fs.map (·.1))
  | .own _ => ∃ o, h.get? a = some o
  | .xd fs => ∃ mA, h.Ns1 a mA ∧ ∀ f, RelO (fs.lookup f) (mA f)
  | .rng lo hi => ∃ t u v, h.get? a = some { cls := .type "range", data := .fields #[.int lo t, .int hi u, .int 1 v] }
  | .frz o u => h.get? a = some o ∧ ObjOk H h a u
  | .tbl ps => h.get? a = some { cls := .none, data := .fields ps }
  | .met f x => h.get? a = some (PySem.W.methodObj (.ref f) (.ref x))
  | .ext φ => φ h ∧ (∃ o, h.get? a = some o) ∧ ∀ h1 h2 : Heap, φ h1 → (∀ o, h1.get? a = some o → h2.get? a = some o) → φ h2
/-- the abstract heap is held -/
def HOk (H : Hp) (h : Heap) : Prop := ∀ a o, H a = some o → ObjOk P w H h a o
end

section
variable {P : Program} {w : World} {H H' : Hp} {h h' : Heap} {a : Addr} {o : HO}
theorem ObjOk.lt (x : ObjOk P w H h a o) : a < h.objs.size := by
  cases o with
  | lst xs => obtain ⟨_, _, _, _, e⟩ := x; exact Heap.lt_size e
  | tup xs => obtain ⟨_, _, _, p⟩ := x; exact p.lt
  | dK kvs => obtain ⟨_, _, _, _, o, _, _, e, _⟩ := x; exact Heap.lt_size e
  | dT kvs => obtain ⟨_, _, _, _, o, _, _, e, _⟩ := x; exact Heap.lt_size e
  | set S n => obtain ⟨o, _, _, _, e, _⟩ := x; exact Heap.lt_size e
  | ins C dx fs => obtain ⟨_, _, _, e, _⟩ := x; exact Heap.lt_size e
  | own y => obtain ⟨_, e⟩ := x; exact Heap.lt_size e
  | xd fs => obtain ⟨_, ⟨_, _, _, e, _⟩, _⟩ := x; exact Heap.lt_size e
  | rng lo hi => obtain ⟨_, _, _, e⟩ := x; exact Heap.lt_size e
  | frz ob u => obtain ⟨e, _⟩ := x; exact Heap.lt_size e
  | tbl ps => exact Heap.lt_size (show h.get? a = some _ from x)
  | met f y => exact Heap.lt_size (show h.get? a = some _ from x)
  | ext φ => obtain ⟨_, ⟨_, e⟩, _⟩ := x; exact Heap.lt_size e
theorem Paired.mapP {α β : Type} {F G : α → β → Prop} : ∀ {l₁ : List α} {l₂ : List β}, Paired F l₁ l₂ → (∀ a b, F a b → G a b) → Paired G l₁ l₂
  | _, _, .nil, _ => .nil
  | _, _, .cons r t, f => .cons (f _ _ r) (Paired.mapP t f)
/-- what an object's description leans on: its own object, its own dict, the tuples -/
theorem ObjOk.stay (x : ObjOk P w H h a o) (k : ∀ b u, (b = a ∨ H b = some (.own a)) → h.get? b = some u → h'.get? b = some u)
    (ho : ∀ b, H b = some (.own a) → H' b = some (.own a)) (ht : ∀ b xs, H b = some (.tup xs) → H' b = some (.tup xs)) : ObjOk P w H' h' a o := by
  induction o with
  | lst xs => obtain ⟨z, its, n, r, e⟩ := x; exact ⟨z, its, n, r, k _ _ (.inl rfl) e⟩
  | tup xs => obtain ⟨z, its, r, ob, e, c⟩ := x; exact ⟨z, its, r, ob, k _ _ (.inl rfl) e, c⟩
  | dK kvs => obtain ⟨z, y, vs, r, ob, es, ep, e, c⟩ := x; exact ⟨z, y, vs, r, ob, es, ep, k _ _ (.inl rfl) e, c⟩
  | dT kvs =>
    obtain ⟨z, y, xs, r, ob, es, ep, e, c⟩ := x
    exact ⟨z, y, xs, Paired.mapP r fun p q z => ⟨z.1, ht _ _ z.2.1, z.2.2⟩, ob, es, ep, k _ _ (.inl rfl) e, c⟩
  | set S n => obtain ⟨ob, es, ep, t, e, c⟩ := x; exact ⟨ob, es, ep, t, k _ _ (.inl rfl) e, c⟩
  | ins C dx fs =>
    obtain ⟨d, z, ne, e, mA, ⟨od, es, ep, e2, c⟩, r⟩ := x
    exact ⟨ho _ d, z, ne, k _ _ (.inl rfl) e, mA, ⟨od, es, ep, k _ _ (.inr d) e2, c⟩, r⟩
  | own y => obtain ⟨ob, e⟩ := x; exact ⟨ob, k _ _ (.inl rfl) e⟩
  | xd fs => obtain ⟨mA, ⟨od, es, ep, e, c⟩, r⟩ := x; exact ⟨mA, ⟨od, es, ep, k _ _ (.inl rfl) e, c⟩, r⟩
  | rng lo hi => obtain ⟨t, u, v, e⟩ := x; exact ⟨t, u, v, k _ _ (.inl rfl) e⟩
  | frz ob u ih => obtain ⟨e, q⟩ := x; exact ⟨k _ _ (.inl rfl) e, ih q⟩
  | tbl ps =>
    have e : h.get? a = some { cls := .none, data := .fields ps } := x
    show h'.get? a = some { cls := .none, data := .fields ps }
    exact k a _ (.inl rfl) e
  | met f y =>
    have e : h.get? a = some (PySem.W.methodObj (.ref f) (.ref y)) := x
    show h'.get? a = some (PySem.W.methodObj (.ref f) (.ref y))
    exact k a _ (.inl rfl) e
  | ext φ => obtain ⟨p, ⟨o, e⟩, st⟩ := x; exact ⟨st _ _ p fun o q => k _ _ (.inl rfl) q, ⟨o, k _ _ (.inl rfl) e⟩, st⟩
theorem HOk.lt (x : HOk P w H h) (e : H a = some o) : a < h.objs.size := (x a o e).lt
theorem HOk.fresh (x : HOk P w H h) (e : h.objs.size ≤ a) : H a = none := by
  cases q : H a with
  | none => rfl
  | some u => exact absurd (Nat.lt_of_lt_of_le (x.lt q) e) (Nat.lt_irrefl _)
/-- every object of the heap is kept -/
theorem HOk.kept (x : HOk P w H h) (k : ∀ b u, h.get? b = some u → h'.get? b = some u) : HOk P w H h' := fun a o e =>
  (x a o e).stay (fun b u _ q => k b u q) (fun _ q => q) fun _ _ q => q
/-- a new object is laid and tracked -/
theorem HOk.laid (x : HOk P w H h) (k : ∀ b u, h.get? b = some u → h'.get? b = some u) (hp : h.objs.size ≤ a) (new : ObjOk P w (upd H a o) h' a o) : HOk P w (upd H a o) h' := fun b u e => by
  have hn := x.fresh hp
  by_cases hb : b = a
  · subst hb; rw [upd_same] at e; cases e; exact new
  · rw [upd_ne hb] at e
    exact (x b u e).stay (fun c v _ q => k c v q) (fun c q => by rw [upd_ne (ne_of_none q hn)]; exact q) fun c xs q => by rw [upd_ne (ne_of_none q hn)]; exact q
end

/-- what may be read as u: it is u, or a known u -/
def Rd (H : Hp) (a : Addr) (u : HO) : Prop := H a = some u ∨ ∃ o, H a = some (.frz o u)
theorem Rd.ok {P : Program} {w : World} {H : Hp} {h : Heap} {a : Addr} {u : HO} (r : Rd H a u) (x : HOk P w H h) : ObjOk P w H h a u := by
  rcases r with r | ⟨o, r⟩
  · exact x a u r
  · obtain ⟨_, q⟩ := x a _ r
    exact q
/-- what may be written -/
def Mut : Option HO → Prop
  | some (.lst _) => True
  | some (.dK _) => True
  | some (.dT _) => True
  | some (.set _ _) => True
  | some (.ins _ _ _) => True
  | some (.ext _) => True
  | _ => False
section
variable {P : Program} {w : World} {H : Hp} {h h' : Heap} {x e : Addr} {o' : HO}
/-- the object at e is changed: x itself, or the dict of the instance x -/
theorem HOk.write (ok : HOk P w H h) (mu : Mut (H x)) (he : e = x ∨ H e = some (.own x)) (k : ∀ b u, b ≠ e → h.get? b = some u → h'.get? b = some u) (heo : ∃ u, h'.get? e = some u)
    (new : ObjOk P w (upd H x o') h' x o') : HOk P w (upd H x o') h' := fun b u q => by
  have nown : ∀ c y, H c = some (.own y) → c ≠ x := fun c y r z => by subst z; rw [r] at mu; exact mu
  have ntup : ∀ c xs, H c = some (.tup xs) → c ≠ x := fun c xs r z => by subst z; rw [r] at mu; exact mu
  by_cases hb : b = x
  · subst hb; rw [upd_same] at q; cases q; exact new
  · rw [upd_ne hb] at q
    by_cases hbe : b = e
    · have q' : H b = some (.own x) := by
        rcases he with z | z
        · exact absurd (hbe.trans z) hb
        · rw [hbe]; exact z
      rw [q] at q'; cases q'
      obtain ⟨v, hv⟩ := heo
      exact ⟨v, by rw [hbe]; exact hv⟩
    · refine (ok b u q).stay (fun c v hc r => k c v ?_ r) (fun c r => by rw [upd_ne (nown c b r)]; exact r) fun c xs r => by rw [upd_ne (ntup c xs r)]; exact r
      rcases hc with rfl | hc
      · exact hbe
      · rintro rfl
        rcases he with z | z
        · exact nown c b hc z
        · rw [hc] at z; cases z; exact hb rfl
end

/-! ### kept unless tracked; of the frames at fs (the callers') the slots may change (an exception that passes writes there); of the records at ex (iterators) nothing is said -/
structure Un (fs ex : List Addr) (H H' : Hp) (h h' : Heap) : Prop where
  keep : ∀ b o, h.get? b = some o → H b = none → b ∉ fs → b ∉ ex → h'.get? b = some o
  slot : ∀ b o, h.get? b = some o → H b = none → b ∈ fs → b ∉ ex → ∃ sl, h'.get? b = some { o with slots := sl }
  free : ∀ b o, h.get? b = some o → H b = none → b ∉ ex → H' b = none
  there : ∀ b o, h.get? b = some o → b ∉ ex → ∃ o', h'.get? b = some o'
  tups : ∀ b xs, H b = some (.tup xs) → H' b = some (.tup xs)
  frzs : ∀ b o u, H b = some (.frz o u) → H' b = some (.frz o u)
  tbls : ∀ b ps, H b = some (.tbl ps) → ∃ more, H' b = some (.tbl (ps ++ more))
section
variable {fs fs' ex ex' : List Addr} {H H1 H2 : Hp} {h h1 h2 h' : Heap} {a x e : Addr} {o : HO}
theorem Un.any (u : Un fs ex H H1 h h1) {b : Addr} {ob : Obj} (q : h.get? b = some ob) (n : H b = none) (hx : b ∉ ex) : ∃ sl, h1.get? b = some { ob with slots := sl } := by
  by_cases hb : b ∈ fs
  · exact u.slot b ob q n hb hx
  · exact ⟨ob.slots, u.keep b ob q n hb hx⟩
theorem Un.trans (a : Un fs ex H H1 h h1) (b : Un fs ex H1 H2 h1 h2) : Un fs ex H H2 h h2 where
  keep := fun c ob q n hc hx => b.keep c ob (a.keep c ob q n hc hx) (a.free c ob q n hx) hc hx
  slot := fun c ob q n hc hx => by
    obtain ⟨sl, e1⟩ := a.slot c ob q n hc hx
    obtain ⟨sl', e2⟩ := b.slot c _ e1 (a.free c ob q n hx) hc hx
    exact ⟨sl', e2⟩
  free := fun c ob q n hx => by
    obtain ⟨o', e1⟩ := a.there c ob q hx
    exact b.free c o' e1 (a.free c ob q n hx) hx
  there := fun c ob q hx => by
    obtain ⟨o', e1⟩ := a.there c ob q hx
    exact b.there c o' e1 hx
  tups := fun c xs q => b.tups c xs (a.tups c xs q)
  frzs := fun c ob xs q => b.frzs c ob xs (a.frzs c ob xs q)
  tbls := fun c ps q => by
    obtain ⟨m1, e1⟩ := a.tbls c ps q
    obtain ⟨m2, e2⟩ := b.tbls c _ e1
    exact ⟨m1 ++ m2, by rw [e2, Array.append_assoc]⟩
theorem Un.kept (k : ∀ b u, h.get? b = some u → h'.get? b = some u) : Un fs ex H H h h' :=
  ⟨fun b ob q _ _ _ => k b ob q, fun b ob q _ _ _ => ⟨ob.slots, k b ob q⟩, fun _ _ _ n _ => n, fun b ob q _ => ⟨ob, k b ob q⟩, fun _ _ q => q, fun _ _ _ q => q, fun _ ps q => ⟨#[], by rw [q]; simp⟩⟩
theorem Un.refl : Un fs ex H H h h := Un.kept fun _ _ q => q
theorem Un.laid (k : ∀ b u, h.get? b = some u → h'.get? b = some u) (hp : h.objs.size ≤ a) (hn : H a = none) : Un fs ex H (upd H a o) h h' where
  keep := fun b u q _ _ _ => k b u q
  slot := fun b u q _ _ _ => ⟨u.slots, k b u q⟩
  free := fun b u q n _ => by rw [upd_ne (Nat.ne_of_lt (Nat.lt_of_lt_of_le (Heap.lt_size q) hp))]; exact n
  there := fun b u q _ => ⟨u, k b u q⟩
  tups := fun b xs q => by rw [upd_ne (ne_of_none q hn)]; exact q
  frzs := fun b u xs q => by rw [upd_ne (ne_of_none q hn)]; exact q
  tbls := fun b ps q => ⟨#[], by rw [upd_ne (ne_of_none q hn), q]; simp⟩
theorem Un.write (mu : Mut (H x)) (he : e = x ∨ H e = some (.own x)) (k : ∀ b u, b ≠ e → h.get? b = some u → h'.get? b = some u) (heo : ∃ u, h'.get? e = some u) : Un fs ex H (upd H x o) h h' := by
  have hx : ∀ b, H b = none → b ≠ x := fun b n z => by subst z; rw [n] at mu; exact mu
  have hb : ∀ b, H b = none → b ≠ e := fun b n z => by
    subst z
    rcases he with r | r
    · exact hx b n r
    · rw [n] at r; cases r
  have hm : ∀ b u, H b = some u → ¬ Mut (some u) → b ≠ x := fun b u q nm z => by subst z; rw [q] at mu; exact nm mu
  refine ⟨fun b u q n _ _ => k b u (hb b n) q, fun b u q n _ _ => ⟨u.slots, k b u (hb b n) q⟩, fun b u q n _ => by rw [upd_ne (hx b n)]; exact n, fun b u q _ => ?_,
    fun b xs q => by rw [upd_ne (hm b _ q fun z => z)]; exact q, fun b u xs q => by rw [upd_ne (hm b _ q fun z => z)]; exact q, fun b ps q => ⟨#[], by rw [upd_ne (hm b _ q fun z => z), q]; simp⟩⟩
  by_cases hbe : b = e
  · subst hbe; exact heo
  · exact ⟨u, k b u hbe q⟩
end

/-! ### the heap without what is tracked -/
def trk (h : Heap) (H : Hp) : List Addr := (List.range h.objs.size).filter fun a => (H a).isSome
def hidT (h : Heap) (H : Hp) : Heap := PySem.W.hideAll h (trk h H)
theorem hidT_size (h : Heap) (H : Hp) : (hidT h H).objs.size = h.objs.size := PySem.W.hideAll_size _ _
theorem hidT_get {h : Heap} {H : Hp} {b : Addr} {o : Obj} (e : h.get? b = some o) (n : H b = none) : (hidT h H).get? b = some o :=
  PySem.W.hideAll_get _ e fun hm => by
    have q : (H b).isSome = true := (List.mem_filter.mp hm).2
    rw [n] at q; simp at q
theorem of_hidT {h : Heap} {H : Hp} {b : Addr} {o : Obj} (e : (hidT h H).get? b = some o) : h.get? b = some o ∧ H b = none := by
  have e' : h.get? b = some o := PySem.W.of_hideAll (trk h H) e
  refine ⟨e', ?_⟩
  cases q : H b with
  | none => rfl
  | some x =>
    have hm : b ∈ trk h H := List.mem_filter.mpr ⟨List.mem_range.mpr (Heap.lt_size e'), by simp [q]⟩
    have z : (hidT h H).get? b = none := PySem.W.hideAll_none (trk h H) hm
    rw [z] at e; cases e

/-! ### OpenK's ledger, filled with every new object but one -/
def allNews (g h : Heap) (L : Addr) : List (Addr × Obj) := (List.range h.objs.size).filterMap fun a => if a = L ∨ (g.get? a).isSome = true then none else (h.get? a).map fun o => (a, o)
def rest (g h : Heap) (L d : Addr) : List (Addr × Obj) := (allNews g h L).filter fun p => decide (p.1 ≠ d)
end L2

namespace L2
open PySem PySem.Spec PyProof.Rows

/-- the module's facts, over the base: the heap at the law's entry without what is tracked there -/
structure Mod (K : PySem.W.Frag) (mg : Str → Option Value) (base : Heap) : Prop where
  kin : K.In base
  glob : base.Ns mainGlobals mg
  blt : ∃ mb, base.Ns builtinsNs mb ∧ ∀ x : Str, x ≠ "__name__" → mb x = bootBuiltins x
  nolimit : base.NoLimit

/-- the context: a def's body (or a comprehension's block) running. base: fixed through the whole law; s₀, H₀: the entry; outer: the frames whose slots others may change (a def's callers); stack: all frames that run;
   ex: iterators that were made ahead of the entry and are walked here (a comprehension's); fn: the names whose cells were made at the entry (a def: all; a comprehension's block: its own); calm: not within an except suite; pn: pins that every state bears; xe: what is wanted of an exception that leaves the code -/
structure Cx where
  prog : Program
  w : World
  K : PySem.W.Frag
  mg : Str → Option Value
  base : Heap
  A : Around
  N : List Str
  s₀ : Shared
  H₀ : Hp
  env : Env
  outer : List Env
  stack : List Env
  ex : List Addr
  fn : Str → Bool
  calm : Bool
  pn : List (Addr × Obj)
  xe : Value → Shared → Prop
/-- the callers' frames -/
def frs (l : List Env) : List Addr := l.filterMap (·.frame)
abbrev Cx.fs (X : Cx) : List Addr := frs X.outer

def Vis (sc : Scope) (x : Str) : Prop := sc.names.lookup x = some .local ∨ sc.names.lookup x = some .cell ∨ sc.names.lookup x = some .free
def Loc (sc : Scope) (x : Str) : Prop := sc.names.lookup x = some .local ∨ sc.names.lookup x = some .cell
def Look (env : Env) (h : Heap) (m : Str → Option Value) (x : Str) (u : Value) : Prop :=
  (env.kindOf x = some .local ∧ m x = some u) ∨ ((env.kindOf x = some .cell ∨ env.kindOf x = some .free) ∧ ∃ c, env.cells.lookup x = some c ∧ h.IsCell c (some u))

structure Cx.Ok (X : Cx) : Prop where
  mod : Mod X.K X.mg X.base
  kind : X.env.scope.kind = .function
  glob : X.env.globals = mainGlobals
  blt : X.env.builtins = builtinsNs
  above : X.s₀.heap.objs.size ≤ X.env.locals
  inj : ∀ x y c, X.env.cells.lookup x = some c → X.env.cells.lookup y = some c → x = y
  has : ∀ x, (X.env.kindOf x = some .cell ∨ X.env.kindOf x = some .free) → ∃ c, X.env.cells.lookup x = some c
  cab : ∀ x c, X.fn x = true → X.env.cells.lookup x = some c → X.s₀.heap.objs.size ≤ c
  hd : X.calm = true → X.A.handled = none
  frames : X.A.frames = some X.stack
  stk : X.stack = X.outer ∨ (X.stack = X.env :: X.outer ∧ X.env.frame = some X.env.locals)
  exf : ∀ b ∈ X.ex, b ≠ X.env.locals ∧ ∀ x c, X.env.cells.lookup x = some c → c ≠ b
  bs : ∀ b o, X.base.get? b = some o → X.s₀.heap.get? b = some o ∧ X.H₀ b = none
  bsz : X.base.objs.size ≤ X.s₀.heap.objs.size
  noex : ∀ b o, X.base.get? b = some o → b ∉ X.ex
  exfs : ∀ b ∈ X.ex, b ∉ X.fs
  funs : X.s₀.heap.FunFrames X.base X.outer
  frf : ∀ b ∈ X.fs, X.H₀ b = none

structure Inv (X : Cx) (pins : List (Addr × Obj)) (σ : List (Option V)) (H : Hp) (s : Shared) : Prop where
  ok : X.Ok
  os : s.os = X.s₀.os
  bare : AllBare s.gens
  base : Un X.fs X.ex X.H₀ H X.s₀.heap s.heap
  loc : ∃ m, s.heap.Ns X.env.locals m ∧ ∀ (i : Nat) (x : Str) (v : V), X.N[i]? = some x → σ[i]? = some (some v) → Vis X.env.scope x → ∃ u, RelV v u ∧ Look X.env s.heap m x u
  cell : ∀ x c, X.env.cells.lookup x = some c → ∃ v, s.heap.IsCell c v
  free : H X.env.locals = none
  freeC : ∀ x c, X.env.cells.lookup x = some c → H c = none
  pin : ∀ p ∈ X.pn ++ pins, s.heap.get? p.1 = some p.2 ∧ H p.1 = none ∧ p.1 ≠ X.env.locals ∧ p.1 ∉ X.fs ∧ ∀ v, p.2.data ≠ .cell v
  hok : HOk X.prog X.w H s.heap
  len : σ.length = X.N.length

section
variable {X : Cx} {pins : List (Addr × Obj)} {σ : List (Option V)} {H H' : Hp} {s : Shared} {h' : Heap}

theorem Cx.Ok.nofr (ok : X.Ok) {b : Addr} {o : Obj} (e : X.base.get? b = some o) : b ∉ X.fs := fun hb => by
  have := (ok.funs.mem hb).1
  rw [e] at this; cases this
theorem Inv.bs (I : Inv X pins σ H s) : ∀ b o, X.base.get? b = some o → s.heap.get? b = some o ∧ H b = none := fun b o e =>
  ⟨I.base.keep b o (I.ok.bs b o e).1 (I.ok.bs b o e).2 (I.ok.nofr e) (I.ok.noex b o e), I.base.free b o (I.ok.bs b o e).1 (I.ok.bs b o e).2 (I.ok.noex b o e)⟩
theorem Inv.bk (I : Inv X pins σ H s) : ∀ b o, X.base.get? b = some o → s.heap.get? b = some o := fun b o e => (I.bs b o e).1
theorem Inv.mod (I : Inv X pins σ H s) : Mod X.K X.mg X.base := I.ok.mod
theorem Inv.kIn (I : Inv X pins σ H s) : X.K.In s.heap := I.ok.mod.kin.keeps I.bk
theorem Inv.lt (I : Inv X pins σ H s) : X.env.locals < s.heap.objs.size := let ⟨_, hn, _⟩ := I.loc; hn.lt
theorem Inv.sz (I : Inv X pins σ H s) : X.s₀.heap.objs.size ≤ s.heap.objs.size := Nat.le_trans I.ok.above (Nat.le_of_lt I.lt)
theorem Inv.nofs (I : Inv X pins σ H s) {a : Addr} (h : s.heap.objs.size ≤ a) : a ∉ X.fs := fun hb => by
  obtain ⟨_, o, ho, _⟩ := I.ok.funs.mem hb
  exact absurd (Nat.lt_of_lt_of_le (Heap.lt_size ho) (Nat.le_trans I.sz h)) (Nat.lt_irrefl _)
theorem Inv.cne (I : Inv X pins σ H s) : ∀ x c, X.env.cells.lookup x = some c → c ≠ X.env.locals := fun x c e z => by
  obtain ⟨v, o, ho, hd⟩ := I.cell x c e
  obtain ⟨m, ⟨o', es, ep, ho', hd', _⟩, _⟩ := I.loc
  rw [z, ho'] at ho; cases ho; rw [hd'] at hd; cases hd
theorem Inv.funs (I : Inv X pins σ H s) : s.heap.FunFrames X.base X.outer := by
  have all : ∀ (l : List Env), (∀ b ∈ frs l, b ∈ X.fs) → X.s₀.heap.FunFrames X.base l → s.heap.FunFrames X.base l := by
    intro l
    induction l with
    | nil => intro _ _; trivial
    | cons env r ih =>
      intro hs hl
      obtain ⟨hk, ⟨L, o, hf, hn, ho, hd⟩, hr⟩ := hl
      have hL : L ∈ X.fs := hs L (by unfold frs; rw [List.filterMap_cons, hf]; exact List.mem_cons_self)
      obtain ⟨sl, e⟩ := I.base.slot L o ho (I.ok.frf L hL) hL fun z => I.ok.exfs L z hL
      exact ⟨hk, ⟨L, _, hf, hn, e, hd⟩, ih (fun b hb => hs b (by unfold frs; rw [List.filterMap_cons, hf]; exact List.mem_cons_of_mem _ hb)) hr⟩
  exact all X.outer (fun _ hb => hb) I.ok.funs

/-- the frames that run, for a call -/
theorem Inv.stack (I : Inv X pins σ H s) : s.heap.FunFrames X.base X.stack := by
  rcases I.ok.stk with e | ⟨e, hf⟩
  · rw [e]; exact I.funs
  · rw [e]
    obtain ⟨m, hn, _⟩ := I.loc
    refine .cons (by rw [I.ok.kind]; decide) hf hn ?_ I.funs
    exact Heap.get?_none_of_le (Nat.le_trans I.ok.bsz I.ok.above)
theorem Inv.stkSub (I : Inv X pins σ H s) : ∀ b ∈ frs X.stack, b ∈ X.env.locals :: X.fs := fun b hb => by
  rcases I.ok.stk with e | ⟨e, hf⟩
  · rw [e] at hb; exact List.mem_cons_of_mem _ hb
  · rw [e] at hb
    unfold frs at hb
    rw [List.filterMap_cons, hf] at hb
    exact hb
theorem Inv.stkFree (I : Inv X pins σ H s) : ∀ b ∈ frs X.stack, H b = none := fun b hb => by
  rcases List.mem_cons.mp (I.stkSub b hb) with e | hb
  · rw [e]; exact I.free
  · obtain ⟨_, o, ho, _⟩ := I.ok.funs.mem hb
    exact I.base.free b o ho (I.ok.frf b hb) fun z => I.ok.exfs b z hb

/-- THE STEP: the untracked objects but the frame and the records at ch are kept (the callers' frames up to slots), the frame's map is kept, the new abstract heap is held -/
theorem Inv.step {g' : Array GenState} {t' : Nat} {d' : Drawn} {ch : List Addr} (I : Inv X pins σ H s)
    (hch : ∀ b ∈ ch, (b ∈ X.ex ∨ X.s₀.heap.objs.size ≤ b) ∧ b ≠ X.env.locals ∧ (∀ x c, X.env.cells.lookup x = some c → c ≠ b) ∧ ∀ p ∈ X.pn ++ pins, p.1 ≠ b)
    (keep : ∀ b o, b ≠ X.env.locals → b ∉ X.fs → b ∉ ch → s.heap.get? b = some o → H b = none → h'.get? b = some o)
    (slot : ∀ b o, b ≠ X.env.locals → b ∈ X.fs → b ∉ ch → s.heap.get? b = some o → H b = none → ∃ sl, h'.get? b = some { o with slots := sl }) (free : ∀ b o, b ∉ ch → s.heap.get? b = some o → H b = none → H' b = none)
    (there : ∀ b o, b ∉ ch → s.heap.get? b = some o → ∃ o', h'.get? b = some o')
    (tups : ∀ b xs, H b = some (.tup xs) → H' b = some (.tup xs)) (frzs : ∀ b o u, H b = some (.frz o u) → H' b = some (.frz o u)) (tbls : ∀ b ps, H b = some (.tbl ps) → ∃ more, H' b = some (.tbl (ps ++ more)))
    (ns : ∀ m, s.heap.Ns X.env.locals m → h'.Ns X.env.locals m) (hok : HOk X.prog X.w H' h') (hg : AllBare g') :
    Inv X pins σ H' { s with heap := h', gens := g', drawn := d', toks := t' } := by
  have neL : ∀ b o, X.s₀.heap.get? b = some o → b ≠ X.env.locals := fun b o e => Nat.ne_of_lt (Nat.lt_of_lt_of_le (Heap.lt_size e) I.ok.above)
  have neC : ∀ b o, X.s₀.heap.get? b = some o → b ∉ X.ex → b ∉ ch := fun b o e hx hb => by
    rcases (hch b hb).1 with z | z
    · exact hx z
    · exact absurd (Nat.lt_of_lt_of_le (Heap.lt_size e) z) (Nat.lt_irrefl _)
  have cellK : ∀ x c, X.env.cells.lookup x = some c → ∀ v, s.heap.IsCell c v → h'.IsCell c v := fun x c e v ⟨o, ho, hd⟩ => by
    have nch : c ∉ ch := fun z => (hch c z).2.2.1 x c e rfl
    by_cases hc : c ∈ X.fs
    · obtain ⟨sl, q⟩ := slot c o (I.cne x c e) hc nch ho (I.freeC x c e)
      exact ⟨_, q, hd⟩
    · exact ⟨o, keep c o (I.cne x c e) hc nch ho (I.freeC x c e), hd⟩
  refine ⟨I.ok, I.os, hg, ⟨fun b o e n hb hx => ?_, fun b o e n hb hx => ?_, fun b o e n hx => ?_, fun b o e hx => ?_, fun b xs e => tups b xs (I.base.tups b xs e), fun b o xs e => frzs b o xs (I.base.frzs b o xs e), fun b ps e => ?_⟩, ?_, fun x c e => ?_, ?_, fun x c e => ?_, fun p hp => ?_, hok, I.len⟩
  · exact keep b o (neL b o e) hb (neC b o e hx) (I.base.keep b o e n hb hx) (I.base.free b o e n hx)
  · obtain ⟨sl, e1⟩ := I.base.slot b o e n hb hx
    obtain ⟨sl', e2⟩ := slot b _ (neL b o e) hb (neC b o e hx) e1 (I.base.free b o e n hx)
    exact ⟨sl', e2⟩
  · obtain ⟨o', e1⟩ := I.base.there b o e hx
    exact free b o' (neC b o e hx) e1 (I.base.free b o e n hx)
  · obtain ⟨o', e1⟩ := I.base.there b o e hx
    exact there b o' (neC b o e hx) e1
  · obtain ⟨m1, e1⟩ := I.base.tbls b ps e
    obtain ⟨m2, e2⟩ := tbls b _ e1
    exact ⟨m1 ++ m2, by rw [e2, Array.append_assoc]⟩
  · obtain ⟨m, hn, hl⟩ := I.loc
    refine ⟨m, ns m hn, fun i x v e1 e2 e3 => ?_⟩
    obtain ⟨u, r, l⟩ := hl i x v e1 e2 e3
    refine ⟨u, r, ?_⟩
    rcases l with l | ⟨k, c, e, z⟩
    · exact .inl l
    · exact .inr ⟨k, c, e, cellK x c e _ z⟩
  · obtain ⟨v, z⟩ := I.cell x c e
    exact ⟨v, cellK x c e v z⟩
  · obtain ⟨m, ⟨o, _, _, ho, _⟩, _⟩ := I.loc
    exact free _ o (fun z => (hch _ z).2.1 rfl) ho I.free
  · obtain ⟨v, o, ho, hd⟩ := I.cell x c e
    exact free c o (fun z => (hch c z).2.2.1 x c e rfl) ho (I.freeC x c e)
  · obtain ⟨e, n, ne, nf, d⟩ := I.pin p hp
    have nch : p.1 ∉ ch := fun z => (hch p.1 z).2.2.2 p hp rfl
    exact ⟨keep p.1 p.2 ne nf nch e n, free p.1 p.2 nch e n, ne, nf, d⟩
/-- .. where the frame's own object is kept too -/
theorem Inv.un {t' : Nat} (I : Inv X pins σ H s) (u : Un X.fs [] H H' s.heap h') (hok : HOk X.prog X.w H' h') : Inv X pins σ H' { s with heap := h', toks := t' } := by
  obtain ⟨m, ⟨o, es, ep, ho, r⟩, _⟩ := id I.loc
  obtain ⟨sl, hL⟩ := u.any ho I.free (by simp)
  exact I.step (g' := s.gens) (d' := s.drawn) (ch := []) (fun _ z => nomatch z) (fun b o _ hb _ e n => u.keep b o e n hb (by simp)) (fun b o _ hb _ e n => u.slot b o e n hb (by simp)) (fun b o _ e n => u.free b o e n (by simp)) (fun b o _ e => u.there b o e (by simp)) u.tups u.frzs u.tbls (fun m' hm => by
    obtain ⟨o', es', ep', ho', r'⟩ := hm
    rw [ho] at ho'; cases ho'
    exact ⟨_, es', ep', hL, r'⟩) hok I.bare
/-- behind a call (or a comprehension's block): the slots of this frame may have changed too, the records at ch may have turned -/
theorem Inv.call {g' : Array GenState} {t' : Nat} {d' : Drawn} {ch : List Addr} (I : Inv X pins σ H s) (u : Un (frs X.stack) ch H H' s.heap h') (hok : HOk X.prog X.w H' h') (hg : AllBare g')
    (hch : ∀ b ∈ ch, (b ∈ X.ex ∨ X.s₀.heap.objs.size ≤ b) ∧ b ≠ X.env.locals ∧ (∀ x c, X.env.cells.lookup x = some c → c ≠ b) ∧ ∀ p ∈ X.pn ++ pins, p.1 ≠ b) :
    Inv X pins σ H' { s with heap := h', gens := g', drawn := d', toks := t' } := by
  obtain ⟨m, ⟨o, es, ep, ho, r⟩, _⟩ := id I.loc
  obtain ⟨sl, hL⟩ := u.any ho I.free fun z => (hch _ z).2.1 rfl
  exact I.step (ch := ch) hch (fun b o hL hb hc e n => u.keep b o e n (fun z => (List.mem_cons.mp (I.stkSub b z)).elim hL hb) hc) (fun b o _ _ hc e n => u.any e n hc) (fun b o hc e n => u.free b o e n hc) (fun b o hc e => u.there b o e hc) u.tups u.frzs u.tbls (fun m' hm => by
    obtain ⟨o', es', ep', ho', r'⟩ := hm
    rw [ho] at ho'; cases ho'
    exact ⟨_, es', ep', hL, r'⟩) hok hg
/-- an untracked record of ours (an iterator) has turned -/
theorem Inv.turned {t' : Nat} {it : Addr} (I : Inv X pins σ H s) (k : ∀ b o, b ≠ it → s.heap.get? b = some o → h'.get? b = some o) (hn : H it = none) (hL : it ≠ X.env.locals)
    (h1 : it ∈ X.ex ∨ X.s₀.heap.objs.size ≤ it) (h2 : ∀ x c, X.env.cells.lookup x = some c → c ≠ it) (h3 : ∀ p ∈ X.pn ++ pins, p.1 ≠ it) : Inv X pins σ H { s with heap := h', toks := t' } := by
  have nit : ∀ b u, H b = some u → b ≠ it := fun b u e z => by rw [z, hn] at e; cases e
  refine I.step (g' := s.gens) (d' := s.drawn) (ch := [it]) (fun b hb => ?_) (fun b o _ _ hc e _ => k b o (fun z => hc (by simp [z])) e) (fun b o _ _ hc e _ => ⟨o.slots, k b o (fun z => hc (by simp [z])) e⟩) (fun _ _ _ _ n => n)
    (fun b o hc e => ⟨o, k b o (fun z => hc (by simp [z])) e⟩) (fun _ _ e => e) (fun _ _ _ e => e) (fun b ps e => ⟨#[], by rw [e]; simp⟩) (fun m hm => ?_) (fun b u e => ?_) I.bare
  · have e : b = it := by simpa using hb
    subst e
    exact ⟨h1, hL, h2, h3⟩
  · obtain ⟨o, es, ep, ho, r⟩ := hm
    exact ⟨o, es, ep, k _ o (Ne.symm hL) ho, r⟩
  · refine (I.hok b u e).stay (fun c v hc q => k c v ?_ q) (fun _ q => q) fun _ _ q => q
    rcases hc with z | z
    · rw [z]; exact nit b u e
    · exact nit c _ z
theorem Inv.tok (I : Inv X pins σ H s) (t : Nat) : Inv X pins σ H { s with toks := t } := I.un (h' := s.heap) (t' := t) Un.refl I.hok
/-- all objects kept -/
theorem Inv.kept {t' : Nat} (I : Inv X pins σ H s) (k : ∀ b u, s.heap.get? b = some u → h'.get? b = some u) : Inv X pins σ H { s with heap := h', toks := t' } := I.un (Un.kept k) (I.hok.kept k)
/-- a new object laid and tracked -/
theorem Inv.laid {a : Addr} {o : HO} {t' : Nat} (I : Inv X pins σ H s) (k : ∀ b u, s.heap.get? b = some u → h'.get? b = some u) (hp : s.heap.objs.size ≤ a) (new : ObjOk X.prog X.w (upd H a o) h' a o) :
    Inv X pins σ (upd H a o) { s with heap := h', toks := t' } := I.un (Un.laid k hp (I.hok.fresh hp)) (I.hok.laid k hp new)
/-- an object written -/
theorem Inv.write {x e : Addr} {o : HO} {t' : Nat} (I : Inv X pins σ H s) (mu : Mut (H x)) (he : e = x ∨ H e = some (.own x)) (k : ∀ b u, b ≠ e → s.heap.get? b = some u → h'.get? b = some u) (heo : ∃ u, h'.get? e = some u)
    (new : ObjOk X.prog X.w (upd H x o) h' x o) : Inv X pins σ (upd H x o) { s with heap := h', toks := t' } := I.un (Un.write mu he k heo) (I.hok.write mu he k heo new)
theorem Inv.pins_of {pins' : List (Addr × Obj)} (I : Inv X pins σ H s) (h : ∀ p ∈ pins', s.heap.get? p.1 = some p.2 ∧ H p.1 = none ∧ p.1 ≠ X.env.locals ∧ p.1 ∉ X.fs ∧ ∀ v, p.2.data ≠ .cell v) : Inv X pins' σ H s :=
  ⟨I.ok, I.os, I.bare, I.base, I.loc, I.cell, I.free, I.freeC, fun p hp => (List.mem_append.mp hp).elim (fun z => I.pin p (List.mem_append_left _ z)) (h p), I.hok, I.len⟩

theorem nodup_ix {N : List Str} (hN : N.Nodup) {i j : Nat} {x : Str} (a : N[i]? = some x) (b : N[j]? = some x) : i = j := by
  obtain ⟨h1, e1⟩ := List.getElem?_eq_some_iff.mp a
  obtain ⟨h2, e2⟩ := List.getElem?_eq_some_iff.mp b
  exact (List.getElem_inj hN).mp (e1.trans e2.symm)

/-- a name is stored; what changed -/
theorem store_ok2 {M : Model} {A : Around} {E : Value → Shared → Prop} {i : Nat} {x : Str} {v : V} {u : Value} {Q : Unit → Shared → Prop} (I : Inv X pins σ H s) (hN : X.N.Nodup) (hi : X.N[i]? = some x) (hx : Loc X.env.scope x) (r : RelV v u)
    (h : ∀ s', Inv X pins (σ.set i (some v)) H s' → (∃ a, Heap.SameBut a s.heap s'.heap ∧ (a = X.env.locals ∨ X.env.cells.lookup x = some a)) → Q () s') (hf : X.fn x = true ∨ X.env.scope.names.lookup x = some .local := by first | exact .inl rfl | exact .inr rfl | assumption) : wpAny M A (storeName X.env x u) Q E s := by
  obtain ⟨m, hn, hl⟩ := id I.loc
  have hcls : (X.env.scope.kind == .class || (X.env.scope.kind == .module && X.env.locals != X.env.globals)) = false := by rw [I.ok.kind]; rfl
  have hiσ : i < σ.length := by rw [I.len]; exact (List.getElem?_eq_some_iff.mp hi).1
  have cne := I.cne
  have tracked : ∀ {a : Addr} {h' : Heap}, (∃ o, s.heap.get? a = some o ∧ H a = none) → Heap.SameBut a s.heap h' → HOk X.prog X.w H h' := fun {a h'} ha hs b ob e => by
    obtain ⟨_, _, hfree⟩ := ha
    refine (I.hok b ob e).stay (fun c w' hc q => (hs.2 c ?_).trans q) (fun _ q => q) fun _ _ q => q
    rintro rfl
    rcases hc with rfl | hc
    · rw [hfree] at e; cases e
    · rw [hfree] at hc; cases hc
  rcases hx with hk | hk
  · refine wpAny_storeName_local hk hn (fun h' hn' hs => ?_) hcls
    obtain ⟨oL, _, _, hoL, _⟩ := id hn
    refine h _ ⟨I.ok, I.os, I.bare, ⟨fun b o e n hb hx => ?_, fun b o e n hb hx => ?_, I.base.free, fun b o e hx => ?_, I.base.tups, I.base.frzs, I.base.tbls⟩, ⟨_, hn', fun j y v' e1 e2 e3 => ?_⟩, fun y c e => ?_, I.free, I.freeC, fun p hp => ?_, tracked ⟨oL, hoL, I.free⟩ hs, by simpa using I.len⟩ ⟨_, hs, .inl rfl⟩
    · exact (hs.2 b (Nat.ne_of_lt (Nat.lt_of_lt_of_le (Heap.lt_size e) I.ok.above))).trans (I.base.keep b o e n hb hx)
    · obtain ⟨sl, e1⟩ := I.base.slot b o e n hb hx
      exact ⟨sl, (hs.2 b (Nat.ne_of_lt (Nat.lt_of_lt_of_le (Heap.lt_size e) I.ok.above))).trans e1⟩
    · obtain ⟨o', e1⟩ := I.base.there b o e hx
      exact ⟨o', (hs.2 b (Nat.ne_of_lt (Nat.lt_of_lt_of_le (Heap.lt_size e) I.ok.above))).trans e1⟩
    · by_cases hj : j = i
      · subst hj
        rw [hi] at e1; cases e1
        rw [List.getElem?_set_self hiσ] at e2
        cases e2
        exact ⟨u, r, .inl ⟨hk, by simp⟩⟩
      · rw [List.getElem?_set_ne (Ne.symm hj)] at e2
        obtain ⟨u', r', q⟩ := hl j y v' e1 e2 e3
        refine ⟨u', r', ?_⟩
        rcases q with ⟨k, e⟩ | ⟨k, c, e, z⟩
        · refine .inl ⟨k, ?_⟩
          have : y ≠ x := fun e => hj (nodup_ix hN e1 (e ▸ hi))
          simp [this, e]
        · exact .inr ⟨k, c, e, z.sameBut hs (cne y c e)⟩
    · obtain ⟨w', z⟩ := I.cell y c e
      exact ⟨w', z.sameBut hs (cne y c e)⟩
    · obtain ⟨e, n, ne, nf, d⟩ := I.pin p hp
      exact ⟨(hs.2 p.1 ne).trans e, n, ne, nf, d⟩
  · have hfn : X.fn x = true := by
      rcases hf with z | z
      · exact z
      · rw [z] at hk; cases hk
    obtain ⟨c, hc⟩ := I.ok.has x (.inl hk)
    obtain ⟨w', z⟩ := I.cell x c hc
    refine wpAny_storeName_cell I.ok.kind hk hc z (fun h' hc' hs => ?_)
    obtain ⟨oc, hoc, hocd⟩ := id z
    refine h { s with heap := h' } ⟨I.ok, I.os, I.bare, ⟨fun b o e n hb hx => ?_, fun b o e n hb hx => ?_, I.base.free, fun b o e hx => ?_, I.base.tups, I.base.frzs, I.base.tbls⟩, ⟨m, hn.sameBut hs (Ne.symm (cne x c hc)), fun j y v' e1 e2 e3 => ?_⟩, fun y c' e => ?_, I.free, I.freeC, fun p hp => ?_, tracked ⟨oc, hoc, I.freeC x c hc⟩ hs, by simpa using I.len⟩ ⟨c, hs, .inr hc⟩
    · exact (hs.2 b (Nat.ne_of_lt (Nat.lt_of_lt_of_le (Heap.lt_size e) (I.ok.cab x c hfn hc)))).trans (I.base.keep b o e n hb hx)
    · obtain ⟨sl, e1⟩ := I.base.slot b o e n hb hx
      exact ⟨sl, (hs.2 b (Nat.ne_of_lt (Nat.lt_of_lt_of_le (Heap.lt_size e) (I.ok.cab x c hfn hc)))).trans e1⟩
    · obtain ⟨o', e1⟩ := I.base.there b o e hx
      exact ⟨o', (hs.2 b (Nat.ne_of_lt (Nat.lt_of_lt_of_le (Heap.lt_size e) (I.ok.cab x c hfn hc)))).trans e1⟩
    · by_cases hj : j = i
      · subst hj
        rw [hi] at e1; cases e1
        rw [List.getElem?_set_self hiσ] at e2
        cases e2
        exact ⟨u, r, .inr ⟨.inl hk, c, hc, hc'⟩⟩
      · rw [List.getElem?_set_ne (Ne.symm hj)] at e2
        obtain ⟨u', r', q⟩ := hl j y v' e1 e2 e3
        refine ⟨u', r', ?_⟩
        rcases q with q | ⟨k, c', e, z'⟩
        · exact .inl q
        · refine .inr ⟨k, c', e, z'.sameBut hs ?_⟩
          rintro rfl
          exact hj (nodup_ix hN e1 (I.ok.inj _ _ _ e hc ▸ hi))
    · by_cases hcc : c' = c
      · subst hcc; exact ⟨_, hc'⟩
      · obtain ⟨w2, z2⟩ := I.cell y c' e
        exact ⟨w2, z2.sameBut hs hcc⟩
    · obtain ⟨e, n, ne, nf, d⟩ := I.pin p hp
      refine ⟨(hs.2 p.1 ?_).trans e, n, ne, nf, d⟩
      intro q
      rw [q, hoc] at e
      have q' : oc = p.2 := Option.some.inj e
      exact d w' (by rw [← q']; exact hocd)
theorem store_ok {M : Model} {A : Around} {E : Value → Shared → Prop} {i : Nat} {x : Str} {v : V} {u : Value} {Q : Unit → Shared → Prop} (I : Inv X pins σ H s) (hN : X.N.Nodup) (hi : X.N[i]? = some x) (hx : Loc X.env.scope x) (r : RelV v u)
    (h : ∀ s', Inv X pins (σ.set i (some v)) H s' → Q () s') (hf : X.fn x = true ∨ X.env.scope.names.lookup x = some .local := by first | exact .inl rfl | exact .inr rfl | assumption) : wpAny M A (storeName X.env x u) Q E s :=
  store_ok2 I hN hi hx r (fun s' I' _ => h s' I') hf
/-- behind a call or a block, the state as it is -/
theorem Inv.call' {s' : Shared} {ch : List Addr} (I : Inv X pins σ H s) (ho : s'.os = s.os) (u : Un (frs X.stack) ch H H' s.heap s'.heap) (hok : HOk X.prog X.w H' s'.heap) (hg : AllBare s'.gens)
    (hch : ∀ b ∈ ch, (b ∈ X.ex ∨ X.s₀.heap.objs.size ≤ b) ∧ b ≠ X.env.locals ∧ (∀ x c, X.env.cells.lookup x = some c → c ≠ b) ∧ ∀ p ∈ X.pn ++ pins, p.1 ≠ b) : Inv X pins σ H' s' := by
  obtain ⟨h', g', d', t', o'⟩ := s'
  have e : o' = s.os := ho
  subst e
  exact I.call (g' := g') (t' := t') (d' := d') u hok hg hch
end

/-! ### the judgements -/
/-- an exception: its class, its own dict's address (where it has one), the abstract heap behind it -/
abbrev XK := Value → Option Addr → Hp → Prop
abbrev St := List (Option V)
abbrev VK := V → Hp → Prop
/-- an expression's reading; a test's; an argument list's -/
abbrev TE := St → Hp → VK → Prop
abbrev TT := St → Hp → (Bool → Hp → Prop) → Prop
abbrev TA := St → Hp → (List V → Hp → Prop) → Prop
/-- what is wanted behind a statement -/
structure Ends where
  nx : St → Hp → Prop
  rt : VK
  bk : St → Hp → Prop := fun _ _ => False
  ct : St → Hp → Prop := fun _ _ => False
abbrev TS := Ends → St → Hp → Prop

def EP (X : Cx) (pins : List (Addr × Obj)) (σ : St) (Q : VK) (u : Value) (s' : Shared) : Prop := ∃ v H', Inv X pins σ H' s' ∧ RelV v u ∧ Q v H'
def TP (X : Cx) (pins : List (Addr × Obj)) (σ : St) (Q : Bool → Hp → Prop) (b : Bool) (s' : Shared) : Prop := ∃ H', Inv X pins σ H' s' ∧ Q b H'
def AP (X : Cx) (pins : List (Addr × Obj)) (σ : St) (Q : List V → Hp → Prop) (us : List Value) (s' : Shared) : Prop := ∃ vs H', Inv X pins σ H' s' ∧ Vals vs us ∧ Q vs H'
def SP (X : Cx) (pins : List (Addr × Obj)) (D : Ends) (f : Flow) (s' : Shared) : Prop :=
  match f with
  | .next => ∃ σ' H', Inv X pins σ' H' s' ∧ D.nx σ' H'
  | .brk => ∃ σ' H', Inv X pins σ' H' s' ∧ D.bk σ' H'
  | .cont => ∃ σ' H', Inv X pins σ' H' s' ∧ D.ct σ' H'
  | .ret u => ∃ v σ' H', Inv X pins σ' H' s' ∧ RelV v u ∧ D.rt v H'

def PE (X : Cx) (e : Expr) (t : TE) : Prop :=
  ∀ (pins : List (Addr × Obj)) (s : Shared) (σ : St) (H : Hp) (Q : VK), Inv X pins σ H s → t σ H Q → wpAny (model X.prog X.w) X.A (eval e X.env) (EP X pins σ Q) X.xe s
def PT (X : Cx) (e : Expr) (t : TT) : Prop :=
  ∀ (pins : List (Addr × Obj)) (s : Shared) (σ : St) (H : Hp) (Q : Bool → Hp → Prop), Inv X pins σ H s → t σ H Q → wpAny (model X.prog X.w) X.A (isTrue e X.env (eval e X.env)) (TP X pins σ Q) X.xe s
/-- a test whatever its 'whole' is (and, or) -/
def PW (X : Cx) (e : Expr) (t : TT) : Prop :=
  ∀ (whole : Sem Value) (pins : List (Addr × Obj)) (s : Shared) (σ : St) (H : Hp) (Q : Bool → Hp → Prop), Inv X pins σ H s → t σ H Q → wpAny (model X.prog X.w) X.A (isTrue e X.env whole) (TP X pins σ Q) X.xe s
theorem PW.pt {X : Cx} {e : Expr} {t : TT} (h : PW X e t) : PT X e t := h _
/-- an argument list (no star), from the left -/
def PA (X : Cx) (es : List Expr) (t : TA) : Prop :=
  ∀ (pos : Pos) (pins : List (Addr × Obj)) (s : Shared) (σ : St) (H : Hp) (Q : List V → Hp → Prop), Inv X pins σ H s → t σ H Q → wpAny (model X.prog X.w) X.A (spliced (backTo pos (starEach es X.env))) (AP X pins σ Q) X.xe s
def PS (X : Cx) (st : Stmt) (t : TS) : Prop :=
  ∀ (pins : List (Addr × Obj)) (s : Shared) (σ : St) (H : Hp) (D : Ends), Inv X pins σ H s → t D σ H → wpAny (model X.prog X.w) X.A (exec st X.env) (SP X pins D) X.xe s
def PSs (X : Cx) (st : List Stmt) (t : TS) : Prop :=
  ∀ (pins : List (Addr × Obj)) (s : Shared) (σ : St) (H : Hp) (D : Ends), Inv X pins σ H s → t D σ H → wpAny (model X.prog X.w) X.A (execs st X.env) (SP X pins D) X.xe s
/-- weaken the end -/
theorem thn {α : Type} {t : Sem α} {Q Q' : α → Shared → Prop} {M : Model} {A : Around} {E : Value → Shared → Prop} {s : Shared} (h : wpAny M A t Q E s) (hQ : ∀ a s, Q a s → Q' a s) : wpAny M A t Q' E s := wpAny_mono h hQ fun _ _ x => x
end L2

namespace L2
open PySem PySem.Spec PyProof.Rows
section
variable {X : Cx}

/-- two expressions in a row -/
theorem bin {a b : Expr} {ta tb : TE} (ha : PE X a ta) (hb : PE X b tb) {pins : List (Addr × Obj)} {s : Shared} {σ : St} {H : Hp} {R : V → V → Hp → Prop} (I : Inv X pins σ H s) (h : ta σ H fun x H1 => tb σ H1 fun y H2 => R x y H2)
    {α : Type} {Q : α → Shared → Prop} {f : Value → Value → Sem α}
    (hf : ∀ v u s2 x y H2, Inv X pins σ H2 s2 → RelV x v → RelV y u → R x y H2 → wpAny (model X.prog X.w) X.A (f v u) Q X.xe s2) :
    wpAny (model X.prog X.w) X.A (eval a X.env) (fun v s₁ => wpAny (model X.prog X.w) X.A (eval b X.env) (fun u s₂ => wpAny (model X.prog X.w) X.A (f v u) Q X.xe s₂) X.xe s₁) X.xe s := by
  refine thn (ha pins s σ H _ I h) fun v s1 ⟨x, H1, I1, r1, q1⟩ => ?_
  refine thn (hb pins s1 σ H1 _ I1 q1) fun u s2 ⟨y, H2, I2, r2, q2⟩ => ?_
  exact hf v u s2 x y H2 I2 r1 r2 q2

/-! ### names and constants -/
def tVar (i : Nat) : TE := fun σ H Q => ∃ v, σ[i]? = some (some v) ∧ Q v H
def tC (v : V) : TE := fun _ H Q => Q v H
theorem pe_var {i : Nat} {x : Str} {pos : Pos} (hN : X.N[i]? = some x) (hv : Vis X.env.scope x) (hd : (x == ("__debug__" : Str)) = false := by decide) (hcd : (x == ("__classdict__" : Str)) = false := by decide) : PE X (.Name x pos) (tVar i) := by
  intro pins s σ H Q I h
  obtain ⟨v, e, h⟩ := h
  obtain ⟨m, hn, hl⟩ := I.loc
  obtain ⟨u, r, l⟩ := hl i x v hN e hv
  have fin : EP X pins σ Q u s := ⟨v, H, I, r, h⟩
  rcases l with ⟨hk, hm⟩ | ⟨hk, c, hc, hcell⟩
  · exact wpAny_Name (wpAny_loadName_local I.ok.kind hk hn hm fin) hd
  · rcases hk with hk | hk
    · exact wpAny_Name (wpAny_loadName_cell I.ok.kind hk hc hcell fin) hd
    · exact wpAny_Name (wpAny_loadName_free I.ok.kind hk hc hcell fin hcd) hd
theorem pe_int {i j pos} : PE X (.Constant (.int i) j pos) (tC (.int i)) := fun _ _ _ H _ I h => wpAny_Constant_int ⟨.int i, H, I.tok _, ⟨_, rfl⟩, h⟩
theorem pe_bl {b j pos} : PE X (.Constant (.bool b) j pos) (tC (.bl b)) := fun _ _ _ H _ I h => Constant_bool ⟨.bl b, H, I, rfl, h⟩
theorem pe_str {x j pos} : PE X (.Constant (.str x) j pos) (tC (.str x)) := fun _ _ _ H _ I h => Calls.Constant_str ⟨.str x, H, I.tok _, ⟨_, rfl⟩, h⟩

/-- a global name of the def -/
def Gl (X : Cx) (x : Str) : Prop := X.env.kindOf x = some .globalImplicit
theorem ld_glob {E : Value → Shared → Prop} {pins : List (Addr × Obj)} {s : Shared} {σ : St} {H : Hp} {x : Str} {u : Value} {pos : Pos} {Q : Value → Shared → Prop} (I : Inv X pins σ H s) (hg : Gl X x) (hm : X.mg x = some u) (h : Q u s)
    (hd : (x == ("__debug__" : Str)) = false := by decide) : wpAny (model X.prog X.w) X.A (eval (.Name x pos) X.env) Q E s :=
  Calls.Name_function_global I.ok.kind hg (Calls.loadGlobal_global (by rw [I.ok.glob]; exact I.mod.glob.keeps I.bk) hm h) hd
theorem ld_blt {E : Value → Shared → Prop} {pins : List (Addr × Obj)} {s : Shared} {σ : St} {H : Hp} {x : Str} {u : Value} {pos : Pos} {Q : Value → Shared → Prop} (I : Inv X pins σ H s) (hg : Gl X x) (hm : X.mg x = none) (hv : bootBuiltins x = some u) (h : Q u s)
    (hn : x ≠ "__name__" := by decide) (hd : (x == ("__debug__" : Str)) = false := by decide) : wpAny (model X.prog X.w) X.A (eval (.Name x pos) X.env) Q E s := by
  obtain ⟨mb, h1, h2⟩ := I.mod.blt
  exact Calls.Name_function_global I.ok.kind hg (Calls.loadGlobal_builtin (by rw [I.ok.glob]; exact I.mod.glob.keeps I.bk) hm (by rw [I.ok.blt]; exact h1.keeps I.bk) ((h2 x hn).trans hv) h) hd
/-- a module's constant, a class, a function, as a value -/
theorem pe_glob {x : Str} {v : V} {u : Value} {pos : Pos} (hg : Gl X x) (hm : X.mg x = some u) (r : RelV v u) (hd : (x == ("__debug__" : Str)) = false := by decide) : PE X (.Name x pos) (tC v) :=
  fun _ _ _ H _ I h => ld_glob I hg hm ⟨v, H, I, r, h⟩ hd
theorem pe_bltn {x : Str} {v : V} {u : Value} {pos : Pos} (hg : Gl X x) (hm : X.mg x = none) (hv : bootBuiltins x = some u) (r : RelV v u) (hn : x ≠ "__name__" := by decide) (hd : (x == ("__debug__" : Str)) = false := by decide) : PE X (.Name x pos) (tC v) :=
  fun _ _ _ H _ I h => ld_blt I hg hm hv ⟨v, H, I, r, h⟩ hn hd

/-! ### arithmetic -/
/-- two ints -/
def t2I (ta tb : TE) (k : Int → Int → Hp → Prop) : St → Hp → Prop := fun σ H => ta σ H fun x H1 => tb σ H1 fun y H2 => ∃ i j, x = .int i ∧ y = .int j ∧ k i j H2
def tAdd (ta tb : TE) : TE := fun σ H Q => t2I ta tb (fun i j H2 => Q (.int (i + j)) H2) σ H
def tSub (ta tb : TE) : TE := fun σ H Q => t2I ta tb (fun i j H2 => Q (.int (i - j)) H2) σ H
/-- the left factor below 2^64 -/
def tMul (ta tb : TE) : TE := fun σ H Q => t2I ta tb (fun i j H2 => (-(2 ^ 64) < i ∧ i < 2 ^ 64) ∧ Q (.int (i * j)) H2) σ H
variable {a b : Expr} {ta tb : TE} {pos : Pos}
/-! ### comparisons -/
def PC (X : Cx) (op : CmpOp) (a b : Expr) (t : TE) : Prop :=
  ∀ (pins : List (Addr × Obj)) (s : Shared) (σ : St) (H : Hp) (Q : VK), Inv X pins σ H s → t σ H Q →
    wpAny (model X.prog X.w) X.A (eval a X.env) (fun v s₁ => wpAny (model X.prog X.w) X.A (eval b X.env) (fun u s₂ => wpAny (model X.prog X.w) X.A (compareOp op v u) (EP X pins σ Q) X.xe s₂) X.xe s₁) X.xe s
def tCmp (p : Int → Int → Bool) (ta tb : TE) : TE := fun σ H Q => t2I ta tb (fun i j H2 => Q (.bl (p i j)) H2) σ H
abbrev tLt : TE → TE → TE := tCmp fun i j => decide (i < j)
abbrev tLe : TE → TE → TE := tCmp fun i j => decide (i ≤ j)
abbrev tGt : TE → TE → TE := tCmp fun i j => decide (j < i)
abbrev tGe : TE → TE → TE := tCmp fun i j => decide (j ≤ i)
abbrev tEqI : TE → TE → TE := tCmp fun i j => decide (i = j)
abbrev tNeI : TE → TE → TE := tCmp fun i j => !decide (i = j)
/-- is None -/
def tIsN (ta : TE) : TE := fun σ H Q => ta σ H fun x H1 => Q (.bl (decide (x = .non))) H1
def tNotN (ta : TE) : TE := fun σ H Q => ta σ H fun x H1 => Q (.bl (!decide (x = .non))) H1
/-- a comparison as a value, as a test -/
def tB (t : TE) : TT := fun σ H Q => t σ H fun x H1 => ∃ c, x = .bl c ∧ Q c H1
theorem pt_cmp {op : CmpOp} {t : TE} (h : PC X op a b t) (h1 : behindInMarks op b = false := by first | exact nobehind _ (by decide) (by decide) | rfl) : PT X (.Compare a [op] [b] pos) (tB t) := by
  intro pins s σ H Q I hw
  refine wpAny_isTrue_Compare1 (thn (h pins s σ H _ I hw) fun v s1 h1 => thn h1 fun u s2 h2 => thn h2 fun c s3 ⟨x, H1, I1, r1, q1⟩ => ?_) h1
  obtain ⟨d, rfl, q⟩ := q1
  cases r1
  exact wpAny_truthy_bool ⟨H1, I1, q⟩
/-- an expression whose value is a bool, as a test -/
theorem pt_val {e : Expr} {t : TE} (h : PE X e t) (he : ∀ whole, isTrue e X.env whole = (do let v ← whole; standAt e.pos; holding [v] (truthy v)) := by intro _; rfl) : PT X e (tB t) := by
  intro pins s σ H Q I hw
  refine isTrue_plain (thn (h pins s σ H _ I hw) fun v s1 ⟨x, H1, I1, r1, q1⟩ => ?_) (he _)
  obtain ⟨d, rfl, q⟩ := q1
  cases r1
  exact wpAny_truthy_bool ⟨H1, I1, q⟩

/-! ### and, or, not -/
variable {tA tB' : TT} {rest : List Expr}
def tAnd (t u : TT) : TT := fun σ H Q => t σ H fun c H1 => if c = true then u σ H1 Q else Q false H1
def tOr (t u : TT) : TT := fun σ H Q => t σ H fun c H1 => if c = true then Q true H1 else u σ H1 Q
def tNot (t : TT) : TT := fun σ H Q => t σ H fun c H1 => Q (!c) H1
theorem pw_or1 (ha : PT X a tA) : PW X (.BoolOp .Or [a] pos) tA := by
  intro wh pins s σ H Q I h
  refine isTrue_or (thn (ha pins s σ H Q I h) fun c s1 e => ?_)
  cases c with
  | false => exact isTrue_or_nil e
  | true => exact e
theorem pw_or (ha : PT X a tA) (hb : PW X (.BoolOp .Or (b :: rest) pos) tB') : PW X (.BoolOp .Or (a :: b :: rest) pos) (tOr tA tB') := by
  intro wh pins s σ H Q I h
  refine isTrue_or (thn (ha pins s σ H _ I h) fun c s1 ⟨H1, I1, q1⟩ => ?_)
  cases c with
  | true => exact ⟨H1, I1, q1⟩
  | false => exact hb wh pins s1 σ H1 Q I1 q1
theorem pt_not (ha : PT X a tA) : PT X (.UnaryOp .Not a pos) (tNot tA) := by
  intro pins s σ H Q I h
  exact isTrue_not (ha pins s σ H (fun c H1 => Q (!c) H1) I h)
/-- .. as values (bools) -/
def tAndV (ta tb : TE) : TE := fun σ H Q => ta σ H fun x H1 => ∃ c, x = .bl c ∧ if c = true then tb σ H1 Q else Q (.bl false) H1
def tOrV (ta tb : TE) : TE := fun σ H Q => ta σ H fun x H1 => ∃ c, x = .bl c ∧ if c = true then Q (.bl true) H1 else tb σ H1 Q
def tNotV (ta : TE) : TE := fun σ H Q => ta σ H fun x H1 => ∃ c, x = .bl c ∧ Q (.bl (!c)) H1
theorem pe_one {op} {t : TE} (h : PE X a t) : PE X (.BoolOp op [a] pos) t := fun pins s σ H Q I hw => BoolOp_one (h pins s σ H Q I hw)
theorem pe_and (ha : PE X a ta) (hb : PE X (.BoolOp .And (b :: rest) pos) tb) : PE X (.BoolOp .And (a :: b :: rest) pos) (tAndV ta tb) := by
  intro pins s σ H Q I h
  refine BoolOp_and (thn (ha pins s σ H _ I h) fun v s1 ⟨x, H1, I1, r1, q1⟩ => ?_)
  obtain ⟨c, rfl, q1⟩ := q1
  cases r1
  refine wpAny_truthy_bool ?_
  cases c with
  | true => exact hb pins s1 σ H1 Q I1 q1
  | false => exact ⟨.bl false, H1, I1, rfl, q1⟩
theorem pe_not (ha : PE X a ta) : PE X (.UnaryOp .Not a pos) (tNotV ta) := by
  intro pins s σ H Q I h
  refine UnaryOp_ (thn (ha pins s σ H _ I h) fun v s1 ⟨x, H1, I1, r1, q1⟩ => ?_)
  obtain ⟨c, rfl, q1⟩ := q1
  cases r1
  exact not_of (wpAny_truthy_bool ⟨.bl (!c), H1, I1, rfl, q1⟩)
/-- a if t else b -/
def tIf (t : TT) (ta tb : TE) : TE := fun σ H Q => t σ H fun c H1 => if c = true then ta σ H1 Q else tb σ H1 Q
end
end L2

namespace L2
open PySem PySem.Spec PyProof.Rows

/-! ### a list, a tuple that is read: tracked, frozen, or an object of the module -/
def SqL (K : PySem.W.Frag) (H : Hp) (a : Addr) (xs : List V) : Prop :=
  Rd H a (.lst xs) ∨
    ∃ (o : Obj) (its : Array Value) (n : Nat), K.lookup a = some o ∧ o.cls = .type "list" ∧ o.dict = none ∧ o.data = .seq its n ∧ its.size ≤ sizeLine ∧ Vals xs its.toList
def SqT (K : PySem.W.Frag) (H : Hp) (a : Addr) (xs : List V) : Prop :=
  Rd H a (.tup xs) ∨
    ∃ (o : Obj) (its : Array Value) (n : Nat), K.lookup a = some o ∧ o.cls = .type "tuple" ∧ o.data = .seq its n ∧ its.size ≤ sizeLine ∧ Vals xs its.toList
def absV : Value → Option V
  | .none => some .non
  | .bool b => some (.bl b)
  | .int i _ => some (.int i)
  | .str x _ => some (.str x)
  | .bytes b _ => some (.byt b)
  | .float b _ => some (.flt b)
  | .ref a => some (.ref a)
  | .type n => some (.ty n)
  | _ => none
theorem RelV.abs {x : V} {u : Value} (r : RelV x u) : absV u = some x := by
  cases x with
  | non => cases r; rfl
  | bl _ => cases r; rfl
  | int _ => obtain ⟨t, rfl⟩ := r; rfl
  | str _ => obtain ⟨t, rfl⟩ := r; rfl
  | byt _ => obtain ⟨t, rfl⟩ := r; rfl
  | flt _ => obtain ⟨t, rfl⟩ := r; rfl
  | ref _ => cases r; rfl
  | ty _ => cases r; rfl
theorem RelV.inj {x y : V} {u : Value} (r : RelV x u) (q : RelV y u) : x = y := Option.some.inj (r.abs.symm.trans q.abs)
theorem Vals.inj : ∀ {xs ys : List V} {us : List Value}, Vals xs us → Vals ys us → xs = ys
  | _, _, _, .nil, .nil => rfl
  | _, _, _, .cons r t, .cons r' t' => by rw [r.inj r', Vals.inj t t']
section
variable {X : Cx} {pins : List (Addr × Obj)} {σ : St} {H : Hp} {s : Shared} {a : Addr} {xs ys : List V}
theorem SqL.of {K : PySem.W.Frag} (h : H a = some (.lst xs)) : SqL K H a xs := .inl (.inl h)
theorem SqT.of {K : PySem.W.Frag} (h : H a = some (.tup xs)) : SqT K H a xs := .inl (.inl h)
theorem Inv.list (I : Inv X pins σ H s) (h : SqL X.K H a xs) : ∃ its : List Value, Vals xs its ∧ PlainL s.heap a its.toArray ∧ xs.length ≤ sizeLine := by
  rcases h with h | ⟨o, its, n, hk, hc, hd, hs, hz, r⟩
  · obtain ⟨z, its, n, r, e⟩ := h.ok I.hok
    exact ⟨its, r, ⟨_, n, e, rfl, rfl, rfl⟩, z⟩
  · refine ⟨its.toList, r, ⟨o, n, I.kIn a o hk, hc, hd, by simpa using hs⟩, ?_⟩
    have e := r.length
    simp only [Array.length_toList] at e
    omega
theorem Inv.tuple (I : Inv X pins σ H s) (h : SqT X.K H a xs) : ∃ its : List Value, Vals xs its ∧ IsTup s.heap a its.toArray ∧ xs.length ≤ sizeLine := by
  rcases h with h | ⟨o, its, n, hk, hc, hs, hz, r⟩
  · obtain ⟨z, its, r, p⟩ := h.ok I.hok
    exact ⟨its, r, p, z⟩
  · refine ⟨its.toList, r, ⟨o, I.kIn a o hk, hc, n, by simpa using hs⟩, ?_⟩
    have e := r.length
    simp only [Array.length_toList] at e
    omega
theorem Inv.list_inj (I : Inv X pins σ H s) (h : SqL X.K H a xs) (h' : SqL X.K H a ys) : xs = ys := by
  obtain ⟨its, r, ⟨o, n, e, _, _, d⟩, _⟩ := I.list h
  obtain ⟨its', r', ⟨o', n', e', _, _, d'⟩, _⟩ := I.list h'
  rw [e] at e'; cases e'
  rw [d] at d'
  injection d' with d1 _
  have : its = its' := by simpa using congrArg Array.toList d1
  subst this
  exact r.inj r'
end

/-! ### another wish about exceptions -/
abbrev Cx.wish (X : Cx) (E : Value → Shared → Prop) : Cx := { X with xe := E }
/-- no exception leaves -/
abbrev Cx.nox (X : Cx) : Cx := X.wish fun _ _ => False
theorem Cx.Ok.wish {X : Cx} (ok : X.Ok) (E : Value → Shared → Prop) : (X.wish E).Ok :=
  ⟨ok.mod, ok.kind, ok.glob, ok.blt, ok.above, ok.inj, ok.has, ok.cab, ok.hd, ok.frames, ok.stk, ok.exf, ok.bs, ok.bsz, ok.noex, ok.exfs, ok.funs, ok.frf⟩
theorem Cx.Ok.unwish {X : Cx} {E : Value → Shared → Prop} (ok : (X.wish E).Ok) : X.Ok :=
  ⟨ok.mod, ok.kind, ok.glob, ok.blt, ok.above, ok.inj, ok.has, ok.cab, ok.hd, ok.frames, ok.stk, ok.exf, ok.bs, ok.bsz, ok.noex, ok.exfs, ok.funs, ok.frf⟩
section
variable {X : Cx} {pins : List (Addr × Obj)} {σ : St} {H : Hp} {s : Shared} {E : Value → Shared → Prop}
theorem Inv.wish (I : Inv X pins σ H s) (E : Value → Shared → Prop) : Inv (X.wish E) pins σ H s := ⟨I.ok.wish E, I.os, I.bare, I.base, I.loc, I.cell, I.free, I.freeC, I.pin, I.hok, I.len⟩
theorem Inv.unwish (I : Inv (X.wish E) pins σ H s) : Inv X pins σ H s := ⟨I.ok.unwish, I.os, I.bare, I.base, I.loc, I.cell, I.free, I.freeC, I.pin, I.hok, I.len⟩
theorem SP.unwish {D : Ends} {f : Flow} {s' : Shared} (h : SP (X.wish E) pins D f s') : SP X pins D f s' := by
  cases f with
  | next => obtain ⟨σ', H', I, q⟩ := h; exact ⟨σ', H', I.unwish, q⟩
  | brk => obtain ⟨σ', H', I, q⟩ := h; exact ⟨σ', H', I.unwish, q⟩
  | cont => obtain ⟨σ', H', I, q⟩ := h; exact ⟨σ', H', I.unwish, q⟩
  | ret u => obtain ⟨v, σ', H', I, r, q⟩ := h; exact ⟨v, σ', H', I.unwish, r, q⟩
theorem PSs.nox {st : List Stmt} {t : TS} (h : PSs X.nox st t) : PSs X st t := fun pins s σ H D I hw =>
  wpAny_mono (h pins s σ H D (I.wish _) hw) (fun _ _ q => q.unwish) fun _ _ z => False.elim z
end

/-! ### blocks and small statements -/
section
variable {X : Cx} {st : Stmt} {rest : List Stmt} {t u : TS} {e : Expr} {te : TE} {pos : Pos}
def tNext : TS := fun D σ H => D.nx σ H
def tSeq (t u : TS) : TS := fun D σ H => t { D with nx := u D } σ H
theorem pss_nil : PSs X [] tNext := fun _ _ σ H _ I h => wpAny_execs_nil ⟨σ, H, I, h⟩
theorem pss_cons (h1 : PS X st t) (h2 : PSs X rest u) : PSs X (st :: rest) (tSeq t u) := by
  intro pins s σ H D I h
  refine wpAny_execs_cons (thn (h1 pins s σ H { D with nx := u D } I h) fun f s1 q => ?_)
  cases f with
  | next =>
    obtain ⟨σ', H', I', q⟩ := q
    exact h2 pins s1 σ' H' D I' q
  | ret v => exact q
  | brk => exact q
  | cont => exact q
theorem pss_one (h1 : PS X st t) : PSs X [st] t := by
  intro pins s σ H D I h
  refine wpAny_execs_cons (thn (h1 pins s σ H D I h) fun f s1 q => ?_)
  cases f with
  | next => exact wpAny_execs_nil q
  | ret v => exact q
  | brk => exact q
  | cont => exact q
def tBreak : TS := fun D σ H => D.bk σ H
def tCont : TS := fun D σ H => D.ct σ H
/-- in a def's body nothing is shown -/
theorem Inv.quiet {pins : List (Addr × Obj)} {σ : St} {H : Hp} {s : Shared} (I : Inv X pins σ H s) : interactive X.env = false := by simp [interactive, I.ok.kind]
/-- an expression whose value is dropped -/
def tDrop (te : TE) : TS := fun D σ H => te σ H fun _ H1 => D.nx σ H1
theorem ps_expr (he : PE X e te) (hs : swapsWith e none pos.line X.env = pure false := by rfl) : PS X (.Expr e pos) (tDrop te) := by
  intro pins s σ H D I h
  exact wpAny_Expr_any (thn (he pins s σ H _ I h) fun v s1 ⟨x, H1, I1, r1, q1⟩ => ⟨σ, H1, I1, q1⟩) I.quiet hs
def tRet (te : TE) : TS := fun D σ H => te σ H D.rt
theorem ps_ret (he : PE X e te) : PS X (.Return (some e) pos) (tRet te) := by
  intro pins s σ H D I h
  exact wpAny_Return_some (thn (he pins s σ H _ I h) fun v s1 ⟨x, H1, I1, r1, q1⟩ => ⟨x, σ, H1, I1, r1, q1⟩)
def tRetN : TS := fun D _ H => D.rt .non H
def tIfS (c : TT) (t u : TS) : TS := fun D σ H => c σ H fun b H1 => if b = true then t D σ H1 else u D σ H1
theorem ps_if {c : Expr} {a b : List Stmt} {tc : TT} (hc : PT X c tc) (ha : PSs X a t) (hb : PSs X b u) : PS X (.If c a b pos) (tIfS tc t u) := by
  intro pins s σ H D I h
  refine wpAny_If (thn (hc pins s σ H _ I h) fun d s1 ⟨H1, I1, q1⟩ => ?_)
  cases d with
  | true => exact ha pins s1 σ H1 D I1 q1
  | false => exact hb pins s1 σ H1 D I1 q1
/-- code that the proof never comes to -/
def tNever : TS := fun _ _ _ => False
end

/-! ### targets -/
abbrev TG := V → St → Hp → (St → Hp → Prop) → Prop
abbrev TGs := List V → St → Hp → (St → Hp → Prop) → Prop
def PG (X : Cx) (target : Expr) (t : TG) : Prop :=
  ∀ (pins : List (Addr × Obj)) (s : Shared) (σ : St) (H : Hp) (v : V) (u : Value) (Q : St → Hp → Prop), Inv X pins σ H s → RelV v u → t v σ H Q →
    wpAny (model X.prog X.w) X.A (assign target X.env u) (fun _ s' => ∃ σ' H', Inv X pins σ' H' s' ∧ Q σ' H') X.xe s
/-- several targets, one after another -/
def PGs (X : Cx) (ts : List Expr) (t : TGs) : Prop :=
  ∀ (pins : List (Addr × Obj)) (s : Shared) (σ : St) (H : Hp) (vs : List V) (us : List Value) (Q : St → Hp → Prop), Inv X pins σ H s → Vals vs us → t vs σ H Q →
    wpAny (model X.prog X.w) X.A (assignInOrder ((assignEach ts X.env).map (·.2)) us) (fun _ s' => ∃ σ' H', Inv X pins σ' H' s' ∧ Q σ' H') X.xe s
/-- o[i] = v, by values -/
abbrev TSet := V → V → V → Hp → (Hp → Prop) → Prop
def PSet (X : Cx) (t : TSet) : Prop :=
  ∀ (pins : List (Addr × Obj)) (s : Shared) (σ : St) (H : Hp) (o i v : V) (ov iv u : Value) (Q : Hp → Prop), Inv X pins σ H s → RelV o ov → RelV i iv → RelV v u → t o i v H Q →
    wpAny (model X.prog X.w) X.A (setItem ov iv u) (fun _ s' => ∃ H', Inv X pins σ H' s' ∧ Q H') X.xe s
/-- a op= b, by values -/
abbrev TIp := V → V → Hp → VK → Prop
def PIp (X : Cx) (op : Operator) (t : TIp) : Prop :=
  ∀ (pins : List (Addr × Obj)) (s : Shared) (σ : St) (H : Hp) (x y : V) (v u : Value) (Q : VK), Inv X pins σ H s → RelV x v → RelV y u → t x y H Q →
    wpAny (model X.prog X.w) X.A (inplaceOp op v u) (EP X pins σ Q) X.xe s
section
variable {X : Cx} {pos : Pos}
def gName (i : Nat) : TG := fun v σ H Q => Q (σ.set i (some v)) H
theorem pg_name {i : Nat} {x : Str} (hN : X.N.Nodup) (hi : X.N[i]? = some x) (hx : Loc X.env.scope x) (hf : X.fn x = true ∨ X.env.scope.names.lookup x = some .local := by first | exact .inl rfl | exact .inr rfl | assumption) : PG X (.Name x pos) (gName i) := by
  intro pins s σ H v u Q I r h
  exact wpAny_assign_Name (store_ok I hN hi hx r (fun s' I' => ⟨_, H, I', h⟩) hf)
def gNil : TGs := fun vs σ H Q => vs = [] ∧ Q σ H
def gCons (t : TG) (u : TGs) : TGs := fun vs σ H Q => ∃ v r, vs = v :: r ∧ t v σ H fun σ' H' => u r σ' H' Q
theorem pgs_nil : PGs X [] gNil := by
  intro pins s σ H vs us Q I r h
  obtain ⟨e, h⟩ := h
  subst e
  cases r
  exact assignInOrder_nil ⟨σ, H, I, h⟩
theorem pgs_cons {e : Expr} {es : List Expr} {t : TG} {u : TGs} (h1 : PG X e t) (h2 : PGs X es u)
    (hs : (assignEach (e :: es) X.env).map (·.2) = assign e X.env :: (assignEach es X.env).map (·.2) := by rfl) : PGs X (e :: es) (gCons t u) := by
  intro pins s σ H vs us Q I r h
  obtain ⟨v, vr, e1, h⟩ := h
  subst e1
  cases r with
  | cons r rr =>
    rw [hs]
    refine assignInOrder_cons (thn (h1 pins s σ H _ _ _ I r h) fun _ s1 ⟨σ1, H1, I1, q1⟩ => ?_)
    exact h2 pins s1 σ1 H1 _ _ Q I1 rr q1
/-- (a, b, ..) = a tuple of that length -/
def gTup (K : PySem.W.Frag) (n : Nat) (t : TGs) : TG := fun v σ H Q => ∃ a xs, v = .ref a ∧ SqT K H a xs ∧ xs.length = n ∧ t xs σ H Q
theorem pg_tup {es : List Expr} {k : Nat} {t : TGs} {n : Nat} (hc : X.calm = true) (h : PGs X es t)
    (hn : (assignEach es X.env).length = n := by rfl) (hst : (assignEach es X.env).findIdx? (·.1) = none := by rfl) : PG X (.Tuple es k pos) (gTup X.K n t) := by
  intro pins s σ H v u Q I r hw
  obtain ⟨a, xs, e1, hq, hl, hw⟩ := hw
  subst e1
  cases r
  obtain ⟨its, rv, ht, hz⟩ := I.tuple hq
  refine assign_Tuple_tuple (I.ok.hd hc) ht (by simp [hn, ← hl, rv.length]) hst fun h' hx => ?_
  have I1 : Inv X pins σ H { s with heap := h' } := I.kept (t' := s.toks) fun b o e => hx b o (Nat.ne_of_lt (Heap.lt_size e)) e
  exact h pins _ σ H xs _ Q I1 (by simpa using rv) hw
/-- o[i] = .. -/
def gSub (to ti : TE) (t : TSet) : TG := fun v σ H Q => to σ H fun o H1 => ti σ H1 fun i H2 => t o i v H2 fun H3 => Q σ H3
theorem pg_sub {o i : Expr} {to ti : TE} {t : TSet} (ho : PE X o to) (hi : PE X i ti) (hs : PSet X t)
    (ha : ∀ v, assign (.Subscript o i pos) X.env v = (do
      let ov ← holding [v] (eval o X.env)
      let iv ← holding [v, ov] (eval i X.env)
      standAt pos
      holding [v, ov, iv] (setItem ov iv v)
      release [v, ov, iv] []) := by intro _; rfl) : PG X (.Subscript o i pos) (gSub to ti t) := by
  intro pins s σ H v u Q I r h
  rw [ha]
  refine wpAny_bind (wpAny_holding (thn (ho pins s σ H _ I h) fun ov s1 ⟨x, H1, I1, r1, q1⟩ => ?_))
  refine wpAny_bind (wpAny_holding (thn (hi pins s1 σ H1 _ I1 q1) fun iv s2 ⟨y, H2, I2, r2, q2⟩ => ?_))
  refine wpAny_bind (wpAny_standAt (wpAny_bind (wpAny_holding (thn (hs pins s2 σ H2 x y v ov iv u _ I2 r1 r2 r q2) fun _ s3 ⟨H3, I3, q3⟩ => ?_))))
  exact wpAny_release ⟨σ, H3, I3, q3⟩
/-- target = value -/
def tAsg (te : TE) (g : TG) : TS := fun D σ H => te σ H fun x H1 => g x σ H1 D.nx
theorem ps_asg {tg e : Expr} {te : TE} {g : TG} (he : PE X e te) (hg : PG X tg g) (hs : swapsWithSole [tg] e pos.line X.env = pure false := by rfl) (hw : swappedStores [tg] e X.env = pure none := by rfl)
    (h1 : (assignEach [tg] X.env).map (·.2) = [assign tg X.env] := by rfl) : PS X (.Assign [tg] e pos) (tAsg te g) := by
  intro pins s σ H D I h
  refine wpAny_Assign_stores (thn (he pins s σ H _ I h) fun v s1 ⟨x, H1, I1, r1, q1⟩ => ?_) hs hw
  rw [h1]
  exact thn (hg pins s1 σ H1 x v _ I1 r1 q1) fun _ s2 q => q
/-- name = value -/
theorem ps_set {i : Nat} {x : Str} {e : Expr} {te : TE} {pos' : Pos} (hN : X.N.Nodup) (hi : X.N[i]? = some x) (hx : Loc X.env.scope x) (he : PE X e te) (hs : swapsWith e (some (.Name x pos')) pos.line X.env = pure false := by rfl) (hf : X.fn x = true ∨ X.env.scope.names.lookup x = some .local := by first | exact .inl rfl | exact .inr rfl | assumption) :
    PS X (.Assign [.Name x pos'] e pos) (tAsg te (gName i)) := by
  intro pins s σ H D I h
  refine wpAny_Assign_Name (thn (he pins s σ H _ I h) fun v s1 ⟨y, H1, I1, r1, q1⟩ => ?_) hs
  exact store_ok I1 hN hi hx r1 (fun s2 I2 => ⟨_, H1, I2, q1⟩) hf
/-- a, b = x, y with plain local names: stored from the right; the pair itself is not tracked (the opening rows as in PyProof/Rows/TupAssign.lean:23) -/
def tPar (i j : Nat) (ta : TA) : TS := fun D σ H => ta σ H fun vs H1 => ∃ v w, vs = [v, w] ∧ D.nx ((σ.set i (some v)).set j (some w)) H1
/-- name op= e -/
def tAug (i : Nat) (te : TE) (ti : TIp) : TS := fun D σ H => ∃ x, σ[i]? = some (some x) ∧ te σ H fun y H1 => ti x y H1 fun z H2 => D.nx (σ.set i (some z)) H2
/-- o[i] op= e -/
def tAugS (to ti te : TE) (tget : V → V → Hp → VK → Prop) (tip : TIp) (tset : TSet) : TS := fun D σ H => to σ H fun o H1 => ti σ H1 fun i H2 => tget o i H2 fun x H3 => te σ H3 fun y H4 => tip x y H4 fun z H5 => tset o i z H5 fun H6 => D.nx σ H6
/-- o[i], by values -/
def PGet (X : Cx) (t : V → V → Hp → VK → Prop) : Prop :=
  ∀ (pins : List (Addr × Obj)) (s : Shared) (σ : St) (H : Hp) (o i : V) (ov iv : Value) (Q : VK), Inv X pins σ H s → RelV o ov → RelV i iv → t o i H Q →
    wpAny (model X.prog X.w) X.A (getItem ov iv) (EP X pins σ Q) X.xe s
/-- ints -/
def ipI (f : Int → Int → Int) : TIp := fun x y H Q => ∃ i j, x = .int i ∧ y = .int j ∧ Q (.int (f i j)) H
end

/-! ### while -/
section
variable {X : Cx} {pos : Pos}
/-- the invariant W with its measure -/
def tWhile (c : TT) (tb : TS) : TS := fun D σ H => ∃ W : Nat → St → Hp → Prop, (∃ m, W m σ H) ∧ ∀ m σ H, W m σ H →
  c σ H fun b H1 => if b = true then ∃ N : St → Hp → Prop, (∀ σ' H', N σ' H' → ∃ m', m' < m ∧ W m' σ' H') ∧ tb { D with nx := N, ct := N, bk := D.nx } σ H1 else D.nx σ H1
end

/-! ### what a loop or a comprehension walks -/
/-- at turn i: it yields x (the heap may grow), or it stops -/
structure It where
  go : Nat → Hp → Prop
  yld : Nat → Hp → V → Hp → Prop
  stop : Nat → Hp → Prop
/-- the iterator's own objects may turn: they are not the frame's, not pinned, younger than the entry (or a comprehension's own) -/
def FpOk (X : Cx) (pins : List (Addr × Obj)) (H : Hp) (b : Addr) : Prop :=
  H b = none ∧ b ≠ X.env.locals ∧ b ∉ X.fs ∧ (b ∈ X.ex ∨ X.s₀.heap.objs.size ≤ b) ∧ (∀ x c, X.env.cells.lookup x = some c → c ≠ b) ∧ ∀ p ∈ X.pn ++ pins, p.1 ≠ b
theorem Inv.fpOk {X : Cx} {pins : List (Addr × Obj)} {σ : St} {H H' : Hp} {s : Shared} {b : Addr} (I : Inv X pins σ H s) (hb : s.heap.objs.size ≤ b) (hn : H' b = none) : FpOk X pins H' b := by
  refine ⟨hn, Nat.ne_of_gt (Nat.lt_of_lt_of_le I.lt hb), I.nofs hb, .inr (Nat.le_trans I.sz hb), fun x c e z => ?_, fun p hp z => ?_⟩
  · obtain ⟨v, q⟩ := I.cell x c e
    exact absurd (Nat.lt_of_lt_of_le q.lt (by rw [z]; exact hb)) (Nat.lt_irrefl _)
  · exact absurd (Nat.lt_of_lt_of_le (Heap.lt_size (I.pin p hp).1) (by rw [z]; exact hb)) (Nat.lt_irrefl _)
structure Turn (P : Program) (w : World) (K : PySem.W.Frag) (tg : Expr) (J : It) (fp : List Addr) (it : Addr) (tn : Nat → Heap → Prop) : Prop where
  mem : it ∈ fp
  obj : ∀ i h, tn i h → ∀ b ∈ fp, ∃ o, h.get? b = some o ∧ ∀ v, o.data ≠ .cell v
  keep : ∀ i h h', tn i h → (∀ b ∈ fp, ∀ o, h.get? b = some o → h'.get? b = some o) → tn i h'
  item : ∀ (X : Cx), X.prog = P → X.w = w → X.K = K → X.calm = true → ∀ (i : Nat) (pins : List (Addr × Obj)) (s : Shared) (σ : St) (H : Hp) (E : Value → Shared → Prop), Inv X pins σ H s → (∀ b ∈ fp, FpOk X pins H b) → tn i s.heap → J.go i H →
    wpAny (model P w) X.A (pyNext (.ref it)) (fun r s1 => ∃ u, r = some u ∧
      wpAny (model P w) X.A (letOwnedTupleGo tg (.ref it) u) (fun _ s2 => ∃ x H', Inv X pins σ H' s2 ∧ RelV x u ∧ J.yld i H x H' ∧ tn (i + 1) s2.heap ∧ ∀ b ∈ fp, H' b = none) E s1) E s
  done : ∀ (X : Cx), X.prog = P → X.w = w → X.K = K → X.calm = true → ∀ (i : Nat) (pins : List (Addr × Obj)) (s : Shared) (σ : St) (H : Hp) (E : Value → Shared → Prop), Inv X pins σ H s → (∀ b ∈ fp, FpOk X pins H b) → tn i s.heap → J.stop i H →
    wpAny (model P w) X.A (pyNext (.ref it)) (fun r s1 => r = none ∧ Inv X pins σ H s1) E s
  self : ∀ (A : Around) (i : Nat) (s : Shared) (Q : Value → Shared → Prop) (E : Value → Shared → Prop), tn i s.heap → Q (.ref it) s → wpAny (model P w) A (pyIter (.ref it)) Q E s
abbrev TI := St → Hp → (It → Hp → Prop) → Prop
/-- an iterator has come -/
def PIE (X : Cx) (pins : List (Addr × Obj)) (σ : St) (tg : Expr) (R : It → Hp → Prop) (itv : Value) (s2 : Shared) : Prop :=
  ∃ (it : Addr) (fp : List Addr) (tn : Nat → Heap → Prop) (J : It) (H' : Hp), itv = .ref it ∧ Inv X pins σ H' s2 ∧ Turn X.prog X.w X.K tg J fp it tn ∧ tn 0 s2.heap ∧ (∀ b ∈ fp, FpOk X pins H' b) ∧ R J H'
def PI (X : Cx) (tg iter : Expr) (wi : TI) : Prop :=
  ∀ (pins : List (Addr × Obj)) (s : Shared) (σ : St) (H : Hp) (R : It → Hp → Prop), Inv X pins σ H s → wi σ H R →
    wpAny (model X.prog X.w) X.A (eval iter X.env) (fun v s1 => wpAny (model X.prog X.w) X.A (pyIter v) (PIE X pins σ tg R) X.xe s1) X.xe s

/-- the step ahead of the store is nothing for an iterator that keeps no tuple -/
theorem go_of {M : Model} {A : Around} {E : Value → Shared → Prop} {s : Shared} {tg : Expr} {it : Addr} {u : Value} {o : Obj} {n : String} {vs : Array Value} {Q : Unit → Shared → Prop} (ho : s.heap.get? it = some o) (hc : o.cls = .type n) (hd : o.data = .fields vs)
    (hn : ["enumerate", "zip", "dict_itemiterator", "dict_reverseitemiterator", "odict_iterator", "itertools.zip_longest", "itertools.pairwise"].contains n = false) (hQ : Q () s) : wpAny M A (letOwnedTupleGo tg (.ref it) u) Q E s := by
  unfold letOwnedTupleGo
  cases tg <;> first
    | exact wpAny_pure hQ
    | (cases u <;> first
        | exact wpAny_pure hQ
        | (refine wpAny_bind (wpAny_load ho ?_)
           rw [hc, hd]
           show wpAny M A (if (["enumerate", "zip", "dict_itemiterator", "dict_reverseitemiterator", "odict_iterator", "itertools.zip_longest", "itertools.pairwise"].contains n && vs[0]? == some (rawInt _)) = true then _ else _) Q E s
           rw [if_neg (by intro h; rw [hn, Bool.false_and] at h; cases h)]
           exact wpAny_pure hQ))

/-- the list at a, as it stands at each turn (a loop may append to it) -/
def Itl (K : PySem.W.Frag) (a : Addr) : It :=
  ⟨fun i H => ∃ xs x, SqL K H a xs ∧ xs[i]? = some x, fun i H x H' => H' = H ∧ ∀ xs, SqL K H a xs → xs[i]? = some x, fun i H => ∃ xs, SqL K H a xs ∧ xs.length ≤ i⟩
def Itt (K : PySem.W.Frag) (a : Addr) : It :=
  ⟨fun i H => ∃ xs x, SqT K H a xs ∧ xs[i]? = some x, fun i H x H' => H' = H ∧ ∀ xs, SqT K H a xs → xs[i]? = some x, fun i H => ∃ xs, SqT K H a xs ∧ xs.length ≤ i⟩
/-- lo, lo + 1, .. (n of them) -/
def Itr (lo : Int) (n : Nat) : It := ⟨fun i _ => i < n, fun i H x H' => H' = H ∧ x = .int (lo + i), fun i _ => n ≤ i⟩
theorem turn_list {P : Program} {w : World} {K : PySem.W.Frag} {tg : Expr} (a it : Addr) : Turn P w K tg (Itl K a) [it] it (fun i h => h.IsListIter it a i) where
  mem := by simp
  obj := fun i h st b hb => by
    have e : b = it := by simpa using hb
    subst e
    obtain ⟨o, e, c, d⟩ := st
    exact ⟨o, e, fun v z => by rw [d] at z; cases z⟩
  keep := fun i h h' st k => st.at fun o e => k it (by simp) o e
  item := by
    intro X hP hw hK hc i pins s σ H E I hf st hg
    subst hP hw hK
    obtain ⟨xs, x, hq, hx⟩ := hg
    obtain ⟨its, rv, p, hz⟩ := I.list hq
    obtain ⟨u, hu, ru⟩ := rv.get hx
    obtain ⟨f0, f1, f2, f3, f4, f5⟩ := hf it (by simp)
    refine wpAny_pyNext_list_item st p.isList (x := u) (by simpa using hu) fun h' st' sb => ?_
    have I1 : Inv X pins σ H { s with heap := h' } := I.turned (t' := s.toks) (fun b o hb e => (sb.2 b hb).trans e) f0 f1 f3 f4 f5
    obtain ⟨o, e, c, d⟩ := id st'
    exact ⟨u, rfl, go_of (s := { s with heap := h' }) e c d (by decide) ⟨x, H, I1, ru, ⟨rfl, fun ys hy => by rw [I.list_inj hy hq]; exact hx⟩, st', fun b hb => (hf b hb).1⟩⟩
  done := by
    intro X hP hw hK hc i pins s σ H E I hf st hg
    subst hP hw hK
    obtain ⟨xs, hq, hx⟩ := hg
    obtain ⟨its, rv, p, hz⟩ := I.list hq
    obtain ⟨f0, f1, f2, f3, f4, f5⟩ := hf it (by simp)
    have hl := rv.length
    exact wpAny_pyNext_list_end (I.ok.hd hc) st p.isList (by simp; omega) fun h' eb => ⟨rfl, I.turned (t' := s.toks) (fun b o hb e => eb b o hb e) f0 f1 f3 f4 f5⟩
  self := fun _ _ _ _ _ st h => wpAny_pyIter_listiter st h
theorem turn_range {P : Program} {w : World} {K : PySem.W.Frag} {tg : Expr} (it : Addr) (lo : Int) (n : Nat) : Turn P w K tg (Itr lo n) [it] it (fun i h => IsRangeIter h it (lo + (i : Nat) * 1) ((n : Int) - (i : Nat)) 1) where
  mem := by simp
  obj := fun i h st b hb => by
    have e : b = it := by simpa using hb
    subst e
    exact ⟨_, st, fun v z => by
      have z' : Data.fields _ = Data.cell v := z
      cases z'⟩
  keep := fun i h h' st k => k it (by simp) _ st
  item := by
    intro X hP hw hK hc i pins s σ H E I hf st hg
    subst hP hw hK
    obtain ⟨f0, f1, f2, f3, f4, f5⟩ := hf it (by simp)
    have W := Walks.range (prog := X.prog) (w := X.w) (I.ok.hd hc) it lo 1 n
    refine W.item i s _ _ hg st fun v h' tk hv st' kk => ?_
    obtain ⟨t, rfl⟩ := hv
    have I1 : Inv X pins σ H { s with heap := h', toks := tk } := I.turned (fun b o hb e => kk b o (by simpa using hb) e) f0 f1 f3 f4 f5
    refine ⟨_, rfl, go_of (s := { s with heap := h', toks := tk }) (n := "range_iterator") st' rfl rfl (by decide) ⟨.int (lo + i), H, I1, ⟨t, ?_⟩, ⟨rfl, rfl⟩, st', fun b hb => (hf b hb).1⟩⟩
    rw [Int.mul_one]
  done := by
    intro X hP hw hK hc i pins s σ H E I hf st hg
    subst hP hw hK
    obtain ⟨f0, f1, f2, f3, f4, f5⟩ := hf it (by simp)
    exact wpAny_pyNext_range_end (I.ok.hd hc) st (by have : n ≤ i := hg; omega) fun h' eb => ⟨rfl, I.turned (t' := s.toks) (fun b o hb e => eb b o hb e) f0 f1 f3 f4 f5⟩
  self := fun _ _ _ _ _ st h => wpAny_pyIter_rangeiter st h
end L2

namespace L2
open PySem PySem.Spec PyProof.Rows
section
variable {X : Cx} {tg : Expr}
def iList (K : PySem.W.Frag) (tl : TE) : TI := fun σ H R => tl σ H fun x H1 => ∃ a, x = .ref a ∧ (∃ xs, SqL K H1 a xs) ∧ R (Itl K a) H1
def iTup (K : PySem.W.Frag) (tl : TE) : TI := fun σ H R => tl σ H fun x H1 => ∃ a, x = .ref a ∧ (∃ xs, SqT K H1 a xs) ∧ R (Itt K a) H1
theorem pi_list {l : Expr} {tl : TE} (hl : PE X l tl) : PI X tg l (iList X.K tl) := by
  intro pins s σ H R I h
  refine thn (hl pins s σ H _ I h) fun v s1 ⟨x, H1, I1, r1, q1⟩ => ?_
  obtain ⟨a, e, ⟨xs, hq⟩, q⟩ := q1
  subst e
  cases r1
  obtain ⟨its, rv, p, hz⟩ := I1.list hq
  refine wpAny_pyIter_list p.isList ?_
  refine ⟨s1.heap.objs.size, [s1.heap.objs.size], _, _, H1, rfl, I1.kept (t' := s1.toks) fun b o e => Heap.get?_push_of_some _ e, turn_list a _, ⟨_, Heap.get?_push_size _ rfl, rfl, rfl⟩, fun b hb => ?_, q⟩
  have e : b = s1.heap.objs.size := by simpa using hb
  subst e
  exact I1.fpOk (Nat.le_refl _) (I1.hok.fresh (Nat.le_refl _))
/-- a range object just made, walked -/
theorem range_it {pins : List (Addr × Obj)} {σ : St} {H : Hp} {s : Shared} {R : It → Hp → Prop} {E : Value → Shared → Prop} {lo hi : Int} {t u v : Tok} {tk : Nat} (I : Inv X pins σ H s) (h1 : -(2 ^ 62) ≤ lo) (h2 : lo < 2 ^ 62) (h3 : -(2 ^ 62) ≤ hi) (h4 : hi < 2 ^ 62)
    (q : R (Itr lo (hi - lo).toNat) H) : wpAny (model X.prog X.w) X.A (pyIter (.ref s.heap.objs.size)) (PIE X pins σ tg R) E { s with heap := s.heap.push { cls := .type "range", data := .fields #[.int lo t, .int hi u, .int 1 v] }, toks := tk } := by
  refine wpAny_pyIter_range (IsRange.new ..) (small_one h1 h2 h3 h4) ?_
  have I1 : Inv X pins σ H { s with heap := s.heap.push { cls := .type "range", data := .fields #[.int lo t, .int hi u, .int 1 v] }, toks := tk } := I.kept fun b o e => Heap.get?_push_of_some _ e
  refine ⟨(s.heap.push { cls := .type "range", data := .fields #[.int lo t, .int hi u, .int 1 v] }).objs.size, [(s.heap.push { cls := .type "range", data := .fields #[.int lo t, .int hi u, .int 1 v] }).objs.size], _, _, H, rfl,
    I1.kept (t' := tk) fun b o e => Heap.get?_push_of_some _ e, turn_range _ lo (hi - lo).toNat, ?_, fun b hb => ?_, q⟩
  · have e1 : lo + ((0 : Nat) : Int) * 1 = lo := by simp
    have e2 : (((hi - lo).toNat : Nat) : Int) - ((0 : Nat) : Int) = Builtin.Range.rangeSize lo hi 1 := by rw [rangeSize_one]; split <;> omega
    show IsRangeIter _ _ (lo + ((0 : Nat) : Int) * 1) ((((hi - lo).toNat : Nat) : Int) - ((0 : Nat) : Int)) 1
    rw [e1, e2]
    exact Heap.get?_push_size _ rfl
  · have e : b = (s.heap.push { cls := .type "range", data := .fields #[.int lo t, .int hi u, .int 1 v] }).objs.size := by simpa using hb
    subst e
    exact I1.fpOk (Nat.le_refl _) (I1.hok.fresh (Nat.le_refl _))
def iRng1 (ta : TA) : TI := fun σ H R => ta σ H fun vs H1 => ∃ j : Int, vs = [.int j] ∧ -(2 ^ 62) ≤ j ∧ j < 2 ^ 62 ∧ R (Itr 0 j.toNat) H1
def iRng2 (ta : TA) : TI := fun σ H R => ta σ H fun vs H1 => ∃ i j : Int, vs = [.int i, .int j] ∧ (-(2 ^ 62) ≤ i ∧ i < 2 ^ 62 ∧ -(2 ^ 62) ≤ j ∧ j < 2 ^ 62) ∧ R (Itr i (j - i).toNat) H1
theorem pi_range1 {a : Expr} {ta : TA} {p pos : Pos} (hg : Gl X "range") (hm : X.mg "range" = none) (ha : PA X [a] ta) (hs : starEach [a] X.env = [(false, eval a X.env)] := by rfl) : PI X tg (.Call (.Name "range" p) [a] [] pos) (iRng1 ta) := by
  intro pins s σ H R I h
  refine Call_ (ld_blt I hg hm boot_range (PyProof.Rows.callWith_type1 (thn (ha pos pins s σ H _ I h) fun us s1 ⟨vs, H1, I1, r1, q1⟩ => ?_) hs rfl))
  obtain ⟨j, e, q1, q2, q⟩ := q1
  subst e
  cases r1 with
  | cons r rr =>
    cases rr
    obtain ⟨t, rfl⟩ := r
    exact call_range_1 (range_it I1 (by omega) (by omega) q1 q2 (by simpa using q))
/-! ### for -/
/-- W: the invariant by the turn and a measure; N: what the body is to reach -/
def tFor (wi : TI) (g : TG) (tb : TS) : TS := fun D σ H => wi σ H fun J H1 => ∃ W : Nat → Nat → St → Hp → Prop, (∃ m, W 0 m σ H1) ∧ ∀ i m σ H, W i m σ H →
  (J.stop i H ∧ D.nx σ H) ∨ (J.go i H ∧ ∃ N : St → Hp → Prop, (∀ σ' H', N σ' H' → ∃ m', m' < m ∧ W (i + 1) m' σ' H') ∧ ∀ x H', J.yld i H x H' → g x σ H' fun σ2 H2 => tb { D with nx := N, ct := N, bk := D.nx } σ2 H2)
/-- the records at fp as they stand -/
def pinsAt (fp : List Addr) (h : Heap) : List (Addr × Obj) := fp.filterMap fun b => (h.get? b).map fun o => (b, o)
theorem mem_pinsAt {fp : List Addr} {h : Heap} {b : Addr} {o : Obj} (hb : b ∈ fp) (e : h.get? b = some o) : (b, o) ∈ pinsAt fp h := List.mem_filterMap.mpr ⟨b, hb, by rw [e]; rfl⟩
theorem of_pinsAt {fp : List Addr} {h : Heap} {p : Addr × Obj} (hp : p ∈ pinsAt fp h) : p.1 ∈ fp ∧ h.get? p.1 = some p.2 := by
  obtain ⟨b, hb, e⟩ := List.mem_filterMap.mp hp
  cases q : h.get? b with
  | none => rw [q] at e; cases e
  | some o =>
    rw [q] at e
    have e' : (b, o) = p := Option.some.inj e
    subst e'
    exact ⟨hb, q⟩
theorem Inv.pinned {pins : List (Addr × Obj)} {σ : St} {H : Hp} {s : Shared} {fp : List Addr} (I : Inv X pins σ H s) (hf : ∀ b ∈ fp, FpOk X pins H b) (ho : ∀ b ∈ fp, ∃ o, s.heap.get? b = some o ∧ ∀ v, o.data ≠ .cell v) : Inv X (pins ++ pinsAt fp s.heap) σ H s :=
  I.pins_of fun p hp => (List.mem_append.mp hp).elim (fun z => I.pin p (List.mem_append_right _ z)) fun z => by
    obtain ⟨hb, e⟩ := of_pinsAt z
    obtain ⟨f0, f1, f2, _⟩ := hf p.1 hb
    obtain ⟨o, e', d⟩ := ho p.1 hb
    rw [e] at e'; cases e'
    exact ⟨e, f0, f1, f2, d⟩
theorem Inv.unpinned {pins pl : List (Addr × Obj)} {σ : St} {H : Hp} {s : Shared} (I : Inv X (pins ++ pl) σ H s) : Inv X pins σ H s := I.pins_of fun p hp => I.pin p (List.mem_append_right _ (List.mem_append_left _ hp))
theorem ps_for {iter : Expr} {body : List Stmt} {wi : TI} {g : TG} {tb : TS} {pos : Pos} (hp : PassesOwn (model X.prog X.w) X.A X.env X.xe) (hc : X.calm = true) (hi : PI X tg iter wi) (hg : PG X tg g) (hb : PSs X body tb)
    (hs : ∀ x, foldedSetIterable iter X.env x = pure x := by intro _; rfl) : PS X (.For tg iter body [] pos) (tFor wi g tb) := by
  intro pins s σ H D I h
  refine wpAny_For (thn (hi pins s σ H _ I h) fun v s1 h1 => thn h1 fun itv s2 h2 => ?_) hs
  obtain ⟨it, fp, tn, J, H2, e, I2, T, st2, f2, W, ⟨m0, w0⟩, turn⟩ := h2
  subst e
  -- what stays true of the iterator's objects through the loop
  have stat : ∀ {H' : Hp}, (∀ b ∈ fp, H' b = none) → ∀ b ∈ fp, FpOk X pins H' b := fun hn b hb => ⟨hn b hb, (f2 b hb).2⟩
  refine codeAny_forLoop_any (fun n s' => ∃ i σ' H', Inv X pins σ' H' s' ∧ tn i s'.heap ∧ (∀ b ∈ fp, H' b = none) ∧ W i n σ' H') ?_ m0 ⟨0, σ, H2, I2, st2, fun b hb => (f2 b hb).1, w0⟩
  rintro n s3 ⟨i, σ3, H3, I3, st3, fr3, w3⟩
  rcases turn i n σ3 H3 w3 with ⟨stop, qn⟩ | ⟨go, N, hN, step⟩
  · refine wpAny_passesOwn hp (thn (T.done X rfl rfl rfl hc i pins s3 σ3 H3 X.xe I3 (stat fr3) st3 stop) fun r s4 ⟨hr, I4⟩ => ?_)
    subst hr
    exact wpAny_execs_nil ⟨σ3, H3, I4, qn⟩
  · refine wpAny_passesOwn hp (thn (T.item X rfl rfl rfl hc i pins s3 σ3 H3 X.xe I3 (stat fr3) st3 go) fun r s4 ⟨u, hr, h4⟩ => ?_)
    subst hr
    refine wpAny_passesOwn hp (thn h4 fun _ s5 ⟨x, H5, I5, r5, y5, st5, fr5⟩ => ?_)
    have I5' := I5.pinned (stat fr5) (T.obj _ _ st5)
    refine wpAny_passesOwn hp (thn (hg _ s5 σ3 H5 x u _ I5' r5 (step x H5 y5)) fun _ s6 ⟨σ6, H6, I6, q6⟩ => ?_)
    refine wpAny_passesOwn hp (thn (hb _ s6 σ6 H6 _ I6 q6) fun f s7 q7 => ?_)
    have again : ∀ {σ7 : St} {H7 : Hp}, Inv X (pins ++ pinsAt fp s5.heap) σ7 H7 s7 → N σ7 H7 → ∃ m, m < n ∧ ∃ i σ' H', Inv X pins σ' H' s7 ∧ tn i s7.heap ∧ (∀ b ∈ fp, H' b = none) ∧ W i m σ' H' := fun {σ7 H7} I7 n7 => by
      obtain ⟨m', hm, w7⟩ := hN σ7 H7 n7
      refine ⟨m', hm, i + 1, σ7, H7, I7.unpinned, T.keep _ _ _ st5 fun b hb o e => (I7.pin (b, o) (List.mem_append_right _ (List.mem_append_right _ (mem_pinsAt hb e)))).1, fun b hb => ?_, w7⟩
      obtain ⟨o, e, d⟩ := T.obj _ _ st5 b hb
      exact (I7.pin (b, o) (List.mem_append_right _ (List.mem_append_right _ (mem_pinsAt hb e)))).2.1
    cases f with
    | next => obtain ⟨σ7, H7, I7, n7⟩ := q7; exact again I7 n7
    | cont => obtain ⟨σ7, H7, I7, n7⟩ := q7; exact again I7 n7
    | brk => obtain ⟨σ7, H7, I7, q7⟩ := q7; exact ⟨σ7, H7, I7.unpinned, q7⟩
    | ret v => obtain ⟨x7, σ7, H7, I7, r7, q7⟩ := q7; exact ⟨x7, σ7, H7, I7.unpinned, r7, q7⟩
end

/-! ### the forms one uses -/
/-- over a list that the body leaves as it is -/
theorem for_list {K : PySem.W.Frag} {a : Addr} {xs : List V} {g : TG} {tb : TS} {D : Ends} {σ : St} {H : Hp} (Pv : Nat → St → Hp → Prop) (h0 : Pv 0 σ H) (hl : ∀ i σ H, i ≤ xs.length → Pv i σ H → SqL K H a xs)
    (hs : ∀ i x σ H, xs[i]? = some x → Pv i σ H → g x σ H fun σ2 H2 => tb { D with nx := Pv (i + 1), ct := Pv (i + 1), bk := D.nx } σ2 H2) (hd : ∀ σ H, Pv xs.length σ H → D.nx σ H) :
    ∃ W : Nat → Nat → St → Hp → Prop, (∃ m, W 0 m σ H) ∧ ∀ i m σ H, W i m σ H →
      ((Itl K a).stop i H ∧ D.nx σ H) ∨ ((Itl K a).go i H ∧ ∃ N : St → Hp → Prop, (∀ σ' H', N σ' H' → ∃ m', m' < m ∧ W (i + 1) m' σ' H') ∧ ∀ x H', (Itl K a).yld i H x H' → g x σ H' fun σ2 H2 => tb { D with nx := N, ct := N, bk := D.nx } σ2 H2) := by
  refine ⟨fun i m σ H => m = xs.length - i ∧ i ≤ xs.length ∧ Pv i σ H, ⟨xs.length, by simp, Nat.zero_le _, h0⟩, ?_⟩
  rintro i m σ H ⟨rfl, hi, p⟩
  have q := hl i σ H hi p
  by_cases hlt : i < xs.length
  · refine .inr ⟨⟨xs, xs[i], q, by simp [hlt]⟩, Pv (i + 1), fun σ' H' p' => ⟨xs.length - (i + 1), by omega, rfl, hlt, p'⟩, fun x H' y => ?_⟩
    obtain ⟨e, y⟩ := y
    subst e
    exact hs i x σ _ (y xs q) p
  · have e : i = xs.length := by omega
    subst e
    exact .inl ⟨⟨xs, q, Nat.le_refl _⟩, hd σ H p⟩
theorem for_range {lo : Int} {n : Nat} {g : TG} {tb : TS} {D : Ends} {σ : St} {H : Hp} (Pv : Nat → St → Hp → Prop) (h0 : Pv 0 σ H)
    (hs : ∀ i σ H, i < n → Pv i σ H → g (.int (lo + i)) σ H fun σ2 H2 => tb { D with nx := Pv (i + 1), ct := Pv (i + 1), bk := D.nx } σ2 H2) (hd : ∀ σ H, Pv n σ H → D.nx σ H) :
    ∃ W : Nat → Nat → St → Hp → Prop, (∃ m, W 0 m σ H) ∧ ∀ i m σ H, W i m σ H →
      ((Itr lo n).stop i H ∧ D.nx σ H) ∨ ((Itr lo n).go i H ∧ ∃ N : St → Hp → Prop, (∀ σ' H', N σ' H' → ∃ m', m' < m ∧ W (i + 1) m' σ' H') ∧ ∀ x H', (Itr lo n).yld i H x H' → g x σ H' fun σ2 H2 => tb { D with nx := N, ct := N, bk := D.nx } σ2 H2) := by
  refine ⟨fun i m σ H => m = n - i ∧ i ≤ n ∧ Pv i σ H, ⟨n, by simp, Nat.zero_le _, h0⟩, ?_⟩
  rintro i m σ H ⟨rfl, hi, p⟩
  by_cases hlt : i < n
  · refine .inr ⟨hlt, Pv (i + 1), fun σ' H' p' => ⟨n - (i + 1), by omega, rfl, hlt, p'⟩, fun x H' y => ?_⟩
    obtain ⟨e, y⟩ := y
    subst e y
    exact hs i σ _ hlt p
  · have e : i = n := by omega
    subst e
    exact .inl ⟨Nat.le_refl _, hd σ H p⟩
end L2

namespace L2
open PySem PySem.Spec PyProof.Rows

abbrev R2 := V → V → Hp → VK → Prop
/-- a two-place operation on values: f is binaryOp op, inplaceOp op or compareOp op -/
def OpR (X : Cx) (f : Value → Value → Sem Value) (r : R2) : Prop :=
  ∀ (pins : List (Addr × Obj)) (s : Shared) (σ : St) (H : Hp) (x y : V) (v u : Value) (Q : VK), Inv X pins σ H s → RelV x v → RelV y u → r x y H Q →
    wpAny (model X.prog X.w) X.A (f v u) (EP X pins σ Q) X.xe s
/-- a one-place operation -/
def UnR (X : Cx) (f : Value → Sem Value) (r : V → Hp → VK → Prop) : Prop :=
  ∀ (pins : List (Addr × Obj)) (s : Shared) (σ : St) (H : Hp) (x : V) (v : Value) (Q : VK), Inv X pins σ H s → RelV x v → r x H Q →
    wpAny (model X.prog X.w) X.A (f v) (EP X pins σ Q) X.xe s
/-- a call of a value that is known (a builtin, a type) with values -/
def CallR (X : Cx) (f : Value) (r : List V → Hp → VK → Prop) : Prop :=
  ∀ (pins : List (Addr × Obj)) (s : Shared) (σ : St) (H : Hp) (xs : List V) (us : List Value) (Q : VK), Inv X pins σ H s → Vals xs us → r xs H Q →
    wpAny (model X.prog X.w) X.A (call f us) (EP X pins σ Q) X.xe s
/-- a value's truth -/
def TruR (X : Cx) (r : V → Hp → (Bool → Hp → Prop) → Prop) : Prop :=
  ∀ (pins : List (Addr × Obj)) (s : Shared) (σ : St) (H : Hp) (x : V) (v : Value) (Q : Bool → Hp → Prop), Inv X pins σ H s → RelV x v → r x H Q →
    wpAny (model X.prog X.w) X.A (truthy v) (TP X pins σ Q) X.xe s

def tOp (r : R2) (ta tb : TE) : TE := fun σ H Q => ta σ H fun x H1 => tb σ H1 fun y H2 => r x y H2 Q
def tUn (r : V → Hp → VK → Prop) (ta : TE) : TE := fun σ H Q => ta σ H fun x H1 => r x H1 Q
/-- ints in, under C, and a value out -/
def rI (C : Int → Int → Prop) (g : Int → Int → V) : R2 := fun x y H Q => ∃ i j, x = .int i ∧ y = .int j ∧ C i j ∧ Q (g i j) H
def rI0 (g : Int → Int → V) : R2 := fun x y H Q => ∃ i j, x = .int i ∧ y = .int j ∧ Q (g i j) H
def rU (g : Int → V) : V → Hp → VK → Prop := fun x H Q => ∃ i, x = .int i ∧ Q (g i) H

section
variable {X : Cx} {a b c : Expr} {ta tb tc : TE} {pos : Pos}

theorem binT (ha : PE X a ta) (hb : PE X b tb) {pins : List (Addr × Obj)} {s : Shared} {σ : St} {H : Hp} {R : V → V → Hp → Prop} (I : Inv X pins σ H s)
    (h : ta σ H fun x H1 => tb σ H1 fun y H2 => R x y H2) {Q : Value → Shared → Prop} {f : Value → Value → Sem Value}
    (hf : ∀ v u s2 x y H2, Inv X pins σ H2 s2 → RelV x v → RelV y u → R x y H2 → wpAny (model X.prog X.w) X.A (f v u) Q X.xe s2) :
    wpAny (model X.prog X.w) X.A (eval a X.env) (fun v s₁ => wpAny (model X.prog X.w) X.A (eval b X.env) (fun u s₂ => wpAny (model X.prog X.w) X.A (f v u) Q X.xe s₂) X.xe s₁) X.xe s := by
  refine thn (ha pins s σ H _ I h) fun v s1 ⟨x, H1, I1, r1, q1⟩ => ?_
  refine thn (hb pins s1 σ H1 _ I1 q1) fun u s2 ⟨y, H2, I2, r2, q2⟩ => ?_
  exact hf v u s2 x y H2 I2 r1 r2 q2

theorem pe_op {op : Operator} {r : R2} (ho : OpR X (binaryOp op) r) (ha : PE X a ta) (hb : PE X b tb) : PE X (.BinOp a op b pos) (tOp r ta tb) := by
  intro pins s σ H Q I h
  exact wpAny_BinOp (binT ha hb I h fun v u s2 x y H2 I2 rx ry q => ho pins s2 σ H2 x y v u Q I2 rx ry q)
theorem pe_un {op : UnaryOp} {r : V → Hp → VK → Prop} (ho : UnR X (unaryOp op) r) (ha : PE X a ta) : PE X (.UnaryOp op a pos) (tUn r ta) := by
  intro pins s σ H Q I h
  exact UnaryOp_ (thn (ha pins s σ H _ I h) fun v s1 ⟨x, H1, I1, r1, q1⟩ => ho pins s1 σ H1 x v Q I1 r1 q1)
/-! ### ints -/
theorem opI {f : Value → Value → Sem Value} {C : Int → Int → Prop} {g : Int → Int → Int}
    (rule : ∀ (i j : Int) (t u : Tok) (s : Shared) (Q : Value → Shared → Prop) (E : Value → Shared → Prop), C i j → Q (.int (g i j) s.toks) { s with toks := s.toks + 1 } → wpAny (model X.prog X.w) X.A (f (.int i t) (.int j u)) Q E s) :
    OpR X f (rI C fun i j => .int (g i j)) := by
  intro pins s σ H x y v u Q I rx ry h
  obtain ⟨i, j, rfl, rfl, hc, q⟩ := h
  obtain ⟨t, rfl⟩ := rx
  obtain ⟨t', rfl⟩ := ry
  exact rule i j t t' s _ _ hc ⟨.int (g i j), H, I.tok _, ⟨_, rfl⟩, q⟩
theorem opI0 {f : Value → Value → Sem Value} {g : Int → Int → Int}
    (rule : ∀ (i j : Int) (t u : Tok) (s : Shared) (Q : Value → Shared → Prop) (E : Value → Shared → Prop), Q (.int (g i j) s.toks) { s with toks := s.toks + 1 } → wpAny (model X.prog X.w) X.A (f (.int i t) (.int j u)) Q E s) :
    OpR X f (rI0 fun i j => .int (g i j)) := by
  intro pins s σ H x y v u Q I rx ry h
  obtain ⟨i, j, rfl, rfl, q⟩ := h
  obtain ⟨t, rfl⟩ := rx
  obtain ⟨t', rfl⟩ := ry
  exact rule i j t t' s _ _ ⟨.int (g i j), H, I.tok _, ⟨_, rfl⟩, q⟩
theorem opB0 {f : Value → Value → Sem Value} {g : Int → Int → Bool}
    (rule : ∀ (i j : Int) (t u : Tok) (s : Shared) (Q : Value → Shared → Prop) (E : Value → Shared → Prop), Q (.bool (g i j)) s → wpAny (model X.prog X.w) X.A (f (.int i t) (.int j u)) Q E s) :
    OpR X f (rI0 fun i j => .bl (g i j)) := by
  intro pins s σ H x y v u Q I rx ry h
  obtain ⟨i, j, rfl, rfl, q⟩ := h
  obtain ⟨t, rfl⟩ := rx
  obtain ⟨t', rfl⟩ := ry
  exact rule i j t t' s _ _ ⟨.bl (g i j), H, I, rfl, q⟩

def CDiv (i j : Int) : Prop := 0 < j ∧ j < 1073741824
def CDivN (i j : Int) : Prop := j ≠ 0 ∧ j.natAbs < 1073741824
def CPow (i j : Int) : Prop := 0 ≤ j ∧ j ≤ 1000000 ∧ i.natAbs < 2 ^ 64
def CMul (i j : Int) : Prop := (-(2 ^ 64) < i ∧ i < 2 ^ 64) ∨ (-(2 ^ 64) < j ∧ j < 2 ^ 64)
theorem CMul.ok {i j : Int} (h : CMul i j) : IntMulOk i j := by
  rcases h with ⟨h1, h2⟩ | ⟨h1, h2⟩
  · exact .of_left (intBits_le_64 h1 h2)
  · exact .of_right (intBits_le_64 h1 h2)
theorem op_add : OpR X (binaryOp .Add) (rI0 fun i j => .int (i + j)) := opI0 fun _ _ _ _ _ _ _ q => add_int q
theorem op_sub : OpR X (binaryOp .Sub) (rI0 fun i j => .int (i - j)) := opI0 fun _ _ _ _ _ _ _ q => sub_int q
theorem op_mul : OpR X (binaryOp .Mult) (rI CMul fun i j => .int (i * j)) := opI fun _ _ _ _ _ _ _ hc q => mul_int q hc.ok
/-- // by a positive divisor -/
theorem op_fdiv : OpR X (binaryOp .FloorDiv) (rI CDiv fun i j => .int (i / j)) := opI fun i j _ _ _ _ _ hc q => by
  have h1 : (0 : Int) < j := hc.1
  have h2 : j < 1073741824 := hc.2
  exact floordiv_int (by omega) (by rw [Int.fdiv_eq_ediv_of_nonneg i (by omega)]; exact q) (.inl (PyProof.noPylong_small (by omega)))
/-- % by a positive divisor of any size -/
theorem op_mod : OpR X (binaryOp .Mod) (rI (fun _ j => 0 < j) fun i j => .int (i % j)) := opI fun i j _ _ _ _ _ hc q => by
  have h1 : (0 : Int) < j := hc
  exact mod_int' (by omega) (by rw [Int.fmod_eq_emod_of_nonneg i (by omega)]; exact q)
theorem op_pow : OpR X (binaryOp .Pow) (rI CPow fun i j => .int (i ^ j.toNat)) := opI fun _ _ _ _ _ _ _ hc q => pow_int_small hc.1 hc.2.1 hc.2.2 q
theorem unI {f : Value → Sem Value} {g : Int → Int}
    (rule : ∀ (i : Int) (t : Tok) (s : Shared) (Q : Value → Shared → Prop) (E : Value → Shared → Prop), Q (.int (g i) s.toks) { s with toks := s.toks + 1 } → wpAny (model X.prog X.w) X.A (f (.int i t)) Q E s) :
    UnR X f (rU fun i => .int (g i)) := by
  intro pins s σ H x v Q I rx h
  obtain ⟨i, rfl, q⟩ := h
  obtain ⟨t, rfl⟩ := rx
  exact rule i t s _ _ ⟨.int (g i), H, I.tok _, ⟨_, rfl⟩, q⟩
theorem un_neg : UnR X (unaryOp .USub) (rU fun i => .int (-i)) := unI fun _ _ _ _ _ q => neg_int q
/-! ### bools among ints: n += (a < b) -/
end

/-! ### comparisons -/
/-- the scalars that == tells apart as data does -/
def scal : V → V → Bool
  | .non, .non => true | .non, .int _ => true | .int _, .non => true | .non, .bl _ => true | .bl _, .non => true | .non, .str _ => true | .str _, .non => true
  | .int _, .int _ => true | .bl _, .bl _ => true | .str _, .str _ => true | .byt _, .byt _ => true
  | .int _, .str _ => true | .str _, .int _ => true | .bl _, .str _ => true | .str _, .bl _ => true
  | _, _ => false
def rEq : R2 := fun x y H Q => scal x y = true ∧ Q (.bl (decide (x = y))) H
def rNe : R2 := fun x y H Q => scal x y = true ∧ Q (.bl (!decide (x = y))) H

theorem dec_int {i j : Int} : decide (V.int i = V.int j) = (i == j) := by
  rw [Bool.eq_iff_iff]
  simp
theorem dec_bl {i j : Bool} : decide (V.bl i = V.bl j) = (i == j) := by
  rw [Bool.eq_iff_iff]
  simp
theorem dec_str {i j : Str} : decide (V.str i = V.str j) = (i == j) := by
  rw [Bool.eq_iff_iff]
  simp
theorem dec_byt {i j : Array UInt8} : decide (V.byt i = V.byt j) = (i.toList == j.toList) := by
  rw [Bool.eq_iff_iff]
  cases i
  cases j
  simp

section
variable {X : Cx} {a b c : Expr} {ta tb tc : TE} {pos : Pos}
theorem fin_bl {pins : List (Addr × Obj)} {σ : St} {H : Hp} {s : Shared} {Q : VK} {k k' : Bool} (I : Inv X pins σ H s) (q : Q (.bl k) H) (e : k = k') : EP X pins σ Q (.bool k') s := by
  subst e
  exact ⟨.bl k, H, I, rfl, q⟩
theorem op_eq : OpR X (compareOp .Eq) rEq := by
  intro pins s σ H x y v u Q I rx ry h
  obtain ⟨hs, q⟩ := h
  cases x with
  | non =>
    cases rx
    cases y with
    | non => cases ry; exact PySem.EqNone.eq_none_none (fin_bl I q (by simp))
    | bl j => cases ry; exact PySem.EqNone.eq_none_bool (fin_bl I q (by simp))
    | int j => obtain ⟨t', rfl⟩ := ry; exact PySem.EqNone.eq_none_int (fin_bl I q (by simp))
    | str j => obtain ⟨t', rfl⟩ := ry; exact PySem.EqNone.eq_none_str (fin_bl I q (by simp))
    | _ => exact absurd (show false = true from hs) Bool.false_ne_true
  | bl i =>
    cases rx
    cases y with
    | non => cases ry; exact PySem.EqNone.eq_bool_none (fin_bl I q (by simp))
    | bl j => cases ry; exact eq_bool (fin_bl I q dec_bl)
    | str j => obtain ⟨t', rfl⟩ := ry; exact PySem.EqMixed.eq_bool_str (fin_bl I q (by simp))
    | _ => exact absurd (show false = true from hs) Bool.false_ne_true
  | int i =>
    obtain ⟨t, rfl⟩ := rx
    cases y with
    | non => cases ry; exact PySem.EqNone.eq_int_none (fin_bl I q (by simp))
    | int j => obtain ⟨t', rfl⟩ := ry; exact eq_int (fin_bl I q dec_int)
    | str j => obtain ⟨t', rfl⟩ := ry; exact PySem.EqMixed.eq_int_str (fin_bl I q (by simp))
    | _ => exact absurd (show false = true from hs) Bool.false_ne_true
  | str i =>
    obtain ⟨t, rfl⟩ := rx
    cases y with
    | non => cases ry; exact PySem.EqNone.eq_str_none (fin_bl I q (by simp))
    | bl j => cases ry; exact PySem.EqMixed.eq_str_bool (fin_bl I q (by simp))
    | int j => obtain ⟨t', rfl⟩ := ry; exact PySem.EqMixed.eq_str_int (fin_bl I q (by simp))
    | str j => obtain ⟨t', rfl⟩ := ry; exact eq_str (fin_bl I q dec_str)
    | _ => exact absurd (show false = true from hs) Bool.false_ne_true
  | byt i =>
    obtain ⟨t, rfl⟩ := rx
    cases y with
    | byt j => obtain ⟨t', rfl⟩ := ry; exact PySem.W.eq_bytes (fin_bl I q dec_byt)
    | _ => exact absurd (show false = true from hs) Bool.false_ne_true
  | _ => cases y <;> exact absurd (show false = true from hs) Bool.false_ne_true
theorem op_ne : OpR X (compareOp .NotEq) rNe := by
  intro pins s σ H x y v u Q I rx ry h
  obtain ⟨hs, q⟩ := h
  cases x with
  | non =>
    cases rx
    cases y with
    | non => cases ry; exact PySem.EqNone.ne_none_none (fin_bl I q (by simp))
    | bl j => cases ry; exact PySem.EqNone.ne_none_bool (fin_bl I q (by simp))
    | int j => obtain ⟨t', rfl⟩ := ry; exact PySem.EqNone.ne_none_int (fin_bl I q (by simp))
    | str j => obtain ⟨t', rfl⟩ := ry; exact PySem.EqNone.ne_none_str (fin_bl I q (by simp))
    | _ => exact absurd (show false = true from hs) Bool.false_ne_true
  | bl i =>
    cases rx
    cases y with
    | non => cases ry; exact PySem.EqNone.ne_bool_none (fin_bl I q (by simp))
    | bl j => cases ry; exact ne_bool (fin_bl I q (congrArg not dec_bl))
    | str j => obtain ⟨t', rfl⟩ := ry; exact PySem.EqMixed.ne_bool_str (fin_bl I q (by simp))
    | _ => exact absurd (show false = true from hs) Bool.false_ne_true
  | int i =>
    obtain ⟨t, rfl⟩ := rx
    cases y with
    | non => cases ry; exact PySem.EqNone.ne_int_none (fin_bl I q (by simp))
    | int j => obtain ⟨t', rfl⟩ := ry; exact ne_int (fin_bl I q (congrArg not dec_int))
    | str j => obtain ⟨t', rfl⟩ := ry; exact PySem.EqMixed.ne_int_str (fin_bl I q (by simp))
    | _ => exact absurd (show false = true from hs) Bool.false_ne_true
  | str i =>
    obtain ⟨t, rfl⟩ := rx
    cases y with
    | non => cases ry; exact PySem.EqNone.ne_str_none (fin_bl I q (by simp))
    | bl j => cases ry; exact PySem.EqMixed.ne_str_bool (fin_bl I q (by simp))
    | int j => obtain ⟨t', rfl⟩ := ry; exact PySem.EqMixed.ne_str_int (fin_bl I q (by simp))
    | str j => obtain ⟨t', rfl⟩ := ry; exact ne_str (fin_bl I q (congrArg not dec_str))
    | _ => exact absurd (show false = true from hs) Bool.false_ne_true
  | byt i =>
    obtain ⟨t, rfl⟩ := rx
    cases y with
    | byt j => obtain ⟨t', rfl⟩ := ry; exact PySem.W.ne_bytes (fin_bl I q (congrArg not dec_byt))
    | _ => exact absurd (show false = true from hs) Bool.false_ne_true
  | _ => cases y <;> exact absurd (show false = true from hs) Bool.false_ne_true

theorem op_lt : OpR X (compareOp .Lt) (rI0 fun i j => .bl (decide (i < j))) := opB0 fun _ _ _ _ _ _ _ q => lt_int q
theorem op_gt : OpR X (compareOp .Gt) (rI0 fun i j => .bl (decide (j < i))) := opB0 fun _ _ _ _ _ _ _ q => gt_int q
/-- is, is not of two objects that are tracked lists or instances -/
def isObj : HO → Bool
  | .lst _ => true
  | .ins _ _ _ => true
  | _ => false
theorem nomark (b : Expr) {op : CmpOp} (h : op ≠ .In := by decide) (h2 : op ≠ .NotIn := by decide) : behindInMarks op b = false := by
  have e1 : (op == CmpOp.In) = false := by cases op <;> first | rfl | exact absurd rfl h
  have e2 : (op == CmpOp.NotIn) = false := by cases op <;> first | rfl | exact absurd rfl h2
  cases b <;> simp [behindInMarks, e1, e2]
/-- a comparison as a value; hm: nomark b, or (for in, not in) by with_unfolding_all rfl -/
theorem pe_cmpR {op : CmpOp} {r : R2} (ho : OpR X (compareOp op) r) (ha : PE X a ta) (hb : PE X b tb) (hm : behindInMarks op b = false) : PE X (.Compare a [op] [b] pos) (tOp r ta tb) := by
  intro pins s σ H Q I h
  exact wpAny_Compare1 (binT ha hb I h fun v u s2 x y H2 I2 rx ry q => ho pins s2 σ H2 x y v u Q I2 rx ry q) hm
/-- a reading of a value as a test -/
def tTest (t : TE) : TT := fun σ H Q => t σ H fun x H' => ∃ k, x = .bl k ∧ Q k H'
theorem pt_cmpR {op : CmpOp} {r : R2} (ho : OpR X (compareOp op) r) (ha : PE X a ta) (hb : PE X b tb) (hm : behindInMarks op b = false) : PT X (.Compare a [op] [b] pos) (tTest (tOp r ta tb)) := by
  intro pins s σ H Q I h
  refine wpAny_isTrue_Compare1 (thn (ha pins s σ H _ I h) fun v s1 ⟨x, H1, I1, r1, q1⟩ => thn (hb pins s1 σ H1 _ I1 q1) fun u s2 ⟨y, H2, I2, r2, q2⟩ =>
    thn (ho pins s2 σ H2 x y v u _ I2 r1 r2 q2) fun c s3 ⟨z, H3, I3, r3, k, e, q3⟩ => ?_) hm
  subst e
  cases r3
  exact wpAny_truthy_bool ⟨H3, I3, q3⟩
/-- a op1 b op2 c -/
def tChain (r r' : R2) (ta tb tc : TE) : TE := fun σ H Q => ta σ H fun x H1 => tb σ H1 fun y H2 => r x y H2 fun z H3 => ∃ k, z = .bl k ∧
  (if k = true then tc σ H3 fun w' H4 => r' y w' H4 Q else Q (.bl false) H3)
/-! ### truth -/
/-- a value's truth by the abstract heap -/
def TruV (K : PySem.W.Frag) (x : V) (H : Hp) (k : Bool) : Prop :=
  match x with
  | .non => k = false
  | .bl b => k = b
  | .int i => k = (i != 0)
  | .str y => y.length ≤ sizeLine ∧ k = ((y.length : Int) != 0)
  | .byt y => y.size ≤ sizeLine ∧ k = ((y.size : Int) != 0)
  | .ref p => (∃ xs, SqL K H p xs ∧ k = !xs.isEmpty) ∨ (∃ xs, SqT K H p xs ∧ k = !xs.isEmpty) ∨ ∃ kvs, H p = some (.dK kvs) ∧ k = !kvs.isEmpty
  | _ => False
theorem line63 : (sizeLine : Nat) < 2 ^ 63 := by rw [sizeLine_eq]; decide
/-! ### strs and bytes -/
def PlainIxT (b : Expr) : Prop := ∀ o i, subscripted b false o i = operate [o, i] (getItem o i)
/-! ### scalar builtins, by CallR -/
theorem vals1 {x : V} {us : List Value} (r : Vals [x] us) : ∃ u, us = [u] ∧ RelV x u := by
  cases r with
  | cons r1 r2 => cases r2; exact ⟨_, rfl, r1⟩
theorem vals2 {x y : V} {us : List Value} (r : Vals [x, y] us) : ∃ u w', us = [u, w'] ∧ RelV x u ∧ RelV y w' := by
  cases r with
  | cons r1 r2 =>
    cases r2 with
    | cons r3 r4 => cases r4; exact ⟨_, _, rfl, r1, r3⟩
theorem call_max2 (hc : X.calm = true) : CallR X (.builtin "max") (fun xs H Q => ∃ i j, xs = [.int i, .int j] ∧ Q (.int (if j > i then j else i)) H) := by
  intro pins s σ H xs us Q I r h
  obtain ⟨i, j, rfl, q⟩ := h
  obtain ⟨u, w', rfl, ⟨t, rfl⟩, ⟨t', rfl⟩⟩ := vals2 r
  refine max_two_ints (I.ok.hd hc) fun h' tk k => ⟨_, H, I.kept k, ?_, q⟩
  by_cases hj : j > i
  · rw [if_pos hj, if_pos hj]; exact ⟨_, rfl⟩
  · rw [if_neg hj, if_neg hj]; exact ⟨_, rfl⟩
theorem call_min2 (hc : X.calm = true) : CallR X (.builtin "min") (fun xs H Q => ∃ i j, xs = [.int i, .int j] ∧ Q (.int (if j < i then j else i)) H) := by
  intro pins s σ H xs us Q I r h
  obtain ⟨i, j, rfl, q⟩ := h
  obtain ⟨u, w', rfl, ⟨t, rfl⟩, ⟨t', rfl⟩⟩ := vals2 r
  refine min_two_ints (I.ok.hd hc) fun h' tk k => ⟨_, H, I.kept k, ?_, q⟩
  by_cases hj : j < i
  · rw [if_pos hj, if_pos hj]; exact ⟨_, rfl⟩
  · rw [if_neg hj, if_neg hj]; exact ⟨_, rfl⟩
/-- len of a str, a bytes, a list, a tuple -/
def LenV (K : PySem.W.Frag) (x : V) (H : Hp) (n : Nat) : Prop :=
  match x with
  | .str y => y.length ≤ sizeLine ∧ n = y.length
  | .byt y => y.size ≤ sizeLine ∧ n = y.size
  | .ref p => (∃ xs, SqL K H p xs ∧ n = xs.length) ∨ ∃ xs, SqT K H p xs ∧ n = xs.length
  | _ => False
end
end L2

namespace L2
open PySem PySem.Spec PyProof.Rows

/-! ### an instance, its attributes a map -/
structure ObjM (h : Heap) (x dx C : Addr) (mA : Str → Option Value) : Prop where
  obj : h.get? x = some (PySem.W.instObj C dx)
  ns : h.Ns1 dx mA
  ne : dx ≠ x

theorem lookIn_ns {h : Heap} {dx : Addr} {mA : Str → Option Value} (n : h.Ns1 dx mA) : ∃ od, h.get? dx = some od ∧ ∀ name, PySem.W.lookIn name od = some (mA name) := by
  obtain ⟨o, es, ep, ho, hd, hk, _, hm⟩ := n
  refine ⟨o, ho, fun name => ?_⟩
  have e := hm name
  unfold nsFind findBy at e
  rw [← Array.find?_toList] at e
  unfold PySem.W.lookIn
  rw [hd]
  dsimp only
  split
  · rename_i y q
    rw [q] at e
    exact congrArg some e
  · rename_i q
    rw [q] at e
    have a : es.toList.any (·.refKey) = false := by
      rw [List.any_eq_false]
      intro y hy
      obtain ⟨z, t, hkey⟩ := hk y (Array.mem_toList_iff.mp hy)
      simp [DictEntry.refKey, hkey]
    have a' : ¬ es.toList.any (·.refKey) = true := by rw [a]; exact Bool.false_ne_true
    rw [if_neg a']
    exact congrArg some e

theorem ObjM.look {h : Heap} {x dx C : Addr} {mA : Str → Option Value} (I : ObjM h x dx C mA) : ∃ od, PySem.W.InstAt h x (PySem.W.instObj C dx) C (some od) ∧ ∀ name, PySem.W.lookIn name od = some (mA name) :=
  let ⟨od, ho, hl⟩ := lookIn_ns I.ns
  ⟨od, ⟨I.obj, rfl, rfl, ho⟩, hl⟩

section
variable {prog : Program} {w : World} {A : Around} {E : Value → Shared → Prop} {s : Shared} {K : PySem.W.Frag} {x dx C f : Addr} {mA : Str → Option Value} {name : Str} {v : Value}

end

/-! ### the attributes as a list of pairs -/
def putF (f : Str) (v : V) : List (Str × V) → List (Str × V)
  | [] => [(f, v)]
  | (g, x) :: r => if g = f then (g, v) :: r else (g, x) :: putF f v r
section
variable {P : Program} {w : World} {H H' : Hp} {h h' : Heap} {a C dx : Addr} {fs fs' : List (Str × V)}
theorem ins_get (hok : HOk P w H h) (e : H a = some (.ins C dx fs)) : ∃ mA, ObjM h a dx C mA ∧ (∀ f, RelO (fs.lookup f) (mA f)) ∧ PySem.Within mA (fs.map (·.1)) ∧ fs.length ≤ 1000 ∧ H dx = some (.own a) := by
  obtain ⟨d, z, ne, ob, mA, n, r, q⟩ := (show ObjOk P w H h a (.ins C dx fs) from hok a _ e)
  exact ⟨mA, ⟨ob, n, ne⟩, r, q, z, d⟩
end

/-! ### what of the text a class must have -/
structure Cls (K : PySem.W.Frag) (C : Addr) : Prop where
  pg : PySem.W.plainGet K C Str.empty = true
  hd : PySem.W.hasDictIn K C = true
  po : PySem.W.plainOver K C = true
  sa : PySem.W.findIn K (.ref C) "__setattr__" = some (some (.builtin "object.__setattr__"))
theorem Cls.get {K : PySem.W.Frag} {C : Addr} (c : Cls K C) (f : Str) : PySem.W.plainGet K C f = true := c.pg
/-- no class of it has the name -/
def NoAttr (K : PySem.W.Frag) (C : Addr) (f : Str) : Prop := PySem.W.findIn K (.ref C) f = some none
/-- a constant of the class -/
structure Con (K : PySem.W.Frag) (C : Addr) (f : Str) (v : V) (u : Value) : Prop where
  at_ : PySem.W.findIn K (.ref C) f = some (some u)
  rel : RelV v u
  get : PySem.W.specialIn K u "__get__" = some none
  cp : PySem.W.copiedNames.contains f = false
/-- a method: a plain def of the class or of one above it -/
structure Meth (K : PySem.W.Frag) (C : Addr) (m : Str) (f : Addr) : Prop where
  at_ : PySem.W.findIn K (.ref C) m = some (some (.ref f))
  fn : PySem.W.isFn K (.ref f) = true
  kp : PySem.W.keepIn K (.ref f) = true

section
variable {X : Cx} {pins : List (Addr × Obj)} {σ : St} {H : Hp} {s : Shared} {a C dx : Addr} {fs : List (Str × V)} {f : Str} {v : V} {A : Around} {E : Value → Shared → Prop}

end

/-! ### readings and rules -/
/-- e.f, an attribute of the instance -/
def tFld (K : PySem.W.Frag) (ta : TE) (f : Str) : TE := fun σ H Q => ta σ H fun x H1 => ∃ a C dx fs v, x = .ref a ∧ H1 a = some (.ins C dx fs) ∧ Cls K C ∧ NoAttr K C f ∧ fs.lookup f = some v ∧ Q v H1
/-- e.f, a constant of the class -/
def tCon (K : PySem.W.Frag) (ta : TE) (f : Str) : TE := fun σ H Q => ta σ H fun x H1 => ∃ a C dx fs v u, x = .ref a ∧ H1 a = some (.ins C dx fs) ∧ Cls K C ∧ Con K C f v u ∧ fs.lookup f = none ∧ Q v H1
/-- e.f = value -/
def sFld (K : PySem.W.Frag) (ta tv : TE) (f : Str) : TS := fun D σ H => tv σ H fun y H1 => ta σ H1 fun x H2 => ∃ a C dx fs, x = .ref a ∧ H2 a = some (.ins C dx fs) ∧ Cls K C ∧ NoAttr K C f ∧ fs.length < 1000 ∧
  D.nx σ (upd H2 a (.ins C dx (putF f y fs)))
/-- an augmented operator on two values -/
def InOp (X : Cx) (op : Operator) (rd : V → V → Hp → VK → Prop) : Prop :=
  ∀ (pins : List (Addr × Obj)) (s : Shared) (σ : St) (H : Hp) (x y : V) (u v : Value) (Q : VK), Inv X pins σ H s → RelV x u → RelV y v → rd x y H Q → wpAny (model X.prog X.w) X.A (inplaceOp op u v) (EP X pins σ Q) X.xe s
/-- e.f op= value -/
def sFldAug (K : PySem.W.Frag) (ta tv : TE) (rd : V → V → Hp → VK → Prop) (f : Str) : TS := fun D σ H => ta σ H fun x H1 => ∃ a C dx fs v, x = .ref a ∧ H1 a = some (.ins C dx fs) ∧ Cls K C ∧ NoAttr K C f ∧ fs.lookup f = some v ∧
  tv σ H1 fun y H2 => rd v y H2 fun z H3 => ∃ dx' fs', H3 a = some (.ins C dx' fs') ∧ fs'.length < 1000 ∧ D.nx σ (upd H3 a (.ins C dx' (putF f z fs')))

section
variable {X : Cx} {o e value : Expr} {f : Str} {pos pos' tpos : Pos} {ta tv : TE}
def rAdd : V → V → Hp → VK → Prop := fun x y H Q => ∃ i j, x = .int i ∧ y = .int j ∧ Q (.int (i + j)) H
def rSub : V → V → Hp → VK → Prop := fun x y H Q => ∃ i j, x = .int i ∧ y = .int j ∧ Q (.int (i - j)) H
end

/-! ### isinstance -/
section
variable {X : Cx} {pins : List (Addr × Obj)} {σ : St} {H : Hp} {s : Shared} {A : Around} {E : Value → Shared → Prop} {Q : Value → Shared → Prop} {c : Value} {b : Bool}
/-- the type of a value, as the fragment's deciders take it; for an instance its class -/
inductive TyOf (K : PySem.W.Frag) (H : Hp) : V → Value → Prop where
  | non : TyOf K H .non (.type "NoneType")
  | bl (x : Bool) : TyOf K H (.bl x) (.type "bool")
  | int (i : Int) : TyOf K H (.int i) (.type "int")
  | str (x : Str) : TyOf K H (.str x) (.type "str")
  | flt (x : UInt64) : TyOf K H (.flt x) (.type "float")
  | lst {a : Addr} {xs : List V} (e : H a = some (.lst xs)) : TyOf K H (.ref a) (.type "list")
  | frz {a : Addr} {o : Obj} {xs : List V} (e : H a = some (.frz o (.lst xs))) : TyOf K H (.ref a) (.type "list")
  | tup {a : Addr} {xs : List V} (e : H a = some (.tup xs)) : TyOf K H (.ref a) (.type "tuple")
  | dK {a : Addr} {kvs : List (Key × V)} (e : H a = some (.dK kvs)) : TyOf K H (.ref a) (.type "dict")
  | dT {a : Addr} {kvs : List (List Key × V)} (e : H a = some (.dT kvs)) : TyOf K H (.ref a) (.type "dict")
  | ins {a C dx : Addr} {fs : List (Str × V)} (e : H a = some (.ins C dx fs)) (cl : Cls K C) (ha : PySem.W.findIn K (.ref C) "__class__" = some (some (.builtin "object.__class__")))
      (hn : PySem.W.specialIn K (.builtin "object.__class__") "__get__" = some (some (.builtin "getset_descriptor.__get__"))) (htk : PySem.W.takesIn K (.builtin "object.__class__") = some true)
      (hm : PySem.W.mroIn K C (.type "object") = some true) : TyOf K H (.ref a) (.ref C)
/-- isinstance(x, c) for one class c, a built-in or an own one: kitOne's answer -/
theorem isinst_ok {x : V} {u t : Value} (I : Inv X pins σ H s) (rx : RelV x u) (ty : TyOf X.K H x t) (e : PySem.W.kitOne X.K t c = some b) (h : ∀ tk, Q (.bool b) { s with toks := tk }) :
    wpAny (model X.prog X.w) A (call (.builtin "isinstance") [u, c]) Q E s := by
  cases ty with
  | non => cases (show u = Value.none from rx); exact PySem.W.kia_one PySem.W.kitx_none I.kIn True.intro e (fun z => nomatch z) h
  | bl y => cases (show u = Value.bool y from rx); exact PySem.W.kia_one PySem.W.kitx_bool I.kIn True.intro e (fun z => nomatch z) h
  | int i => obtain ⟨t, q⟩ := (show ∃ t, u = Value.int i t from rx); cases q; exact PySem.W.kia_one PySem.W.kitx_int I.kIn True.intro e (fun z => nomatch z) h
  | str y => obtain ⟨t, q⟩ := (show ∃ t, u = Value.str y t from rx); cases q; exact PySem.W.kia_one PySem.W.kitx_str I.kIn True.intro e (fun z => nomatch z) h
  | flt y => obtain ⟨t, q⟩ := (show ∃ t, u = Value.float y t from rx); cases q; exact PySem.W.kia_one PySem.W.kitx_float I.kIn True.intro e (fun z => nomatch z) h
  | @lst a xs ea =>
    cases (show u = Value.ref a from rx)
    obtain ⟨_, _, n, _, h1⟩ := (show ObjOk X.prog X.w H s.heap a (.lst xs) from I.hok a _ ea)
    exact PySem.W.kia_one PySem.W.kitx_list I.kIn ⟨_, h1, rfl⟩ e (fun z => nomatch z) h
  | @frz a ob xs ea =>
    cases (show u = Value.ref a from rx)
    obtain ⟨_, _, _, n, _, h1⟩ := (show ObjOk X.prog X.w H s.heap a (.frz ob (.lst xs)) from I.hok a _ ea)
    exact PySem.W.kia_one PySem.W.kitx_list I.kIn ⟨_, h1, rfl⟩ e (fun z => nomatch z) h
  | @tup a xs ea =>
    cases (show u = Value.ref a from rx)
    obtain ⟨_, _, _, p⟩ := (show ObjOk X.prog X.w H s.heap a (.tup xs) from I.hok a _ ea)
    obtain ⟨o, h1, h2, _⟩ := p
    exact PySem.W.kia_one PySem.W.kitx_tuple I.kIn ⟨o, h1, h2⟩ e (fun z => nomatch z) h
  | @dK a kvs ea =>
    cases (show u = Value.ref a from rx)
    obtain ⟨_, _, vs, _, p⟩ := (show ObjOk X.prog X.w H s.heap a (.dK kvs) from I.hok a _ ea)
    obtain ⟨o, es, ep, h1, h2, _⟩ := p
    exact PySem.W.kia_one PySem.W.kitx_dict I.kIn ⟨o, h1, h2.1⟩ e (fun z => nomatch z) h
  | @dT a kvs ea =>
    cases (show u = Value.ref a from rx)
    obtain ⟨_, _, xs, _, o, es, ep, h1, h2, _⟩ := (show ObjOk X.prog X.w H s.heap a (.dT kvs) from I.hok a _ ea)
    exact PySem.W.kia_one PySem.W.kitx_dict I.kIn ⟨o, h1, h2.1⟩ e (fun z => nomatch z) h
  | @ins a C dx fs ea cl ha hn htk hm =>
    cases (show u = Value.ref a from rx)
    obtain ⟨mA, O, _⟩ := ins_get I.hok ea
    obtain ⟨od, J, _⟩ := O.look
    exact PySem.W.kia_one (PySem.W.kitx_own (cl.get _) cl.hd ha hn htk hm) I.kIn J e (fun z => nomatch z) h
end
end L2

namespace L2
open PySem PySem.Spec PyProof.Rows

/-! ### room -/
structure Room (k : Nat) (A : Around) : Prop where
  hd : A.handled = none
  dp : A.depth + 3 * k + 5 < recursionLimit
  un : A.units + 16 * k + 200 < cLine
theorem Room.mono {j k : Nat} {A : Around} (r : Room k A) (h : j ≤ k) : Room j A := ⟨r.hd, by have := r.dp; omega, by have := r.un; omega⟩
theorem Room.deeper {k : Nat} {A : Around} (r : Room (k + 1) A) (env : Env) : Room k (A.deeper env) :=
  ⟨r.hd, by have := r.dp; show A.depth + 1 + 3 * k + 5 < _; omega, by have := r.un; show A.units + 3 + 16 * k + 200 < _; omega⟩
theorem Room.depth {k : Nat} {A : Around} (r : Room k A) : A.depth < recursionLimit := by have := r.dp; omega
theorem Room.units0 {k : Nat} {A : Around} (r : Room k A) : A.units < cLine := by have := r.un; omega

/-! ### argument lists and displays -/
def tNil : TA := fun _ H Q => Q [] H
def tCons (ta : TE) (tr : TA) : TA := fun σ H Q => ta σ H fun x H1 => tr σ H1 fun xs H2 => Q (x :: xs) H2
section
variable {X : Cx} {e : Expr} {es : List Expr} {te : TE} {t : TA} {pos : Pos}
theorem pa_nil : PA X [] tNil := fun _ _ _ _ H Q I h => Calls.spliced_nil ⟨[], H, I, .nil, h⟩
theorem pa_cons (ha : PE X e te) (hr : PA X es t) (hs : starEach (e :: es) X.env = (false, eval e X.env) :: starEach es X.env := by rfl) : PA X (e :: es) (tCons te t) := by
  intro pos pins s σ H Q I h
  rw [hs]
  show wpAny _ _ (spliced ((false, eval e X.env) :: backTo pos (starEach es X.env))) _ _ s
  refine Calls.spliced_cons (thn (ha pins s σ H _ I h) fun u s1 ⟨x, H1, I1, r1, q1⟩ => ?_)
  exact thn (hr pos pins s1 σ H1 _ I1 q1) fun us s2 ⟨xs, H2, I2, r2, q2⟩ => ⟨x :: xs, H2, I2, .cons r1 r2, q2⟩

/-- a tuple, a list of written items -/
def tTup (t : TA) : TE := fun σ H Q => t σ H fun xs H1 => xs.length ≤ sizeLine ∧ ∀ p, H1 p = none → Q (.ref p) (upd H1 p (.tup xs))
def tLst (t : TA) : TE := fun σ H Q => t σ H fun xs H1 => xs.length ≤ sizeLine ∧ ∀ p, H1 p = none → Q (.ref p) (upd H1 p (.lst xs))
theorem pe_tup {x1} (h : PA X es t) : PE X (.Tuple es x1 pos) (tTup t) := by
  intro pins s σ H Q I hq
  refine wpAny_Tuple_spliced (thn (h pos pins s σ H _ I hq) fun us s1 ⟨xs, H1, I1, r, z, q⟩ => ⟨by rw [← r.length]; exact z, ?_⟩)
  have hf : H1 s1.heap.objs.size = none := I1.hok.fresh (Nat.le_refl _)
  refine ⟨.ref s1.heap.objs.size, upd H1 s1.heap.objs.size (.tup xs), I1.laid (t' := s1.toks) (fun b u e => Heap.get?_push_of_some _ e) (Nat.le_refl _) ?_, rfl, q _ hf⟩
  exact ⟨z, us, r, ⟨_, Heap.get?_push_size _ rfl, rfl, _, rfl⟩⟩
theorem pe_lst (h : PA X es t) : PE X (.List es pos) (tLst t) := by
  intro pins s σ H Q I hq
  refine wpAny_List_spliced (thn (h pos pins s σ H _ I hq) fun us s1 ⟨xs, H1, I1, r, z, q⟩ => ⟨by rw [← r.length]; exact z, ?_⟩)
  have hf : H1 s1.heap.objs.size = none := I1.hok.fresh (Nat.le_refl _)
  refine ⟨.ref s1.heap.objs.size, upd H1 s1.heap.objs.size (.lst xs), I1.laid (t' := s1.toks) (fun b u e => Heap.get?_push_of_some _ e) (Nat.le_refl _) ?_, rfl, q _ hf⟩
  exact ⟨z, us, 0, r, Heap.get?_push_size _ rfl⟩
end

/-! ### what a def promises -/
/-- a def's promise: the bound arguments in the parameters' order, the heap, the wanted end, the wanted exception -/
abbrev Sp := List V → Hp → VK → XK → Prop
/-- how an exception lies behind a call (file 08 gives it): the callers' frames, abstract heap and state ahead of the call, the wish, the exception, the state -/
abbrev CXT := List Env → Hp → Shared → XK → Value → Shared → Prop

/-- the state at a call -/
structure Env0 (P : Program) (w : World) (K : PySem.W.Frag) (mg : Str → Option Value) (base : Heap) (A : Around) (outer : List Env) (s : Shared) (H : Hp) : Prop where
  frames : A.frames = some outer
  mod : Mod K mg base
  bs : ∀ b o, base.get? b = some o → s.heap.get? b = some o ∧ H b = none
  bsz : base.objs.size ≤ s.heap.objs.size
  funs : s.heap.FunFrames base outer
  frf : ∀ b ∈ frs outer, H b = none
  hok : HOk P w H s.heap
  bare : AllBare s.gens
/-- a call's end -/
def CE (outer : List Env) (P : Program) (w : World) (H : Hp) (s : Shared) (Q : VK) (u : Value) (s' : Shared) : Prop :=
  ∃ v H', s'.os = s.os ∧ AllBare s'.gens ∧ Un (frs outer) [] H H' s.heap s'.heap ∧ HOk P w H' s'.heap ∧ RelV v u ∧ Q v H'
def CR (CX : CXT) (outer : List Env) (P : Program) (w : World) (H : Hp) (s : Shared) (Q : VK) (E : XK) (r : Result) (s' : Shared) : Prop :=
  match r with
  | .ok (.ret u) => CE outer P w H s Q u s'
  | .ok _ => False
  | .error e => CX outer H s E e s'
structure FnOk (P : Program) (w : World) (K : PySem.W.Frag) (mg : Str → Option Value) (base : Heap) (CX : CXT) (k : Nat) (f : Addr) (fd : FuncData) (ps : List Str) (sp : Sp) : Prop where
  len : ∀ vs H Q E, sp vs H Q E → vs.length = ps.length
  run : ∀ (A : Around) (outer : List Env) (s : Shared) (H : Hp) (args : Args) (us : List Value) (vs : List V) (Q : VK) (E : XK), Room k A → Env0 P w K mg base A outer s H → BindsTo s fd args (ps.zip us) → Vals vs us → sp vs H Q E →
    codeAny (model P w) A (.call (.ref f) args) (CR CX outer P w H s Q E) s
section
variable {X : Cx} {pins : List (Addr × Obj)} {σ : St} {H : Hp} {s s' : Shared}
/-- from a body: what a callee wants -/
theorem Inv.env0 (I : Inv X pins σ H s) : Env0 X.prog X.w X.K X.mg X.base X.A X.stack s H :=
  ⟨I.ok.frames, I.ok.mod, I.bs, Nat.le_trans I.ok.bsz I.sz, I.stack, I.stkFree, I.hok, I.bare⟩
/-- behind a call -/
theorem Inv.after {Q : VK} {u : Value} (I : Inv X pins σ H s) (h : CE X.stack X.prog X.w H s Q u s') : EP X pins σ Q u s' := by
  obtain ⟨v, H', os, bare, un, hok, r, q⟩ := h
  obtain ⟨hh, g, d, t, os'⟩ := s'
  obtain rfl : os' = s.os := os
  exact ⟨v, H', I.call (h' := hh) (g' := g) (d' := d) (t' := t) (ch := []) un hok bare (fun b z => absurd z (by simp)), r, q⟩
end

/-! ### calls -/
/-- f(..): the written arguments, then the defaults dvs; E: what is wanted of an exception -/
def tCall (sp : Sp) (dvs : List V) (E : XK) (t : TA) : TE := fun σ H Q => t σ H fun vs H1 => sp (vs ++ dvs) H1 Q E
/-- o.m(..) of an instance of the class at C -/
def tMeth (C : Addr) (m : Str) (sp : Sp) (dvs : List V) (E : XK) (ta : TE) (t : TA) : TE := fun σ H Q => ta σ H fun x H1 => ∃ a dx fs, x = .ref a ∧ H1 a = some (.ins C dx fs) ∧ fs.lookup m = none ∧
  t σ H1 fun vs H2 => sp (x :: (vs ++ dvs)) H2 Q E
/-- C(..): a new instance and its dict, then __init__ -/
def tMake (C : Addr) (sp : Sp) (dvs : List V) (E : XK) (t : TA) : TE := fun σ H Q => t σ H fun vs H1 => ∀ x dx, H1 x = none → H1 dx = none → dx ≠ x →
  sp (.ref x :: (vs ++ dvs)) (upd (upd H1 dx (.own x)) x (.ins C dx [])) (fun v H2 => v = .non ∧ Q (.ref x) H2) E

/-- how the parameters are bound: us the positional arguments, kw the keywords' values by name, ds the defaults that fill up -/
def Binds (K : PySem.W.Frag) (fd : FuncData) (ps : List Str) (ds : List Value) : Prop :=
  ∀ (s : Shared) (us : List Value), K.In s.heap → (us ++ ds).length = ps.length → BindsTo s fd ⟨us, []⟩ (ps.zip (us ++ ds))
/-- every parameter is given -/
theorem Binds.all {K : PySem.W.Frag} {fd : FuncData} {ps : List Str} (h : ∀ us : List Value, us.length = ps.length → bindArgs fd ⟨us, []⟩ = pure (ps.zip us)) : Binds K fd ps [] := fun s us _ hl => by
  rw [List.append_nil] at hl ⊢
  exact .of_eq (h us hl)

/-- an exception of a callee reaches what this body wants of exceptions -/
def Passes (CX : CXT) (X : Cx) (E : XK) : Prop := ∀ (pins : List (Addr × Obj)) (σ : St) (H : Hp) (s : Shared) (e : Value) (s' : Shared), Inv X pins σ H s → CX X.stack H s E e s' → X.xe e s'

section
variable {X : Cx} {CX : CXT} {k : Nat} {f C : Addr} {fd : FuncData} {ps : List Str} {sp : Sp} {dvs : List V} {ds : List Value} {E : XK} {x m : Str} {p pos apos : Pos} {e o : Expr} {es : List Expr} {ta : TE} {t : TA}

/-- the callee runs -/
theorem run_fn {pins : List (Addr × Obj)} {σ : St} {H : Hp} {s : Shared} {Q : VK} {us : List Value} {vs : List V} (F : FnOk X.prog X.w X.K X.mg X.base CX k f fd ps sp) (hr : Room k X.A) (hb : Binds X.K fd ps ds) (hd : Vals dvs ds) (hx : Passes CX X E)
    (I : Inv X pins σ H s) (r : Vals vs us) (h : sp (vs ++ dvs) H Q E) : wpAny (model X.prog X.w) X.A (call (.ref f) us) (EP X pins σ Q) X.xe s := by
  have r2 : Vals (vs ++ dvs) (us ++ ds) := r.append hd
  have hl : (us ++ ds).length = ps.length := by rw [← r2.length]; exact F.len _ _ _ _ h
  refine wpAny_call (codeAny_mono (F.run X.A X.stack s H ⟨us, []⟩ (us ++ ds) (vs ++ dvs) Q E hr I.env0 (hb s us I.kIn hl) r2 h) fun r s' hq => ?_)
  cases r with
  | error e => exact hx pins σ H s e s' I hq
  | ok fl =>
    cases fl with
    | ret u => exact I.after hq
    | next => exact False.elim hq
    | brk => exact False.elim hq
    | cont => exact False.elim hq

theorem pe_call (F : FnOk X.prog X.w X.K X.mg X.base CX k f fd ps sp) (hr : Room k X.A) (hg : Gl X x) (hm : X.mg x = some (.ref f)) (hk : PySem.W.keepIn X.K (.ref f) = true) (hb : Binds X.K fd ps ds) (hd : Vals dvs ds) (hx : Passes CX X E)
    (ha : PA X (e :: es) t) (hdb : (x == ("__debug__" : Str)) = false := by decide) (he : starEach (e :: es) X.env = (false, eval e X.env) :: starEach es X.env := by rfl) (hpl : (backTo pos (starEach es X.env)).any (·.1) = false := by rfl) :
    PE X (.Call (.Name x p) (e :: es) [] pos) (tCall sp dvs E t) := by
  intro pins s σ H Q I h
  refine wpAny_Call_Name_kw (ld_glob I hg hm ?_ hdb)
  refine PySem.W.callWith_K (h₀ := X.base) I.ok.mod.kin hk (thn (ha pos pins s σ H _ I h) fun us s1 ⟨vs, H1, I1, r, q⟩ => ⟨I1.kIn, ?_⟩) he hpl
  exact run_fn F hr hb hd hx I1 r q
/-- what a class must have to be made -/
structure Mk (K : PySem.W.Frag) (C f : Addr) : Prop where
  makes : PySem.W.makesIn K C = true
  init : PySem.W.findIn K (.ref C) "__init__" = some (some (.ref f))
  fn : PySem.W.isFn K (.ref f) = true
  kp : PySem.W.keepIn K (.ref C) = true

end

/-! ### keywords -/
/-- the values of the keywords, from the left -/
def PK (X : Cx) (kws : List Keyword) (t : TA) : Prop :=
  ∀ (pos : Pos) (pins : List (Addr × Obj)) (s : Shared) (σ : St) (H : Hp) (Q : List V → Hp → Prop), Inv X pins σ H s → t σ H Q → wpAny (model X.prog X.w) X.A (evalAll ((backToKw pos (keywordEach kws X.env)).map (·.2))) (AP X pins σ Q) X.xe s
section
variable {X : Cx} {CX : CXT} {k : Nat} {f C : Addr} {fd : FuncData} {ps ks : List Str} {sp : Sp} {E : XK} {x m : Str} {p pos apos kpos : Pos} {e o : Expr} {es : List Expr} {kws : List Keyword} {te ta : TE} {t tk : TA} {nm : Option Str}
/-- how a call with keywords binds: g puts the positional values us and the keywords' values ws (names ks) in the parameters' order, defaults among them -/
structure KBinds (K : PySem.W.Frag) (fd : FuncData) (ps ks : List Str) (g : List Value → List Value → List Value) (gV : List V → List V → List V) : Prop where
  to : ∀ (s : Shared) (us ws : List Value), K.In s.heap → (g us ws).length = ps.length → BindsTo s fd ⟨us, ks.zip ws⟩ (ps.zip (g us ws))
  rel : ∀ {vs : List V} {us : List Value} {zs : List V} {ws : List Value}, Vals vs us → Vals zs ws → Vals (gV vs zs) (g us ws)
def tCallK (sp : Sp) (gV : List V → List V → List V) (E : XK) (t tk : TA) : TE := fun σ H Q => t σ H fun vs H1 => tk σ H1 fun zs H2 => sp (gV vs zs) H2 Q E
variable {g : List Value → List Value → List Value} {gV : List V → List V → List V}
end

/-! ### a def's body keeps its promise -/
/-- names: the parameters first -/
structure FnScope (N P : List Str) (sc : Scope) : Prop where
  kind : sc.kind = .function
  co : sc.isCoroutine = false
  gen : sc.isGenerator = false
  nd : N.Nodup
  pre : N.take P.length = P
  par : ∀ x ∈ P, sc.names.lookup x = some .local ∨ sc.names.lookup x = some .cell
  nofree : ∀ y ∈ sc.names, y.2 ≠ .free

theorem bindL_out {kindOf : Str → Option NameKind} {x : Str} : ∀ {binds : List (Str × Value)} {m : Str → Option Value}, (∀ v, (x, v) ∉ binds) → bindL kindOf binds m x = m x
  | [], _, _ => rfl
  | (n, v) :: r, m, h => by
    unfold bindL
    rw [bindL_out fun w hw => h w (List.mem_cons_of_mem _ hw)]
    split
    · have : x ≠ n := by rintro rfl; exact h v List.mem_cons_self
      simp [this]
    · rfl
theorem bindC_out {kindOf : Str → Option NameKind} {x : Str} : ∀ {binds : List (Str × Value)} {m : Str → Option Value}, (∀ v, (x, v) ∉ binds) → bindC kindOf binds m x = m x
  | [], _, _ => rfl
  | (n, v) :: r, m, h => by
    unfold bindC
    rw [bindC_out fun w hw => h w (List.mem_cons_of_mem _ hw)]
    split
    · rfl
    · have : x ≠ n := by rintro rfl; exact h v List.mem_cons_self
      simp [this]
theorem bindL_get {kindOf : Str → Option NameKind} {x : Str} {v : Value} : ∀ {P : List Str} {vs : List Value} {i : Nat} {m : Str → Option Value}, P.Nodup → P[i]? = some x → vs[i]? = some v → kindOf x = some .local →
    bindL kindOf (P.zip vs) m x = some v
  | [], _, _, _, _, h, _, _ => by simp at h
  | _ :: _, [], _, _, _, _, h, _ => by simp at h
  | p :: P, w :: vs, 0, m, nd, h1, h2, hk => by
    simp at h1 h2; subst h1; subst h2
    show bindL kindOf ((p, w) :: P.zip vs) m p = _
    unfold bindL
    rw [bindL_out fun v hv => (List.nodup_cons.mp nd).1 (List.of_mem_zip hv).1, if_pos hk]
    simp
  | p :: P, w :: vs, i + 1, m, nd, h1, h2, hk => by
    show bindL kindOf ((p, w) :: P.zip vs) m x = _
    unfold bindL
    exact bindL_get (i := i) (List.nodup_cons.mp nd).2 (by simpa using h1) (by simpa using h2) hk
theorem bindC_get {kindOf : Str → Option NameKind} {x : Str} {v : Value} : ∀ {P : List Str} {vs : List Value} {i : Nat} {m : Str → Option Value}, P.Nodup → P[i]? = some x → vs[i]? = some v → kindOf x ≠ some .local →
    bindC kindOf (P.zip vs) m x = some v
  | [], _, _, _, _, h, _, _ => by simp at h
  | _ :: _, [], _, _, _, _, h, _ => by simp at h
  | p :: P, w :: vs, 0, m, nd, h1, h2, hk => by
    simp at h1 h2; subst h1; subst h2
    show bindC kindOf ((p, w) :: P.zip vs) m p = _
    unfold bindC
    rw [bindC_out fun v hv => (List.nodup_cons.mp nd).1 (List.of_mem_zip hv).1, if_neg hk]
    simp
  | p :: P, w :: vs, i + 1, m, nd, h1, h2, hk => by
    show bindC kindOf ((p, w) :: P.zip vs) m x = _
    unfold bindC
    exact bindC_get (i := i) (List.nodup_cons.mp nd).2 (by simpa using h1) (by simpa using h2) hk

/-- the names' values at the entry -/
def start (N : List Str) (vs : List V) : St := vs.map some ++ List.replicate (N.length - vs.length) none

/-- the context of a def's body, at its entry; an exception leaves the frame, then lies as CX says -/
def cxOf (CX : CXT) (P : Program) (w : World) (K : PySem.W.Frag) (mg : Str → Option Value) (base : Heap) (N : List Str) (qual : Str) (scope : Scope) (f : Addr) (cd : Value) (A : Around) (outer : List Env) (s : Shared) (H : Hp) (E : XK) : Cx where
  prog := P
  w := w
  K := K
  mg := mg
  base := base
  A := A.deeper (envOfC qual scope s.heap.objs.size f cd)
  N := N
  s₀ := s
  H₀ := H
  env := envOfC qual scope s.heap.objs.size f cd
  outer := outer
  stack := envOfC qual scope s.heap.objs.size f cd :: outer
  ex := []
  calm := true
  fn := fun _ => true
  pn := []
  xe := fun e s' => wpAny (model P w) (A.deeper (envOfC qual scope s.heap.objs.size f cd)) (leaving (envOfC qual scope s.heap.objs.size f cd) e) (fun _ s'' => CX outer H s E e s'') (fun e' s'' => CX outer H s E e' s'') s'

theorem cell_has {sc : Scope} {n : Nat} {x : Str} (h : sc.names.lookup x = some .cell) : ∃ c, (cellsFrom n sc.names []).lookup x = some c := by
  have q := PySem.W.cellsFrom_some sc.names n [] (.inl h)
  exact Option.isSome_iff_exists.mp q

theorem inv_start {CX : CXT} {P : Program} {w : World} {K : PySem.W.Frag} {mg : Str → Option Value} {base : Heap} {N ps : List Str} {qual : Str} {scope : Scope} {f : Addr} {cd : Value} {A : Around} {outer : List Env} {s s1 : Shared} {H : Hp} {E : XK} {us : List Value} {vs : List V}
    (S : FnScope N ps scope) (hd : A.handled = none) (e0 : Env0 P w K mg base A outer s H) (hl : vs.length = ps.length) (r : Vals vs us)
    (x : InCallC s s.heap.objs.size (bindL (envOfC qual scope s.heap.objs.size f cd).kindOf (ps.zip us) fun _ => none) (cellsFrom (s.heap.objs.size + 1) scope.names []) (bindC (envOfC qual scope s.heap.objs.size f cd).kindOf (ps.zip us) fun _ => none) s1) :
    Inv (cxOf CX P w K mg base N qual scope f cd A outer s H E) [] (start N vs) H s1 := by
  have hpl : ps.length ≤ N.length := by have := congrArg List.length S.pre; rw [List.length_take] at this; omega
  obtain ⟨h1, tk, rfl, hk⟩ := x.done
  have noA : ∀ b : Addr, b ∉ (cxOf CX P w K mg base N qual scope f cd A outer s H E).ex := fun b z => absurd (show b ∈ ([] : List Addr) from z) (by simp)
  refine ⟨⟨e0.mod, S.kind, rfl, rfl, Nat.le_refl _, fun y z c h1 h2 => ?_, fun y hy => ?_, fun y c _ h => ?_, fun _ => hd, Around.frames_deeper e0.frames, .inr ⟨rfl, rfl⟩, fun b z => absurd z (noA b), e0.bs, e0.bsz, fun b _ _ => noA b, fun b z => absurd z (noA b), e0.funs, e0.frf⟩,
    rfl, e0.bare, Un.kept hk, ⟨_, x.toInCall.ns, fun i y v h1 h2 h3 => ?_⟩, fun y c h => ⟨_, x.cell y c h⟩, e0.hok.fresh (Nat.le_refl _), fun y c h => ?_, fun p hp => absurd (show p ∈ ([] : List (Addr × Obj)) from hp) (by simp), e0.hok.kept hk, ?_⟩
  · exact name_of_addr x.apart (PySem.mem_of_lookup h1) (PySem.mem_of_lookup h2)
  · have hy : scope.names.lookup y = some .cell ∨ scope.names.lookup y = some .free := hy
    rcases hy with hy | hy
    · exact cell_has hy
    · exact absurd rfl (S.nofree _ (PySem.mem_of_lookup hy))
  · exact Nat.le_of_lt (x.above y c (PySem.mem_of_lookup h))
  · have hi : i < vs.length := by
      unfold start at h2
      by_cases hi : i < vs.length
      · exact hi
      · rw [List.getElem?_append_right (by simpa using hi)] at h2
        rw [List.getElem?_replicate] at h2
        split at h2 <;> cases h2
    have ha : vs[i]? = some v := by
      unfold start at h2
      rw [List.getElem?_append_left (by simpa using hi), List.getElem?_map] at h2
      cases e : vs[i]? with
      | none => rw [e] at h2; cases h2
      | some a => rw [e] at h2; cases h2; rfl
    obtain ⟨u, hu, rv⟩ := r.get ha
    have hp : ps[i]? = some y := by
      rw [← S.pre, List.getElem?_take_of_lt (by omega)]; exact h1
    have ndP : ps.Nodup := by rw [← S.pre]; exact S.nd.sublist (List.take_sublist _ _)
    refine ⟨u, rv, ?_⟩
    rcases S.par y (List.mem_of_getElem? hp) with k | k
    · exact .inl ⟨k, bindL_get ndP hp hu k⟩
    · obtain ⟨c, e⟩ := cell_has (n := s.heap.objs.size + 1) k
      refine .inr ⟨.inl k, c, e, ?_⟩
      have q := x.cell y c e
      rw [bindC_get ndP hp hu (by show scope.names.lookup y ≠ _; rw [k]; decide)] at q
      exact q
  · exact e0.hok.fresh (Nat.le_of_lt (x.above y c (PySem.mem_of_lookup h)))
  · unfold start
    show _ = N.length
    rw [List.length_append, List.length_map, List.length_replicate]
    omega

/-- THE RULE: a def (or a method) of the text, by its body. The body's reading t is chosen for each entry; it is run at the parameters' values -/
theorem fn_of {CX : CXT} {P : Program} {w : World} {K : PySem.W.Frag} {mg : Str → Option Value} {base : Heap} {k : Nat} {f : Addr} {name qual : Str} {params : Arguments} {body : List Stmt} {scope : Scope} {dV kV doc pm cdv ct oc : Value} {an od : Option Addr}
    {osl : Array (Option Value)} {N ps : List Str} {sp : Sp} (lk : K.lookup f = some ⟨oc, od, .func (PySem.W.fnOf name qual params body scope dV kV doc pm an cdv ct), osl⟩) (hcd : PySem.W.codeIn K cdv qual = true) (S : FnScope N ps scope)
    (len : ∀ vs H Q E, sp vs H Q E → vs.length = ps.length)
    (hbody : ∀ (A : Around) (outer : List Env) (s : Shared) (H : Hp) (vs : List V) (Q : VK) (E : XK), Room k (A.deeper (envOfC qual scope s.heap.objs.size f cdv)) → sp vs H Q E →
      ∃ t, PSs (cxOf CX P w K mg base N qual scope f cdv A outer s H E) body t ∧ t { nx := fun _ H' => Q .non H', rt := Q } (start N vs) H) :
    FnOk P w K mg base CX (k + 1) f (PySem.W.fnOf name qual params body scope dV kV doc pm an cdv ct) ps sp := by
  refine ⟨len, fun A outer s H args us vs Q E hr e0 hb r hsp => ?_⟩
  have hl := len _ _ _ _ hsp
  have KX : K.In s.heap := e0.mod.kin.keeps fun b o e => (e0.bs b o e).1
  have lim : s.heap.NoLimit := e0.mod.nolimit.keeps fun b o e => (e0.bs b o e).1
  have hkind : ∀ y ∈ ps.zip us, scope.names.lookup y.1 = some .local ∨ (scope.names.lookup y.1 = some .cell ∧ ((cellsFrom (s.heap.objs.size + 1) scope.names []).lookup y.1).isSome = true) := fun ⟨n, v⟩ hy => by
    rcases S.par n (List.of_mem_zip hy).1 with q | q
    · exact .inl q
    · exact .inr ⟨q, PySem.W.cellsFrom_some _ _ _ (.inl q)⟩
  refine codeAny_call_function hr.depth (KX _ _ lk) rfl S.co S.gen rfl (PySem.W.codeRec_of KX hcd) (hb _ _ _ _ ?_)
  refine wpAny_newFunctionEnv_cells S.kind hkind fun env he s1 x => ?_
  subst he
  refine ⟨lim.keeps x.toInCall.keep, codeAny_func ?_⟩
  obtain ⟨t, ht, hq⟩ := hbody A outer s H vs Q E (hr.deeper _) hsp
  have I : Inv (cxOf CX P w K mg base N qual scope f cdv A outer s H E) [] (start N vs) H s1 := inv_start S hr.hd e0 hl r x
  refine wpAny_mono (ht [] s1 (start N vs) H _ I hq) (fun fl s' hs => ?_) fun e s' hs => hs
  have fin : ∀ {σ' : St} {H' : Hp} {v : V} {u : Value}, Inv (cxOf CX P w K mg base N qual scope f cdv A outer s H E) [] σ' H' s' → RelV v u → Q v H' → CE outer P w H s Q u s' :=
    fun {σ' H' v u} J rv q => ⟨v, H', J.os, J.bare, J.base, J.hok, rv, q⟩
  cases fl with
  | ret u =>
    obtain ⟨v, σ', H', J, rv, q⟩ := hs
    exact fin J rv q
  | next =>
    obtain ⟨σ', H', J, q⟩ := hs
    exact fin (v := V.non) (u := Value.none) J rfl q
  | brk =>
    obtain ⟨_, _, _, q⟩ := hs
    exact False.elim q
  | cont =>
    obtain ⟨_, _, _, q⟩ := hs
    exact False.elim q
end L2

namespace L2
open PySem PySem.Spec PyProof.Rows
section
variable {X : Cx} {x : Str} {p pos : Pos} {e : Expr} {es : List Expr} {t : TA} {id T : String} {r : List V → Hp → VK → Prop}

def tCB (r : List V → Hp → VK → Prop) (t : TA) : TE := fun σ H Q => t σ H fun vs H1 => r vs H1 Q
/-- f(e, ..), f a built-in function -/
theorem pe_callB (hc : CallR X (.builtin id) r) (hg : Gl X x) (hm : X.mg x = none) (hv : bootBuiltins x = some (.builtin id)) (ha : PA X (e :: es) t) (hn : x ≠ "__name__" := by decide) (hdb : (x == ("__debug__" : Str)) = false := by decide)
    (he : starEach (e :: es) X.env = (false, eval e X.env) :: starEach es X.env := by rfl) (hpl : (backTo pos (starEach es X.env)).any (·.1) = false := by rfl) : PE X (.Call (.Name x p) (e :: es) [] pos) (tCB r t) := by
  intro pins s σ H Q I h
  refine wpAny_Call_Name_kw (ld_blt I hg hm hv ?_ hn hdb)
  exact PyProof.Rows.callWith_builtin1 (thn (ha pos pins s σ H _ I h) fun us s1 ⟨vs, H1, I1, r1, q1⟩ => hc pins s1 σ H1 vs us Q I1 r1 q1) he hpl
/-- T(e, ..), T a built-in type -/
theorem pe_callTy (hc : CallR X (.type T) r) (hg : Gl X x) (hm : X.mg x = none) (hv : bootBuiltins x = some (.type T)) (ha : PA X (e :: es) t) (hn : x ≠ "__name__" := by decide) (hdb : (x == ("__debug__" : Str)) = false := by decide)
    (he : starEach (e :: es) X.env = (false, eval e X.env) :: starEach es X.env := by rfl) (hpl : (backTo pos (starEach es X.env)).any (·.1) = false := by rfl) : PE X (.Call (.Name x p) (e :: es) [] pos) (tCB r t) := by
  intro pins s σ H Q I h
  refine wpAny_Call_Name_kw (ld_blt I hg hm hv ?_ hn hdb)
  exact PyProof.Rows.callWith_type1 (thn (ha pos pins s σ H _ I h) fun us s1 ⟨vs, H1, I1, r1, q1⟩ => hc pins s1 σ H1 vs us Q I1 r1 q1) he hpl
end
end L2

namespace HT
open PySem PyProof.Rows

/-- t < u of tuples of ints -/
def lexLt : List Int → List Int → Bool
  | [], [] => false
  | [], _ :: _ => true
  | _ :: _, [] => false
  | x :: xs, y :: ys => if x = y then lexLt xs ys else decide (x < y)
section
open PySem.SeqAt
open PySem.AutoSeq1 (wpAny_loadPart')
open PySem.MeetsSeq PySem.MeetsSeq2 PySem.MeetsSeq3

end

section
variable {prog : Program} {w : World} {A : Around} {E : Value → Shared → Prop} {s : Shared}

/-! ### t[a:b], not the whole -/
/-- a slice's bound as a place among n (d where it is left out) -/
def sIx (n d : Nat) : Option Int → Nat
  | none => d
  | some v => if v < 0 then (v + (n : Int)).toNat else min v.toNat n
end
end HT

namespace L2
open PySem PySem.Spec PyProof.Rows

/-! ### the parts of a slice -/
abbrev TO := St → Hp → (Option Int → Hp → Prop) → Prop
/-- a slice's part (left out, or an int) -/
def PO (X : Cx) (e : Option Expr) (t : TO) : Prop :=
  ∀ (pins : List (Addr × Obj)) (s : Shared) (σ : St) (H : Hp) (Q : Option Int → Hp → Prop), Inv X pins σ H s → t σ H Q →
    wpAny (model X.prog X.w) X.A (evalPart e X.env) (fun u s' => ∃ o H', Inv X pins σ H' s' ∧ IsPart u o ∧ Q o H') X.xe s
def tNoPart : TO := fun _ H Q => Q none H
def tPart (t : TE) : TO := fun σ H Q => t σ H fun x H1 => ∃ i, x = .int i ∧ Q (some i) H1

theorem intsAre_of {ns : List Int} : ∀ {us : List Value}, Vals (ns.map V.int) us → IntsAre us ns := by
  induction ns with
  | nil => intro us r; rw [List.map_nil] at r; cases r; exact .nil
  | cons n ns ih =>
    intro us r
    rw [List.map_cons] at r
    cases r with
    | cons r1 r2 =>
      obtain ⟨t, e⟩ := r1
      subst e
      exact .cons n t (ih r2)

section
variable {X : Cx} {e : Expr} {te : TE} {lo hi : Option Expr} {tl th : TO} {pos p2 : Pos}

theorem po_none : PO X none tNoPart := by
  intro pins s σ H Q I h
  rw [evalPart_none]
  exact wpAny_pure ⟨none, H, I, .none, h⟩
theorem po_some (h : PE X e te) : PO X (some e) (tPart te) := by
  intro pins s σ H Q I hw
  rw [evalPart_some]
  refine thn (h pins s σ H _ I hw) fun u s1 ⟨x, H1, I1, r1, q1⟩ => ?_
  obtain ⟨i, rfl, q⟩ := q1
  obtain ⟨t, rfl⟩ := r1
  exact ⟨some i, H1, I1, .int i t, q⟩

/-- what a slice of a value is, by values: the slice object stands at sl -/
def SlR (X : Cx) (r : V → Option Int → Option Int → Hp → VK → Prop) : Prop :=
  ∀ (pins : List (Addr × Obj)) (s : Shared) (σ : St) (H : Hp) (x : V) (v vl vu : Value) (lo hi : Option Int) (sl : Addr) (Q : VK), Inv X pins σ H s → RelV x v → s.heap.IsSliceOf sl vl vu .none → IsPart vl lo → IsPart vu hi → r x lo hi H Q →
    ∃ T id, typeLookup (.type T) "__getitem__" = pure (some (.builtin id)) ∧ s.TypeIs v T ∧ wpAny (model X.prog X.w) X.A (getItem v (.ref sl)) (EP X pins σ Q) X.xe s
def tSl (r : V → Option Int → Option Int → Hp → VK → Prop) (te : TE) (tl th : TO) : TE := fun σ H Q => te σ H fun x H1 => tl σ H1 fun l H2 => th σ H2 fun u H3 => r x l u H3 Q
/-- a[lo:hi], any a -/
theorem pe_slice {r : V → Option Int → Option Int → Hp → VK → Prop} (hr : SlR X r) (he : PE X e te) (hl : PO X lo tl) (hu : PO X hi th) : PE X (.Subscript e (.Slice lo hi none p2) pos) (tSl r te tl th) := by
  intro pins s σ H Q I h
  refine Subscript_ (thn (he pins s σ H _ I h) fun v s1 ⟨x, H1, I1, r1, q1⟩ => ?_)
  refine wpAny_Slice (thn (hl pins s1 σ H1 _ I1 q1) fun vl s2 ⟨l, H2, I2, pl, q2⟩ => thn (hu pins s2 σ H2 _ I2 q2) fun vu s3 ⟨u, H3, I3, pu, q3⟩ => ?_)
  rw [evalPart_none]
  refine wpAny_pure ?_
  have I4 : Inv X pins σ H3 { s3 with heap := s3.heap.push { cls := .type "slice", data := .fields #[vl, vu, .none] } } := I3.kept (t' := s3.toks) fun b ob q => Heap.get?_push_of_some _ q
  obtain ⟨T, id, hT, ht, hg⟩ := hr pins { s3 with heap := s3.heap.push { cls := .type "slice", data := .fields #[vl, vu, .none] } } σ H3 x v vl vu l u s3.heap.objs.size Q I4 r1 (Heap.IsSliceOf.new ..) pl pu q3
  show wpAny (model X.prog X.w) X.A (subscriptTail e (.Slice lo hi none p2) v (.ref s3.heap.objs.size)) (EP X pins σ Q) X.xe { s3 with heap := s3.heap.push { cls := .type "slice", data := .fields #[vl, vu, .none] } }
  exact tail_any (ops := [.ref s3.heap.objs.size, v]) ht hT hg (by with_unfolding_all rfl)

/-- the items of xs[lo:hi] -/
def cutV (xs : List V) (lo hi : Option Int) : List V := (xs.drop (HT.sIx xs.length 0 lo)).take (HT.sIx xs.length xs.length hi - HT.sIx xs.length 0 lo)
theorem cutV_length (xs : List V) (lo hi : Option Int) : (cutV xs lo hi).length ≤ xs.length := by
  unfold cutV
  rw [List.length_take, List.length_drop]
  omega
/-- t[lo:hi], not the whole of it (the whole would be t itself) -/
def rSlT (K : PySem.W.Frag) : V → Option Int → Option Int → Hp → VK → Prop := fun x lo hi H Q => ∃ a xs, x = .ref a ∧ SqT K H a xs ∧
  ¬ (HT.sIx xs.length 0 lo = 0 ∧ HT.sIx xs.length xs.length hi = xs.length) ∧ ∀ p, H p = none → Q (.ref p) (upd H p (.tup (cutV xs lo hi)))
/-! ### t < u, t + u -/
def rLtT (K : PySem.W.Frag) : R2 := fun x y H Q => ∃ a b ns ms, x = .ref a ∧ y = .ref b ∧ SqT K H a (ns.map V.int) ∧ SqT K H b (ms.map V.int) ∧ Q (.bl (HT.lexLt ns ms)) H
/-- t + u, t not empty: u empty gives t itself -/
def rCatT (K : PySem.W.Frag) : R2 := fun x y H Q => ∃ a b xs ys, x = .ref a ∧ y = .ref b ∧ SqT K H a xs ∧ SqT K H b ys ∧ xs ≠ [] ∧ xs.length + ys.length ≤ sizeLine ∧
  (ys = [] → Q (.ref a) H) ∧ (ys ≠ [] → ∀ p, H p = none → Q (.ref p) (upd H p (.tup (xs ++ ys))))
end
end L2

namespace L2
open PySem PySem.Spec PyProof.Rows

/-! ### places -/
/-- the place that an index of any sign means -/
def ixN (n : Nat) (i : Int) : Option Nat := if 0 ≤ i then (if i < n then some i.toNat else none) else if -(n : Int) ≤ i then some (i + n).toNat else none
def atI {α : Type} (xs : List α) (i : Int) : Option α := (ixN xs.length i).bind fun j => xs[j]?
theorem ixN_seq {n : Nat} {i : Int} {j : Nat} (h : ixN n i = some j) : seqIndex? i n = some j ∧ j < n ∧ -(n : Int) ≤ i ∧ i < n := by
  unfold ixN at h
  by_cases h0 : 0 ≤ i
  · rw [if_pos h0] at h
    by_cases h1 : i < n
    · rw [if_pos h1] at h
      have e : i.toNat = j := Option.some.inj h
      exact ⟨by rw [seqIndex_of h0 h1, e], by omega, by omega, h1⟩
    · rw [if_neg h1] at h; cases h
  · rw [if_neg h0] at h
    by_cases h1 : -(n : Int) ≤ i
    · rw [if_pos h1] at h
      have e : (i + n).toNat = j := Option.some.inj h
      exact ⟨by rw [seqIndex_neg (by omega) h1, e], by omega, h1, by omega⟩
    · rw [if_neg h1] at h; cases h
theorem atI_get {α : Type} {xs : List α} {i : Int} {v : α} (h : atI xs i = some v) : ∃ j, seqIndex? i xs.length = some j ∧ xs[j]? = some v ∧ j < xs.length ∧ -(xs.length : Int) ≤ i ∧ i < xs.length := by
  unfold atI at h
  cases e : ixN xs.length i with
  | none => rw [e] at h; cases h
  | some j =>
    rw [e] at h
    obtain ⟨h1, h2, h3, h4⟩ := ixN_seq e
    exact ⟨j, h1, h, h2, h3, h4⟩
theorem atI_nat {α : Type} {xs : List α} {j : Nat} {v : α} (h : xs[j]? = some v) : atI xs (j : Int) = some v := by
  have hj : j < xs.length := (List.getElem?_eq_some_iff.mp h).1
  have e : ixN xs.length (j : Int) = some j := by
    unfold ixN
    rw [if_pos (by omega), if_pos (by omega)]; simp
  unfold atI; rw [e]; exact h
/-! ### what may be subscripted -/
/-- what stands as an index of a plain subscript -/
def PlainIx (b : Expr) : Prop := ∀ o i, subscripted b false o i = operate [o, i] (getItem o i)
/-- a subscript by values -/
def IxR (X : Cx) (r : R2) : Prop :=
  ∀ (value slice : Expr) (pins : List (Addr × Obj)) (s : Shared) (σ : St) (H : Hp) (x y : V) (v u : Value) (Q : VK), Inv X pins σ H s → RelV x v → RelV y u → r x y H Q →
    subscripted slice false v u = operate [v, u] (getItem v u) → wpAny (model X.prog X.w) X.A (subscriptTail value slice v u) (EP X pins σ Q) X.xe s
/-- a call of a builtin's method by values: the receiver, the arguments -/
def MtR (X : Cx) (id : String) (r : V → List V → Hp → VK → Prop) : Prop :=
  ∀ (pins : List (Addr × Obj)) (s : Shared) (σ : St) (H : Hp) (x : V) (xs : List V) (v : Value) (us : List Value) (Q : VK), Inv X pins σ H s → RelV x v → Vals xs us → r x xs H Q →
    wpAny (model X.prog X.w) X.A (call (.builtin id) (v :: us)) (EP X pins σ Q) X.xe s
section
variable {X : Cx} {a b : Expr} {ta tb : TE} {pos : Pos}
/-- a[b] -/
theorem pe_ix {r : R2} (hr : IxR X r) (ha : PE X a ta) (hb : PE X b tb) (hs : PlainIx b) : PE X (.Subscript a b pos) (tOp r ta tb) := by
  intro pins s σ H Q I h
  exact Subscript_ (binT ha hb I h fun v u s2 x y H2 I2 rx ry q => hr a b pins s2 σ H2 x y v u Q I2 rx ry q (hs _ _))

def rIxL (K : PySem.W.Frag) : R2 := fun x y H Q => ∃ p xs i v, x = .ref p ∧ y = .int i ∧ SqL K H p xs ∧ atI xs i = some v ∧ Q v H
def rIxT (K : PySem.W.Frag) : R2 := fun x y H Q => ∃ p xs i v, x = .ref p ∧ y = .int i ∧ SqT K H p xs ∧ atI xs i = some v ∧ Q v H
def rIxS : R2 := fun x y H Q => ∃ z i c, x = .str z ∧ y = .int i ∧ z.length ≤ sizeLine ∧ atI z.cps.toList i = some c ∧ Q (.str ⟨#[c]⟩) H
theorem ix_list : IxR X (rIxL X.K) := by
  intro value slice pins s σ H x y v u Q I rx ry h hs
  obtain ⟨p, xs, i, z, rfl, rfl, hq, he, q⟩ := h
  cases rx
  obtain ⟨t, rfl⟩ := ry
  obtain ⟨its, r, pl, hz⟩ := I.list hq
  obtain ⟨j, h1, h2, h3, h4, h5⟩ := atI_get he
  obtain ⟨w, ew, rw'⟩ := r.get h2
  have hl := r.length
  have hn := line63
  have fin : EP X pins σ Q w s := ⟨z, H, I, rw', q⟩
  by_cases h0 : 0 ≤ i
  · have hj : i.toNat = j := by
      rw [seqIndex_of h0 h5] at h1
      exact Option.some.inj h1
    exact item_listR pl.isList h0 (by omega) (by rw [hj]; simpa using ew) fin hs
  · have hj : (i + (its.toArray.size : Int)).toNat = j := by
      rw [seqIndex_neg (by omega) h4] at h1
      rw [List.size_toArray, ← hl]
      exact Option.some.inj h1
    exact subscriptTail_builtinR (x := w) pl.isList.typeIs slot_list_getitem.lookup
      (wpAny_getItem_list_neg (Q := fun r s' => r = w ∧ EP X pins σ Q r s') pl.isList (by omega) (by rw [List.size_toArray] <;> omega) (by omega) (by rw [hj]; simpa using ew) ⟨rfl, fin⟩) hs
theorem ix_tup : IxR X (rIxT X.K) := by
  intro value slice pins s σ H x y v u Q I rx ry h hs
  obtain ⟨p, xs, i, z, rfl, rfl, hq, he, q⟩ := h
  cases rx
  obtain ⟨t, rfl⟩ := ry
  obtain ⟨its, r, pl, hz⟩ := I.tuple hq
  obtain ⟨j, h1, h2, h3, h4, h5⟩ := atI_get he
  obtain ⟨w, ew, rw'⟩ := r.get h2
  have hl := r.length
  have hn := line63
  have fin : EP X pins σ Q w s := ⟨z, H, I, rw', q⟩
  exact subscriptTail_builtinR (x := w) pl.typeIs slot_tuple_getitem.lookup
    (getItem_tuple (j := j) (Q := fun r s' => r = w ∧ EP X pins σ Q r s') pl (by omega) (by omega) (by rw [List.size_toArray, ← hl]; exact h1) (by simpa using ew) ⟨rfl, fin⟩) hs
/-- list, tuple or str -/
def rIx (K : PySem.W.Frag) : R2 := fun x y H Q => rIxL K x y H Q ∨ rIxT K x y H Q ∨ rIxS x y H Q
/-! ### xs[i] = v, any sign -/
/-- the list's object behind a store -/
theorem mapSeq_set (its : List Value) (n j : Nat) (u : Value) : Obj.mapSeq (·.setIfInBounds j u) { cls := .type "list", data := .seq its.toArray n } = { cls := .type "list", data := .seq (its.set j u).toArray n } := by
  simp [Obj.mapSeq]
theorem Inv.lst {pins : List (Addr × Obj)} {σ : St} {H : Hp} {s : Shared} {p : Addr} {xs : List V} (I : Inv X pins σ H s) (h : H p = some (.lst xs)) :
    ∃ (its : List Value) (n : Nat), Vals xs its ∧ s.heap.get? p = some { cls := .type "list", data := .seq its.toArray n } ∧ xs.length ≤ sizeLine := by
  obtain ⟨z, its, n, r, e⟩ := I.hok p _ h
  exact ⟨its, n, r, e, z⟩
/-- the list at p is written by an update of its object -/
theorem Inv.lstUpd {pins : List (Addr × Obj)} {σ : St} {H : Hp} {s : Shared} {p : Addr} {xs ys : List V} {its its' : List Value} {n n' : Nat} {f : Obj → Obj} (I : Inv X pins σ H s) (h : H p = some (.lst xs))
    (ho : s.heap.get? p = some { cls := .type "list", data := .seq its.toArray n }) (hf : f { cls := .type "list", data := .seq its.toArray n } = { cls := .type "list", data := .seq its'.toArray n' }) (r : Vals ys its') (hz : ys.length ≤ sizeLine) (t : Nat) :
    Inv X pins σ (upd H p (.lst ys)) { s with heap := s.heap.update p f, toks := t } := by
  have e : (s.heap.update p f).get? p = some { cls := .type "list", data := .seq its'.toArray n' } := by
    rw [Heap.get?_update_self f ho (by rw [hf] <;> rfl), hf]
  refine I.write (x := p) (e := p) (by rw [h]; trivial) (.inl rfl) (fun b u hb q => (Heap.get?_update_other _ _ (Ne.symm hb)).trans q) ⟨_, e⟩ ?_
  exact ⟨hz, its', n', r, e⟩
def rSetL : V → V → V → Hp → (Hp → Prop) → Prop := fun o i v H Q => ∃ p xs k j, o = .ref p ∧ i = .int k ∧ H p = some (.lst xs) ∧ ixN xs.length k = some j ∧ Q (upd H p (.lst (xs.set j v)))
theorem set_list : PSet X rSetL := by
  intro pins s σ H o i v ov iv u Q I ro ri rv h
  obtain ⟨p, xs, k, j, rfl, rfl, hp, hj, q⟩ := h
  cases ro
  obtain ⟨t, rfl⟩ := ri
  obtain ⟨its, n, r, ho, hz⟩ := I.lst hp
  obtain ⟨h1, h2, h3, h4⟩ := ixN_seq hj
  have hl := r.length
  have hn := line63
  have I' : Inv X pins σ (upd H p (.lst (xs.set j v))) { s with heap := s.heap.update p (Obj.mapSeq (·.setIfInBounds j u)) } :=
    I.lstUpd hp ho (mapSeq_set its n j u) (r.set rv j) (by rw [List.length_set]; exact hz) s.toks
  by_cases h0 : 0 ≤ k
  · have hk : k.toNat = j := by
      rw [seqIndex_of h0 h4] at h1
      exact Option.some.inj h1
    exact PySem.W.ki_setAt ho h0 (by omega) (by rw [List.size_toArray, ← hl]; exact h4) (by rw [hk]; exact ⟨_, I', q⟩)
  · have hk : (k + (its.toArray.size : Int)).toNat = j := by
      rw [seqIndex_neg (by omega) h3] at h1
      rw [List.size_toArray, ← hl]
      exact Option.some.inj h1
    exact PySem.W.ki_setBack ho (by omega) (by rw [List.size_toArray, ← hl]; exact h3) (by omega) (by rw [hk]; exact ⟨_, I', q⟩)

/-! ### slices -/
theorem slice_bounds (lo hi : Option Int) (n : Nat) : (sliceBounds lo hi none n).1 = ((HT.sIx n 0 lo : Nat) : Int) ∧ (sliceBounds lo hi none n).2.1 = ((HT.sIx n n hi : Nat) : Int) ∧ (sliceBounds lo hi none n).2.2 = 1 := by
  refine ⟨?_, ?_, rfl⟩
  · cases lo with
    | none => simp [sliceBounds, HT.sIx]
    | some i =>
      simp only [sliceBounds, HT.sIx, Option.getD_none, show (1 : Int) > 0 by decide, if_true]
      by_cases h : i < 0
      · simp only [h, if_true] <;> omega
      · simp only [h, if_false] <;> omega
  · cases hi with
    | none => simp [sliceBounds, HT.sIx]
    | some i =>
      simp only [sliceBounds, HT.sIx, Option.getD_none, show (1 : Int) > 0 by decide, if_true]
      by_cases h : i < 0
      · simp only [h, if_true] <;> omega
      · simp only [h, if_false] <;> omega
theorem slicePick_cut (its : List Value) (lo hi : Option Int) : slicePick its.toArray lo hi none = ((its.drop (HT.sIx its.length 0 lo)).take (HT.sIx its.length its.length hi - HT.sIx its.length 0 lo)).toArray := by
  obtain ⟨h1, h2, h3⟩ := slice_bounds lo hi its.toArray.size
  unfold slicePick
  rw [h1, h2, h3]
  simp only [sliceRange_one, pick_run, List.size_toArray] <;> rfl
/-- xs[lo:hi] of a list: a new list -/
def rSlL (K : PySem.W.Frag) : V → Option Int → Option Int → Hp → VK → Prop := fun x lo hi H Q => ∃ a xs, x = .ref a ∧ SqL K H a xs ∧ ∀ p, H p = none → Q (.ref p) (upd H p (.lst (cutV xs lo hi)))
theorem sl_list : SlR X (rSlL X.K) := by
  intro pins s σ H x v vl vu lo hi sl Q I rx hs pl pu h
  obtain ⟨a, xs, rfl, hx, q⟩ := h
  cases rx
  obtain ⟨its, r, ht, hz⟩ := I.list hx
  have hlen := r.length
  refine ⟨"list", _, slot_list_getitem.lookup, ht.isList.typeIs, ?_⟩
  refine wpAny_getItem_list_slice ht.isList hs pl pu .none (by simp) ?_ (by rw [List.size_toArray] <;> omega)
  rw [slicePick_cut, ← hlen]
  refine ⟨.ref s.heap.objs.size, _, I.laid (t' := s.toks) (o := .lst (cutV xs lo hi)) (fun b ob q => Heap.get?_push_of_some _ q) (Nat.le_refl _) ?_, rfl, q _ (I.hok.fresh (Nat.le_refl _))⟩
  exact ⟨Nat.le_trans (cutV_length xs lo hi) hz, _, 0, (r.drop (HT.sIx xs.length 0 lo)).take (HT.sIx xs.length xs.length hi - HT.sIx xs.length 0 lo), Heap.get?_push_size _ rfl⟩

/-! ### in, not in: flat items -/
def flatV : V → Bool
  | .non => true
  | .bl _ => true
  | .int _ => true
  | .str _ => true
  | _ => false
/-- == of flat values -/
def eqV : V → V → Bool
  | .non, .non => true
  | .bl a, .bl b => a == b
  | .bl a, .int b => (if a then 1 else 0) == b
  | .int a, .bl b => a == (if b then 1 else 0)
  | .int a, .int b => a == b
  | .str a, .str b => a == b
  | _, _ => false
theorem eqAt_V {A : Around} {s : Shared} {y x : V} {u v : Value} (ry : RelV y u) (rx : RelV x v) (fy : flatV y = true) (fx : flatV x = true) : SeqAt.EqAt A s u v (eqV y x) := by
  cases y with
  | non =>
    cases ry
    cases x with
    | non => cases rx; exact SeqAt.EqAt.same _
    | bl b => cases rx; exact SeqAt.EqAt.none_bool b
    | int b => obtain ⟨t, rfl⟩ := rx; exact SeqAt.EqAt.none_int b t
    | str b => obtain ⟨t, rfl⟩ := rx; exact SeqAt.EqAt.none_str b t
    | _ => exact absurd (show false = true from fx) Bool.false_ne_true
  | bl a =>
    cases ry
    cases x with
    | non => cases rx; exact SeqAt.EqAt.bool_none a
    | bl b => cases rx; exact SeqAt.EqAt.bool_bool a b
    | int b => obtain ⟨t, rfl⟩ := rx; exact SeqAt.EqAt.bool_int a b t
    | str b => obtain ⟨t, rfl⟩ := rx; exact SeqAt.EqAt.bool_str a b t
    | _ => exact absurd (show false = true from fx) Bool.false_ne_true
  | int a =>
    obtain ⟨t', rfl⟩ := ry
    cases x with
    | non => cases rx; exact SeqAt.EqAt.int_none a t'
    | bl b => cases rx; exact SeqAt.EqAt.int_bool a t' b
    | int b => obtain ⟨t, rfl⟩ := rx; exact SeqAt.EqAt.int_int a t' b t
    | str b => obtain ⟨t, rfl⟩ := rx; exact SeqAt.EqAt.int_str a t' b t
    | _ => exact absurd (show false = true from fx) Bool.false_ne_true
  | str a =>
    obtain ⟨t', rfl⟩ := ry
    cases x with
    | non => cases rx; exact SeqAt.EqAt.str_none a t'
    | bl b => cases rx; exact SeqAt.EqAt.str_bool a t' b
    | int b => obtain ⟨t, rfl⟩ := rx; exact SeqAt.EqAt.str_int a t' b t
    | str b => obtain ⟨t, rfl⟩ := rx; exact SeqAt.EqAt.str_str a t' b t
    | _ => exact absurd (show false = true from fx) Bool.false_ne_true
  | _ => exact absurd (show false = true from fy) Bool.false_ne_true
/-- the items' answers, read off the values (a value's own answer does not lean on its token) -/
def eqU (x : V) (u : Value) : Bool := match u with
  | .none => eqV .non x
  | .bool b => eqV (.bl b) x
  | .int i _ => eqV (.int i) x
  | .str z _ => eqV (.str z) x
  | _ => false
theorem eqU_of {x y : V} {u : Value} (r : RelV y u) (f : flatV y = true) : eqU x u = eqV y x := by
  cases y with
  | non => cases r; rfl
  | bl b => cases r; rfl
  | int i => obtain ⟨t, rfl⟩ := r; rfl
  | str z => obtain ⟨t, rfl⟩ := r; rfl
  | _ => exact absurd (show false = true from f) Bool.false_ne_true
theorem any_eqU {x : V} : ∀ {xs : List V} {us : List Value}, Vals xs us → xs.all flatV = true → us.any (eqU x) = xs.any fun y => eqV y x
  | _, _, .nil, _ => rfl
  | y :: xs, u :: us, .cons r t, f => by
    rw [List.all_cons, Bool.and_eq_true] at f
    rw [List.any_cons, List.any_cons, eqU_of r f.1, any_eqU t f.2]
theorem mem_eqAt {A : Around} {s : Shared} {x : V} {v : Value} (rx : RelV x v) (fx : flatV x = true) : ∀ {xs : List V} {us : List Value}, Vals xs us → xs.all flatV = true → ∀ u ∈ us, SeqAt.EqAt A s u v (eqU x u)
  | _, _, .nil, _ => fun u hu => by cases hu
  | y :: xs, u :: us, .cons r t, f => fun u' hu => by
    rw [List.all_cons, Bool.and_eq_true] at f
    rcases List.mem_cons.mp hu with rfl | hu
    · rw [eqU_of r f.1]; exact eqAt_V r rx f.1 fx
    · exact mem_eqAt rx fx t f.2 u' hu
def inV (x : V) (xs : List V) : Bool := xs.any fun y => eqV y x
/-- x in a list or tuple of flat items -/
def rIn (K : PySem.W.Frag) (neg : Bool) : R2 := fun x y H Q => ∃ p xs, y = .ref p ∧ (SqL K H p xs ∨ SqT K H p xs) ∧ flatV x = true ∧ xs.all flatV = true ∧ Q (.bl (if neg then !inV x xs else inV x xs)) H
theorem op_in_seq : OpR X (compareOp .In) (rIn X.K false) := by
  intro pins s σ H x y v u Q I rx ry h
  obtain ⟨p, xs, rfl, hq, fx, fs, q⟩ := h
  cases ry
  rcases hq with hq | hq
  · obtain ⟨its, r, pl, hz⟩ := I.list hq
    refine SeqAt.in_listAt (eqU x) pl.isList (fun w hw => mem_eqAt rx fx r fs w (by simpa using hw)) ⟨.bl _, H, I, rfl, ?_⟩
    rw [show its.toArray.any (eqU x) = its.any (eqU x) by simp, any_eqU r fs]
    exact q
  · obtain ⟨its, r, pl, hz⟩ := I.tuple hq
    refine SeqAt.in_tupleAt (eqU x) pl (fun w hw => mem_eqAt rx fx r fs w (by simpa using hw)) ⟨.bl _, H, I, rfl, ?_⟩
    rw [show its.toArray.any (eqU x) = its.any (eqU x) by simp, any_eqU r fs]
    exact q
/-! ### len, list(x), tuple(x) of any list or tuple that is read -/
theorem call_len_seq : CallR X (.builtin "len") (fun xs H Q => ∃ p ys, xs = [.ref p] ∧ (SqL X.K H p ys ∨ SqT X.K H p ys) ∧ Q (.int ys.length) H) := by
  intro pins s σ H xs us Q I r h
  obtain ⟨p, ys, rfl, hq, q⟩ := h
  obtain ⟨u, rfl, rx⟩ := vals1 r
  cases rx
  have hn := line63
  rcases hq with hq | hq
  · obtain ⟨its, r', pl, hz⟩ := I.list hq
    have hlen := r'.length
    exact Calls.call_len_list pl.isList (by simp only [List.size_toArray] <;> omega) ⟨.int ys.length, H, I.tok _, ⟨s.toks + 1, by rw [List.size_toArray, hlen]⟩, q⟩
  · obtain ⟨its, r', pl, hz⟩ := I.tuple hq
    have hlen := r'.length
    exact len_tuple pl (by simp only [List.size_toArray] <;> omega) ⟨.int ys.length, H, I.tok _, ⟨s.toks + 1, by rw [List.size_toArray, hlen]⟩, q⟩
theorem call_list_of : CallR X (.type "list") (fun xs H Q => ∃ p ys, xs = [.ref p] ∧ (SqL X.K H p ys ∨ SqT X.K H p ys) ∧ ∀ l, H l = none → Q (.ref l) (upd H l (.lst ys))) := by
  intro pins s σ H xs us Q I r h
  obtain ⟨p, ys, rfl, hq, q⟩ := h
  obtain ⟨u, rfl, rx⟩ := vals1 r
  cases rx
  have fin : ∀ (its : List Value), Vals ys its → ys.length ≤ sizeLine → ∀ (h' : Heap) (c' : Nat), (∀ b o', s.heap.get? b = some o' → h'.get? b = some o') →
      h'.get? s.heap.objs.size = some { cls := .type "list", dict := none, data := .seq its.toArray c', slots := #[] } → EP X pins σ Q (.ref s.heap.objs.size) { s with heap := h' } := fun its r' hz h' c' kp e =>
    ⟨.ref s.heap.objs.size, _, I.laid (t' := s.toks) kp (Nat.le_refl _) (show ObjOk X.prog X.w _ h' _ (.lst ys) from ⟨hz, its, c', r', e⟩), rfl, q _ (I.hok.fresh (Nat.le_refl _))⟩
  rcases hq with hq | hq
  · obtain ⟨its, r', pl, hz⟩ := I.list hq
    have hlen := r'.length
    obtain ⟨o, ho, hc, n, hd⟩ := pl.isList
    exact call_list_seq p (.inl rfl) ho hc hd (fun h' c' kp e => fin its r' hz h' c' kp e) (by simp only [List.size_toArray] <;> omega)
  · obtain ⟨its, r', pl, hz⟩ := I.tuple hq
    have hlen := r'.length
    obtain ⟨o, ho, hc, n, hd⟩ := pl
    exact call_list_seq p (.inr rfl) ho hc hd (fun h' c' kp e => fin its r' hz h' c' kp e) (by simp only [List.size_toArray] <;> omega)
/-! ### the call of a builtin's method: o.m(..) -/
/-- the value is of that builtin type -/
def tyV (K : PySem.W.Frag) (T : String) (x : V) (H : Hp) : Prop := match x with
  | .str _ => T = "str"
  | .int _ => T = "int"
  | .ref p => (T = "list" ∧ ∃ xs, SqL K H p xs) ∨ (T = "tuple" ∧ ∃ o, K.lookup p = some o ∧ o.cls = .type "tuple" ∧ o.dict = none) ∨
      (T = "dict" ∧ ((∃ kvs, H p = some (.dK kvs)) ∨ ∃ kvs, H p = some (.dT kvs))) ∨ (T = "set" ∧ ∃ S n, H p = some (.set S n))
  | _ => False
theorem tyV_is {pins : List (Addr × Obj)} {σ : St} {H : Hp} {s : Shared} {T : String} {x : V} {v : Value} (I : Inv X pins σ H s) (r : RelV x v) (ty : tyV X.K T x H) :
    s.TypeIs v T ∧ ∀ a, v = .ref a → ∃ ob, s.heap.get? a = some ob ∧ ob.dict = none := by
  cases x with
  | str z =>
    obtain ⟨t, rfl⟩ := r
    cases (show T = "str" from ty)
    exact ⟨typeIs_str s z t, fun _ e => nomatch e⟩
  | int i =>
    obtain ⟨t, rfl⟩ := r
    cases (show T = "int" from ty)
    exact ⟨typeIs_int s i t, fun _ e => nomatch e⟩
  | ref p =>
    cases r
    rcases ty with ⟨rfl, xs, hq⟩ | ⟨rfl, o, hk, hc, hd⟩ | ⟨rfl, hk⟩ | ⟨rfl, S, n, hk⟩
    · obtain ⟨its, _, pl, _⟩ := I.list hq
      refine ⟨pl.isList.typeIs, fun a e => ?_⟩
      cases e
      obtain ⟨o, n, e, c, hd, _⟩ := pl
      exact ⟨o, e, hd⟩
    · refine ⟨⟨o, I.kIn p o hk, hc⟩, fun a e => ?_⟩
      cases e
      exact ⟨o, I.kIn _ o hk, hd⟩
    · have z : ∃ o, s.heap.get? p = some o ∧ o.ExactDict := by
        rcases hk with ⟨kvs, hk⟩ | ⟨kvs, hk⟩
        · obtain ⟨_, _, _, _, o, _, _, e, ex, _⟩ := I.hok p _ hk
          exact ⟨o, e, ex⟩
        · obtain ⟨_, _, _, _, o, _, _, e, ex, _⟩ := I.hok p _ hk
          exact ⟨o, e, ex⟩
      obtain ⟨o, e, ex⟩ := z
      refine ⟨⟨o, e, ex.1⟩, fun a e2 => ?_⟩
      cases e2
      exact ⟨o, e, ex.2.1⟩
    · obtain ⟨o, _, _, _, e, ex, _⟩ := I.hok p _ hk
      refine ⟨⟨o, e, ex.1⟩, fun a e2 => ?_⟩
      cases e2
      exact ⟨o, e, ex.2.1⟩
  | _ => exact False.elim ty
def tBM0 (K : PySem.W.Frag) (T : String) (r : V → List V → Hp → VK → Prop) (to : TE) : TE := fun σ H Q => to σ H fun x H1 => tyV K T x H1 ∧ r x [] H1 Q
def tBM (K : PySem.W.Frag) (T : String) (r : V → List V → Hp → VK → Prop) (to : TE) (t : TA) : TE := fun σ H Q => to σ H fun x H1 => tyV K T x H1 ∧ t σ H1 fun xs H2 => r x xs H2 Q
variable {o e : Expr} {es : List Expr} {to : TE} {t : TA} {name : Str} {apos cpos : Pos} {T id : String} {r : V → List V → Hp → VK → Prop}
theorem pe_bm (pa : PlainAttrs T) (slot : Slot T name id) (hty : typeOf (.builtin id) = pure (.type "method_descriptor")) (hm : MtR X id r) (ho : PE X o to) (ha : PA X (e :: es) t)
    (hbase : attributeBase o name X.env (eval o X.env) = eval o X.env := by rfl)
    (hfew : ((backTo cpos (starEach (e :: es) X.env)).all (fun x => !x.1) && (backToKw cpos (keywordEach [] X.env)).all (fun x => x.1.isSome)
      && decide ((e :: es).length + ([] : List Keyword).length + (if ([] : List Keyword).isEmpty then 0 else 1) < 30)) = true := by rfl)
    (hline : (apos.endLine == cpos.line) = true := by rfl) (hs : starEach (e :: es) X.env = (false, eval e X.env) :: starEach es X.env := by rfl) (hplain : (backTo cpos (starEach es X.env)).any (·.1) = false := by rfl) :
    PE X (.Call (.Attribute o name apos) (e :: es) [] cpos) (tBM X.K T r to t) := by
  intro pins s σ H Q I h
  refine wpAny_Call_method_late hbase hfew hline rfl (thn (ho pins s σ H _ I h) fun v s1 ⟨x, H1, I1, r1, ty, q1⟩ => ?_)
  obtain ⟨h1, h2⟩ := tyV_is I1 r1 ty
  refine ⟨T, id, pa, slot, hty, h1, h2, ?_⟩
  have hA := ha cpos pins s1 σ H1 _ I1 q1
  rw [hs] at hA ⊢
  refine Calls.callWith_builtin (by show (false || (backTo cpos (starEach es X.env)).any (·.1)) = false; rw [hplain] <;> rfl) (Calls.evalArgs_plain ?_)
  exact thn hA fun us s2 ⟨vs, H2, I2, r2, q2⟩ => hm pins s2 σ H2 x vs v us Q I2 r1 r2 q2
/- xs.append(e), list.index on a module's tuple .. are MtR facts of 06m -/
end
end L2

namespace L2
open PySem PySem.Spec PyProof.Rows

def MtM (X : Cx) (id : String) (r : V → List V → Hp → VK → Prop) : Prop :=
  ∀ (pins : List (Addr × Obj)) (s : Shared) (σ : St) (H : Hp) (x : V) (xs : List V) (v : Value) (us : List Value) (Q : VK), Inv X pins σ H s → RelV x v → Vals xs us → r x xs H Q →
    wpAny (model X.prog X.w) X.A (call (.builtin id) (v :: us)) (EP X pins σ Q) X.xe s

/-! ### lists of values -/
theorem Vals.one : ∀ {x : V} {us : List Value}, Vals [x] us → ∃ u, us = [u] ∧ RelV x u
  | _, _, .cons r .nil => ⟨_, rfl, r⟩
theorem Vals.two : ∀ {x y : V} {us : List Value}, Vals [x, y] us → ∃ u v, us = [u, v] ∧ RelV x u ∧ RelV y v
  | _, _, _, .cons r (.cons q .nil) => ⟨_, _, rfl, r, q⟩
theorem Vals.rep {xs : List V} {us : List Value} (h : Vals xs us) : ∀ k : Nat, Vals (List.replicate k xs).flatten (List.replicate k us).flatten
  | 0 => .nil
  | k + 1 => by
    rw [List.replicate_succ, List.replicate_succ, List.flatten_cons, List.flatten_cons]
    exact Vals.append h (Vals.rep h k)
theorem foldl_rep (its : List Value) : ∀ (k : Nat) (acc : List Value),
    List.foldl (fun x1 x2 => x1 ++ x2) acc.toArray (List.replicate k its.toArray) = (acc ++ (List.replicate k its).flatten).toArray
  | 0, acc => by simp
  | k + 1, acc => by
    have e : acc.toArray ++ its.toArray = (acc ++ its).toArray := by simp
    have e2 : (acc ++ its) ++ (List.replicate k its).flatten = acc ++ (List.replicate (k + 1) its).flatten := by
      rw [List.replicate_succ, List.flatten_cons, List.append_assoc]
    rw [← e2, ← foldl_rep its k (acc ++ its), ← e, List.replicate_succ, List.foldl_cons]

section
variable {X : Cx} {pins : List (Addr × Obj)} {σ : St} {H : Hp} {s : Shared} {l b : Addr} {xs ys zs : List V}

/-! ### the two steps: a tracked list is rewritten, a new list is laid -/
theorem Inv.lset {its its' : List Value} {n : Nat} {f : Array Value → Array Value} {t' : Nat} (I : Inv X pins σ H s) (hH : H l = some (.lst xs))
    (e : s.heap.get? l = some { cls := .type "list", data := .seq its.toArray n }) (hf : f its.toArray = its'.toArray) (hv : Vals ys its') (hz : ys.length ≤ sizeLine) :
    Inv X pins σ (upd H l (.lst ys)) { s with heap := s.heap.update l (Obj.mapSeq f), toks := t' } := by
  have q := PySem.IsL.update e f
  rw [hf] at q
  refine I.write (x := l) (e := l) (by rw [hH]; exact trivial) (.inl rfl) (fun b' u hb hu => (Heap.get?_update_other s.heap (Obj.mapSeq f) (Ne.symm hb)).trans hu) ⟨_, q⟩ ?_
  exact ⟨hz, its', _, hv, q⟩
theorem Inv.lnew {its : List Value} {t' : Nat} (I : Inv X pins σ H s) (hv : Vals ys its) (hz : ys.length ≤ sizeLine) :
    Inv X pins σ (upd H s.heap.objs.size (.lst ys)) { s with heap := s.heap.push { cls := .type "list", data := .seq its.toArray }, toks := t' } :=
  I.laid (fun _ _ q => Heap.get?_push_of_some _ q) (Nat.le_refl _) ⟨hz, its, 0, hv, Heap.get?_push_size _ rfl⟩
theorem Inv.fresh (I : Inv X pins σ H s) : H s.heap.objs.size = none := I.hok.fresh (Nat.le_refl _)
theorem Inv.lstM (I : Inv X pins σ H s) (hH : H l = some (.lst xs)) : xs.length ≤ sizeLine ∧ ∃ (its : List Value) (n : Nat), Vals xs its ∧ xs.length = its.length ∧ s.heap.get? l = some { cls := .type "list", data := .seq its.toArray n } := by
  obtain ⟨z, its, n, r, e⟩ := I.hok l _ hH
  exact ⟨z, its, n, r, r.length, e⟩

theorem notLongL {n : Nat} (h : n ≤ sizeLine) : Builtin.List.listTooLong n = false := by
  unfold Builtin.List.listTooLong
  exact decide_eq_false (by omega)
end

section
variable {X : Cx}

/-! ### methods -/
def rAppend : V → List V → Hp → VK → Prop := fun x vs H Q => ∃ l xs y, x = .ref l ∧ vs = [y] ∧ H l = some (.lst xs) ∧ xs.length < sizeLine ∧ Q .non (upd H l (.lst (xs ++ [y])))
theorem mt_append : MtM X "list.append" rAppend := by
  intro pins s σ H x vs v us Q I rx rv h
  obtain ⟨l, xs, y, rfl, rfl, hH, hz, q⟩ := h
  cases rx
  obtain ⟨u, rfl, ru⟩ := rv.one
  obtain ⟨z, its, n, r, hl, e⟩ := I.lstM hH
  refine call_meets F.slot_list_append ⟨_, e, rfl⟩ F.entry_list_append (F.args_list_append_2 _ _) (PySem.list_append l its.toArray n u (by rw [List.size_toArray]; omega)) ⟨e, ?_⟩
  refine ⟨.non, _, I.lset (its' := its ++ [u]) hH e (by simp) (r.append (.cons ru .nil)) ?_, rfl, q⟩
  rw [List.length_append, List.length_singleton]
  omega

def rExtend : V → List V → Hp → VK → Prop := fun x vs H Q => ∃ l b xs zs, x = .ref l ∧ vs = [.ref b] ∧ H l = some (.lst xs) ∧ H b = some (.lst zs) ∧ xs.length + zs.length ≤ sizeLine ∧ Q .non (upd H l (.lst (xs ++ zs)))
theorem mt_extend : MtM X "list.extend" rExtend := by
  intro pins s σ H x vs v us Q I rx rv h
  obtain ⟨l, b, xs, zs, rfl, rfl, hH, hB, hz, q⟩ := h
  cases rx
  obtain ⟨u, rfl, ru⟩ := rv.one
  cases ru
  obtain ⟨z, its, n, r, hl, e⟩ := I.lstM hH
  obtain ⟨z2, its2, n2, r2, hl2, e2⟩ := I.lstM hB
  have hsz : its.toArray.size + its2.toArray.size ≤ sizeLine := by rw [List.size_toArray, List.size_toArray]; omega
  have hlong : ¬ (!its.toArray.isEmpty && Builtin.List.listTooLong (its.toArray.size + its2.toArray.size)) = true := by
    rw [notLongL hsz, Bool.and_false]
    exact Bool.false_ne_true
  refine call_meets F.slot_list_extend ⟨_, e, rfl⟩ F.entry_list_extend (F.args_list_extend_2 _ _)
    (AutoSeq1.list_extend_list_list_0 l its.toArray n b its2.toArray n2 hlong (by rw [List.size_toArray]; omega) (by omega)) ⟨e, e2, ?_⟩
  refine ⟨.non, _, I.lset (its' := its ++ its2) hH e (by simp) (r.append r2) ?_, rfl, q⟩
  rw [List.length_append]
  omega

def rPop : V → List V → Hp → VK → Prop := fun x vs H Q => ∃ l xs y, x = .ref l ∧ vs = [] ∧ H l = some (.lst xs) ∧ xs[xs.length - 1]? = some y ∧ Q y (upd H l (.lst xs.dropLast))
def rPopAt : V → List V → Hp → VK → Prop := fun x vs H Q => ∃ l xs i k y, x = .ref l ∧ vs = [.int i] ∧ H l = some (.lst xs) ∧ -(2 ^ 63) ≤ i ∧ i < 2 ^ 63 ∧ seqIndex? i xs.length = some k ∧ xs[k]? = some y ∧ Q y (upd H l (.lst (xs.eraseIdx k)))
def rReverse : V → List V → Hp → VK → Prop := fun x vs H Q => ∃ l xs, x = .ref l ∧ vs = [] ∧ H l = some (.lst xs) ∧ Q .non (upd H l (.lst xs.reverse))
def rClear : V → List V → Hp → VK → Prop := fun x vs H Q => ∃ l xs, x = .ref l ∧ vs = [] ∧ H l = some (.lst xs) ∧ Q .non (upd H l (.lst []))
/-! ### list + list, list += list, list * int -/
def rCat : R2 := fun x y H Q => ∃ l b xs zs, x = .ref l ∧ y = .ref b ∧ H l = some (.lst xs) ∧ H b = some (.lst zs) ∧ xs.length + zs.length ≤ sizeLine ∧ ∀ p, H p = none → Q (.ref p) (upd H p (.lst (xs ++ zs)))
theorem op_cat : OpR X (binaryOp .Add) rCat := by
  intro pins s σ H x y v u Q I rx ry h
  obtain ⟨l, b, xs, zs, rfl, rfl, hH, hB, hz, q⟩ := h
  cases rx
  cases ry
  obtain ⟨z, its, n, r, hl, e⟩ := I.lstM hH
  obtain ⟨z2, its2, n2, r2, hl2, e2⟩ := I.lstM hB
  refine PySem.P.add_list e e2 ?_ (by rw [List.size_toArray, List.size_toArray]; omega)
  have ea : its.toArray ++ its2.toArray = (its ++ its2).toArray := by simp
  rw [ea]
  exact ⟨.ref _, _, I.lnew (t' := s.toks) (r.append r2) (by rw [List.length_append]; omega), rfl, q _ I.fresh⟩
/-- a list times an int (a negative one is nothing) -/
def rRep : R2 := fun x y H Q => ∃ l k xs, x = .ref l ∧ y = .int k ∧ H l = some (.lst xs) ∧ -(2 ^ 63) ≤ k ∧ k < 2 ^ 63 ∧ xs.length * k.toNat ≤ sizeLine ∧
  ∀ p, H p = none → Q (.ref p) (upd H p (.lst (List.replicate k.toNat xs).flatten))
theorem len_rep {α : Type} (xs : List α) (k : Nat) : (List.replicate k xs).flatten.length = k * xs.length := by
  induction k with
  | zero => simp
  | succ k ih => rw [List.replicate_succ, List.flatten_cons, List.length_append, ih, Nat.succ_mul, Nat.add_comm]
theorem op_rep : OpR X (binaryOp .Mult) rRep := by
  intro pins s σ H x y v u Q I rx ry h
  obtain ⟨l, k, xs, rfl, rfl, hH, h1, h2, hz, q⟩ := h
  cases rx
  obtain ⟨t, rfl⟩ := ry
  obtain ⟨z, its, n, r, hl, e⟩ := I.lstM hH
  have hlen : its.toArray.size * k.toNat ≤ sizeLine := by rw [List.size_toArray, ← hl]; exact hz
  have hcap : ¬ its.toArray.size * k.toNat > (2 ^ 63 - 1) / 8 := by
    have : (sizeLine : Nat) ≤ (2 ^ 63 - 1) / 8 := by decide
    omega
  have hfit : ¬ (!Builtin.List.listFitsIndex k) = true := by
    rw [fitsIndex_both h1 h2]
    exact Bool.false_ne_true
  have hlong : ¬ Builtin.List.listTooLong (its.toArray.size * k.toNat) = true := by
    rw [notLongL hlen]
    exact Bool.false_ne_true
  have hnew : List.foldl (fun x1 x2 => x1 ++ x2) #[] (List.replicate (if its.toArray.isEmpty = true then 0 else k.toNat) its.toArray) = (List.replicate k.toNat its).flatten.toArray := by
    have f0 : ∀ m : Nat, List.foldl (fun x1 x2 => x1 ++ x2) #[] (List.replicate m its.toArray) = (List.replicate m its).flatten.toArray := fun m => by
      have := foldl_rep its m []
      rw [List.nil_append] at this
      exact this
    rw [f0]
    cases its with
    | nil => simp
    | cons a r' => rw [if_neg (by simp)]
  refine wpAny_binaryOp_repeat_ref (T := "list") (U := "int") (by decide) ⟨_, e, rfl⟩ (fun s' => typeIs_int s' k t) noFill_list_mul F.fills_int_mul F.slot_int_rmul repeat_list F.slot_int_index.lookup
    (call_meets F.slot_int_rmul (typeIs_int s k t) F.entry_int_rmul (F.args_int_rmul_2 _ _) (int___rmul___int_list k t l its.toArray n)
      ⟨e, rfl, ⟨_, e, rfl⟩, call_meets F.slot_list_mul ⟨_, e, rfl⟩ F.entry_list_mul (F.args_list_mul_2 _ _) (AutoListH.list___mul___list_int_3 l its.toArray n k t hfit hcap hlong) ⟨e, ?_⟩⟩)
  rw [hnew]
  exact ⟨.ref _, _, I.lnew (t' := s.toks) (r.rep k.toNat) (by rw [len_rep, Nat.mul_comm]; exact hz), rfl, q _ I.fresh⟩

/-! ### del xs[i] -/
end

/-! ### xs[a:b] = ys -/
section
variable {prog : Program} {w : World} {A : Around} {E : Value → Shared → Prop} {s : Shared}
set_option maxRecDepth 100000 in
end

section
variable {X : Cx}
end
end L2

namespace Att
open PySem PySem.W PySem.Calls PyProof.Rows

/-! ### the script -/
theorem ints_of_wellAll {P : Params} {h : Heap} : ∀ (ns : List Int) (vs : List Value), WellAll P h vs (ns.map WData.int) → IntsAre vs ns := by
  intro ns
  induction ns with
  | nil =>
    intro vs w
    rw [List.map_nil] at w
    cases w
    exact .nil
  | cons n ns ih =>
    intro vs w
    rw [List.map_cons] at w
    cases w with
    | cons a b =>
      cases a
      exact .cons _ _ (ih _ b)

theorem script_of {l : OpenLaw} {n : Nat} (hn : l.most = some n) {P : Params} {h : Heap} {args : List WData} {vals : List Value}
    (hpre : l.row.toRowW.claim.pre args = true) (hwl : WellAll P h vals args) :
    ∃ a vs ns, vals = [Value.ref a] ∧ args = [WData.list (ns.map WData.int)] ∧ h.get? a = some { cls := .type "list", data := .seq vs.toArray } ∧ IntsAre vs ns ∧ ns.length ≤ n := by
  have hsh : WShape.hasAll [] args [.list .int] = true := (pre_splitW hpre).1
  have hc : l.pre.holds [] { args := args } = true := (pre_splitW hpre).2
  obtain ⟨d, r, rfl, h1, h2⟩ := hasAllW_cons hsh
  obtain rfl := hasAllW_nil h2
  obtain ⟨xs, rfl, h3⟩ := hasW_list h1
  obtain ⟨ns, rfl⟩ := items_int h3
  have hlen : ns.length ≤ n := by
    unfold OpenLaw.pre at hc
    have h4 : (WTm.not (.lt (.lit (.int (n : Int))) (.len (.arg 0)))).holds [] { args := [.list (ns.map .int)] } = true := by
      have h4 := (holds_andW hc).1
      rw [hn] at h4
      exact h4
    have h5 := condW_of h4 (w_not (w_lt w_lit (w_len_list (w_arg rfl))))
    rw [List.length_map] at h5
    refine Nat.le_of_not_lt fun q => ?_
    have q' : (n : Int) < ((ns.length : Nat) : Int) := by omega
    first
      | (rw [decide_eq_true q'] at h5; exact absurd h5 (by decide))
      | (simp at h5; omega)
  cases hwl with
  | cons w1 w2 =>
    cases w2
    cases w1 with
    | list ho hall => exact ⟨_, _, ns, rfl, rfl, ho, ints_of_wellAll ns _ hall, hlen⟩

theorem post_true (l : OpenLaw) (args : List WData) : l.row.toRowW.claim.post args (.bool true) args = true :=
  postW_of (r := l.row.toRowW) (X := (true == true))
    (show WShape.has [] (.bool true) .bool = true by first | rfl | decide | simp [WShape.has, WShape.arms, WShape.armsAll])
    (show (WTm.eq .res (.lit (.bool true))).value [] { args := args, res := some (.bool true), after := args } = some (.bool (true == true)) from w_eq_bool (w_res rfl) w_lit) rfl

/-! ### the attachment: holds_open's last premise (the goal 'hc' behind k_head) from a wpAny of the law's body -/
/-- the same from a codeAny of the CALL (for a layer whose function contracts speak of calls) -/
theorem attach_call {l : OpenLaw} {n : Nat} {q : Program} {loose : List Str} {XP : (Str → Option Value) → Heap → Prop} {YP : World → Heap → Prop} {d : DefRec}
    (hn : l.most = some n) (hdf : d.params.defaults = [])
    (call : ∀ (w : World) (s₀ s₁ : Shared) (mg mb : Str → Option Value) (fa : Addr) (o : Obj) (pm cd doc : Value) (a : Addr) (vs : List Value) (ns : List Int),
      Ground q loose [] XP w s₀ mg mb s₁.heap → YP w s₁.heap →
      s₁.heap.get? fa = some o → o.data = .func (docDef d.name d.params d.body d.scope pm cd doc) → s₁.heap.CodeRec cd d.name → mg d.name = some (.ref fa) →
      s₁.heap.get? a = some { cls := .type "list", data := .seq vs.toArray } → IntsAre vs ns → ns.length ≤ n → s₁.gens = #[] →
      codeAny (model l.prog w) callerA (.call (.ref fa) ⟨[.ref a], []⟩) (fun r s' => r = .ok (.ret (.bool true)) ∧ OldK s₁.heap s'.heap ∧ s'.os = s₁.os ∧ AllBare s'.gens) s₁) :
    WalkO q loose XP YP l.row.toRowW d [] (fun f vs => PySem.call f vs) := by
  intro w s₀ s₁ mg mb G Y fa o pm cd doc dV kV ho hd hcd hD hmg hg args vals as hpre hlay hrd hwl hlo
  obtain rfl : dV = .none := Dflts.none hD hdf
  obtain rfl : kV = .none := Dflts.noKw hD
  obtain ⟨a, vs, ns, rfl, rfl, hobj, hints, hlen⟩ := script_of hn hpre hwl
  refine enter_call (codeAny_mono (call w s₀ s₁ mg mb fa o pm cd doc a vs ns G Y ho (fd_plain hd) hcd hmg hobj hints hlen hg) fun r s' hq => ?_)
  obtain ⟨rfl, h2, h3, h4⟩ := hq
  exact ⟨.inl ⟨.bool true, .bool true, [], rfl, fun _ => rfl, .bool true, post_true l _, fun _ => ⟨List.Pairwise.nil, fun _ hm => (nomatch hm)⟩⟩, h2, h3, h4⟩

/-! ### rules over ANY heap (no ledger) from facts about the written part K: the library's own take a ledger (News) for what they write -/
section
variable {prog : Program} {w : World} {A : Around} {E : Value → Shared → Prop} {s : Shared} {K : Frag}

/-! the whole heap as the ledger: makes every rule that writes through a ledger a rule over any heap -/
def noObjs (h : Heap) : Heap := { h with objs := #[] }
def ledger (h : Heap) (L d : Addr) : List (Addr × Obj) := (List.range h.objs.size).filterMap fun a => if a = L ∨ a = d then none else (h.get? a).map fun o => (a, o)
end
end Att

namespace L2
open PySem PySem.Spec PyProof.Rows

theorem vals_ints : ∀ {vs : List Value} {ns : List Int}, IntsAre vs ns → Vals (ns.map V.int) vs
  | _, _, .nil => .nil
  | _, _, .cons n t h => .cons ⟨t, rfl⟩ (vals_ints h)

/-- nothing is tracked but the script, known to the object (or it is an object of the module) -/
def Only (H : Hp) : Prop := ∀ b, H b = none ∨ ∃ o xs, H b = some (.frz o (.lst xs))

end L2

namespace L2
open PySem PySem.Spec PyProof.Rows

abbrev KOf {K : PySem.W.Frag} {h : Heap} (_ : K.In h) : PySem.W.Frag := K

end L2

/- THE LAST THEOREM (shape; LID, My.* are yours):
   My.Adr: a structure of the addresses that your layer names (classes, functions); My.Txt K t: a structure (Prop) of the equations over K;
   My.txt_mk : {K} {implicit addresses ..} (e1 : nsIn K mainGlobals "law" = some (some (.ref f))) (e2 : K.lookup f = some ⟨oc, od, .func (fnOf "law" "law" params body scope dV kV doc pm an cdv ct), sl⟩) (e3 : codeIn K cdv "law" = true) .. : ∃ t, My.Txt K t

set_option maxRecDepth 100000 in
set_option maxHeartbeats 0 in
theorem PySem.Challenge.cw_LID_holds : PySem.Challenge.rw_LID.Holds := by
  w_on; o_law; k_head; (case hw => w_witness2)
  k_fill
  refine L2.walk_of (l := PySem.Challenge.rw_LID) (n := 63) (k := 40) (x := "script") (CX := fun w => ..) (sp := fun _ => My.sp_law) rfl (by decide) rfl ⟨rfl, by decide, by decide⟩ (fun w h Y => PySem.W.kIn_of Y) ?F ?S ?C
  case F =>
    intro w mg fa h KX G hmg
    have T : ∃ t, My.Txt (L2.KOf KX) t := by
      dsimp only [L2.KOf]                          -- K must stand as «<heap const> w.params» for k_is
      refine' My.txt_mk ?e1 ?e2 ?e3 ..
      (case e1 => PySem.W.k_is)                    -- in the order: a name -> its address -> its object -> its parts
      (case e2 => PySem.W.k_is)
      ..
    obtain ⟨t, T⟩ := T
    have e0 := hmg.symm.trans (PySem.W.mg_of KX G T.law)
    cases e0                                       -- fa is the law's own address
    exact ⟨_, fun s u => .of_eq rfl, fun base kb nb => My.law_fn T kb nb⟩     -- if «.of_eq rfl» comes too early: refine' ⟨_, ?b, fun base kb nb => My.law_fn T kb nb⟩; exact fun s u => .of_eq rfl
  case S => exact fun w H a ns hl hO hS => ..
  case C => exact ..
(the tactic k_is has no namespace: write k_is) -/

/-! SHORT WORDS over the layer: a def of the text, its body, what a loop and a test want. -/
namespace L2
open PySem PySem.Spec PyProof.Rows

/-! ### the text by places -/
/-- the j-th statement of a class's body -/
def inClass (s : Stmt) (j : Nat) : Stmt := match s with
  | .ClassDef _ _ _ body _ _ _ _ _ _ _ => body.getD j (.Pass ⟨0, 0, 0, 0⟩)
  | _ => .Pass ⟨0, 0, 0, 0⟩
def defArgs (s : Stmt) : Arguments := match s with
  | .FunctionDef _ a _ _ _ _ _ _ _ _ => a
  | _ => { posonlyargs := [], args := [], vararg := none, kwonlyargs := [], kw_defaults := [], kwarg := none, defaults := [] }
def defBody (s : Stmt) : List Stmt := match s with
  | .FunctionDef _ _ b _ _ _ _ _ _ _ => b
  | _ => []
def defScope (s : Stmt) : Scope := match s with
  | .FunctionDef _ _ _ _ _ _ sc _ _ _ => sc
  | _ => { kind := .function, names := [], isGenerator := false, isCoroutine := false }

/-! ### no exception leaves a def -/
abbrev CX0 : CXT := fun _ _ _ _ _ _ => False
abbrev E0 : XK := fun _ _ _ => False
theorem pass0 {X : Cx} : Passes CX0 X E0 := fun _ _ _ _ _ _ _ h => h.elim

/-! ### a def (or method) of the text as it stands behind the top -/
structure Fun (K : PySem.W.Frag) (x qual : Str) (st : Stmt) (f : Addr) (fd : FuncData) : Prop where
  ex : ∃ (oc : Value) (od : Option Addr) (kV doc pm : Value) (an : Option Addr) (cdv ct : Value) (osl : Array (Option Value)),
    fd = PySem.W.fnOf x qual (defArgs st) (defBody st) (defScope st) .none kV doc pm an cdv ct ∧ K.lookup f = some ⟨oc, od, .func fd, osl⟩ ∧ PySem.W.codeIn K cdv qual = true
  kp : PySem.W.keepIn K (.ref f) = true
section
variable {P : Program} {w : World} {K : PySem.W.Frag} {mg : Str → Option Value} {base : Heap}
/-- THE RULE for a def: its body as a term of rules, and the reading of that term -/
theorem Fun.ok {x qual : Str} {st : Stmt} {f : Addr} {fd : FuncData} {N ps : List Str} {k : Nat} {sp : Sp} (F : Fun K x qual st f fd) (S : FnScope N ps (defScope st)) (len : ∀ vs H Q E, sp vs H Q E → vs.length = ps.length)
    (hbody : ∀ (cdv : Value) (A : Around) (outer : List Env) (s : Shared) (H : Hp) (vs : List V) (Q : VK) (E : XK), Room k (A.deeper (envOfC qual (defScope st) s.heap.objs.size f cdv)) → sp vs H Q E →
      ∃ t, PSs (cxOf CX0 P w K mg base N qual (defScope st) f cdv A outer s H E).nox (defBody st) t ∧ t { nx := fun _ H' => Q .non H', rt := Q } (start N vs) H) : FnOk P w K mg base CX0 (k + 1) f fd ps sp := by
  obtain ⟨oc, od, kV, doc, pm, an, cdv, ct, osl, rfl, lk, hcd⟩ := F.ex
  refine fn_of lk hcd S len fun A outer s H vs Q E hr hsp => ?_
  obtain ⟨t, h, q⟩ := hbody cdv A outer s H vs Q E hr hsp
  exact ⟨t, h.nox, q⟩
/-- how its arguments bind (no defaults): h is «fun _ _ _ _ _ _ us hl => match us, hl with | [_, _], _ => rfl», one _ a parameter -/
theorem Fun.binds {x qual : Str} {st : Stmt} {f : Addr} {fd : FuncData} {ps : List Str} (F : Fun K x qual st f fd)
    (h : ∀ (kV doc pm : Value) (an : Option Addr) (cdv ct : Value) (us : List Value), us.length = ps.length → bindArgs (PySem.W.fnOf x qual (defArgs st) (defBody st) (defScope st) .none kV doc pm an cdv ct) ⟨us, []⟩ = pure (ps.zip us)) : Binds K fd ps [] := by
  obtain ⟨oc, od, kV, doc, pm, an, cdv, ct, osl, rfl, lk, hcd⟩ := F.ex
  exact .all (h kV doc pm an cdv ct)
theorem fun_mk {x qual : Str} {st : Stmt} {f : Addr} {oc : Value} {od an : Option Addr} {osl : Array (Option Value)} {kV doc pm cdv ct : Value} (l : K.lookup f = some ⟨oc, od, .func (PySem.W.fnOf x qual (defArgs st) (defBody st) (defScope st) .none kV doc pm an cdv ct), osl⟩)
    (c : PySem.W.codeIn K cdv qual = true) (k : PySem.W.keepIn K (.ref f) = true) : Fun K x qual st f (PySem.W.fnOf x qual (defArgs st) (defBody st) (defScope st) .none kV doc pm an cdv ct) := ⟨⟨oc, od, kV, doc, pm, an, cdv, ct, osl, rfl, l, c⟩, k⟩
end
/-! ### expressions in short: the name that stands in the i-th slot -/
section
variable {X : Cx}
theorem pv (i : Nat) {x : Str} {pos : Pos} (hN : X.N[i]? = some x := by rfl) (hv : Vis X.env.scope x := by first | exact Or.inl rfl | exact Or.inr (Or.inl rfl) | exact Or.inr (Or.inr rfl)) (hd : (x == ("__debug__" : Str)) = false := by decide)
    (hcd : (x == ("__classdict__" : Str)) = false := by decide) : PE X (.Name x pos) (tVar i) := pe_var hN hv hd hcd
end

/-! ### tests -/
theorem iteF {A B : Prop} (h : B) : if false = true then A else B := by
  rw [if_neg Bool.false_ne_true]
  exact h
theorem iteT {A B : Prop} (h : A) : if true = true then A else B := by
  rw [if_pos rfl]
  exact h
theorem ite2 {c A B : Prop} [Decidable c] (h1 : c → A) (h2 : ¬ c → B) : if c then A else B := by
  by_cases h : c
  · rw [if_pos h]
    exact h1 h
  · rw [if_neg h]
    exact h2 h
theorem iteNS {c A B : Prop} [Decidable c] (hc : c) (h : B) : if (!decide c) = true then A else B := by
  rw [decide_eq_true hc]
  exact iteF h

/-! ### heaps -/
/-- all that was tracked is as it was -/
def Same (H H' : Hp) : Prop := ∀ b o, H b = some o → H' b = some o
theorem Same.refl (H : Hp) : Same H H := fun _ _ h => h
theorem Same.trans {H H1 H2 : Hp} (a : Same H H1) (b : Same H1 H2) : Same H H2 := fun c o h => b c o (a c o h)
theorem Same.free {H H' : Hp} (e : Same H H') {l : Addr} (h : H' l = Option.none) : H l = Option.none := by
  cases q : H l with
  | none => rfl
  | some o =>
    rw [e l o q] at h
    cases h
theorem Same.seq {K : PySem.W.Frag} {H H' : Hp} {a : Addr} {xs : List V} (e : Same H H') (h : SqL K H a xs) : SqL K H' a xs := by
  rcases h with (h | ⟨o, h⟩) | h
  · exact .inl (.inl (e _ _ h))
  · exact .inl (.inr ⟨o, e _ _ h⟩)
  · exact .inr h

end L2

set_option Elab.async false
set_option linter.all false
set_option maxRecDepth 100000
set_option maxHeartbeats 4000000
/-! COMPREHENSIONS over the hand layer: one clause, any target, at most one test; no exception leaves the block. -/
namespace L2
open PySem PySem.Spec PyProof.Rows

abbrev NoX : Value → Shared → Prop := fun _ _ => False
/-- the tests of a clause -/
abbrev ifsRun (ifs : List Expr) (env : Env) : Sem Bool :=
  forIn ifs true fun c r => if r = true then do let ok ← isTrue c env (eval c env); pure (ForInStep.yield ok) else pure (ForInStep.yield r)

theorem compLoop_any {prog : Program} {w : World} {A : Around} {R : Result → Shared → Prop} {s : Shared} {elt target iter : Expr} {ifs : List Expr} {scope : Scope} {pos : Pos} {it acc : Value} {env : Env} (I : Nat → Shared → Prop)
    (turn : ∀ n s, I n s → wpAny (model prog w) A (pyNext it) (fun r s₁ => match r with
      | none => R (.ok .next) s₁
      | some v => wpAny (model prog w) A (letOwnedTupleGo target it v) (fun _ s₁' => wpAny (model prog w) A (assign target env v) (fun _ s₂ =>
          wpAny (model prog w) A (ifsRun ifs env) (fun ok s₃ =>
            if ok = true then wpAny (model prog w) A (eval elt env) (fun x s₄ =>
              wpAny (model prog w) A (call (.builtin "list.append") [acc, x]) (fun _ s₅ => ∃ m, m < n ∧ I m s₅) NoX s₄) NoX s₃
            else ∃ m, m < n ∧ I m s₃) NoX s₂) NoX s₁') NoX s₁) NoX s)
    (n : Nat) (h : I n s) : codeAny (model prog w) A (.compLoop (.ListComp elt [⟨target, iter, ifs, 0⟩] scope pos) 0 it acc env) R s := by
  refine codeAny_loop rfl I (fun n s hI => ?_) n h
  show wpAny _ A ((compTurn (.ListComp elt [⟨target, iter, ifs, 0⟩] scope pos) 0 it acc env).onRaise (fun x => do noteFrame x env; theTreesLotGoes x)) _ _ s
  refine wpAny_noted ?_
  rw [compTurn_list]
  refine wpAny_bind (wpAny_standAt (wpAny_bind (wpAny_mono (turn n s hI) (fun r s₁ h₁ => ?_) fun _ _ h' => h'.elim)))
  cases r with
  | none => exact wpAny_pure h₁
  | some v =>
    refine wpAny_bind (wpAny_mono h₁ (fun _ s₁' h₁' => ?_) fun _ _ h' => h'.elim)
    refine wpAny_bind (wpAny_mono h₁' (fun _ s₂ h₂ => wpAny_bind (wpAny_mono h₂ (fun ok s₃ h₃ => ?_) fun _ _ h' => h'.elim)) fun _ _ h' => h'.elim)
    cases ok with
    | false => exact wpAny_pure ⟨rfl, h₃⟩
    | true =>
      exact wpAny_bind (wpAny_bind (wpAny_mono h₃ (fun x s₄ h₄ => wpAny_bind (wpAny_mono h₄ (fun _ s₅ h₅ => wpAny_pure (wpAny_pure ⟨rfl, h₅⟩)) fun _ _ h' => h'.elim)) fun _ _ h' => h'.elim))

/-- the cells that a block takes from around it -/
def clos (names : List (Str × NameKind)) (cells : List (Str × Addr)) : List (Str × Addr) :=
  names.foldl (fun cs y => if y.2 == .free then (y.1, (cells.lookup y.1).getD 0) :: cs else cs) []
theorem closureFor_of {scope : Scope} {env : Env} (h : ∀ y ∈ scope.names, y.2 = .free → ∃ c, env.cells.lookup y.1 = some c) : closureFor scope env = pure (clos scope.names env.cells) := by
  have all : ∀ (names : List (Str × NameKind)) (cs : List (Str × Addr)), (∀ y ∈ names, y.2 = .free → ∃ c, env.cells.lookup y.1 = some c) →
      (forIn (m := Sem) names cs fun (y : Str × NameKind) (r : List (Str × Addr)) => if (y.2 == NameKind.free) = true then do let c ← cellOf env y.1; pure (ForInStep.yield ((y.1, c) :: r)) else pure (ForInStep.yield r)) =
        pure (names.foldl (fun cs y => if y.2 == .free then (y.1, (env.cells.lookup y.1).getD 0) :: cs else cs) cs) := by
    intro names
    induction names with
    | nil => intro cs _; rfl
    | cons y r ih =>
      intro cs hy
      rw [List.forIn_cons]
      by_cases hk : y.2 = .free
      · obtain ⟨c, hc⟩ := hy y List.mem_cons_self hk
        have hb : (y.2 == NameKind.free) = true := by simp [hk]
        rw [if_pos hb, List.foldl_cons, if_pos hb, hc]
        have e : cellOf env y.1 = pure c := by unfold cellOf; rw [hc]
        rw [e]
        exact ih _ fun z hz => hy z (List.mem_cons_of_mem _ hz)
      · have hb : ¬ (y.2 == NameKind.free) = true := by simpa using hk
        rw [if_neg hb, List.foldl_cons, if_neg hb]
        exact ih _ fun z hz => hy z (List.mem_cons_of_mem _ hz)
  unfold closureFor
  have e := all scope.names [] h
  exact (congrArg (fun z => z >>= fun cs => pure cs) e).trans rfl
theorem clos_mem {cells : List (Str × Addr)} : ∀ (names : List (Str × NameKind)) (cs : List (Str × Addr)) {p : Str × Addr},
    p ∈ names.foldl (fun cs y => if y.2 == .free then (y.1, (cells.lookup y.1).getD 0) :: cs else cs) cs → p ∈ cs ∨ (p.2 = (cells.lookup p.1).getD 0 ∧ (p.1, NameKind.free) ∈ names)
  | [], cs, p, h => .inl h
  | (n, k) :: r, cs, p, h => by
    rw [List.foldl_cons] at h
    rcases clos_mem r _ h with h | ⟨h1, h2⟩
    · by_cases hk : k = .free
      · subst hk
        rw [if_pos (by rfl)] at h
        rcases List.mem_cons.mp h with e | h
        · subst e
          exact .inr ⟨rfl, List.mem_cons_self⟩
        · exact .inl h
      · rw [if_neg (by simpa using hk)] at h
        exact .inl h
    · exact .inr ⟨h1, List.mem_cons_of_mem _ h2⟩
theorem clos_keep {cells : List (Str × Addr)} {x : Str} : ∀ (names : List (Str × NameKind)) (cs : List (Str × Addr)), ((∃ p ∈ cs, p.1 = x) ∨ (x, NameKind.free) ∈ names) →
    ∃ p ∈ names.foldl (fun cs y => if y.2 == .free then (y.1, (cells.lookup y.1).getD 0) :: cs else cs) cs, p.1 = x
  | [], cs, h => by
    rcases h with h | h
    · exact h
    · simp at h
  | (n, k) :: r, cs, h => by
    rw [List.foldl_cons]
    refine clos_keep r _ ?_
    rcases h with ⟨p, hp, e⟩ | h
    · refine .inl ⟨p, ?_, e⟩
      split
      · exact List.mem_cons_of_mem _ hp
      · exact hp
    · rcases List.mem_cons.mp h with e | h
      · cases e
        exact .inl ⟨_, by rw [if_pos (by rfl)]; exact List.mem_cons_self, rfl⟩
      · exact .inr h
theorem lookup_some_of {β : Type} {x : Str} : ∀ {l : List (Str × β)}, (∃ p ∈ l, p.1 = x) → ∃ c, l.lookup x = some c
  | [], h => by obtain ⟨p, hp, _⟩ := h; simp at hp
  | (n, b) :: r, h => by
    rw [List.lookup_cons]
    by_cases hx : x = n
    · subst hx
      exact ⟨b, by simp⟩
    · have hb : (x == n) = false := by simpa using hx
      rw [hb]
      refine lookup_some_of ?_
      obtain ⟨p, hp, e⟩ := h
      rcases List.mem_cons.mp hp with z | z
      · subst z; exact absurd e.symm hx
      · exact ⟨p, z, e⟩
/-- a name of the closure: its cell is the one around -/
theorem clos_lookup {names : List (Str × NameKind)} {cells : List (Str × Addr)} {x : Str} {c : Addr} (h : (clos names cells).lookup x = some c) : c = (cells.lookup x).getD 0 ∧ (x, NameKind.free) ∈ names := by
  have hm := PySem.mem_of_lookup h
  rcases clos_mem names [] hm with z | z
  · simp at z
  · exact z
theorem clos_has {names : List (Str × NameKind)} {cells : List (Str × Addr)} {x : Str} (h : (x, NameKind.free) ∈ names) : ∃ c, (clos names cells).lookup x = some c :=
  lookup_some_of (clos_keep names [] (.inr h))
theorem relabel_lookup {env : Env} {x : Str} {k : NameKind} : ∀ {names : List (Str × NameKind)},
    (names.map fun (n, k) => if (k == NameKind.free && env.scope.kind == .function && env.kindOf n == some .cell) then (n, NameKind.cell) else (n, k)).lookup x = some k → ∃ k', (x, k') ∈ names ∧ (k' = k ∨ k' = .free)
  | [], h => by simp at h
  | (n, k0) :: r, h => by
    have h : List.lookup x ((if (k0 == NameKind.free && env.scope.kind == .function && env.kindOf n == some .cell) = true then (n, NameKind.cell) else (n, k0)) :: _) = _ := h
    by_cases hx : x = n
    · subst hx
      by_cases hc : (k0 == NameKind.free && env.scope.kind == .function && env.kindOf x == some .cell) = true
      · have : k0 = .free := by
          simp only [Bool.and_eq_true, beq_iff_eq] at hc
          exact hc.1.1
        exact ⟨k0, List.mem_cons_self, .inr this⟩
      · rw [if_neg hc] at h
        simp only [List.lookup_cons, beq_self_eq_true] at h
        exact ⟨k0, List.mem_cons_self, .inl (Option.some.inj h)⟩
    · have hb : (x == n) = false := by simpa using hx
      have ih := @relabel_lookup env x k r
      by_cases hc : (k0 == NameKind.free && env.scope.kind == .function && env.kindOf n == some .cell) = true
      · rw [if_pos hc] at h
        simp only [List.lookup_cons, hb] at h
        obtain ⟨k', h1, h2⟩ := ih h
        exact ⟨k', List.mem_cons_of_mem _ h1, h2⟩
      · rw [if_neg hc] at h
        simp only [List.lookup_cons, hb] at h
        obtain ⟨k', h1, h2⟩ := ih h
        exact ⟨k', List.mem_cons_of_mem _ h1, h2⟩

/-- the context of a comprehension's block: T its own names, js the slots around that it reads -/
abbrev compN (X : Cx) (T : List Str) (js : List Nat) : List Str := T ++ js.map fun j => X.N.getD j ""
abbrev compSt (T : List Str) (js : List Nat) (σ : St) : St := T.map (fun _ => none) ++ js.map fun j => σ.getD j none
abbrev cxComp (X : Cx) (T : List Str) (js : List Nat) (scope : Scope) (fp : List Addr) (pl : List (Addr × Obj)) (s : Shared) (H : Hp) : Cx :=
  { X with N := compN X T js, s₀ := s, H₀ := H, env := compEnvC scope (clos scope.names X.env.cells) s.heap.objs.size X.env, outer := X.stack, stack := X.stack, ex := fp, fn := fun _ => false, pn := X.pn ++ pl, xe := NoX }
/-- what the block's names are: none has a cell of its own; those read from around lie in cells there -/
structure CompScope (X : Cx) (T : List Str) (js : List Nat) (scope : Scope) : Prop where
  kind : scope.kind = .function
  nocell : ∀ y ∈ scope.names, y.2 ≠ .cell
  loc : ∀ y ∈ scope.names, y.2 = .local → scope.names.lookup y.1 = some .local
  free : ∀ y ∈ scope.names, y.2 = .free → X.env.kindOf y.1 = some .cell ∨ X.env.kindOf y.1 = some .free
  caps : ∀ j ∈ js, (X.N.getD j "", NameKind.free) ∈ scope.names
  capk : ∀ j ∈ js, (compEnvC scope (clos scope.names X.env.cells) 0 X.env).kindOf (X.N.getD j "") = some .cell ∨ (compEnvC scope (clos scope.names X.env.cells) 0 X.env).kindOf (X.N.getD j "") = some .free

section
variable {X : Cx} {T : List Str} {js : List Nat} {scope : Scope}
theorem CompScope.cells (S : CompScope X T js scope) (ok : X.Ok) {x : Str} {c : Addr} (h : (clos scope.names X.env.cells).lookup x = some c) : X.env.cells.lookup x = some c := by
  obtain ⟨h1, h2⟩ := clos_lookup h
  obtain ⟨c', hc⟩ := ok.has x (S.free _ h2 rfl)
  rw [hc] at h1
  rw [hc, h1]; rfl
theorem CompScope.ok (S : CompScope X T js scope) {pins : List (Addr × Obj)} {σ : St} {H : Hp} {s : Shared} {fp : List Addr} (I : Inv X pins σ H s) (hf : ∀ b ∈ fp, FpOk X pins H b) (ho : ∀ b ∈ fp, b < s.heap.objs.size) :
    (cxComp X T js scope fp pins s H).Ok := by
  have ok := I.ok
  refine ⟨ok.mod, S.kind, ok.glob, ok.blt, Nat.le_refl _, fun x y c h1 h2 => ok.inj x y c (S.cells ok h1) (S.cells ok h2), fun x hx => ?_, fun x c h => (nomatch h), ok.hd, ok.frames, .inl rfl, fun b hb => ⟨Nat.ne_of_lt (ho b hb), fun x c h => (hf b hb).2.2.2.2.1 x c (S.cells ok h)⟩,
    I.bs, Nat.le_trans ok.bsz I.sz, fun b o e hb => ?_, fun b hb hs => ?_, I.stack, I.stkFree⟩
  · have hx' : (relabel scope X.env).names.lookup x = some .cell ∨ (relabel scope X.env).names.lookup x = some .free := hx
    have go : ∀ k, (relabel scope X.env).names.lookup x = some k → (k = .cell ∨ k = .free) → ∃ c, (clos scope.names X.env.cells).lookup x = some c := fun k e hk => by
      obtain ⟨k', h1, h2⟩ := relabel_lookup e
      refine clos_has ?_
      rcases h2 with z | z
      · rcases hk with q | q
        · exact absurd (z.trans q) (S.nocell _ h1)
        · rw [z, q] at h1; exact h1
      · rw [z] at h1; exact h1
    rcases hx' with e | e
    · exact go _ e (.inl rfl)
    · exact go _ e (.inr rfl)
  · rcases (hf b hb).2.2.2.1 with z | z
    · exact ok.noex b o e z
    · exact absurd (Nat.lt_of_lt_of_le (Heap.lt_size e) (Nat.le_trans ok.bsz z)) (Nat.lt_irrefl _)
  · have f := hf b hb
    rcases List.mem_cons.mp (I.stkSub b hs) with z | z
    · exact f.2.1 z
    · exact f.2.2.1 z
theorem CompScope.inv (S : CompScope X T js scope) {pins : List (Addr × Obj)} {σ : St} {H : Hp} {s : Shared} {fp : List Addr} {h' : Heap} {m : Str → Option Value} {tk : Nat} (I : Inv X pins σ H s) (hf : ∀ b ∈ fp, FpOk X pins H b) (ho : ∀ b ∈ fp, b < s.heap.objs.size)
    (hn : h'.Ns s.heap.objs.size m) (hk : ∀ b o, s.heap.get? b = some o → h'.get? b = some o) :
    Inv (cxComp X T js scope fp pins s H) [] (compSt T js σ) H { s with heap := h', toks := tk } := by
  have ok := I.ok
  refine ⟨S.ok I hf ho, rfl, I.bare, Un.kept hk, ⟨m, hn, fun i x v h1 h2 h3 => ?_⟩, fun x c h => ?_, I.hok.fresh (Nat.le_refl _), fun x c h => I.freeC x c (S.cells ok h), fun p hp => ?_, I.hok.kept hk, ?_⟩
  · have hi : T.length ≤ i := by
      by_cases hi : i < T.length
      · have h2 : (T.map (fun _ => (none : Option V)) ++ js.map fun j => σ.getD j none)[i]? = some (some v) := h2
        rw [List.getElem?_append_left (by simpa using hi), List.getElem?_map] at h2
        cases e : T[i]? with
        | none => rw [e] at h2; cases h2
        | some z => rw [e] at h2; cases h2
      · omega
    have h2 : (T.map (fun _ => (none : Option V)) ++ js.map fun j => σ.getD j none)[i]? = some (some v) := h2
    rw [List.getElem?_append_right (by simpa using hi), List.getElem?_map] at h2
    have h1 : (T ++ js.map fun j => X.N.getD j "")[i]? = some x := h1
    rw [List.getElem?_append_right hi, List.getElem?_map] at h1
    rw [List.length_map] at h2
    cases e : js[i - T.length]? with
    | none => rw [e] at h2; cases h2
    | some j =>
      rw [e] at h1 h2
      have h1 : X.N.getD j "" = x := Option.some.inj h1
      have h2 : σ.getD j none = some v := Option.some.inj h2
      have hj : j ∈ js := List.mem_of_getElem? e
      have hσ : σ[j]? = some (some v) := by
        rw [List.getD_eq_getElem?_getD] at h2
        cases q : σ[j]? with
        | none => rw [q] at h2; cases h2
        | some z => rw [q] at h2; exact congrArg some h2
      have hjN : j < X.N.length := by
        rw [← I.len]
        exact (List.getElem?_eq_some_iff.mp hσ).1
      have hN : X.N[j]? = some x := by
        rw [← h1, List.getD_eq_getElem?_getD, List.getElem?_eq_getElem hjN]; rfl
      have hkx : X.env.kindOf x = some .cell ∨ X.env.kindOf x = some .free := by
        have := S.free _ (S.caps j hj) rfl
        rw [h1] at this
        exact this
      obtain ⟨m0, _, hl⟩ := I.loc
      have vis : Vis X.env.scope x := by
        rcases hkx with q | q
        · exact .inr (.inl q)
        · exact .inr (.inr q)
      obtain ⟨u, r, l⟩ := hl j x v hN hσ vis
      refine ⟨u, r, .inr ⟨?_, ?_⟩⟩
      · have := S.capk j hj
        rw [h1] at this
        exact this
      · rcases l with ⟨q, _⟩ | ⟨_, c, hc, z⟩
        · rcases hkx with z | z
          · rw [z] at q; cases q
          · rw [z] at q; cases q
        · obtain ⟨c', hc'⟩ := clos_has (cells := X.env.cells) (S.caps j hj)
          rw [h1] at hc'
          have e1 := S.cells ok hc'
          rw [hc] at e1
          cases e1
          obtain ⟨oc, hoc, hd⟩ := z
          exact ⟨c, hc', oc, hk _ _ hoc, hd⟩
  · obtain ⟨v, oc, hoc, hd⟩ := I.cell x c (S.cells ok h)
    exact ⟨v, oc, hk _ _ hoc, hd⟩
  · have hp : p ∈ (X.pn ++ pins) ++ [] := hp
    rw [List.append_nil] at hp
    obtain ⟨e, n, ne, nf, d⟩ := I.pin p hp
    refine ⟨hk _ _ e, n, Nat.ne_of_lt (Heap.lt_size e), fun hs => ?_, d⟩
    rcases List.mem_cons.mp (I.stkSub _ hs) with z | z
    · exact ne z
    · exact nf z
  · simp
end

/-! ### the tests of a clause -/
def PIf (X : Cx) (ifs : List Expr) (t : TT) : Prop :=
  ∀ (pins : List (Addr × Obj)) (s : Shared) (σ : St) (H : Hp) (Q : Bool → Hp → Prop), Inv X pins σ H s → t σ H Q → wpAny (model X.prog X.w) X.A (ifsRun ifs X.env) (TP X pins σ Q) X.xe s
def tNoIf : TT := fun _ H Q => Q true H
theorem pif_nil {X : Cx} : PIf X [] tNoIf := fun pins s σ H Q I h => wpAny_tests_nil ⟨H, I, h⟩
/-! ### the reading: W by the turn and a measure over the block's own names and the heap; the list grows at p -/
def CompR (J : It) (p : Addr) (Q : VK) (g : TG) (ti : TT) (te : TE) (σ0 : St) (H0 : Hp) : Prop :=
  ∃ W : Nat → Nat → St → Hp → Prop, (∃ m, W 0 m σ0 H0) ∧
  ∀ i m σ H, W i m σ H → (J.stop i H ∧ Q (.ref p) H) ∨ (J.go i H ∧ ∃ N : St → Hp → Prop, (∀ σ' H', N σ' H' → ∃ m', m' < m ∧ W (i + 1) m' σ' H') ∧ ∀ x H', J.yld i H x H' → g x σ H' fun σ2 H2 =>
    ti σ2 H2 fun b H3 => if b = true then te σ2 H3 fun v H4 => ∃ xs, H4 p = some (.lst xs) ∧ xs.length < sizeLine ∧ N σ2 (upd H4 p (.lst (xs ++ [v]))) else N σ2 H3)
def tComp (T : List Str) (js : List Nat) (wi : TI) (g : TG) (ti : TT) (te : TE) : TE := fun σ H Q => wi σ H fun J H1 => ∀ p, H1 p = none → CompR J p Q g ti te (compSt T js σ) (upd H1 p (.lst []))

section
variable {X : Cx} {T : List Str} {js : List Nat} {scope : Scope} {elt tg iter : Expr} {ifs : List Expr} {wi : TI} {g : TG} {ti : TT} {te : TE} {pos : Pos}
/-- the block runs: behind it the frame around is as it was, the block's own namespace at C is nobody's -/
theorem comp_core {pins : List (Addr × Obj)} {σ : St} {H1 : Hp} {s2 : Shared} {Q : VK} {it : Addr} {fp : List Addr} {tn : Nat → Heap → Prop} {J : It} {E : Value → Shared → Prop} {RR : Value → Addr → Result → Shared → Prop}
    (hc : X.calm = true) (S : CompScope X T js scope)
    (hb : ∀ fp pl s H, PG (cxComp X T js scope fp pl s H) tg g ∧ PIf (cxComp X T js scope fp pl s H) ifs ti ∧ PE (cxComp X T js scope fp pl s H) elt te)
    (I : Inv X pins σ H1 s2) (Tn : Turn X.prog X.w X.K tg J fp it tn) (st0 : tn 0 s2.heap) (hf : ∀ b ∈ fp, FpOk X pins H1 b)
    (hq : ∀ p, H1 p = none → CompR J p Q g ti te (compSt T js σ) (upd H1 p (.lst [])))
    (hR : ∀ (D C : Addr) (s' : Shared) (H' : Hp) (m : Str → Option Value), Inv X pins σ H' s' → Q (.ref D) H' → s'.heap.Ns C m → H' C = none → C ≠ X.env.locals → X.s₀.heap.objs.size ≤ C → (∀ x c, X.env.cells.lookup x = some c → c ≠ C) → (∀ p ∈ X.pn ++ pins, p.1 ≠ C) →
      RR (.ref D) C (.ok .next) s') :
    wpAny (model X.prog X.w) X.A (newList []) (fun acc s₃ => wpAny (model X.prog X.w) X.A (newFunctionEnv scope X.env.globals (clos scope.names X.env.cells) [] X.env.qual none .none (some X.env)) (fun cenv s₄ =>
      codeAny (model X.prog X.w) X.A (.compStart (.ListComp elt [⟨tg, iter, ifs, 0⟩] scope pos) 0 (.ref it) acc { cenv with scope := relabel scope X.env }) (RR acc cenv.locals) s₄) E s₃) E s2 := by
  refine wpAny_newObj_type (wpAny_newFunctionEnv S.nocell (by intro y hy; simp at hy) (fun h₁ hns₁ hsb₁ => ?_) S.kind)
  dsimp only at hns₁ hsb₁ ⊢
  have I2 := I.lnew (its := []) (ys := []) (t' := s2.toks) .nil (Nat.zero_le _)
  have hD : H1 s2.heap.objs.size = none := I.fresh
  obtain ⟨W, ⟨m0, w0⟩, turn⟩ := hq s2.heap.objs.size hD
  generalize hs3 : ({ s2 with heap := s2.heap.push { cls := .type "list", data := .seq ([] : List Value).toArray }, toks := s2.toks } : Shared) = s3 at I2
  have hh3 : s3.heap = s2.heap.push { cls := .type "list", data := .seq ([] : List Value).toArray } := by rw [← hs3]
  generalize hDD : s2.heap.objs.size = D at *
  have hC : s3.heap.objs.size = D + 1 := by rw [hh3, Heap.size_push, hDD]
  have ho : ∀ b ∈ fp, b < D := fun b hb => by
    obtain ⟨o, e, _⟩ := Tn.obj _ _ st0 b hb
    rw [← hDD]
    exact Heap.lt_size e
  have hf3 : ∀ b ∈ fp, FpOk X pins (upd H1 D (.lst [])) b := fun b hb => ⟨by rw [upd_ne (Nat.ne_of_lt (ho b hb))]; exact (hf b hb).1, (hf b hb).2⟩
  have ho3 : ∀ b ∈ fp, b < s3.heap.objs.size := fun b hb => by rw [hC]; exact Nat.lt_succ_of_lt (ho b hb)
  have kk : ∀ b o, s3.heap.get? b = some o → h₁.get? b = some o := fun b o e => hsb₁.extBut b o (by rw [← hh3]; exact Nat.ne_of_lt (Heap.lt_size e)) (Heap.get?_push_of_some _ (by rw [← hh3]; exact e))
  obtain ⟨mC, hns⟩ : ∃ m, h₁.Ns s3.heap.objs.size m := ⟨_, by rw [hh3]; exact hns₁⟩
  have I3 := S.inv (tk := s2.toks + ([] : List (Str × Value)).length) I2 hf3 ho3 hns kk
  have Xc : ∀ fp pl s H, (cxComp X T js scope fp pl s H).calm = true := fun _ _ _ _ => hc
  obtain ⟨bG, bI, bE⟩ := hb fp pins s3 (upd H1 D (.lst []))
  have fpOk : ∀ {H' : Hp}, (∀ b ∈ fp, H' b = none) → ∀ b ∈ fp, FpOk (cxComp X T js scope fp pins s3 (upd H1 D (.lst []))) [] H' b := fun hn b hb => by
    obtain ⟨f0, f1, f2, f3, f4, f5⟩ := hf3 b hb
    refine ⟨hn b hb, Nat.ne_of_lt (ho3 b hb), fun hs => ?_, .inl hb, fun x c h => f4 x c (S.cells I.ok h), fun p hp => ?_⟩
    · rcases List.mem_cons.mp (I2.stkSub _ hs) with z | z
      · exact f1 z
      · exact f2 z
    · have hp : p ∈ (X.pn ++ pins) ++ [] := hp
      rw [List.append_nil] at hp
      exact f5 p hp
  have st3 : tn 0 h₁ := Tn.keep _ _ _ st0 fun b hb o e => kk b o (by rw [hh3]; exact Heap.get?_push_of_some _ e)
  have eEnv : ({ newEnv scope (s2.heap.push { cls := .type "list", data := .seq ([] : List Value).toArray }).objs.size X.env.globals (clos scope.names X.env.cells) X.env.qual none .none (some X.env) builtinsNs with scope := relabel scope X.env } : Env) = compEnvC scope (clos scope.names X.env.cells) s3.heap.objs.size X.env := by
    rw [hh3]; rfl
  have eC : (newEnv scope (s2.heap.push { cls := .type "list", data := .seq ([] : List Value).toArray }).objs.size X.env.globals (clos scope.names X.env.cells) X.env.qual none .none (some X.env) builtinsNs).locals = s3.heap.objs.size := by
    rw [hh3]; rfl
  have nfin : ∀ {s' : Shared} {σ' : St} {H' : Hp}, Inv (cxComp X T js scope fp pins s3 (upd H1 D (.lst []))) [] σ' H' s' → Q (.ref D) H' → RR (.ref D) s3.heap.objs.size (.ok .next) s' := fun {s' σ' H'} J' q => by
    have I4 : Inv X pins σ H' s' := I2.call' (ch := fp) J'.os J'.base J'.hok J'.bare fun b hb => ⟨(hf3 b hb).2.2.2.1, (hf3 b hb).2.1, (hf3 b hb).2.2.2.2.1, (hf3 b hb).2.2.2.2.2⟩
    obtain ⟨m', hn', _⟩ := J'.loc
    refine hR D s3.heap.objs.size s' H' m' I4 q hn' J'.free (Nat.ne_of_gt I2.lt) I2.sz (fun x c h => ?_) (fun p hp => ?_)
    · obtain ⟨v, z⟩ := I2.cell x c h
      exact Nat.ne_of_lt z.lt
    · exact Nat.ne_of_lt (Heap.lt_size (I2.pin p hp).1)
  have loop : codeAny (model X.prog X.w) X.A (.compLoop (.ListComp elt [⟨tg, iter, ifs, 0⟩] scope pos) 0 (.ref it) (.ref D) (compEnvC scope (clos scope.names X.env.cells) s3.heap.objs.size X.env)) (RR (.ref D) s3.heap.objs.size)
      { s3 with heap := h₁, toks := s2.toks + ([] : List (Str × Value)).length } := by
    refine compLoop_any (fun n s' => ∃ i σ' H', Inv (cxComp X T js scope fp pins s3 (upd H1 D (.lst []))) [] σ' H' s' ∧ tn i s'.heap ∧ (∀ b ∈ fp, H' b = none) ∧ W i n σ' H') ?_ m0 ⟨0, _, _, I3, st3, fun b hb => (hf3 b hb).1, w0⟩
    rintro n s4 ⟨i, σ4, H4, I4, st4, fr4, w4⟩
    rcases turn i n σ4 H4 w4 with ⟨stop, qn⟩ | ⟨go, N, hN, step⟩
    · refine thn (Tn.done (cxComp X T js scope fp pins s3 (upd H1 D (.lst []))) rfl rfl rfl hc i [] s4 σ4 H4 NoX I4 (fpOk fr4) st4 stop) fun r s5 ⟨hr, I5⟩ => ?_
      subst hr
      exact nfin I5 qn
    · refine thn (Tn.item (cxComp X T js scope fp pins s3 (upd H1 D (.lst []))) rfl rfl rfl hc i [] s4 σ4 H4 NoX I4 (fpOk fr4) st4 go) fun r s5 ⟨u, hr, h5⟩ => ?_
      subst hr
      refine thn h5 fun _ s6 ⟨x, H6, I6, r6, y6, st6, fr6⟩ => ?_
      have I6' := I6.pinned (fpOk fr6) (Tn.obj _ _ st6)
      refine thn (bG _ s6 σ4 H6 x u _ I6' r6 (step x H6 y6)) fun _ s7 ⟨σ7, H7, I7, q7⟩ => ?_
      refine thn (bI _ s7 σ7 H7 _ I7 q7) fun ok s8 ⟨H8, I8, q8⟩ => ?_
      have again : ∀ {s9 : Shared} {σ9 : St} {H9 : Hp}, Inv (cxComp X T js scope fp pins s3 (upd H1 D (.lst []))) ([] ++ pinsAt fp s6.heap) σ9 H9 s9 → N σ9 H9 →
          ∃ m, m < n ∧ ∃ i σ' H', Inv (cxComp X T js scope fp pins s3 (upd H1 D (.lst []))) [] σ' H' s9 ∧ tn i s9.heap ∧ (∀ b ∈ fp, H' b = none) ∧ W i m σ' H' := fun {s9 σ9 H9} I9 n9 => by
        obtain ⟨m', hm, w9⟩ := hN σ9 H9 n9
        refine ⟨m', hm, i + 1, σ9, H9, I9.unpinned, Tn.keep _ _ _ st6 fun b hb o e => (I9.pin (b, o) (List.mem_append_right _ (List.mem_append_right _ (mem_pinsAt hb e)))).1, fun b hb => ?_, w9⟩
        obtain ⟨o, e, d⟩ := Tn.obj _ _ st6 b hb
        exact (I9.pin (b, o) (List.mem_append_right _ (List.mem_append_right _ (mem_pinsAt hb e)))).2.1
      cases ok with
      | false =>
        rw [if_neg Bool.false_ne_true] at q8 ⊢
        exact again I8 q8
      | true =>
        rw [if_pos rfl] at q8 ⊢
        refine thn (bE _ s8 σ7 H8 _ I8 q8) fun v s9 ⟨y, H9, I9, r9, q9⟩ => ?_
        obtain ⟨xs, hx, hz, q9⟩ := q9
        refine thn (mt_append _ s9 σ7 H9 (.ref D) [y] (.ref D) [v] (fun _ H10 => N σ7 H10) I9 rfl (.cons r9 .nil) ⟨D, xs, y, rfl, rfl, hx, hz, q9⟩) fun _ s10 ⟨_, H10, I10, _, n10⟩ => ?_
        exact again I10 n10
  have es : ({ s2 with heap := h₁, toks := s2.toks + ([] : List (Str × Value)).length } : Shared) = { s3 with heap := h₁, toks := s2.toks + ([] : List (Str × Value)).length } := by rw [← hs3]
  rw [eEnv, eC, es]
  exact codeAny_compStart_list loop (Tn.self X.A 0 _ _ _ st3 loop)

/-- a comprehension -/
theorem pe_comp (hc : X.calm = true) (S : CompScope X T js scope) (hi : PI X tg iter wi)
    (hb : ∀ fp pl s H, PG (cxComp X T js scope fp pl s H) tg g ∧ PIf (cxComp X T js scope fp pl s H) ifs ti ∧ PE (cxComp X T js scope fp pl s H) elt te)
    (hs : ∀ x, foldedSetIterable iter X.env x = pure x := by intro _; rfl) : PE X (.ListComp elt [⟨tg, iter, ifs, 0⟩] scope pos) (tComp T js wi g ti te) := by
  intro pins s σ H Q I h
  rw [eval_ListComp]
  refine wpAny_comprehension_free (use := none) (cl := clos scope.names X.env.cells) rfl hs (closureFor_of fun y hy hk => I.ok.has y.1 (S.free y hy hk)) S.kind S.loc ?_
  show wpAny (model X.prog X.w) X.A (eval iter X.env) _ _ s
  refine thn (hi pins s σ H _ I h) fun v s1 h1 => thn h1 fun itv s2 h2 => ?_
  obtain ⟨it, fp, tn, J, H2, e, I2, Tn, st2, f2, hq⟩ := h2
  subst e
  refine comp_core (E := X.xe) (RR := fun acc C => compPost (model X.prog X.w) X.A X.xe none (EP X pins σ Q) acc C) hc S hb I2 Tn st2 f2 hq ?_
  intro D C s' H' m I' q hn hC hCL hCs hCc hCp
  refine ⟨m, hn, fun h' hs' => ?_⟩
  exact ⟨.ref D, H', I'.turned (t' := s'.toks) (fun b o hb e => hs'.extBut b o hb e) hC hCL (.inr hCs) hCc hCp, rfl, q⟩
/-- y = [..] where the store comes ahead of the block's end -/
theorem ps_setC {i : Nat} {y : Str} {py spos : Pos} (hc : X.calm = true) (hN : X.N.Nodup) (hyi : X.N[i]? = some y) (hy : X.env.scope.names.lookup y = some .local) (S : CompScope X T js scope) (hi : PI X tg iter wi)
    (hb : ∀ fp pl s H, PG (cxComp X T js scope fp pl s H) tg g ∧ PIf (cxComp X T js scope fp pl s H) ifs ti ∧ PE (cxComp X T js scope fp pl s H) elt te)
    (hsw : swapsWith (.ListComp elt [⟨tg, iter, ifs, 0⟩] scope pos) (some (.Name y py)) spos.line X.env = pure true := by rfl)
    (hs : ∀ x, foldedSetIterable iter X.env x = pure x := by intro _; rfl) : PS X (.Assign [.Name y py] (.ListComp elt [⟨tg, iter, ifs, 0⟩] scope pos) spos) (tAsg (tComp T js wi g ti te) (gName i)) := by
  intro pins s σ H D I h
  rw [exec_Assign_Name_used _ _ _ _ hsw]
  refine wpAny_bind (wpAny_standAt (wpAny_bind ?_))
  show wpAny _ X.A (do let _ ← comprehension (.ListComp elt [⟨tg, iter, ifs, 0⟩] scope pos) scope X.env _ (newList []) false (eval iter X.env) (some (assign (.Name y py) X.env))) _ _ s
  refine wpAny_bind (wpAny_mono (wpAny_comprehension_free (use := some (assign (.Name y py) X.env)) (cl := clos scope.names X.env.cells) (Q := fun _ s' => SP X pins D .next s') (E := X.xe) rfl hs (closureFor_of fun y hy hk => I.ok.has y.1 (S.free y hy hk)) S.kind S.loc
    ?_) (fun _ s' hq => wpAny_pure (wpAny_pure hq)) fun _ _ e => e)
  refine thn (hi pins s σ H _ I h) fun v s1 h1 => thn h1 fun itv s2 h2 => ?_
  obtain ⟨it, fp, tn, J, H2, e, I2, Tn, st2, f2, hq⟩ := h2
  subst e
  refine comp_core (E := X.xe) (Q := fun x H1 => gName i x σ H1 D.nx) (RR := fun acc C => compPost (model X.prog X.w) X.A X.xe (some (assign (.Name y py) X.env)) (fun _ s' => SP X pins D .next s') acc C) hc S hb I2 Tn st2 f2 hq ?_
  intro Da C s' H' m I' q hn hC hCL hCs hCc hCp
  show wpAny _ X.A (assign (.Name y py) X.env (.ref Da)) _ _ _
  refine wpAny_assign_Name (store_ok2 I' hN hyi (.inl hy) (v := .ref Da) rfl (fun s3 I3 hsb => ?_) (.inr hy))
  obtain ⟨a, hsb, ha⟩ := hsb
  have haC : a ≠ C := by
    rcases ha with z | z
    · rw [z]; exact Ne.symm hCL
    · exact hCc _ _ z
  refine ⟨m, hn.sameBut hsb (Ne.symm haC), fun h' hs' => ?_⟩
  exact ⟨_, H', I3.turned (t' := s3.toks) (fun b o hb e => hs'.extBut b o hb e) hC hCL (.inr hCs) hCc hCp, q⟩
end
end L2

set_option Elab.async false
set_option linter.all false
set_option maxRecDepth 100000
set_option maxHeartbeats 4000000
namespace L2
open PySem PySem.Spec PyProof.Rows
/-! ### a range that goes down by ones -/
/-- hi, hi - 1, .. (n of them) -/
def Itd (hi : Int) (n : Nat) : It := ⟨fun i _ => i < n, fun i H x H' => H' = H ∧ x = .int (hi - i), fun i _ => n ≤ i⟩
theorem turn_rangeD {P : Program} {w : World} {K : PySem.W.Frag} {tg : Expr} (it : Addr) (hi : Int) (n : Nat) : Turn P w K tg (Itd hi n) [it] it (fun i h => IsRangeIter h it (hi + (i : Nat) * (-1)) ((n : Int) - (i : Nat)) (-1)) where
  mem := by simp
  obj := fun i h st b hb => by
    have e : b = it := by simpa using hb
    subst e
    exact ⟨_, st, fun v z => by
      have z' : Data.fields _ = Data.cell v := z
      cases z'⟩
  keep := fun i h h' st k => k it (by simp) _ st
  item := by
    intro X hP hw hK hc i pins s σ H E I hf st hg
    subst hP hw hK
    obtain ⟨f0, f1, f2, f3, f4, f5⟩ := hf it (by simp)
    have W := Walks.range (prog := X.prog) (w := X.w) (I.ok.hd hc) it hi (-1) n
    refine W.item i s _ _ hg st fun v h' tk hv st' kk => ?_
    obtain ⟨t, rfl⟩ := hv
    have I1 : Inv X pins σ H { s with heap := h', toks := tk } := I.turned (fun b o hb e => kk b o (by simpa using hb) e) f0 f1 f3 f4 f5
    refine ⟨_, rfl, go_of (s := { s with heap := h', toks := tk }) (n := "range_iterator") st' rfl rfl (by decide) ⟨.int (hi - i), H, I1, ⟨t, ?_⟩, ⟨rfl, rfl⟩, st', fun b hb => (hf b hb).1⟩⟩
    rw [show hi + (i : Int) * (-1) = hi - i by omega]
  done := by
    intro X hP hw hK hc i pins s σ H E I hf st hg
    subst hP hw hK
    obtain ⟨f0, f1, f2, f3, f4, f5⟩ := hf it (by simp)
    exact wpAny_pyNext_range_end (I.ok.hd hc) st (by have : n ≤ i := hg; omega) fun h' eb => ⟨rfl, I.turned (t' := s.toks) (fun b o hb e => eb b o hb e) f0 f1 f3 f4 f5⟩
  self := fun _ _ _ _ _ st h => wpAny_pyIter_rangeiter st h
theorem rangeSize_down (a b : Int) : Builtin.Range.rangeSize a b (-1) = (((a - b).toNat : Nat) : Int) := by
  unfold Builtin.Range.rangeSize
  rw [if_neg (by decide)]
  split
  · rw [show -(-1 : Int) = 1 by decide, Int.ediv_one]; omega
  · omega
theorem small_down {a b : Int} (ha : -(2 ^ 62) ≤ a) (ha' : a < 2 ^ 62) (hb : -(2 ^ 62) ≤ b) (hb' : b < 2 ^ 62) : Builtin.Range.small a b (-1) = true := by
  unfold Builtin.Range.small
  rw [rangeSize_down]
  simp only [Builtin.Range.rangeFitsLong, Bool.and_eq_true, Bool.or_eq_true, decide_eq_true_eq, beq_iff_eq, show ¬ ((-1 : Int) > 0) by decide, if_false]
  omega
section
variable {X : Cx} {tg : Expr}
theorem range_itD {pins : List (Addr × Obj)} {σ : St} {H : Hp} {s : Shared} {R : It → Hp → Prop} {E : Value → Shared → Prop} {lo hi : Int} {t u v : Tok} {tk : Nat} (I : Inv X pins σ H s) (h1 : -(2 ^ 62) ≤ lo) (h2 : lo < 2 ^ 62) (h3 : -(2 ^ 62) ≤ hi) (h4 : hi < 2 ^ 62)
    (q : R (Itd lo (lo - hi).toNat) H) : wpAny (model X.prog X.w) X.A (pyIter (.ref s.heap.objs.size)) (PIE X pins σ tg R) E { s with heap := s.heap.push { cls := .type "range", data := .fields #[.int lo t, .int hi u, .int (-1) v] }, toks := tk } := by
  refine wpAny_pyIter_range (IsRange.new ..) (small_down h1 h2 h3 h4) ?_
  have I1 : Inv X pins σ H { s with heap := s.heap.push { cls := .type "range", data := .fields #[.int lo t, .int hi u, .int (-1) v] }, toks := tk } := I.kept fun b o e => Heap.get?_push_of_some _ e
  refine ⟨(s.heap.push { cls := .type "range", data := .fields #[.int lo t, .int hi u, .int (-1) v] }).objs.size, [(s.heap.push { cls := .type "range", data := .fields #[.int lo t, .int hi u, .int (-1) v] }).objs.size], _, _, H, rfl,
    I1.kept (t' := tk) fun b o e => Heap.get?_push_of_some _ e, turn_rangeD _ lo (lo - hi).toNat, ?_, fun b hb => ?_, q⟩
  · have e1 : lo + ((0 : Nat) : Int) * (-1) = lo := by simp
    have e2 : (((lo - hi).toNat : Nat) : Int) - ((0 : Nat) : Int) = Builtin.Range.rangeSize lo hi (-1) := by rw [rangeSize_down]; simp
    show IsRangeIter _ _ (lo + ((0 : Nat) : Int) * (-1)) ((((lo - hi).toNat : Nat) : Int) - ((0 : Nat) : Int)) (-1)
    rw [e1, e2]
    exact Heap.get?_push_size _ rfl
  · have e : b = (s.heap.push { cls := .type "range", data := .fields #[.int lo t, .int hi u, .int (-1) v] }).objs.size := by simpa using hb
    subst e
    exact I1.fpOk (Nat.le_refl _) (I1.hok.fresh (Nat.le_refl _))
/-- range(i, j, -1) -/
def iRngD (ta : TA) : TI := fun σ H R => ta σ H fun vs H1 => ∃ i j : Int, vs = [.int i, .int j, .int (-1)] ∧ (-(2 ^ 62) ≤ i ∧ i < 2 ^ 62 ∧ -(2 ^ 62) ≤ j ∧ j < 2 ^ 62) ∧ R (Itd i (i - j).toNat) H1
theorem pi_rangeD {a b c : Expr} {ta : TA} {p pos : Pos} (hg : Gl X "range") (hm : X.mg "range" = none) (ha : PA X [a, b, c] ta) (hs : starEach [a, b, c] X.env = [(false, eval a X.env), (false, eval b X.env), (false, eval c X.env)] := by rfl)
    (hs2 : starEach [b, c] X.env = [(false, eval b X.env), (false, eval c X.env)] := by rfl) :
    PI X tg (.Call (.Name "range" p) [a, b, c] [] pos) (iRngD ta) := by
  intro pins s σ H R I h
  refine Call_ (ld_blt I hg hm boot_range (PyProof.Rows.callWith_type1 (thn (ha pos pins s σ H _ I h) fun us s1 ⟨vs, H1, I1, r1, q1⟩ => ?_) (by rw [hs, hs2]) (by rw [hs2]; rfl)))
  obtain ⟨i, j, e, ⟨q1, q2, q3, q4⟩, q⟩ := q1
  subst e
  cases r1 with
  | cons r rr =>
    cases rr with
    | cons r' rr =>
      cases rr with
      | cons r'' rr =>
        cases rr
        obtain ⟨t, rfl⟩ := r
        obtain ⟨t', rfl⟩ := r'
        obtain ⟨t'', rfl⟩ := r''
        exact call_range_3 (by decide) (range_itD I1 q1 q2 q3 q4 q) (.inl (PyProof.noPylong_small (by decide)))
end
/-- over a range that goes down -/
theorem for_rangeD {hi : Int} {n : Nat} {g : TG} {tb : TS} {D : Ends} {σ : St} {H : Hp} (Pv : Nat → St → Hp → Prop) (h0 : Pv 0 σ H)
    (hs : ∀ i σ H, i < n → Pv i σ H → g (.int (hi - i)) σ H fun σ2 H2 => tb { D with nx := Pv (i + 1), ct := Pv (i + 1), bk := D.nx } σ2 H2) (hd : ∀ σ H, Pv n σ H → D.nx σ H) :
    ∃ W : Nat → Nat → St → Hp → Prop, (∃ m, W 0 m σ H) ∧ ∀ i m σ H, W i m σ H →
      ((Itd hi n).stop i H ∧ D.nx σ H) ∨ ((Itd hi n).go i H ∧ ∃ N : St → Hp → Prop, (∀ σ' H', N σ' H' → ∃ m', m' < m ∧ W (i + 1) m' σ' H') ∧ ∀ x H', (Itd hi n).yld i H x H' → g x σ H' fun σ2 H2 => tb { D with nx := N, ct := N, bk := D.nx } σ2 H2) := by
  refine ⟨fun i m σ H => m = n - i ∧ i ≤ n ∧ Pv i σ H, ⟨n, by simp, Nat.zero_le _, h0⟩, ?_⟩
  rintro i m σ H ⟨rfl, hi', p⟩
  by_cases hlt : i < n
  · refine .inr ⟨hlt, Pv (i + 1), fun σ' H' p' => ⟨n - (i + 1), by omega, rfl, hlt, p'⟩, fun x H' y => ?_⟩
    obtain ⟨e, y⟩ := y
    subst e y
    exact hs i σ _ hlt p
  · have e : i = n := by omega
    subst e
    exact .inl ⟨Nat.le_refl _, hd σ H p⟩

/-! ### zip of two lists, unpacked -/
/-- the two lists at a, b: a new pair at each turn -/
def Itz (K : PySem.W.Frag) (a b : Addr) : It :=
  ⟨fun i H => ∃ xs ys x y, SqL K H a xs ∧ SqL K H b ys ∧ xs[i]? = some x ∧ ys[i]? = some y,
   fun i H v H' => ∃ t x y, v = .ref t ∧ H t = none ∧ H' = upd H t (.tup [x, y]) ∧ (∀ xs, SqL K H a xs → xs[i]? = some x) ∧ ∀ ys, SqL K H b ys → ys[i]? = some y,
   fun i H => ∃ xs ys, SqL K H a xs ∧ SqL K H b ys ∧ (xs.length ≤ i ∨ ys.length ≤ i)⟩
theorem Inv.turnedL {X : Cx} {pins : List (Addr × Obj)} {σ : St} {H : Hp} {s : Shared} {h' : Heap} {t' : Nat} {ch : List Addr} (I : Inv X pins σ H s) (hch : ∀ b ∈ ch, FpOk X pins H b)
    (k : ∀ b o, b ∉ ch → s.heap.get? b = some o → h'.get? b = some o) : Inv X pins σ H { s with heap := h', toks := t' } := by
  have nit : ∀ b u, H b = some u → b ∉ ch := fun b u e z => by rw [(hch b z).1] at e; cases e
  refine I.step (g' := s.gens) (d' := s.drawn) (ch := ch) (fun b hb => ?_) (fun b o _ _ hc e _ => k b o hc e) (fun b o _ _ hc e _ => ⟨o.slots, k b o hc e⟩) (fun _ _ _ _ n => n)
    (fun b o hc e => ⟨o, k b o hc e⟩) (fun _ _ e => e) (fun _ _ _ e => e) (fun b ps e => ⟨#[], by rw [e]; simp⟩) (fun m hm => ?_) (fun b u e => ?_) I.bare
  · obtain ⟨f0, f1, f2, f3, f4, f5⟩ := hch b hb
    exact ⟨f3, f1, f4, f5⟩
  · obtain ⟨o, es, ep, ho, r⟩ := hm
    exact ⟨o, es, ep, k _ o (fun z => (hch _ z).2.1 rfl) ho, r⟩
  · refine (I.hok b u e).stay (fun c v hc q => k c v ?_ q) (fun _ q => q) fun _ _ q => q
    rcases hc with z | z
    · rw [z]; exact nit b u e
    · exact nit c _ z
theorem SqL.ne {X : Cx} {pins : List (Addr × Obj)} {σ : St} {H : Hp} {s : Shared} {a b : Addr} {xs : List V} {o : Obj} {n : String} (I : Inv X pins σ H s) (h : SqL X.K H a xs) (e : s.heap.get? b = some o) (hc : o.cls = .type n) (hn : n ≠ "list") : a ≠ b := by
  rintro rfl
  obtain ⟨its, r, ⟨o', n', e', c', _, _⟩, _⟩ := I.list h
  rw [e] at e'
  cases e'
  rw [hc] at c'
  cases c'
  exact hn rfl
/-- the parts of a zip iterator at turn i -/
structure ZipSt (z TI TO i1 i2 a b : Addr) (i : Nat) (h : Heap) : Prop where
  hz : IsZip h z TI TO .none
  hTI : IsPair h TI (.ref i1) (.ref i2)
  hTO : ∃ x y, IsPair h TO x y
  h1 : h.IsListIter i1 a i
  h2 : h.IsListIter i2 b i
structure ZipNe (z TI TO i1 i2 : Addr) : Prop where
  TIz : TI ≠ z
  TOz : TO ≠ z
  i1z : i1 ≠ z
  i2z : i2 ≠ z
  TITO : TI ≠ TO
  TIi1 : TI ≠ i1
  TIi2 : TI ≠ i2
  TOi1 : TO ≠ i1
  TOi2 : TO ≠ i2
  i12 : i1 ≠ i2
theorem turn_zip {P : Program} {w : World} {K : PySem.W.Frag} {es : List Expr} {k : Nat} {tp : Pos} (z TI TO i1 i2 a b : Addr) (N : ZipNe z TI TO i1 i2) :
    Turn P w K (.Tuple es k tp) (Itz K a b) [z, TI, TO, i1, i2] z (ZipSt z TI TO i1 i2 a b) where
  mem := by simp
  obj := fun i h st c hc => by
    obtain ⟨x, y, hTO⟩ := st.hTO
    obtain ⟨o1, e1, c1, d1⟩ := st.h1
    obtain ⟨o2, e2, c2, d2⟩ := st.h2
    have hc : c = z ∨ c = TI ∨ c = TO ∨ c = i1 ∨ c = i2 := by simpa using hc
    rcases hc with rfl | rfl | rfl | rfl | rfl
    · exact ⟨_, st.hz, fun v q => by have q' : Data.fields _ = Data.cell v := q; cases q'⟩
    · exact ⟨_, st.hTI, fun v q => by have q' : Data.seq _ _ = Data.cell v := q; cases q'⟩
    · exact ⟨_, hTO, fun v q => by have q' : Data.seq _ _ = Data.cell v := q; cases q'⟩
    · exact ⟨_, e1, fun v q => by rw [d1] at q; cases q⟩
    · exact ⟨_, e2, fun v q => by rw [d2] at q; cases q⟩
  keep := fun i h h' st k => by
    obtain ⟨x, y, hTO⟩ := st.hTO
    exact ⟨k z (by simp) _ st.hz, k TI (by simp) _ st.hTI, ⟨x, y, k TO (by simp) _ hTO⟩, st.h1.at fun o e => k i1 (by simp) o e, st.h2.at fun o e => k i2 (by simp) o e⟩
  item := by
    intro X hP hw hK hc i pins s σ H E I hf st hg
    subst hP hw hK
    obtain ⟨xs, ys, x, y, hqa, hqb, hx, hy⟩ := hg
    obtain ⟨its, rv, p, hz⟩ := I.list hqa
    obtain ⟨jts, rw', q, hz'⟩ := I.list hqb
    obtain ⟨u, hu, ru⟩ := rv.get hx
    obtain ⟨v, hv, rv'⟩ := rw'.get hy
    obtain ⟨x0, y0, hTO⟩ := st.hTO
    obtain ⟨o1, e1, c1, d1⟩ := id st.h1
    obtain ⟨o2, e2, c2, d2⟩ := id st.h2
    have D : ZipApart z TI TO i1 i2 a b := ⟨N.TIz, N.TOz, N.i1z, N.i2z, N.TITO, N.TIi1, N.TIi2, N.TOi1, N.TOi2, N.i12, SqL.ne I hqa st.hz rfl (by decide), SqL.ne I hqa hTO rfl (by decide), SqL.ne I hqa e1 c1 (by decide), SqL.ne I hqa e2 c2 (by decide),
      SqL.ne I hqb st.hz rfl (by decide), SqL.ne I hqb hTO rfl (by decide), SqL.ne I hqb e1 c1 (by decide), SqL.ne I hqb e2 c2 (by decide)⟩
    refine wpAny_pyNext_zip_item D st.hz st.hTI hTO st.h1 st.h2 p.isList q.isList (x := u) (y := v) (by simpa using hu) (by simpa using hv) fun h' a1 a2 a3 a4 a5 a6 kk => ?_
    have lt : ∀ {c : Addr} {o : Obj}, s.heap.get? c = some o → c ≠ s.heap.objs.size := fun e => Nat.ne_of_lt (Heap.lt_size e)
    refine ⟨_, rfl, wpAny_letOwnedTupleGo_zip a1 fun h'' hz'' hs'' => ?_⟩
    have hfr : H s.heap.objs.size = none := I.fresh
    have I1 : Inv X pins σ H { s with heap := h'', toks := s.toks } := I.turnedL (t' := s.toks) (ch := [z, TI, TO, i1, i2]) hf fun c o hc e => by
      simp only [List.mem_cons, List.not_mem_nil, or_false, not_or] at hc
      exact hs''.extBut c o hc.1 (kk c o hc.1 hc.2.2.1 hc.2.2.2.1 hc.2.2.2.2 e)
    have hT : h''.get? s.heap.objs.size = some { cls := .type "tuple", data := .seq #[u, v] } := hs''.extBut _ _ (Ne.symm (lt st.hz)) a5
    have hsz : h''.objs.size = s.heap.objs.size + 1 := by rw [hs''.1, a6]
    -- the pair is tracked
    have I2 : Inv X pins σ (upd H s.heap.objs.size (.tup [x, y])) { s with heap := h'', toks := s.toks } := by
      refine I.step (g' := s.gens) (d' := s.drawn) (ch := [z, TI, TO, i1, i2]) (fun c hc => ⟨(hf c hc).2.2.2.1, (hf c hc).2.1, (hf c hc).2.2.2.2.1, (hf c hc).2.2.2.2.2⟩) (fun c o _ _ hc e _ => ?_) (fun c o _ _ hc e _ => ⟨o.slots, ?_⟩) (fun c o _ e n => by rw [upd_ne (lt e)]; exact n)
        (fun c o hc e => ⟨o, ?_⟩) (fun c ts e => by rw [upd_ne (ne_of_none e hfr)]; exact e) (fun c o ts e => by rw [upd_ne (ne_of_none e hfr)]; exact e) (fun c ps e => ⟨#[], by rw [upd_ne (ne_of_none e hfr), e]; simp⟩) (fun m hm => ?_) (fun c o e => ?_) I.bare
      · simp only [List.mem_cons, List.not_mem_nil, or_false, not_or] at hc
        exact hs''.extBut c o hc.1 (kk c o hc.1 hc.2.2.1 hc.2.2.2.1 hc.2.2.2.2 e)
      · simp only [List.mem_cons, List.not_mem_nil, or_false, not_or] at hc
        exact hs''.extBut c o hc.1 (kk c o hc.1 hc.2.2.1 hc.2.2.2.1 hc.2.2.2.2 e)
      · simp only [List.mem_cons, List.not_mem_nil, or_false, not_or] at hc
        exact hs''.extBut c o hc.1 (kk c o hc.1 hc.2.2.1 hc.2.2.2.1 hc.2.2.2.2 e)
      · obtain ⟨o, es', ep, ho, r⟩ := hm
        have nl := fun c (hc : c ∈ [z, TI, TO, i1, i2]) => (hf c hc).2.1
        exact ⟨o, es', ep, hs''.extBut _ _ (Ne.symm (nl z (by simp))) (kk _ o (Ne.symm (nl z (by simp))) (Ne.symm (nl TO (by simp))) (Ne.symm (nl i1 (by simp))) (Ne.symm (nl i2 (by simp))) ho), r⟩
      · by_cases hc : c = s.heap.objs.size
        · subst hc
          rw [upd_same] at e
          cases e
          exact ⟨by show 2 ≤ sizeLine; decide, [u, v], .cons ru (.cons rv' .nil), ⟨_, hT, rfl, _, rfl⟩⟩
        · rw [upd_ne hc] at e
          have := I1.hok c o e
          exact this.stay (fun d o' _ q => q) (fun d q => by rw [upd_ne (ne_of_none q hfr)]; exact q) fun d ts q => by rw [upd_ne (ne_of_none q hfr)]; exact q
    refine ⟨.ref s.heap.objs.size, upd H s.heap.objs.size (.tup [x, y]), I2, rfl, ⟨_, x, y, rfl, hfr, rfl, fun xs' hx' => ?_, fun ys' hy' => ?_⟩, ?_, fun c hc => ?_⟩
    · rw [I.list_inj hx' hqa]; exact hx
    · rw [I.list_inj hy' hqb]; exact hy
    · exact ⟨hz'', hs''.extBut _ _ N.TIz (kk _ _ N.TIz N.TITO N.TIi1 N.TIi2 st.hTI), ⟨_, _, hs''.extBut _ _ N.TOz a2⟩, a3.extBut hs''.extBut N.i1z, a4.extBut hs''.extBut N.i2z⟩
    · have hne : c ≠ s.heap.objs.size := by
        have hc : c = z ∨ c = TI ∨ c = TO ∨ c = i1 ∨ c = i2 := by simpa using hc
        rcases hc with rfl | rfl | rfl | rfl | rfl
        · exact lt st.hz
        · exact lt st.hTI
        · exact lt hTO
        · exact lt e1
        · exact lt e2
      rw [upd_ne hne]
      exact (hf c hc).1
  done := by
    intro X hP hw hK hc i pins s σ H E I hf st hg
    subst hP hw hK
    obtain ⟨xs, ys, hqa, hqb, hx⟩ := hg
    obtain ⟨its, rv, p, hz⟩ := I.list hqa
    obtain ⟨jts, rw', q, hz'⟩ := I.list hqb
    obtain ⟨x0, y0, hTO⟩ := st.hTO
    obtain ⟨o1, e1, c1, d1⟩ := id st.h1
    obtain ⟨o2, e2, c2, d2⟩ := id st.h2
    have D : ZipApart z TI TO i1 i2 a b := ⟨N.TIz, N.TOz, N.i1z, N.i2z, N.TITO, N.TIi1, N.TIi2, N.TOi1, N.TOi2, N.i12, SqL.ne I hqa st.hz rfl (by decide), SqL.ne I hqa hTO rfl (by decide), SqL.ne I hqa e1 c1 (by decide), SqL.ne I hqa e2 c2 (by decide),
      SqL.ne I hqb st.hz rfl (by decide), SqL.ne I hqb hTO rfl (by decide), SqL.ne I hqb e1 c1 (by decide), SqL.ne I hqb e2 c2 (by decide)⟩
    have l1 := rv.length
    have l2 := rw'.length
    refine wpAny_pyNext_zip_end (I.ok.hd hc) D st.hz st.hTI hTO st.h1 st.h2 p.isList q.isList (by
      rcases hx with hx | hx
      · exact .inl (by simp; omega)
      · exact .inr (by simp; omega)) fun h' kk => ⟨rfl, I.turnedL (t' := s.toks) (ch := [z, TI, TO, i1, i2]) hf fun c o hc e => ?_⟩
    simp only [List.mem_cons, List.not_mem_nil, or_false, not_or] at hc
    exact kk c o hc.1 hc.2.2.1 hc.2.2.2.1 hc.2.2.2.2 e
  self := fun _ _ _ _ _ st h => wpAny_pyIter_zip st.hz h
section
variable {X : Cx} {es : List Expr} {k : Nat} {tp : Pos}
def iZip (K : PySem.W.Frag) (ta : TA) : TI := fun σ H R => ta σ H fun vs H1 => ∃ a b, vs = [.ref a, .ref b] ∧ (∃ xs, SqL K H1 a xs) ∧ (∃ ys, SqL K H1 b ys) ∧ R (Itz K a b) H1
theorem pi_zip {a b : Expr} {ta : TA} {p pos : Pos} (hg : Gl X "zip") (hm : X.mg "zip" = none) (ha : PA X [a, b] ta) (hs : starEach [a, b] X.env = [(false, eval a X.env), (false, eval b X.env)] := by rfl) (hs2 : starEach [b] X.env = [(false, eval b X.env)] := by rfl)
    (hv : bootBuiltins "zip" = some (.type "zip") := by first | rfl | decide +kernel) :
    PI X (.Tuple es k tp) (.Call (.Name "zip" p) [a, b] [] pos) (iZip X.K ta) := by
  intro pins s σ H R I h
  refine Call_ (ld_blt I hg hm hv (PyProof.Rows.callWith_type1 (thn (ha pos pins s σ H _ I h) fun us s1 ⟨vs, H1, I1, r1, q1⟩ => ?_) (by rw [hs, hs2]) (by rw [hs2]; rfl)))
  obtain ⟨a, b, e, ⟨xs, hqa⟩, ⟨ys, hqb⟩, q⟩ := q1
  subst e
  obtain ⟨u, v, rfl, ru, rv⟩ := r1.two
  obtain rfl : u = Value.ref a := ru
  obtain rfl : v = Value.ref b := rv
  obtain ⟨its, rvx, p1, hz⟩ := I1.list hqa
  obtain ⟨jts, rwx, p2, hz'⟩ := I1.list hqb
  refine call_zip_2 p1.isList p2.isList fun h' a1 a2 a3 a4 a5 a6 kk => ?_
  refine wpAny_pyIter_zip (s := { s1 with heap := h' }) a1 ?_
  have I2 : Inv X pins σ H1 { s1 with heap := h' } := I1.kept (t' := s1.toks) kk
  refine ⟨s1.heap.objs.size + 4, [s1.heap.objs.size + 4, s1.heap.objs.size + 2, s1.heap.objs.size + 3, s1.heap.objs.size, s1.heap.objs.size + 1], _, _, H1, rfl, I2, turn_zip (s1.heap.objs.size + 4) (s1.heap.objs.size + 2) (s1.heap.objs.size + 3) s1.heap.objs.size (s1.heap.objs.size + 1) a b ?_, ⟨a1, a2, ⟨_, _, a3⟩, a4, a5⟩, fun c hc => ?_, q⟩
  · refine ⟨?_, ?_, ?_, ?_, ?_, ?_, ?_, ?_, ?_, ?_⟩ <;> (show (_ : Nat) ≠ _; omega)
  · have hge : s1.heap.objs.size ≤ c := by
      simp only [List.mem_cons, List.not_mem_nil, or_false] at hc
      rcases hc with rfl | rfl | rfl | rfl | rfl
      · exact Nat.le_add_right _ _
      · exact Nat.le_add_right _ _
      · exact Nat.le_add_right _ _
      · exact Nat.le_refl _
      · exact Nat.le_add_right _ _
    exact I1.fpOk hge (I1.hok.fresh hge)
end
end L2

set_option Elab.async false
set_option linter.all false
set_option maxRecDepth 100000
set_option maxHeartbeats 4000000
namespace L2
open PySem PySem.Spec PyProof.Rows
/-! ### a, b = a list -/
section
variable {prog : Program} {w : World} {A : Around} {E : Value → Shared → Prop}
theorem draw_list {it l : Addr} {items : Array Value} (hne : l ≠ it) : ∀ (n i : Nat) (s : Shared) (Q : List Value → Shared → Prop), s.heap.IsListIter it l i → s.heap.IsList l items → i + n ≤ items.size →
    (∀ h', h'.IsListIter it l (i + n) → Heap.SameBut it s.heap h' → Q ((items.toList.drop i).take n) { s with heap := h' }) → wpAny (model prog w) A (draw (.ref it) n) Q E s
  | 0, i, s, Q, hit, _, _, hQ => by
    show wpAny _ _ (pure []) Q E s
    exact wpAny_pure (by simpa using hQ s.heap hit (Heap.SameBut.refl ..))
  | n + 1, i, s, Q, hit, ht, hle, hQ => by
    have hlt : i < items.size := by omega
    show wpAny _ _ (pyNext (.ref it) >>= _) Q E s
    refine wpAny_bind (wpAny_pyNext_list_item hit ht (x := items[i]) (by simp [hlt]) fun h₁ hit₁ hs₁ => ?_)
    refine wpAny_bind (wpAny_holding (draw_list hne n (i + 1) _ _ hit₁ (ht.extBut hs₁.extBut hne) (by omega) fun h₂ hit₂ hs₂ => wpAny_pure ?_))
    have hd : items.toList.drop i = items[i] :: items.toList.drop (i + 1) := by simp [List.drop_eq_getElem_cons, hlt]
    have := hQ h₂ (by rw [show i + (n + 1) = i + 1 + n by omega]; exact hit₂) (hs₁.trans hs₂)
    rw [hd, List.take_succ_cons] at this
    exact this
theorem unpackItems_list {s : Shared} {l : Addr} {items : Array Value} {Q : List Value → Shared → Prop} (hh : A.handled = none) (ht : s.heap.IsList l items)
    (hQ : ∀ h', Heap.ExtBut s.heap.objs.size s.heap h' → Q items.toList { s with heap := h' }) : wpAny (model prog w) A (unpackItems (.ref l) items.size none) Q E s := by
  have hlt : l ≠ s.heap.objs.size := by obtain ⟨o, ho, _⟩ := ht; exact Nat.ne_of_lt (Heap.lt_size ho)
  unfold unpackItems
  refine wpAny_bind ?_
  unfold notIterableAtAll
  refine wpAny_bind (wpAny_specialOf ht.typeIs slot_list_iter.lookup ?_)
  refine wpAny_pure ?_
  simp only [Bool.false_eq_true, if_false]
  refine wpAny_bind (wpAny_holding (wpAny_pyIter_list ht ?_))
  refine wpAny_bind (wpAny_holding (draw_list hlt items.size 0 _ _ ⟨_, Heap.get?_push_size _ rfl, rfl, rfl⟩ (ht.push _) (by omega) fun h₁ hit₁ hs₁ => ?_))
  have hall : List.take items.size (List.drop 0 items.toList) = items.toList := by
    rw [List.drop_zero]; exact List.take_of_length_le (by simp)
  rw [hall]
  rw [if_neg (by simp)]
  have ht₁ : h₁.IsList l items := (ht.push _).extBut hs₁.extBut hlt
  refine wpAny_bind (wpAny_holding (wpAny_pyNext_list_end hh hit₁ ht₁ (by simp) fun h₂ he₂ => ?_))
  simp only [Option.isSome_none, Bool.false_eq_true, if_false]
  refine wpAny_pure (hQ h₂ fun b o hb e => he₂ b o hb (hs₁.extBut b o hb (Heap.get?_push_of_some _ e)))
end
section
variable {X : Cx} {pos : Pos}
def gTupL (K : PySem.W.Frag) (n : Nat) (t : TGs) : TG := fun v σ H Q => ∃ a xs, v = .ref a ∧ SqL K H a xs ∧ xs.length = n ∧ t xs σ H Q
theorem pg_tupL {es : List Expr} {k : Nat} {t : TGs} {n : Nat} (hc : X.calm = true) (h : PGs X es t)
    (hn : (assignEach es X.env).length = n := by rfl) (hst : (assignEach es X.env).findIdx? (·.1) = none := by rfl) : PG X (.Tuple es k pos) (gTupL X.K n t) := by
  intro pins s σ H v u Q I r hw
  obtain ⟨a, xs, e1, hq, hl, hw⟩ := hw
  subst e1
  cases r
  obtain ⟨its, rv, ht, hz⟩ := I.list hq
  rw [assign_Tuple]
  refine wpAny_bind (wpAny_standAt ?_)
  unfold unpack
  have e : (assignEach es X.env).length = its.toArray.size := by simp [hn, ← hl, rv.length]
  rw [e, hst]
  refine wpAny_bind (wpAny_holding (unpackItems_list (I.ok.hd hc) ht.isList fun h' hx => ?_))
  have I1 : Inv X pins σ H { s with heap := h' } := I.kept (t' := s.toks) fun b o e => hx b o (Nat.ne_of_lt (Heap.lt_size e)) e
  exact h pins _ σ H xs _ Q I1 (by simpa using rv) hw
end
/-! ### isinstance -/
section
variable {X : Cx}
theorem call_isinst : CallR X (.builtin "isinstance") (fun xs H Q => ∃ x c t b, xs = [x, c] ∧ TyOf X.K H x t ∧ ((∃ T, c = .ty T ∧ PySem.W.kitOne X.K t (.type T) = some b) ∨ ∃ C, c = .ref C ∧ PySem.W.kitOne X.K t (.ref C) = some b) ∧ Q (.bl b) H) := by
  intro pins s σ H xs us Q I r h
  obtain ⟨x, c, t, b, rfl, ty, hk, q⟩ := h
  obtain ⟨u, v, rfl, ru, rv⟩ := r.two
  rcases hk with ⟨T, rfl, hk⟩ | ⟨C, rfl, hk⟩
  · cases (show v = Value.type T from rv)
    exact isinst_ok I ru ty hk fun tk => ⟨.bl b, H, I.tok tk, rfl, q⟩
  · cases (show v = Value.ref C from rv)
    exact isinst_ok I ru ty hk fun tk => ⟨.bl b, H, I.tok tk, rfl, q⟩
end
theorem kit_ii (K : PySem.W.Frag) : PySem.W.kitOne K (.type "int") (.type "int") = some true := by
  unfold PySem.W.kitOne; rw [if_pos (by decide +kernel)]
theorem kit_ll (K : PySem.W.Frag) : PySem.W.kitOne K (.type "list") (.type "list") = some true := by
  unfold PySem.W.kitOne; rw [if_pos (by decide +kernel)]
theorem kit_ib (K : PySem.W.Frag) : PySem.W.kitOne K (.type "int") (.type "bool") = some false := by
  unfold PySem.W.kitOne PySem.W.kitCls
  rw [if_neg (by decide +kernel)]
  show (if PySem.W.kitMeta "bool" = true then PySem.W.subIn K (.type "int") (.type "bool") else none) = some false
  rw [if_pos (by decide +kernel)]
  first | rfl | decide +kernel
end L2

set_option Elab.async false
set_option linter.all false
set_option maxRecDepth 100000
set_option maxHeartbeats 4000000
namespace L2
open PySem PySem.Spec PyProof.Rows
/-! ### a comprehension's names, decided over the written scopes -/
abbrev CompOkP (outer : List (Str × NameKind)) (N : List Str) (js : List Nat) (scope : Scope) : Prop :=
  scope.kind = .function ∧ (∀ y ∈ scope.names, y.2 ≠ .cell) ∧ (∀ y ∈ scope.names, y.2 = .local → scope.names.lookup y.1 = some .local) ∧
  (∀ y ∈ scope.names, y.2 = .free → outer.lookup y.1 = some .cell ∨ outer.lookup y.1 = some .free) ∧
  (∀ j ∈ js, (N.getD j "", NameKind.free) ∈ scope.names) ∧
  ∀ j ∈ js, (scope.names.map fun (y : Str × NameKind) => if (y.2 == NameKind.free && outer.lookup y.1 == some .cell) = true then (y.1, NameKind.cell) else (y.1, y.2)).lookup (N.getD j "") = some .cell ∨
    (scope.names.map fun (y : Str × NameKind) => if (y.2 == NameKind.free && outer.lookup y.1 == some .cell) = true then (y.1, NameKind.cell) else (y.1, y.2)).lookup (N.getD j "") = some .free
theorem CompScope.of {X : Cx} {T : List Str} {js : List Nat} {scope : Scope} (outer : List (Str × NameKind)) (N : List Str) (h1 : X.env.scope.names = outer) (hk : X.env.scope.kind = .function) (h2 : X.N = N) (h : CompOkP outer N js scope) : CompScope X T js scope := by
  obtain ⟨a, b, c, d, e, f⟩ := h
  subst h1 h2
  refine ⟨a, b, c, d, e, fun j hj => ?_⟩
  have z : (compEnvC scope (clos scope.names X.env.cells) 0 X.env).kindOf (X.N.getD j "") = (scope.names.map fun (y : Str × NameKind) => if (y.2 == NameKind.free && X.env.scope.names.lookup y.1 == some .cell) = true then (y.1, NameKind.cell) else (y.1, y.2)).lookup (X.N.getD j "") := by
    show (scope.names.map fun (n, k) => if (k == NameKind.free && X.env.scope.kind == .function && X.env.kindOf n == some .cell) then (n, NameKind.cell) else (n, k)).lookup (X.N.getD j "") = _
    rw [hk]
    congr 1
    refine List.map_congr_left fun y _ => ?_
    obtain ⟨n, k⟩ := y
    show (if (k == NameKind.free && (ScopeKind.function == ScopeKind.function) && X.env.kindOf n == some NameKind.cell) = true then _ else _) = _
    rw [show (ScopeKind.function == ScopeKind.function) = true from rfl, Bool.and_true]
    rfl
  rw [z]
  exact f j hj
/-! ### a def of the text with its promise, to be called -/
structure Ok (P : Program) (w : World) (K : PySem.W.Frag) (mg : Str → Option Value) (base : Heap) (x : Str) (ps : List Str) (k : Nat) (sp : Sp) : Prop where
  ex : ∃ f fd, FnOk P w K mg base CX0 k f fd ps sp ∧ Binds K fd ps [] ∧ mg x = some (.ref f) ∧ PySem.W.keepIn K (.ref f) = true
section
variable {X : Cx} {k j : Nat} {ps : List Str} {sp : Sp} {x : Str} {p pos : Pos} {e : Expr} {es : List Expr} {t : TA}
theorem pe_callO (O : Ok X.prog X.w X.K X.mg X.base x ps k sp) (hr : Room j X.A) (ha : PA X (e :: es) t) (hg : Gl X x := by rfl) (hj : k ≤ j := by decide) (hdb : (x == ("__debug__" : Str)) = false := by decide) (he : starEach (e :: es) X.env = (false, eval e X.env) :: starEach es X.env := by rfl) (hpl : (backTo pos (starEach es X.env)).any (·.1) = false := by rfl) :
    PE X (.Call (.Name x p) (e :: es) [] pos) (tCall sp [] E0 t) := by
  obtain ⟨f, fd, F, b, m, kp⟩ := O.ex
  exact pe_call F (hr.mono hj) hg m kp b .nil pass0 ha hdb he hpl
end
/-! ### built-in names in short -/
section
variable {X : Cx} {p pos : Pos} {a b : Expr} {ta tb : TE} {t : TA}
theorem pe_len (hm : X.mg "len" = none) (ha : PE X a ta) (hg : Gl X "len" := by rfl) (hs : starEach [a] X.env = (false, eval a X.env) :: starEach [] X.env := by rfl) : PE X (.Call (.Name "len" p) [a] [] pos) (tCB (fun xs H Q => ∃ p ys, xs = [.ref p] ∧ (SqL X.K H p ys ∨ SqT X.K H p ys) ∧ Q (.int ys.length) H) (tCons ta tNil)) :=
  pe_callB call_len_seq hg hm (by decide +kernel) (pa_cons ha pa_nil hs) (by decide) (by decide) hs rfl
theorem pe_isinst (hm : X.mg "isinstance" = none) (ha : PE X a ta) (hb : PE X b tb) (hg : Gl X "isinstance" := by rfl) (hs : starEach [a, b] X.env = (false, eval a X.env) :: starEach [b] X.env := by rfl) (hs2 : starEach [b] X.env = (false, eval b X.env) :: starEach [] X.env := by rfl) :
    PE X (.Call (.Name "isinstance" p) [a, b] [] pos) (tCB (fun xs H Q => ∃ x c t b, xs = [x, c] ∧ TyOf X.K H x t ∧ ((∃ T, c = .ty T ∧ PySem.W.kitOne X.K t (.type T) = some b) ∨ ∃ C, c = .ref C ∧ PySem.W.kitOne X.K t (.ref C) = some b) ∧ Q (.bl b) H) (tCons ta (tCons tb tNil))) :=
  pe_callB call_isinst hg hm (by decide +kernel) (pa_cons ha (pa_cons hb pa_nil hs2) hs) (by decide) (by decide) hs (by rw [hs2]; rfl)
theorem pe_min (hc : X.calm = true) (hm : X.mg "min" = none) (ha : PE X a ta) (hb : PE X b tb) (hg : Gl X "min" := by rfl) (hs : starEach [a, b] X.env = (false, eval a X.env) :: starEach [b] X.env := by rfl) (hs2 : starEach [b] X.env = (false, eval b X.env) :: starEach [] X.env := by rfl) :
    PE X (.Call (.Name "min" p) [a, b] [] pos) (tCB (fun xs H Q => ∃ i j, xs = [.int i, .int j] ∧ Q (.int (if j < i then j else i)) H) (tCons ta (tCons tb tNil))) :=
  pe_callB (call_min2 hc) hg hm (by decide +kernel) (pa_cons ha (pa_cons hb pa_nil hs2) hs) (by decide) (by decide) hs (by rw [hs2]; rfl)
theorem pe_max (hc : X.calm = true) (hm : X.mg "max" = none) (ha : PE X a ta) (hb : PE X b tb) (hg : Gl X "max" := by rfl) (hs : starEach [a, b] X.env = (false, eval a X.env) :: starEach [b] X.env := by rfl) (hs2 : starEach [b] X.env = (false, eval b X.env) :: starEach [] X.env := by rfl) :
    PE X (.Call (.Name "max" p) [a, b] [] pos) (tCB (fun xs H Q => ∃ i j, xs = [.int i, .int j] ∧ Q (.int (if i < j then j else i)) H) (tCons ta (tCons tb tNil))) :=
  pe_callB (call_max2 hc) hg hm (by decide +kernel) (pa_cons ha (pa_cons hb pa_nil hs2) hs) (by decide) (by decide) hs (by rw [hs2]; rfl)
theorem pe_list (hm : X.mg "list" = none) (ha : PE X a ta) (hg : Gl X "list" := by rfl) (hs : starEach [a] X.env = (false, eval a X.env) :: starEach [] X.env := by rfl) : PE X (.Call (.Name "list" p) [a] [] pos) (tCB (fun xs H Q => ∃ p ys, xs = [.ref p] ∧ (SqL X.K H p ys ∨ SqT X.K H p ys) ∧ ∀ l, H l = none → Q (.ref l) (upd H l (.lst ys))) (tCons ta tNil)) :=
  pe_callTy call_list_of hg hm (by decide +kernel) (pa_cons ha pa_nil hs) (by decide) (by decide) hs rfl
theorem pe_ty {T : String} {x : Str} (hm : X.mg x = none) (hg : Gl X x := by rfl) (hv : bootBuiltins x = some (.type T) := by first | rfl | decide +kernel) (hn : x ≠ "__name__" := by decide) (hd : (x == ("__debug__" : Str)) = false := by decide) : PE X (.Name x pos) (tC (.ty T)) := pe_bltn hg hm hv rfl hn hd
end
/-! ### the same with the written part by its name (within a comprehension's block) -/
section
variable {X : Cx} {p pos : Pos} {a b : Expr} {ta tb : TE} {t : TA}
theorem ix_listK (K : PySem.W.Frag) (h : X.K = K := by rfl) : IxR X (rIxL K) := h ▸ ix_list
theorem op_in_seqK (K : PySem.W.Frag) (h : X.K = K := by rfl) : OpR X (compareOp .In) (rIn K false) := h ▸ op_in_seq
theorem pg_tupK (K : PySem.W.Frag) {es : List Expr} {k : Nat} {t : TGs} {n : Nat} (hc : X.calm = true) (hp : PGs X es t) (h : X.K = K := by rfl)
    (hn : (assignEach es X.env).length = n := by rfl) (hst : (assignEach es X.env).findIdx? (·.1) = none := by rfl) : PG X (.Tuple es k pos) (gTup K n t) := by
  subst h
  exact pg_tup hc hp hn hst
end
end L2

set_option Elab.async false
set_option linter.all false
set_option maxRecDepth 100000
set_option maxHeartbeats 4000000
namespace L2
open PySem PySem.Spec PyProof.Rows
/-! ### a comprehension's reading, by a word over the turn -/
/-- what a turn of it wants -/
abbrev CompT (p : Addr) (g : TG) (ti : TT) (te : TE) (x : V) (N : St → Hp → Prop) (σ : St) (H : Hp) : Prop :=
  g x σ H fun σ2 H2 => ti σ2 H2 fun b H3 => if b = true then te σ2 H3 fun v H4 => ∃ xs, H4 p = some (.lst xs) ∧ xs.length < sizeLine ∧ N σ2 (upd H4 p (.lst (xs ++ [v]))) else N σ2 H3
section
variable {p : Addr} {Q : VK} {g : TG} {ti : TT} {te : TE} {σ0 : St} {H0 : Hp}
theorem comp_range {lo : Int} {n : Nat} (Pv : Nat → St → Hp → Prop) (h0 : Pv 0 σ0 H0) (hs : ∀ i σ H, i < n → Pv i σ H → CompT p g ti te (.int (lo + i)) (Pv (i + 1)) σ H) (hd : ∀ σ H, Pv n σ H → Q (.ref p) H) : CompR (Itr lo n) p Q g ti te σ0 H0 := by
  unfold CompR
  refine ⟨fun i m σ H => m = n - i ∧ i ≤ n ∧ Pv i σ H, ⟨n, by simp, Nat.zero_le _, h0⟩, ?_⟩
  rintro i m σ H ⟨rfl, hi', q⟩
  by_cases hlt : i < n
  · refine .inr ⟨hlt, Pv (i + 1), fun σ' H' p' => ⟨n - (i + 1), by omega, rfl, hlt, p'⟩, fun x H' y => ?_⟩
    obtain ⟨e, y⟩ := y
    subst e y
    exact hs i σ _ hlt q
  · have e : i = n := by omega
    subst e
    exact .inl ⟨Nat.le_refl _, hd σ H q⟩
theorem comp_list {K : PySem.W.Frag} {a : Addr} {xs : List V} (Pv : Nat → St → Hp → Prop) (h0 : Pv 0 σ0 H0) (hl : ∀ i σ H, i ≤ xs.length → Pv i σ H → SqL K H a xs)
    (hs : ∀ i x σ H, xs[i]? = some x → Pv i σ H → CompT p g ti te x (Pv (i + 1)) σ H) (hd : ∀ σ H, Pv xs.length σ H → Q (.ref p) H) : CompR (Itl K a) p Q g ti te σ0 H0 := by
  unfold CompR
  refine ⟨fun i m σ H => m = xs.length - i ∧ i ≤ xs.length ∧ Pv i σ H, ⟨xs.length, by simp, Nat.zero_le _, h0⟩, ?_⟩
  rintro i m σ H ⟨rfl, hi, q⟩
  have q' := hl i σ H hi q
  by_cases hlt : i < xs.length
  · refine .inr ⟨⟨xs, xs[i], q', by simp [hlt]⟩, Pv (i + 1), fun σ' H' p' => ⟨xs.length - (i + 1), by omega, rfl, hlt, p'⟩, fun x H' y => ?_⟩
    obtain ⟨e, y⟩ := y
    subst e
    exact hs i x σ _ (y xs q') q
  · have e : i = xs.length := by omega
    subst e
    exact .inl ⟨⟨xs, q', Nat.le_refl _⟩, hd σ H q⟩
/-- over zip(a, b): the pair of each turn is a new tuple -/
theorem comp_zip {K : PySem.W.Frag} {a b : Addr} {xs ys : List V} (hxy : xs.length = ys.length) (Pv : Nat → St → Hp → Prop) (h0 : Pv 0 σ0 H0) (hl : ∀ i σ H, i ≤ xs.length → Pv i σ H → SqL K H a xs ∧ SqL K H b ys)
    (hs : ∀ i x y t σ H, xs[i]? = some x → ys[i]? = some y → Pv i σ H → H t = none → CompT p g ti te (.ref t) (Pv (i + 1)) σ (upd H t (.tup [x, y]))) (hd : ∀ σ H, Pv xs.length σ H → Q (.ref p) H) : CompR (Itz K a b) p Q g ti te σ0 H0 := by
  unfold CompR
  refine ⟨fun i m σ H => m = xs.length - i ∧ i ≤ xs.length ∧ Pv i σ H, ⟨xs.length, by simp, Nat.zero_le _, h0⟩, ?_⟩
  rintro i m σ H ⟨rfl, hi, q⟩
  obtain ⟨q1, q2⟩ := hl i σ H hi q
  by_cases hlt : i < xs.length
  · refine .inr ⟨⟨xs, ys, xs[i], ys[i]'(by omega), q1, q2, by simp [hlt], by simp [show i < ys.length by omega]⟩, Pv (i + 1), fun σ' H' p' => ⟨xs.length - (i + 1), by omega, rfl, hlt, p'⟩, fun x H' y => ?_⟩
    obtain ⟨t, u, v, rfl, ht, rfl, y1, y2⟩ := y
    exact hs i u v t σ H (y1 xs q1) (y2 ys q2) q ht
  · have e : i = xs.length := by omega
    subst e
    exact .inl ⟨⟨xs, ys, q1, q2, .inl (Nat.le_refl _)⟩, hd σ H q⟩
end
/-- a turn without a test, one name -/
theorem compT_one {p : Addr} {te : TE} {x : V} {N : St → Hp → Prop} {σ : St} {H : Hp} {i : Nat} (h : te (σ.set i (some x)) H fun v H4 => ∃ xs, H4 p = some (.lst xs) ∧ xs.length < sizeLine ∧ N (σ.set i (some x)) (upd H4 p (.lst (xs ++ [v])))) : CompT p (gName i) tNoIf te x N σ H := by
  show (if true = true then (te (σ.set i (some x)) H fun v H4 => ∃ xs, H4 p = some (.lst xs) ∧ xs.length < sizeLine ∧ N (σ.set i (some x)) (upd H4 p (.lst (xs ++ [v])))) else N (σ.set i (some x)) H)
  rw [if_pos rfl]
  exact h
/-- a turn without a test, a pair -/
theorem compT_two {K : PySem.W.Frag} {p t : Addr} {te : TE} {x y : V} {N : St → Hp → Prop} {σ : St} {H : Hp} {i j : Nat} (ht : SqT K H t [x, y])
    (h : te ((σ.set i (some x)).set j (some y)) H fun v H4 => ∃ xs, H4 p = some (.lst xs) ∧ xs.length < sizeLine ∧ N ((σ.set i (some x)).set j (some y)) (upd H4 p (.lst (xs ++ [v])))) : CompT p (gTup K 2 (gCons (gName i) (gCons (gName j) gNil))) tNoIf te (.ref t) N σ H := by
  refine ⟨t, [x, y], rfl, ht, rfl, x, [y], rfl, y, [], rfl, rfl, ?_⟩
  show (if true = true then (te ((σ.set i (some x)).set j (some y)) H fun v H4 => ∃ xs, H4 p = some (.lst xs) ∧ xs.length < sizeLine ∧ N ((σ.set i (some x)).set j (some y)) (upd H4 p (.lst (xs ++ [v])))) else N ((σ.set i (some x)).set j (some y)) H)
  rw [if_pos rfl]
  exact h
/-- a statement by what stands behind it -/
theorem seq_cut {t r : TS} {D : Ends} {σ : St} {H : Hp} (M : St → Hp → Prop) (h : ∀ nx : St → Hp → Prop, (∀ σ' H', M σ' H' → nx σ' H') → t { D with nx := nx } σ H) (hr : ∀ σ' H', M σ' H' → r D σ' H') : tSeq t r D σ H := h _ hr
/-! ### heaps that only grow -/
theorem Same.upd {H : Hp} {p : Addr} {o : HO} (h : H p = none) : Same H (upd H p o) := fun b u e => by rw [upd_ne (ne_of_none e h)]; exact e
theorem Same.tup {K : PySem.W.Frag} {H H' : Hp} {a : Addr} {xs : List V} (e : Same H H') (h : SqT K H a xs) : SqT K H' a xs := by
  rcases h with (h | ⟨o, h⟩) | h
  · exact .inl (.inl (e _ _ h))
  · exact .inl (.inr ⟨o, e _ _ h⟩)
  · exact .inr h
/-- a list that is read is not at a free address -/
theorem SqL.upd {K : PySem.W.Frag} {H : Hp} {a p : Addr} {o : HO} {xs : List V} (h : SqL K H a xs) (hp : H p = none) : SqL K (L2.upd H p o) a xs := (Same.upd hp).seq h
theorem getI {ns : List Int} {i : Nat} (h : i < ns.length) : (ns.map V.int)[i]? = some (.int (ns.getD i 0)) := by
  rw [List.getElem?_map, List.getElem?_eq_getElem h, List.getD_eq_getElem?_getD, List.getElem?_eq_getElem h]; rfl
theorem atI_int {ns : List Int} {i : Nat} (h : i < ns.length) : atI (ns.map V.int) (i : Int) = some (.int (ns.getD i 0)) := atI_nat (getI h)
theorem getI_some {ns : List Int} {i : Nat} {x : V} (h : (ns.map V.int)[i]? = some x) : i < ns.length ∧ x = .int (ns.getD i 0) := by
  have hi : i < ns.length := by simpa using (List.getElem?_eq_some_iff.mp h).1
  rw [getI hi] at h
  exact ⟨hi, (Option.some.inj h).symm⟩
theorem sz1000 {n : Nat} (h : n ≤ 100000) : n < sizeLine := Nat.lt_of_le_of_lt h (by decide)
theorem sz1000' {n : Nat} (h : n ≤ 100000) : n ≤ sizeLine := Nat.le_of_lt (sz1000 h)
end L2

set_option Elab.async false
set_option linter.all false
set_option maxRecDepth 100000
set_option maxHeartbeats 4000000
/-! the mathematics, in plain Lean -/
namespace Tf
open PySem L2
/-- beds as the laws draw them -/
structure Beds (needs heats : List Int) : Prop where
  len : heats.length = needs.length
  lo : 1 ≤ needs.length
  hi : needs.length ≤ 50
  need : ∀ i, i < needs.length → 1 ≤ needs.getD i 0 ∧ needs.getD i 0 ≤ 200
  heat : ∀ i, i < needs.length → 0 ≤ heats.getD i 0 ∧ heats.getD i 0 ≤ needs.getD i 0
theorem take_map_succ {β : Type} {f : Int → β} {fs : List Int} {i : Nat} (h : i < fs.length) : (fs.take (i + 1)).map f = (fs.take i).map f ++ [f (fs.getD i 0)] := by
  rw [List.take_add_one, List.getElem?_eq_getElem h, List.map_append, List.getD_eq_getElem?_getD, List.getElem?_eq_getElem h]; rfl
theorem range_map_succ {β : Type} {f : Nat → β} {i : Nat} : (List.range (i + 1)).map f = (List.range i).map f ++ [f i] := by
  rw [List.range_succ, List.map_append]; rfl
theorem getD_map {f : Int → Int} {fs : List Int} {i : Nat} (h : i < fs.length) : (fs.map f).getD i 0 = f (fs.getD i 0) := by
  simp [List.getD_eq_getElem?_getD, List.getElem?_map, List.getElem?_eq_getElem h]
theorem getD_rangeMap {f : Nat → Int} {n i : Nat} (h : i < n) : ((List.range n).map f).getD i 0 = f i := by
  simp [List.getD_eq_getElem?_getD, List.getElem?_map, List.getElem?_range h]
theorem getD_mem {fs : List Int} {i : Nat} (h : i < fs.length) : fs.getD i 0 ∈ fs := by
  rw [List.getD_eq_getElem?_getD, List.getElem?_eq_getElem h]; exact List.getElem_mem h
theorem list_ext_getD {xs ys : List Int} (hl : xs.length = ys.length) (h : ∀ i, i < xs.length → xs.getD i 0 = ys.getD i 0) : xs = ys := by
  refine List.ext_getElem hl fun i h1 h2 => ?_
  have := h i h1
  rw [List.getD_eq_getElem?_getD, List.getD_eq_getElem?_getD, List.getElem?_eq_getElem h1, List.getElem?_eq_getElem h2] at this
  exact this
/-- the three bases of a draw -/
theorem base_at (z : Int) : ∃ b : Int, atI [V.int 3, V.int 12, V.int 200] (z % 3) = some (.int b) ∧ 0 < b ∧ b ≤ 200 := by
  have h1 := Int.emod_nonneg z (show (3 : Int) ≠ 0 by decide)
  have h2 := Int.emod_lt_of_pos z (show (0 : Int) < 3 by decide)
  have h3 : z % 3 = 0 ∨ z % 3 = 1 ∨ z % 3 = 2 := by omega
  rcases h3 with e | e | e <;> rw [e]
  · exact ⟨3, rfl, by decide, by decide⟩
  · exact ⟨12, rfl, by decide, by decide⟩
  · exact ⟨200, rfl, by decide, by decide⟩
/-- how many: 1 to m -/
theorem many_nat (z m : Int) (hm : 0 < m) : ∃ n : Nat, 1 + z % m = (n : Int) ∧ 1 ≤ n ∧ (n : Int) ≤ m := by
  have h1 := Int.emod_nonneg z (show m ≠ 0 by omega)
  have h2 := Int.emod_lt_of_pos z hm
  exact ⟨(1 + z % m).toNat, by omega, by omega, by omega⟩
end Tf
namespace Tf
open PySem L2
/-! ### slices -/
theorem sIx_lo {n : Nat} {i : Int} (h0 : 0 ≤ i) (h1 : i ≤ n) (d : Nat) : HT.sIx n d (some i) = i.toNat := by
  simp only [HT.sIx]
  rw [if_neg (by omega)]
  omega
theorem cut_take {xs : List V} {k : Nat} (h : k ≤ xs.length) : cutV xs none (some (k : Int)) = xs.take k := by
  unfold cutV
  rw [sIx_lo (by omega) (by omega)]
  simp [HT.sIx]
theorem cut_drop {xs : List V} {k : Nat} (h : k ≤ xs.length) : cutV xs (some (k : Int)) none = xs.drop k := by
  unfold cutV
  rw [sIx_lo (by omega) (by omega)]
  simp only [HT.sIx, Int.toNat_natCast]
  rw [List.take_of_length_le]
  simp
/-! ### thawed beds, the front -/
/-- the thawed ones among the first n beds, by number -/
def thawedN (needs heats : List Int) (n : Nat) : List Int := ((List.range n).filter fun i => decide (heats.getD i 0 = needs.getD i 0)).map fun i => ((i : Nat) : Int) + 1
structure IsFront (needs heats : List Int) (f : Nat) : Prop where
  le : f ≤ needs.length
  eq : ∀ i, i < needs.length → needs.length - f ≤ i → heats.getD i 0 = needs.getD i 0
  ne : f < needs.length → heats.getD (needs.length - f - 1) 0 ≠ needs.getD (needs.length - f - 1) 0
/-- the greatest number of a bed that is not thawed among the first n -/
structure IsBroken (needs heats : List Int) (n b : Nat) : Prop where
  le : b ≤ n
  eq : ∀ i, i < n → b ≤ i → heats.getD i 0 = needs.getD i 0
  ne : 0 < b → heats.getD (b - 1) 0 ≠ needs.getD (b - 1) 0
end Tf

set_option Elab.async false
set_option linter.all false
set_option maxRecDepth 100000
set_option maxHeartbeats 4000000
namespace L2
open PySem PySem.Spec PyProof.Rows
section
variable {X : Cx} {p pos : Pos} {a b : Expr} {ta tb : TE}
theorem call_sum (hc : X.calm = true) : CallR X (.builtin "sum") (fun vs H Q => ∃ (p : Addr) (ns : List Int), vs = [.ref p] ∧ SqL X.K H p (ns.map V.int) ∧ Q (.int ns.sum) H) := by
  intro pins s σ H vs us Q I r h
  obtain ⟨p, ns, rfl, hq, q⟩ := h
  obtain ⟨u, rfl, rx⟩ := r.one
  cases rx
  obtain ⟨its, rv, pl, hz⟩ := I.list hq
  have hi := intsAre_of rv
  have key : ∀ items : Array Value, s.heap.IsList p items → AllInts items → (∀ h' tk t', (∀ b o, s.heap.get? b = some o → h'.get? b = some o) → EP X pins σ Q (.int (numsOf items.toList).sum t') { s with heap := h', toks := tk }) →
      wpAny (model X.prog X.w) X.A (call (.builtin "sum") [.ref p]) (EP X pins σ Q) X.xe s := fun items hl hall h => by
    obtain ⟨xs, rfl⟩ := hall.items
    rw [nums_intItems] at h
    refine sum_intListG (I.ok.hd hc) hl fun h' tk t' hk => ?_
    have := h h' tk t' hk
    rw [preSum_eq, List.take_of_length_le (by simp)]; exact this
  refine key its.toArray pl.isList hi.allInts fun h' tk t' hk => ?_
  rw [show its.toArray.toList = its from rfl, hi.numsOf]
  exact ⟨.int ns.sum, H, I.kept hk, ⟨_, rfl⟩, q⟩
theorem pe_sum (hc : X.calm = true) (hm : X.mg "sum" = none) (ha : PE X a ta) (hg : Gl X "sum" := by rfl) (hs : starEach [a] X.env = (false, eval a X.env) :: starEach [] X.env := by rfl) : PE X (.Call (.Name "sum" p) [a] [] pos) (tCB (fun vs H Q => ∃ (p : Addr) (ns : List Int), vs = [.ref p] ∧ SqL X.K H p (ns.map V.int) ∧ Q (.int ns.sum) H) (tCons ta tNil)) :=
  pe_callB (call_sum hc) hg hm (by decide +kernel) (pa_cons ha pa_nil hs) (by decide) (by decide) hs rfl
/-- a whole number of the module -/
theorem pe_gint {x : Str} {i : Int} (h : ∃ t, X.mg x = some (.int i t)) (hg : Gl X x := by rfl) (hd : (x == ("__debug__" : Str)) = false := by decide) : PE X (.Name x pos) (tC (.int i)) := by
  obtain ⟨t, h⟩ := h
  exact pe_glob hg h ⟨t, rfl⟩ hd
end
theorem Same.set {H H2 : Hp} {p : Addr} {o : HO} (s : Same H H2) (hp : H p = none) : Same H (L2.upd H2 p o) := fun b u e => by rw [upd_ne (ne_of_none e hp)]; exact s b u e
/-- [f(x, y) for x, y in zip(a, b)] over ints -/
theorem comp_zip_ints {K : PySem.W.Frag} {a b p : Addr} {Q : VK} {te : TE} {xs ys : List Int} {H1 : Hp} {caps : St} (f : Int → Int → Int) (hl : xs.length = ys.length) (hz : xs.length ≤ 1000) (hA : SqL K H1 a (xs.map V.int)) (hB : SqL K H1 b (ys.map V.int)) (hp : H1 p = none)
    (ht : ∀ (x y : Int) (H : Hp) (Q' : VK), Q' (.int (f x y)) H → te (some (.int x) :: some (.int y) :: caps) H Q')
    (q : ∀ H', Same H1 H' → H' p = some (.lst ((List.zipWith f xs ys).map V.int)) → Q (.ref p) H') :
    CompR (Itz K a b) p Q (gTup K 2 (gCons (gName 0) (gCons (gName 1) gNil))) tNoIf te (none :: none :: caps) (upd H1 p (.lst [])) := by
  refine comp_zip (xs := xs.map V.int) (ys := ys.map V.int) (by simpa using hl) (fun i σ H2 => (∃ v w, σ = v :: w :: caps) ∧ Same H1 H2 ∧ H2 p = some (.lst (((List.zipWith f xs ys).take i).map V.int))) ?_ ?_ ?_ ?_
  · exact ⟨⟨_, _, rfl⟩, Same.upd hp, by rw [List.take_zero]; exact upd_same⟩
  · rintro i σ H2 _ ⟨_, s2, _⟩
    exact ⟨s2.seq hA, s2.seq hB⟩
  · rintro i x y t σ H2 hx hy ⟨⟨v, w, rfl⟩, s2, h2⟩ ft
    obtain ⟨hi, rfl⟩ := getI_some hx
    obtain ⟨hi', rfl⟩ := getI_some hy
    refine compT_two (SqT.of upd_same) (ht _ _ _ _ ?_)
    have npt : p ≠ t := ne_of_none h2 ft
    refine ⟨_, by rw [upd_ne npt]; exact h2, sz1000 (by rw [List.length_map, List.length_take]; omega), ⟨_, _, rfl⟩, (s2.trans (Same.upd ft)).set hp, ?_⟩
    rw [upd_same]
    have hlt : i < (List.zipWith f xs ys).length := by rw [List.length_zipWith]; omega
    have e : (List.zipWith f xs ys).getD i 0 = f (xs.getD i 0) (ys.getD i 0) := by
      simp only [List.getD_eq_getElem?_getD, List.getElem?_zipWith, List.getElem?_eq_getElem hi, List.getElem?_eq_getElem hi', Option.getD_some]
    rw [Tf.take_map_succ (f := V.int) hlt, e]
  · rintro σ H2 ⟨_, s2, h2⟩
    rw [List.length_map, List.take_of_length_le (by rw [List.length_zipWith]; omega)] at h2
    exact q H2 s2 h2
end L2
namespace Tf
open PySem L2
/-! ### a season's units shared out from the top -/
/-- what is left behind the places from i on -/
def leftAt (rs : List Int) (a : Int) (i : Nat) : Int := max 0 (a - (rs.drop i).sum)
def shareAt (rs : List Int) (a : Int) (i : Nat) : Int := min (leftAt rs a (i + 1)) (rs.getD i 0)
theorem drop_sum {rs : List Int} {i : Nat} (h : i < rs.length) : (rs.drop i).sum = rs.getD i 0 + (rs.drop (i + 1)).sum := by
  rw [List.drop_eq_getElem_cons h, List.sum_cons, List.getD_eq_getElem?_getD, List.getElem?_eq_getElem h]; rfl
theorem leftAt_top {rs : List Int} {a : Int} {n : Nat} (h : rs.length ≤ n) (ha : 0 ≤ a) : leftAt rs a n = a := by
  unfold leftAt
  rw [List.drop_of_length_le h, List.sum_nil]; omega
theorem leftAt_nonneg (rs : List Int) (a : Int) (i : Nat) : 0 ≤ leftAt rs a i := by unfold leftAt; omega
theorem leftAt_step {rs : List Int} {a : Int} {i : Nat} (h : i < rs.length) (h0 : 0 ≤ rs.getD i 0) : leftAt rs a i = leftAt rs a (i + 1) - shareAt rs a i := by
  unfold shareAt leftAt
  rw [drop_sum h]; omega
theorem share_bounds {rs : List Int} {a : Int} {i : Nat} (h0 : 0 ≤ rs.getD i 0) : 0 ≤ shareAt rs a i ∧ shareAt rs a i ≤ rs.getD i 0 := by
  have := leftAt_nonneg rs a (i + 1)
  unfold shareAt; omega
/-- a walk unit by unit at place q - 1: u is what each place has taken, left what is still to share -/
structure WalkInv (rs : List Int) (a : Int) (q : Nat) (left : Int) (u : Nat → Int) : Prop where
  hq : q ≤ rs.length
  h0 : 0 ≤ left
  above : ∀ i, q ≤ i → i < rs.length → u i = shareAt rs a i
  here : 0 < q → u (q - 1) = leftAt rs a q - left ∧ 0 ≤ u (q - 1) ∧ u (q - 1) ≤ rs.getD (q - 1) 0
  below : ∀ i, i + 1 < q → u i = 0
  done : q = 0 → left = leftAt rs a 0
section
variable {rs : List Int} {a left : Int} {q : Nat} {u : Nat → Int}
end
/-- the shares, as a list -/
def shares (rs : List Int) (a : Int) : List Int := (List.range rs.length).map (shareAt rs a)
theorem shares_len (rs : List Int) (a : Int) : (shares rs a).length = rs.length := by unfold shares; simp
theorem shares_at {rs : List Int} {a : Int} {i : Nat} (h : i < rs.length) : (shares rs a).getD i 0 = shareAt rs a i := by unfold shares; exact getD_rangeMap h
/-- warm and cold -/
def rooms (needs heats : List Int) : List Int := List.zipWith (fun n h => n - h) needs heats
def warmL (needs heats : List Int) (a : Int) : List Int := List.zipWith (fun h s => h + s) heats (shares (rooms needs heats) a)
def coldL (heats : List Int) (a : Int) : List Int := List.zipWith (fun h s => h - s) heats (shares heats a)
theorem getD_zipWith {f : Int → Int → Int} {xs ys : List Int} {i : Nat} (h1 : i < xs.length) (h2 : i < ys.length) : (List.zipWith f xs ys).getD i 0 = f (xs.getD i 0) (ys.getD i 0) := by
  simp only [List.getD_eq_getElem?_getD, List.getElem?_zipWith, List.getElem?_eq_getElem h1, List.getElem?_eq_getElem h2, Option.getD_some]
theorem rooms_len {needs heats : List Int} (h : heats.length = needs.length) : (rooms needs heats).length = needs.length := by unfold rooms; rw [List.length_zipWith]; omega
theorem rooms_at {needs heats : List Int} (h : heats.length = needs.length) {i : Nat} (hi : i < needs.length) : (rooms needs heats).getD i 0 = needs.getD i 0 - heats.getD i 0 := getD_zipWith hi (by omega)
theorem warmL_len {needs heats : List Int} {a : Int} (h : heats.length = needs.length) : (warmL needs heats a).length = needs.length := by unfold warmL; rw [List.length_zipWith, shares_len, rooms_len h]; omega
theorem warmL_at {needs heats : List Int} {a : Int} (h : heats.length = needs.length) {i : Nat} (hi : i < needs.length) : (warmL needs heats a).getD i 0 = heats.getD i 0 + shareAt (rooms needs heats) a i := by
  unfold warmL
  rw [getD_zipWith (by omega) (by rw [shares_len, rooms_len h]; exact hi), shares_at (by rw [rooms_len h]; exact hi)]
theorem coldL_len {heats : List Int} {a : Int} : (coldL heats a).length = heats.length := by unfold coldL; rw [List.length_zipWith, shares_len]; omega
theorem coldL_at {heats : List Int} {a : Int} {i : Nat} (hi : i < heats.length) : (coldL heats a).getD i 0 = heats.getD i 0 - shareAt heats a i := by
  unfold coldL
  rw [getD_zipWith hi (by rw [shares_len]; exact hi), shares_at hi]
theorem set_range {n k : Nat} {f : Nat → Int} {v : Int} : ((List.range n).map f).set k v = (List.range n).map fun i => if i = k then v else f i := by
  refine List.ext_getElem (by simp) fun i h1 h2 => ?_
  rw [List.getElem_set]
  simp only [List.getElem_map, List.getElem_range]
  by_cases h : k = i
  · rw [if_pos h, if_pos h.symm]
  · rw [if_neg h, if_neg (Ne.symm h)]
theorem list_range (xs : List Int) : xs = (List.range xs.length).map fun i => xs.getD i 0 :=
  list_ext_getD (by simp) fun i hi => by rw [getD_rangeMap hi]
theorem range_congr {n : Nat} {f g : Nat → Int} (h : ∀ i, i < n → f i = g i) : (List.range n).map f = (List.range n).map g :=
  List.map_congr_left fun i hi => h i (List.mem_range.mp hi)
theorem setI {xs : List Int} {k : Nat} {v : Int} : (xs.map V.int).set k (.int v) = (xs.set k v).map V.int := by rw [List.map_set]
theorem sum_bounds : ∀ {xs : List Int}, (∀ x ∈ xs, 1 ≤ x ∧ x ≤ 200) → (xs.length : Int) ≤ xs.sum ∧ xs.sum ≤ 200 * (xs.length : Int)
  | [], _ => by simp
  | x :: xs, h => by
    have h1 := h x List.mem_cons_self
    have h2 := sum_bounds (xs := xs) fun y hy => h y (List.mem_cons_of_mem _ hy)
    rw [List.sum_cons, List.length_cons]
    omega
theorem mem_getD {xs : List Int} {x : Int} (h : x ∈ xs) : ∃ i, i < xs.length ∧ xs.getD i 0 = x := by
  obtain ⟨i, hi, e⟩ := List.mem_iff_getElem.mp h
  exact ⟨i, hi, by rw [List.getD_eq_getElem?_getD, List.getElem?_eq_getElem hi]; exact e⟩
theorem Beds.sum {needs heats : List Int} (B : Beds needs heats) : 1 ≤ needs.sum ∧ needs.sum ≤ 10000 := by
  have h := sum_bounds (xs := needs) fun x hx => by
    obtain ⟨i, hi, e⟩ := mem_getD hx
    rw [← e]
    exact B.need i hi
  have h1 := B.lo
  have h2 := B.hi
  omega
end Tf
namespace L2
open PySem
end L2

set_option Elab.async false
set_option linter.all false
set_option maxRecDepth 100000
set_option maxHeartbeats 4000000
namespace L2
open PySem PySem.Spec PyProof.Rows
/-! ### two lists of the same values are equal -/
def eqOk : V → Bool
  | .non => true
  | .bl _ => true
  | .int _ => true
  | .str _ => true
  | .ref _ => true
  | _ => false
theorem eq_sameV {A : Around} {s : Shared} {x : V} {u v : Value} (h : eqOk x = true) (ru : RelV x u) (rv : RelV x v) : SeqAt.EqAt A s u v true := by
  cases x with
  | non => cases ru; cases rv; exact SeqAt.EqAt.same _
  | bl b => cases ru; cases rv; exact SeqAt.EqAt.same _
  | int i =>
    obtain ⟨t, rfl⟩ := ru
    obtain ⟨t', rfl⟩ := rv
    have := SeqAt.EqAt.int_int (A := A) (s := s) i t i t'
    rw [beq_self_eq_true] at this
    exact this
  | str z =>
    obtain ⟨t, rfl⟩ := ru
    obtain ⟨t', rfl⟩ := rv
    have := SeqAt.EqAt.str_str (A := A) (s := s) z t z t'
    rw [beq_self_eq_true] at this
    exact this
  | ref a => cases ru; cases rv; exact SeqAt.EqAt.same _
  | byt _ => cases h
  | flt _ => cases h
  | ty _ => cases h
theorem Vals.at {xs : List V} {us : List Value} (r : Vals xs us) {j : Nat} (h : j < us.length) : ∃ x, xs[j]? = some x ∧ RelV x us[j] := by
  have hx : j < xs.length := by rw [r.length]; exact h
  obtain ⟨u, e, ru⟩ := r.get (List.getElem?_eq_getElem hx)
  rw [List.getElem?_eq_getElem h] at e
  exact ⟨_, List.getElem?_eq_getElem hx, by rw [Option.some.inj e]; exact ru⟩
section
variable {X : Cx}
end
end L2
namespace Tf
open PySem L2
/-! ### seasons -/
def kindS (b : Bool) : Str := if b = true then "warm" else "cold"
theorem kind_warm (b : Bool) : decide (V.str (kindS b) = V.str "warm") = b := by
  cases b
  · exact decide_eq_false (fun h => absurd (V.str.inj h) (by decide +kernel))
  · exact decide_eq_true rfl
/-- a list of season tuples stands at p -/
structure SeasAt (H : Hp) (ts : List Addr) (ss : List (Bool × Int)) : Prop where
  len : ts.length = ss.length
  at' : ∀ (i : Nat) (z : Bool × Int), ss[i]? = some z → ∃ t, ts[i]? = some t ∧ H t = some (.tup [.str (kindS z.1), .int z.2])
theorem SeasAt.same {H H' : Hp} {ts : List Addr} {ss : List (Bool × Int)} (S : SeasAt H ts ss) (h : Same H H') : SeasAt H' ts ss :=
  ⟨S.len, fun i z e => let ⟨t, e1, e2⟩ := S.at' i z e; ⟨t, e1, h _ _ e2⟩⟩
theorem SeasAt.nil (H : Hp) : SeasAt H [] [] := ⟨rfl, fun i z e => by simp at e⟩
theorem SeasAt.snoc {H : Hp} {ts : List Addr} {ss : List (Bool × Int)} (S : SeasAt H ts ss) {t : Addr} {z : Bool × Int} (h : H t = some (.tup [.str (kindS z.1), .int z.2])) : SeasAt H (ts ++ [t]) (ss ++ [z]) := by
  refine ⟨by simp [S.len], fun i y e => ?_⟩
  by_cases hi : i < ss.length
  · rw [List.getElem?_append_left hi] at e
    obtain ⟨t', e1, e2⟩ := S.at' i y e
    exact ⟨t', by rw [List.getElem?_append_left (by rw [S.len]; exact hi)]; exact e1, e2⟩
  · rw [List.getElem?_append_right (by omega)] at e
    have hi0 : i - ss.length = 0 := by
      have := (List.getElem?_eq_some_iff.mp e).1
      simp at this
      omega
    rw [hi0] at e
    have e : z = y := by simpa using e
    subst e
    refine ⟨t, ?_, h⟩
    rw [List.getElem?_append_right (by rw [S.len]; omega), S.len, hi0]
    rfl
/-- heats within the needs -/
structure HeatsOk (needs heats : List Int) : Prop where
  len : heats.length = needs.length
  lo : ∀ i, i < needs.length → 0 ≤ heats.getD i 0
  hi : ∀ i, i < needs.length → heats.getD i 0 ≤ needs.getD i 0
theorem Beds.ok {needs heats : List Int} (B : Beds needs heats) : HeatsOk needs heats := ⟨B.len, fun i h => (B.heat i h).1, fun i h => (B.heat i h).2⟩
theorem HeatsOk.rooms0 {needs heats : List Int} (h : HeatsOk needs heats) : ∀ i, i < (rooms needs heats).length → 0 ≤ (rooms needs heats).getD i 0 := fun i hi => by
  rw [rooms_len h.len] at hi
  rw [rooms_at h.len hi]
  have := h.hi i hi
  omega
theorem HeatsOk.warm {needs heats : List Int} (h : HeatsOk needs heats) (m : Int) : HeatsOk needs (warmL needs heats m) := by
  refine ⟨warmL_len h.len, fun i hi => ?_, fun i hi => ?_⟩
  all_goals
    rw [warmL_at h.len hi]
    have b := share_bounds (a := m) (h.rooms0 i (by rw [rooms_len h.len]; exact hi))
    rw [rooms_at h.len hi] at b
    have := h.lo i hi
    omega
theorem HeatsOk.cold {needs heats : List Int} (h : HeatsOk needs heats) (m : Int) : HeatsOk needs (coldL heats m) := by
  refine ⟨by rw [coldL_len, h.len], fun i hi => ?_, fun i hi => ?_⟩
  all_goals
    rw [coldL_at (by rw [h.len]; exact hi)]
    have b := share_bounds (a := m) (h.lo i hi)
    have := h.hi i hi
    omega
/-- one season over (heats, no room, no heat) -/
def seasL (needs heats : List Int) (z : Bool × Int) : List Int := if z.1 = true then warmL needs heats z.2 else coldL heats z.2
def seasLeft (needs heats : List Int) (z : Bool × Int) : Int := if z.1 = true then leftAt (rooms needs heats) z.2 0 else leftAt heats z.2 0
theorem HeatsOk.seas {needs heats : List Int} (h : HeatsOk needs heats) (z : Bool × Int) : HeatsOk needs (seasL needs heats z) := by
  unfold seasL
  split
  · exact h.warm _
  · exact h.cold _
structure Sums where
  heats : List Int
  room : Int
  heat : Int
def stepS (needs : List Int) (s : Sums) (z : Bool × Int) : Sums :=
  ⟨seasL needs s.heats z, if z.1 = true then s.room + seasLeft needs s.heats z else s.room, if z.1 = true then s.heat else s.heat + seasLeft needs s.heats z⟩
def passL (needs heats : List Int) (ss : List (Bool × Int)) : Sums := ss.foldl (stepS needs) ⟨heats, 0, 0⟩
theorem passL_snoc (needs heats : List Int) (ss : List (Bool × Int)) (z : Bool × Int) : passL needs heats (ss ++ [z]) = stepS needs (passL needs heats ss) z := by
  unfold passL
  rw [List.foldl_append]; rfl
theorem passL_ok {needs heats : List Int} (h : HeatsOk needs heats) (ss : List (Bool × Int)) : HeatsOk needs (passL needs heats ss).heats := by
  have : ∀ (ss : List (Bool × Int)) (s : Sums), HeatsOk needs s.heats → HeatsOk needs (ss.foldl (stepS needs) s).heats := by
    intro ss
    induction ss with
    | nil => intro s h; exact h
    | cons z ss ih => intro s h; exact ih _ (h.seas z)
  exact this ss _ h
theorem take_snoc {α : Type} {ss : List α} {i : Nat} {z : α} (h : ss[i]? = some z) : ss.take (i + 1) = ss.take i ++ [z] := by
  rw [List.take_add_one, h]; rfl
end Tf

set_option Elab.async false
set_option linter.all false
set_option maxRecDepth 100000
set_option maxHeartbeats 4000000
namespace L2
open PySem PySem.Spec PyProof.Rows
section
variable {X : Cx} {p pos : Pos} {a b : Expr} {ta tb : TE}
abbrev rSorted (K : PySem.W.Frag) : List V → Hp → VK → Prop := fun vs H Q => ∃ (p : Addr) (ns : List Int), vs = [.ref p] ∧ SqL K H p (ns.map V.int) ∧ ns.length < 64 ∧ ∀ (l : Addr) (ns' : List Int), H l = none → ns'.Perm ns → ns'.Pairwise (· ≤ ·) → Q (.ref l) (upd H l (.lst (ns'.map V.int)))
end
end L2
namespace Tf
open PySem L2
/-- the sum held between least and most -/
def clampI (x l m : Int) : Int := if x < l then l else if m < x then m else x
end Tf
namespace L2
theorem none_of {H H' : Hp} {t : PySem.Addr} (s : Same H H') (h : H' t = none) : H t = none := by
  cases e : H t with
  | none => rfl
  | some o => exact absurd ((s _ _ e).symm.trans h) (by simp)
end L2
namespace Tf
end Tf

set_option Elab.async false
set_option linter.all false
set_option maxRecDepth 100000
set_option maxHeartbeats 4000000
namespace Tf
open PySem L2
/-! ### rules of three numbers -/
structure Rl where
  d : Int
  l : Int
  m : Int
abbrev Rl.vs (r : Rl) : List V := [.int r.d, .int r.l, .int r.m]
def Rl.Ok (r : Rl) : Prop := r.l ≤ r.m
def Rl.ap (r : Rl) (x : Int) : Int := clampI (x + r.d) r.l r.m
def Rl.jn (a b : Rl) : Rl := ⟨a.d + b.d, b.ap a.l, b.ap a.m⟩
/-- joined with itself n times more -/
def Rl.rep (r : Rl) : Nat → Rl
  | 0 => r
  | n + 1 => (r.rep n).jn r
end Tf
namespace Tf
open PySem L2
/-! ### seasons as rules of a depth -/
def stepH (full h : Int) (z : Bool × Int) : Int := if z.1 = true then min full (h + z.2) else max 0 (h - z.2)
def stepsH (full h : Int) (ss : List (Bool × Int)) : Int := ss.foldl (stepH full) h
def addS (ss : List (Bool × Int)) : Int := ss.foldl (fun t z => t + if z.1 = true then z.2 else -z.2) 0
def seasR (full : Int) (z : Bool × Int) : Rl := if z.1 = true then ⟨z.2, min full z.2, full⟩ else ⟨-z.2, 0, max 0 (full - z.2)⟩
def rowR (full : Int) (ss : List (Bool × Int)) : Rl := ⟨addS ss, stepsH full 0 ss, stepsH full full ss⟩
theorem stepsH_snoc (full h : Int) (ss : List (Bool × Int)) (z : Bool × Int) : stepsH full h (ss ++ [z]) = stepH full (stepsH full h ss) z := by unfold stepsH; rw [List.foldl_append]; rfl
theorem addS_snoc (ss : List (Bool × Int)) (z : Bool × Int) : addS (ss ++ [z]) = addS ss + if z.1 = true then z.2 else -z.2 := by unfold addS; rw [List.foldl_append]; rfl
theorem stepH_in {full h : Int} {z : Bool × Int} (hz : 0 ≤ z.2) (h0 : 0 ≤ h) (h1 : h ≤ full) : 0 ≤ stepH full h z ∧ stepH full h z ≤ full := by
  unfold stepH; split <;> omega
theorem stepsH_in {full h : Int} {ss : List (Bool × Int)} (hz : ∀ z ∈ ss, 0 ≤ z.2) (h0 : 0 ≤ h) (h1 : h ≤ full) : 0 ≤ stepsH full h ss ∧ stepsH full h ss ≤ full := by
  induction ss generalizing h with
  | nil => exact ⟨h0, h1⟩
  | cons z ss ih =>
    have := stepH_in (hz z (List.mem_cons_self ..)) h0 h1
    exact ih (fun y hy => hz y (List.mem_cons_of_mem _ hy)) this.1 this.2
theorem stepH_mono {full h k : Int} {z : Bool × Int} (e : h ≤ k) : stepH full h z ≤ stepH full k z := by unfold stepH; split <;> omega
theorem stepsH_mono {full h k : Int} (ss : List (Bool × Int)) (e : h ≤ k) : stepsH full h ss ≤ stepsH full k ss := by
  induction ss generalizing h k with
  | nil => exact e
  | cons z ss ih => exact ih (stepH_mono e)
theorem rowR_ok {full : Int} (hf : 0 ≤ full) (ss : List (Bool × Int)) : (rowR full ss).Ok := stepsH_mono ss hf
theorem seasR_ok {full : Int} {z : Bool × Int} (hf : 0 ≤ full) (hz : 0 ≤ z.2) : (seasR full z).Ok := by
  unfold seasR Rl.Ok; split <;> (dsimp only; omega)
theorem seasR_ap {full h : Int} {z : Bool × Int} (hz : 0 ≤ z.2) (h0 : 0 ≤ h) (h1 : h ≤ full) : (seasR full z).ap h = stepH full h z := by
  unfold seasR stepH Rl.ap clampI
  by_cases e : z.1 = true
  · rw [if_pos e, if_pos e]; dsimp only; repeat' split
    all_goals omega
  · rw [if_neg e, if_neg e]; dsimp only; repeat' split
    all_goals omega
theorem rowR_snoc {full : Int} {ss : List (Bool × Int)} {z : Bool × Int} (hf : 0 ≤ full) (hs : ∀ z ∈ ss, 0 ≤ z.2) (hz : 0 ≤ z.2) : rowR full (ss ++ [z]) = (rowR full ss).jn (seasR full z) := by
  have a := stepsH_in hs (Int.le_refl 0) hf
  have b := stepsH_in hs hf (Int.le_refl full)
  show (⟨addS (ss ++ [z]), stepsH full 0 (ss ++ [z]), stepsH full full (ss ++ [z])⟩ : Rl) = ⟨addS ss + (seasR full z).d, (seasR full z).ap (stepsH full 0 ss), (seasR full z).ap (stepsH full full ss)⟩
  rw [seasR_ap hz a.1 a.2, seasR_ap hz b.1 b.2, addS_snoc, stepsH_snoc, stepsH_snoc]
  congr 1
  unfold seasR
  split <;> rfl
theorem SeasAt.take {H : Hp} {ts : List Addr} {ss : List (Bool × Int)} (S : SeasAt H ts ss) (k : Nat) : SeasAt H (ts.take k) (ss.take k) := by
  refine ⟨by rw [List.length_take, List.length_take, S.len], fun i z e => ?_⟩
  have hi : i < k := by have := (List.getElem?_eq_some_iff.mp e).1; rw [List.length_take] at this; omega
  rw [List.getElem?_take_of_lt hi] at e
  obtain ⟨t, e1, e2⟩ := S.at' i z e
  exact ⟨t, by rw [List.getElem?_take_of_lt hi]; exact e1, e2⟩
theorem SeasAt.drop {H : Hp} {ts : List Addr} {ss : List (Bool × Int)} (S : SeasAt H ts ss) (k : Nat) : SeasAt H (ts.drop k) (ss.drop k) := by
  refine ⟨by rw [List.length_drop, List.length_drop, S.len], fun i z e => ?_⟩
  rw [List.getElem?_drop] at e
  obtain ⟨t, e1, e2⟩ := S.at' (k + i) z e
  exact ⟨t, by rw [List.getElem?_drop]; exact e1, e2⟩
end Tf
namespace Tf
open PySem L2
theorem SeasAt.item {H : Hp} {ts : List Addr} {ss : List (Bool × Int)} (S : SeasAt H ts ss) {i : Nat} {x : V} (h : (ts.map V.ref)[i]? = some x) : ∃ t z, x = .ref t ∧ ss[i]? = some z ∧ H t = some (.tup [.str (kindS z.1), .int z.2]) := by
  rw [List.getElem?_map] at h
  cases e : ts[i]? with
  | none => rw [e] at h; cases h
  | some t =>
    rw [e] at h
    have hi : i < ss.length := by rw [← S.len]; exact (List.getElem?_eq_some_iff.mp e).1
    obtain ⟨t', e1, e2⟩ := S.at' i _ (List.getElem?_eq_getElem hi)
    rw [e] at e1
    cases e1
    exact ⟨t, _, (Option.some.inj h).symm, List.getElem?_eq_getElem hi, e2⟩
end Tf
namespace Tf
open PySem L2
end Tf
namespace Tf
end Tf

set_option Elab.async false
set_option linter.all false
set_option maxRecDepth 100000
set_option maxHeartbeats 4000000
namespace Tf
open PySem L2
/-! ### the heat down to a place -/
def down (hs : List Int) (i : Nat) : Int := (hs.drop i).sum
end Tf
namespace L2
open PySem PySem.Spec PyProof.Rows
section
variable {X : Cx}
theorem op_neL (hu : X.A.units < cLine) : OpR X (compareOp .NotEq) (fun x y H Q => ∃ p q xs, x = .ref p ∧ y = .ref q ∧ SqL X.K H p xs ∧ SqL X.K H q xs ∧ xs.all eqOk = true ∧ Q (.bl false) H) := by
  intro pins s σ H x y v u Q I rx ry h
  obtain ⟨p, q, xs, rfl, rfl, h1, h2, ho, hq⟩ := h
  cases rx
  cases ry
  obtain ⟨its, r1, pl1, _⟩ := I.list h1
  obtain ⟨jts, r2, pl2, _⟩ := I.list h2
  have hsz : its.length = jts.length := by rw [← r1.length, ← r2.length]
  refine SeqAt.RcNeAt.lists (e := fun _ => true) pl1.isList pl2.isList (by simpa using hsz) hu (fun j a b => ?_) _ _ _ _ ?_
  · obtain ⟨x, e, ru⟩ := r1.at (j := j) (by simpa using a)
    obtain ⟨x', e', ru'⟩ := r2.at (j := j) (by simpa using b)
    rw [e] at e'
    cases e'
    have : eqOk x = true := List.all_eq_true.mp ho x (List.mem_of_getElem? e)
    exact eq_sameV this ru ru'
  · rw [show (List.range its.toArray.size).all (fun _ => true) = true from by simp]
    exact ⟨.bl false, H, I, rfl, hq⟩
end
end L2
namespace Tf
end Tf
namespace Tf
/-- a year walked again and again -/
def yearsH (full h : Int) (ss : List (Bool × Int)) : Nat → Int
  | 0 => h
  | n + 1 => stepsH full (yearsH full h ss n) ss
end Tf

set_option Elab.async false
set_option linter.all false
set_option maxRecDepth 100000
set_option maxHeartbeats 4000000
namespace Tf
open PySem L2
/-- rules in a row joined -/
def jl : List Rl → Rl
  | [] => ⟨0, 0, 0⟩
  | r :: rs => rs.foldl Rl.jn r
structure RulesAt (H : Hp) (ts : List Addr) (Rs : List Rl) : Prop where
  len : ts.length = Rs.length
  at' : ∀ (i : Nat) (R : Rl), Rs[i]? = some R → ∃ t, ts[i]? = some t ∧ H t = some (.tup R.vs)
end Tf
namespace Tf
open PySem L2
theorem cut_dropG {xs : List V} {k : Nat} : cutV xs (some (k : Int)) none = xs.drop k := by
  by_cases h : k ≤ xs.length
  · exact cut_drop h
  · rw [List.drop_of_length_le (by omega)]
    have e : HT.sIx xs.length 0 (some (k : Int)) = xs.length := by
      simp only [HT.sIx]
      rw [if_neg (by omega)]
      omega
    unfold cutV
    rw [e, List.drop_length, List.take_nil]
theorem cut_takeG {xs : List V} {k : Nat} : cutV xs none (some (k : Int)) = xs.take k := by
  by_cases h : k ≤ xs.length
  · exact cut_take h
  · rw [List.take_of_length_le (by omega)]
    have e : HT.sIx xs.length xs.length (some (k : Int)) = xs.length := by
      simp only [HT.sIx]
      rw [if_neg (by omega)]
      omega
    unfold cutV
    rw [e]
    simp [HT.sIx]
end Tf

set_option Elab.async false
set_option linter.all false
set_option maxRecDepth 100000
set_option maxHeartbeats 4000000
namespace Tf
open PySem L2
/-! ### years that come again, over the beds -/
def yearsL (needs heats : List Int) (ss : List (Bool × Int)) : Nat → Sums
  | 0 => ⟨heats, 0, 0⟩
  | n + 1 => ss.foldl (stepS needs) (yearsL needs heats ss n)
end Tf
namespace Tf
open PySem L2
/-- the heats behind many years and some seasons more -/
def farL (needs heats : List Int) (ss : List (Bool × Int)) (many some : Nat) : List Int := ((ss.take some).foldl (stepS needs) (yearsL needs heats ss many)).heats
end Tf
namespace Tf
open PySem L2
theorem SeasAt.append {H : Hp} {ts us : List Addr} {ss zs : List (Bool × Int)} (S : SeasAt H ts ss) (U : SeasAt H us zs) : SeasAt H (ts ++ us) (ss ++ zs) := by
  refine ⟨by rw [List.length_append, List.length_append, S.len, U.len], fun i z e => ?_⟩
  by_cases hi : i < ss.length
  · rw [List.getElem?_append_left hi] at e
    obtain ⟨t, e1, e2⟩ := S.at' i z e
    exact ⟨t, by rw [List.getElem?_append_left (by rw [S.len]; exact hi)]; exact e1, e2⟩
  · rw [List.getElem?_append_right (by omega)] at e
    obtain ⟨t, e1, e2⟩ := U.at' _ z e
    exact ⟨t, by rw [List.getElem?_append_right (by rw [S.len]; omega), S.len]; exact e1, e2⟩
end Tf

set_option Elab.async false
set_option linter.all false
set_option maxRecDepth 100000
set_option maxHeartbeats 4000000
namespace Tf
open PySem L2
/-! ### the resting year -/
/-- the resting year: the first that ends as it began -/
structure IsRest (needs heats : List Int) (ss : List (Bool × Int)) (r : Nat) : Prop where
  lo : 1 ≤ r
  rest : (yearsL needs heats ss r).heats = (yearsL needs heats ss (r - 1)).heats
  first : 2 ≤ r → (yearsL needs heats ss (r - 1)).heats ≠ (yearsL needs heats ss (r - 2)).heats
end Tf
namespace L2
open PySem PySem.Spec PyProof.Rows
section
variable {X : Cx}
end
end L2

set_option Elab.async false
set_option linter.all false
set_option maxRecDepth 100000
set_option maxHeartbeats 4000000
namespace PySem
end PySem
namespace L2
open PySem PySem.Spec PyProof.Rows
/-! ### reversed, over a list of n things -/
def ItRv (K : PySem.W.Frag) (a : Addr) (n : Nat) : It :=
  ⟨fun i H => ∃ xs, SqL K H a xs ∧ xs.length = n ∧ i < n, fun i H x H' => H' = H ∧ ∀ xs, SqL K H a xs → xs.length = n → xs[n - 1 - i]? = some x, fun i H => ∃ xs, SqL K H a xs ∧ xs.length = n ∧ n ≤ i⟩
section
variable {X : Cx} {tg : Expr}
def iRev (K : PySem.W.Frag) (ta : TA) : TI := fun σ H R => ta σ H fun vs H1 => ∃ p xs, vs = [.ref p] ∧ SqL K H1 p xs ∧ R (ItRv K p xs.length) H1
/-- list(reversed(l)) -/
def tRevL (K : PySem.W.Frag) (ta : TA) : TE := fun σ H Q => ta σ H fun vs H1 => ∃ p ys, vs = [.ref p] ∧ SqL K H1 p ys ∧ ∀ l, H1 l = none → Q (.ref l) (upd H1 l (.lst ys.reverse))
end
end L2

set_option Elab.async false
set_option linter.all false
set_option maxRecDepth 100000
set_option maxHeartbeats 4000000
namespace Tf
open PySem L2
/-! ### the sums from each place on -/
def downs (ns : List Int) : List Int := (List.range ns.length).map (down ns)
/-- the first i of them, from the end -/
def downsUp (ns : List Int) (i : Nat) : List Int := (List.range i).map fun j => down ns (ns.length - (j + 1))
end Tf

set_option Elab.async false
set_option linter.all false
set_option maxRecDepth 100000
set_option maxHeartbeats 4000000
namespace Tf
open PySem L2
/-! ### what finds no room and no heat, by the heat of all beds alone -/
def mR (F : Int) : Int → List (Bool × Int) → Int
  | _, [] => 0
  | x, z :: ss => (if z.1 = true then max 0 (z.2 - (F - x)) else 0) + mR F (stepH F x z) ss
def mH (F : Int) : Int → List (Bool × Int) → Int
  | _, [] => 0
  | x, z :: ss => (if z.1 = true then 0 else max 0 (z.2 - x)) + mH F (stepH F x z) ss
end Tf
namespace Tf
open PySem L2
/-- all that is told at season so of year n + 1 -/
def untilL (needs heats : List Int) (ss : List (Bool × Int)) (n so : Nat) : Sums := (ss.take so).foldl (stepS needs) (yearsL needs heats ss n)
end Tf

set_option Elab.async false
set_option linter.all false
set_option maxRecDepth 100000
set_option maxHeartbeats 4000000
namespace L2
open PySem PySem.Spec PyProof.Rows
section
variable {X : Cx} {p pos : Pos} {a b : Expr} {ta tb : TE}
end
end L2
namespace Tf
open PySem L2
/-! ### rest at one depth -/
structure RestH (full h : Int) (ss : List (Bool × Int)) (r : Nat) : Prop where
  lo : 1 ≤ r
  rest : yearsH full h ss r = yearsH full h ss (r - 1)
  first : 2 ≤ r → yearsH full h ss (r - 1) ≠ yearsH full h ss (r - 2)
end Tf
namespace Tf
open PySem L2
end Tf

set_option Elab.async false
set_option linter.all false
set_option maxRecDepth 100000
set_option maxHeartbeats 4000000
namespace L2
open PySem PySem.Spec PyProof.Rows
section
variable {X : Cx}
end
end L2
namespace Tf
open PySem L2
/-! ### a season bed by bed -/
def heldG (z : Bool × Int) (h u : Int) : Int := if z.1 = true then h + u else h - u
def limG (needs heats : List Int) (z : Bool × Int) : List Int := if z.1 = true then rooms needs heats else heats
/-- the heats when the places from k on are done -/
def goL (needs heats : List Int) (z : Bool × Int) (k : Nat) : List Int := (List.range needs.length).map fun i => heldG z (heats.getD i 0) (if k ≤ i then shareAt (limG needs heats z) z.2 i else 0)
end Tf
namespace Tf
open PySem L2
/-- all but what lies at b is kept -/
def Keep (b : Addr) (H H' : Hp) : Prop := ∀ x o, x ≠ b → H x = some o → H' x = some o
end Tf

set_option Elab.async false
set_option linter.all false
set_option maxRecDepth 100000
set_option maxHeartbeats 4000000
namespace Tf
open PySem L2
/-! ### the first thawed season of a bed -/
/-- the bed at place i is thawed through behind y years and k seasons -/
def Thaw (needs heats : List Int) (ss : List (Bool × Int)) (i y k : Nat) : Prop := (farL needs heats ss y k).getD i 0 = needs.getD i 0
inductive First (needs heats : List Int) (ss : List (Bool × Int)) (i : Nat) : Bool → Nat → Nat → Prop
  | yes (y k : Nat) : k < ss.length → Thaw needs heats ss i y (k + 1) → (∀ y' k', k' < ss.length → (y' < y ∨ (y' = y ∧ k' < k)) → ¬ Thaw needs heats ss i y' (k' + 1)) → First needs heats ss i true (y + 1) (k + 1)
  | no (r : Nat) : IsRest needs heats ss r → (∀ y k, k < ss.length → ¬ Thaw needs heats ss i y (k + 1)) → First needs heats ss i false r 0
end Tf
namespace Tf
open PySem L2
end Tf

set_option Elab.async false
set_option linter.all false
set_option maxRecDepth 100000
set_option maxHeartbeats 4000000
namespace Tf
open PySem L2
/-! ### a year of a warm and a cold season, from frozen ground -/
abbrev slowS (w c : Int) : List (Bool × Int) := [(true, w), (false, c)]
/-- what heat may be there at most behind the warm season of year n + 1 -/
def slowA (w c : Int) (n : Nat) : Int := if w ≤ c then w else n * (w - c) + w
end Tf

set_option Elab.async false
set_option linter.all false
set_option maxRecDepth 100000
set_option maxHeartbeats 4000000
namespace Tf
open PySem L2
/-! ### what slow years lose, from frozen ground -/
section
variable {needs : List Int} {w c : Int}
end
end Tf

set_option Elab.async false
set_option linter.all false
set_option maxRecDepth 100000
set_option maxHeartbeats 4000000
/-! EXCEPTIONS over the hand layer: one that is raised in a def, passes the defs' frames, and lies behind a call. -/
namespace L2
open PySem PySem.Spec PyProof.Rows

theorem ObjOk.there {P : Program} {w : World} {H : Hp} {h : Heap} {a : Addr} {o : HO} (x : ObjOk P w H h a o) : ∃ u, h.get? a = some u := by
  cases o with
  | lst xs => obtain ⟨_, _, _, _, e⟩ := x; exact ⟨_, e⟩
  | tup xs => obtain ⟨_, _, _, o, e, _⟩ := x; exact ⟨_, e⟩
  | dK kvs => obtain ⟨_, _, _, _, o, _, _, e, _⟩ := x; exact ⟨_, e⟩
  | dT kvs => obtain ⟨_, _, _, _, o, _, _, e, _⟩ := x; exact ⟨_, e⟩
  | set S n => obtain ⟨o, _, _, _, e, _⟩ := x; exact ⟨_, e⟩
  | ins C dx fs => obtain ⟨_, _, _, e, _⟩ := x; exact ⟨_, e⟩
  | own y => obtain ⟨_, e⟩ := x; exact ⟨_, e⟩
  | xd fs => obtain ⟨_, ⟨_, _, _, e, _⟩, _⟩ := x; exact ⟨_, e⟩
  | rng lo hi => obtain ⟨_, _, _, e⟩ := x; exact ⟨_, e⟩
  | frz ob u => obtain ⟨e, _⟩ := x; exact ⟨_, e⟩
  | tbl ps => exact ⟨_, (show h.get? a = some _ from x)⟩
  | met f y => exact ⟨_, (show h.get? a = some _ from x)⟩
  | ext φ => obtain ⟨_, ⟨_, e⟩, _⟩ := x; exact ⟨_, e⟩
theorem HOk.gone {P : Program} {w : World} {H : Hp} {h : Heap} {a : Addr} (ok : HOk P w H h) (e : h.get? a = none) : H a = none := by
  cases q : H a with
  | none => rfl
  | some u =>
    obtain ⟨v, z⟩ := (ok a u q).there
    rw [e] at z; cases z

/-- an exception in flight, new since h0, with its traceback -/
structure Fly (h0 : Heap) (x : Addr) (cls : Value) (H : Hp) (h : Heap) : Prop where
  new : h0.get? x = none
  un : H x = none
  tr : ∃ oe vs T oT ts, h.get? x = some oe ∧ oe.cls = cls ∧ oe.data = .fields vs ∧ vs[1]? = some (.ref T) ∧ h0.get? T = none ∧ H T = none ∧ T ≠ x ∧ h.get? T = some oT ∧ oT.data = .fields ts ∧ ts[3]? = some .none
/-- how an exception lies behind a call -/
def CX1 (P : Program) (w : World) : CXT := fun outer H s E e s' => ∃ x cls H', e = .ref x ∧ s'.os = s.os ∧ AllBare s'.gens ∧ Un (frs outer) [] H H' s.heap s'.heap ∧ HOk P w H' s'.heap ∧ Fly s.heap x cls H' s'.heap ∧ E cls (some x) H'

section
variable {fs fr ds : List Addr} {H₀ H : Hp} {h₀ h h' : Heap} {P : Program} {w : World}
theorem un_left (u : Un fs [] H₀ H h₀ h) (k1 : ∀ b o, b ∉ ds → b ∉ fr → h.get? b = some o → h'.get? b = some o) (k2 : ∀ b o, b ∈ fr → h.get? b = some o → ∃ sl, h'.get? b = some { o with slots := sl })
    (hds : ∀ d ∈ ds, h₀.get? d = none) (hfr : ∀ b ∈ fr, b ∈ fs ∨ h₀.get? b = none) (hfs : ∀ b ∈ fs, b ∈ fr) : Un fs [] H₀ H h₀ h' where
  keep := fun b o e n hb hx => k1 b o (fun z => by rw [hds b z] at e; cases e) (fun z => (hfr b z).elim hb fun q => by rw [q] at e; cases e) (u.keep b o e n hb hx)
  slot := fun b o e n hb hx => by
    obtain ⟨sl, e1⟩ := u.slot b o e n hb hx
    obtain ⟨sl', e2⟩ := k2 b _ (hfs b hb) e1
    exact ⟨sl', e2⟩
  free := u.free
  there := fun b o e hx => by
    obtain ⟨o', e1⟩ := u.there b o e hx
    by_cases hb : b ∈ fr
    · obtain ⟨sl, e2⟩ := k2 b _ hb e1
      exact ⟨_, e2⟩
    · exact ⟨o', k1 b o' (fun z => by rw [hds b z] at e; cases e) hb e1⟩
  tups := u.tups
  frzs := u.frzs
  tbls := u.tbls
theorem hok_left (ok : HOk P w H h) (k1 : ∀ b o, b ∉ ds → b ∉ fr → h.get? b = some o → h'.get? b = some o) (hds : ∀ d ∈ ds, H d = none) (hfr : ∀ b ∈ fr, H b = none) : HOk P w H h' := fun b u e => by
  have ok' : ∀ c v, H c = some v → c ∉ ds ∧ c ∉ fr := fun c v q => ⟨fun z => (by rw [hds c z] at q; cases q), fun z => (by rw [hfr c z] at q; cases q)⟩
  refine (ok b u e).stay (fun c v hc q => ?_) (fun _ q => q) fun _ _ q => q
  rcases hc with z | z
  · subst z
    exact k1 c v (ok' c u e).1 (ok' c u e).2 q
  · exact k1 c v (ok' c _ z).1 (ok' c _ z).2 q
/-- what stands behind a frame that an exception has left -/
theorem left_kept {l : List Env} {x : Addr} {cls : Value} (hL : Heap.Left (PySem.W.hideAll h (ds ++ frs l)) l x cls h h') :
    ∀ b o, b ∉ ds → b ∉ frs l → h.get? b = some o → h'.get? b = some o := fun b o h1 h2 e =>
  hL.1 b o (PySem.W.hideAll_get _ e fun z => (List.mem_append.mp z).elim h1 h2)
end

/-- the context of a def's body, whatever its environment -/
def cxAt (CX : CXT) (P : Program) (w : World) (K : PySem.W.Frag) (mg : Str → Option Value) (base : Heap) (N : List Str) (env : Env) (fn : Str → Bool) (A : Around) (outer : List Env) (s : Shared) (H : Hp) (E : XK) : Cx where
  prog := P
  w := w
  K := K
  mg := mg
  base := base
  A := A.deeper env
  N := N
  s₀ := s
  H₀ := H
  env := env
  outer := outer
  stack := env :: outer
  ex := []
  calm := true
  fn := fn
  pn := []
  xe := fun e s' => wpAny (model P w) (A.deeper env) (leaving env e) (fun _ s'' => CX outer H s E e s'') (fun e' s'' => CX outer H s E e' s'') s'
section
variable {P : Program} {w : World} {K : PySem.W.Frag} {mg : Str → Option Value} {base : Heap} {N : List Str} {env : Env} {fn : Str → Bool} {A : Around} {outer : List Env} {s : Shared} {H : Hp} {E : XK}
/-- raised in this very frame -/
theorem thrown_at {pins : List (Addr × Obj)} {σ : St} {H1 : Hp} {s1 : Shared} {h1 : Heap} {e : Addr} {cls : Value} {vs : List Value} (hf : env.frame = some env.locals) (hL0 : s.heap.get? env.locals = none) (I : Inv (cxAt (CX1 P w) P w K mg base N env fn A outer s H E) pins σ H1 s1)
    (hx : Heap.MadeExcOf s1.heap h1 e cls vs) (hE : E cls (some e) H1) : (cxAt (CX1 P w) P w K mg base N env fn A outer s H E).xe (.ref e) { s1 with heap := h1 } := by
  have st : s1.heap.FunFrames base (env :: outer) := I.stack
  have hsubF : ∀ b ∈ frs outer, b ∈ frs (env :: outer) := fun b hb => by unfold frs; rw [List.filterMap_cons, hf]; exact List.mem_cons_of_mem _ hb
  have free : ∀ b ∈ frs (env :: outer), H1 b = none := I.stkFree
  have sub : ∀ b ∈ frs (env :: outer), b = env.locals ∨ b ∈ frs outer := fun b hb => List.mem_cons.mp (I.stkSub b hb)
  obtain ⟨t, he, ht, _⟩ := hx.there
  have st1 : h1.FunFrames base (env :: outer) := st.of_keeps fun b o q _ => ⟨o, hx.keeps b o q, rfl⟩
  have hH1 : ∀ d, s1.heap.get? d = none → H1 d = none := fun d q => I.hok.gone q
  have hs0 : ∀ d, s1.heap.get? d = none → s.heap.get? d = none := fun d q => by
    cases z : s.heap.get? d with
    | none => rfl
    | some o =>
      obtain ⟨o', y⟩ := I.base.there d o z (by intro q; exact absurd (show d ∈ ([] : List Addr) from q) (by simp))
      rw [q] at y; cases y
  show wpAny (model P w) (A.deeper env) (leaving env (.ref e)) _ _ _
  refine wpAny_leaving_first (base := PySem.W.hideAll h1 ([e] ++ frs (env :: outer))) (s := { s1 with heap := h1 }) I.ok.frames (PySem.W.funFrames_hide st1 fun en henv a ha => List.mem_append_right _ (List.mem_filterMap.mpr ⟨en, henv, ha⟩)) hf he
    (fun b o q => PySem.W.of_hideAll _ q) (PySem.W.hideAll_none _ (by simp)) rfl rfl fun h2 hL => ?_
  have k1 := left_kept hL
  have k2 : ∀ b o, b ∈ frs (env :: outer) → h1.get? b = some o → ∃ sl, h2.get? b = some { o with slots := sl } := fun b o hb q => by
    obtain ⟨_, o', e', nr⟩ := st1.mem hb
    rw [q] at e'; cases e'
    exact hL.2.2.2 b o q nr
  have u1 : Un (frs outer) [] H H1 s.heap h1 := I.base.trans (Un.kept hx.keeps)
  have hd0 : ∀ d ∈ [e], s.heap.get? d = none := fun d hd => by
    have : d = e := by simpa using hd
    subst this
    exact hs0 d hx.new
  have hd1 : ∀ d ∈ [e], H1 d = none := fun d hd => by
    have : d = e := by simpa using hd
    subst this
    exact hH1 d hx.new
  have hf0 : ∀ b ∈ frs (env :: outer), b ∈ frs outer ∨ s.heap.get? b = none := fun b hb => (sub b hb).elim (fun z => .inr (by rw [z]; exact hL0)) .inl
  refine ⟨e, cls, H1, rfl, I.os, I.bare, un_left u1 k1 k2 hd0 hf0 hsubF, hok_left (I.hok.kept hx.keeps) k1 hd1 free, ⟨hd0 e (by simp), hd1 e (by simp), ?_⟩, hE⟩
  obtain ⟨oe, ws, T, oT, ts, a1, a2, a3, a4, a5, a6, a7, a8, a9⟩ := hL.2.2.1
  have hT : s1.heap.get? T = none := by
    cases z : s1.heap.get? T with
    | none => rfl
    | some o =>
      have z1 := hx.keeps _ _ z
      by_cases hT : T ∈ frs (env :: outer)
      · obtain ⟨_, o', e', nr⟩ := st1.mem hT
        obtain ⟨sl, y⟩ := k2 T o' hT e'
        rw [a7] at y; cases y
        exact absurd a8 (nr ts)
      · have := PySem.W.hideAll_get ([e] ++ frs (env :: outer)) z1 (fun q => by
          rcases List.mem_append.mp q with q | q
          · have : T = e := by simpa using q
            exact a6 this
          · exact hT q)
        rw [a5] at this; cases this
  exact ⟨oe, ws, T, oT, ts, a1, a2, a3, a4, hs0 T hT, hH1 T hT, a6, a7, a8, a9⟩
/-- raised in a callee, it passes this frame -/
theorem pass_at (hf : env.frame = some env.locals) (hL0 : s.heap.get? env.locals = none) : Passes (CX1 P w) (cxAt (CX1 P w) P w K mg base N env fn A outer s H E) E := by
  intro pins σ H1 s1 e s' I hc
  obtain ⟨x, cls, H2, rfl, os, bare, u, ok, F, hE⟩ := hc
  have st : s1.heap.FunFrames base (env :: outer) := I.stack
  have hsubF : ∀ b ∈ frs outer, b ∈ frs (env :: outer) := fun b hb => by unfold frs; rw [List.filterMap_cons, hf]; exact List.mem_cons_of_mem _ hb
  have free1 : ∀ b ∈ frs (env :: outer), H1 b = none := I.stkFree
  have sub : ∀ b ∈ frs (env :: outer), b = env.locals ∨ b ∈ frs outer := fun b hb => List.mem_cons.mp (I.stkSub b hb)
  have u : Un (frs (env :: outer)) [] H1 H2 s1.heap s'.heap := u
  have free : ∀ b ∈ frs (env :: outer), H2 b = none := fun b hb => by
    obtain ⟨_, o, ho, _⟩ := st.mem hb
    exact u.free b o ho (free1 b hb) (by simp)
  have st1 : s'.heap.FunFrames base (env :: outer) := by
    have all : ∀ (l : List Env), (∀ b ∈ frs l, b ∈ frs (env :: outer)) → s1.heap.FunFrames base l → s'.heap.FunFrames base l := by
      intro l
      induction l with
      | nil => intro _ _; trivial
      | cons en r ih =>
        intro hs hl
        obtain ⟨hk, ⟨L, o, hf', hn, ho, hd⟩, hr⟩ := hl
        have hL : L ∈ frs (env :: outer) := hs L (by unfold frs; rw [List.filterMap_cons, hf']; exact List.mem_cons_self)
        obtain ⟨sl, e⟩ := u.slot L o ho (free1 L hL) hL (by simp)
        exact ⟨hk, ⟨L, _, hf', hn, e, hd⟩, ih (fun b hb => hs b (by unfold frs; rw [List.filterMap_cons, hf']; exact List.mem_cons_of_mem _ hb)) hr⟩
    exact all _ (fun _ hb => hb) st
  obtain ⟨oe, ws, T, oT, ts, a1, a2, a3, a4, a5, a6, a7, a8, a9, a10⟩ := F.tr
  have hs0 : ∀ d, s1.heap.get? d = none → s.heap.get? d = none := fun d q => by
    cases z : s.heap.get? d with
    | none => rfl
    | some o =>
      obtain ⟨o', y⟩ := I.base.there d o z (by intro q; exact absurd (show d ∈ ([] : List Addr) from q) (by simp))
      rw [q] at y; cases y
  have hs1 : ∀ d, s'.heap.get? d = none → s1.heap.get? d = none := fun d q => by
    cases z : s1.heap.get? d with
    | none => rfl
    | some o =>
      obtain ⟨o', y⟩ := u.there d o z (by simp)
      rw [q] at y; cases y
  show wpAny (model P w) (A.deeper env) (leaving env (.ref x)) _ _ _
  refine wpAny_leaving_next (base := PySem.W.hideAll s'.heap ([x, T] ++ frs (env :: outer))) (cls := cls) I.ok.frames (PySem.W.funFrames_hide st1 fun en henv a ha => List.mem_append_right _ (List.mem_filterMap.mpr ⟨en, henv, ha⟩)) hf
    ⟨oe, ws, T, oT, ts, a1, a2, a3, a4, PySem.W.hideAll_none _ (by simp), a7, a8, a9, a10⟩ (fun b o q => PySem.W.of_hideAll _ q) (PySem.W.hideAll_none _ (by simp)) fun h2 hL => ?_
  have k1 := left_kept hL
  have k2 : ∀ b o, b ∈ frs (env :: outer) → s'.heap.get? b = some o → ∃ sl, h2.get? b = some { o with slots := sl } := fun b o hb q => by
    obtain ⟨_, o', e', nr⟩ := st1.mem hb
    rw [q] at e'; cases e'
    exact hL.2.2.2 b o q nr
  have u1 : Un (frs outer) [] H H2 s.heap s'.heap := by
    have u0 : Un (frs outer) [] H H1 s.heap s1.heap := I.base
    refine ⟨fun b o q n hb hx => ?_, fun b o q n hb hx => ?_, fun b o q n hx => ?_, fun b o q hx => ?_, fun b xs q => u.tups b xs (u0.tups b xs q), fun b o xs q => u.frzs b o xs (u0.frzs b o xs q), fun b ps q => ?_⟩
    · exact u.keep b o (u0.keep b o q n hb hx) (u0.free b o q n hx) (fun z => (sub b z).elim (fun y => by rw [y, hL0] at q; cases q) hb) hx
    · obtain ⟨sl, e1⟩ := u0.slot b o q n hb hx
      obtain ⟨sl', e2⟩ := u.slot b _ e1 (u0.free b o q n hx) (hsubF b hb) hx
      exact ⟨sl', e2⟩
    · obtain ⟨o', e1⟩ := u0.there b o q hx
      exact u.free b o' e1 (u0.free b o q n hx) hx
    · obtain ⟨o', e1⟩ := u0.there b o q hx
      exact u.there b o' e1 hx
    · obtain ⟨m1, e1⟩ := u0.tbls b ps q
      obtain ⟨m2, e2⟩ := u.tbls b _ e1
      exact ⟨m1 ++ m2, by rw [e2, Array.append_assoc]⟩
  have two : ∀ d ∈ [x, T], d = x ∨ d = T := fun d hd => by simpa using hd
  have hd0 : ∀ d ∈ [x, T], s.heap.get? d = none := fun d hd => hs0 d ((two d hd).elim (fun z => by rw [z]; exact F.new) fun z => by rw [z]; exact a5)
  have hd1 : ∀ d ∈ [x, T], H2 d = none := fun d hd => (two d hd).elim (fun z => by rw [z]; exact F.un) fun z => by rw [z]; exact a6
  have hf0 : ∀ b ∈ frs (env :: outer), b ∈ frs outer ∨ s.heap.get? b = none := fun b hb => (sub b hb).elim (fun z => .inr (by rw [z]; exact hL0)) .inl
  refine ⟨x, cls, H2, rfl, os.trans I.os, bare, un_left u1 k1 k2 hd0 hf0 hsubF, hok_left ok k1 hd1 free, ⟨hd0 x (by simp), F.un, ?_⟩, hE⟩
  obtain ⟨oe', ws', T', oT', ts', c1, c2, c3, c4, c5, c6, c7, c8, c9⟩ := hL.2.2.1
  have hT : T' = T ∨ s'.heap.get? T' = none := by
    by_cases hTT : T' = T
    · exact .inl hTT
    · refine .inr ?_
      cases z : s'.heap.get? T' with
      | none => rfl
      | some o =>
        by_cases hT : T' ∈ frs (env :: outer)
        · obtain ⟨_, o', e', nr⟩ := st1.mem hT
          obtain ⟨sl, y⟩ := k2 T' o' hT e'
          rw [c7] at y; cases y
          exact absurd c8 (nr ts')
        · have := PySem.W.hideAll_get ([x, T] ++ frs (env :: outer)) z (fun q => by
            rcases List.mem_append.mp q with q | q
            · exact (two T' q).elim c6 hTT
            · exact hT q)
          rw [c5] at this; cases this
  have hT0 : s.heap.get? T' = none ∧ H2 T' = none := by
    rcases hT with z | z
    · rw [z]; exact ⟨hd0 T (by simp), a6⟩
    · exact ⟨hs0 T' (hs1 T' z), ok.gone z⟩
  exact ⟨oe', ws', T', oT', ts', c1, c2, c3, c4, hT0.1, hT0.2, c6, c7, c8, c9⟩
end
section
variable {P : Program} {w : World} {K : PySem.W.Frag} {mg : Str → Option Value} {base : Heap} {N : List Str} {qual : Str} {scope : Scope} {f : Addr} {cd : Value} {A : Around} {outer : List Env} {s : Shared} {H : Hp} {E : XK}
theorem pass_fn : Passes (CX1 P w) (cxOf (CX1 P w) P w K mg base N qual scope f cd A outer s H E) E :=
  pass_at (env := envOfC qual scope s.heap.objs.size f cd) (fn := fun _ => true) rfl (Heap.get?_none_of_le (Nat.le_refl _))
end
end L2

set_option Elab.async false
set_option linter.all false
set_option maxRecDepth 100000
set_option maxHeartbeats 4000000
namespace L2
open PySem PySem.Spec PyProof.Rows
/-! ### an f-string of written texts and ints: some text -/
abbrev TJ := St → Hp → (Hp → Prop) → Prop
def PJ (X : Cx) (es : List Expr) (t : TJ) : Prop :=
  ∀ (pins : List (Addr × Obj)) (s : Shared) (σ : St) (H : Hp) (acc : Str) (Q : VK), Inv X pins σ H s → acc.length + 2000 * es.length ≤ 100000 → t σ H (fun H' => ∀ z, Q (.str z) H') →
    wpAny (model X.prog X.w) X.A (joinParts acc (evalEach es X.env)) (EP X pins σ Q) X.xe s
def jNil : TJ := fun _ H Q => Q H
def jStr (t : TJ) : TJ := t
def jInt (te : TE) (t : TJ) : TJ := fun σ H Q => te σ H fun x H1 => ∃ i : Int, x = .int i ∧ i.natAbs.log2 < 1920 ∧ t σ H1 Q
section
variable {X : Cx} {e : Expr} {es : List Expr} {te : TE} {t : TJ} {pos p2 : Pos}
theorem pj_nil : PJ X [] jNil := by
  intro pins s σ H acc Q I hl h
  exact wpAny_mkStr ⟨.str acc, H, I.tok _, ⟨_, rfl⟩, h acc⟩ (sz1000' (by simpa using hl))
theorem pj_str {y : Str} {k : Nat} (hr : PJ X es t) (hy : y.length ≤ 2000 := by decide +kernel) : PJ X (.Constant (.str y) k pos :: es) (jStr t) := by
  intro pins s σ H acc Q I hl h
  have hl : acc.length + 2000 * (es.length + 1) ≤ 100000 := hl
  refine joinParts_cons (x := eval (.Constant (.str y) k pos) X.env) (rest := evalEach es X.env) (Calls.Constant_str ?_)
  show (acc ++ y).length ≤ sizeLine ∧ wpAny _ _ (joinParts (acc ++ y) (evalEach es X.env)) _ _ _
  refine ⟨sz1000' (by rw [strLen_append]; omega), hr pins _ σ H (acc ++ y) Q (I.tok _) (by rw [strLen_append]; omega) h⟩
theorem pj_int (he : PE X e te) (hr : PJ X es t) : PJ X (.FormattedValue e (-1) none pos :: es) (jInt te t) := by
  intro pins s σ H acc Q I hl h
  have hl : acc.length + 2000 * (es.length + 1) ≤ 100000 := hl
  refine joinParts_cons (x := eval (.FormattedValue e (-1) none pos) X.env) (rest := evalEach es X.env) (FormattedValue_plain (thn (he pins s σ H _ I h) fun v s1 ⟨x, H1, I1, r1, q1⟩ => ?_))
  obtain ⟨i, rfl, hi, q⟩ := q1
  obtain ⟨tk, rfl⟩ := r1
  have hz := int_text_len_1921 hi
  refine formatField_int_small hi ?_
  show (acc ++ Str.ofString (toString i)).length ≤ sizeLine ∧ wpAny _ _ (joinParts (acc ++ Str.ofString (toString i)) (evalEach es X.env)) _ _ _
  refine ⟨sz1000' (by rw [strLen_append]; omega), hr pins _ σ H1 _ Q (I1.tok _) (by rw [strLen_append]; omega) q⟩
def tFstr (t : TJ) : TE := fun σ H Q => t σ H fun H' => ∀ z, Q (.str z) H'
theorem pe_fstr {v1 v2 : Expr} {rest : List Expr} (h : PJ X (v1 :: v2 :: rest) t) (hn : rest.length ≤ 20 := by decide) : PE X (.JoinedStr (v1 :: v2 :: rest) pos) (tFstr t) := by
  intro pins s σ H Q I hw
  refine JoinedStr_many (h pins s σ H Str.empty Q I ?_ hw)
  show 0 + 2000 * (rest.length + 1 + 1) ≤ 100000
  omega
end
/-! ### raise C(..) -/
/-- an error class of the program, as the written part holds it -/
structure Exc (K : PySem.W.Frag) (mg : Str → Option Value) (x : Str) (C : Addr) : Prop where
  g : mg x = some (.ref C)
  ex : PySem.W.excIn K C [.type "ValueError", .type "Exception", .type "BaseException", .type "object"] "ValueError.__new__" = true
section
variable {X : Cx} {x : Str} {C : Addr} {e : Expr} {es : List Expr} {t : TA} {np cpos pos : Pos} {E : XK}
theorem Exc.own {K : PySem.W.Frag} {mg : Str → Option Value} {h : Heap} (O : Exc K mg x C) (KX : K.In h) : OwnCls x C [.type "ValueError", .type "Exception", .type "BaseException", .type "object"] "ValueError.__new__" mg h := by
  refine ⟨O.g, ?_⟩
  have q := O.ex
  unfold PySem.W.excIn at q
  split at q
  · rename_i dd cd sl ho
    split at q
    · rename_i C' bm k0 k1 k2 k3 n k5 hm hs
      simp only [Bool.and_eq_true, beq_iff_eq, Bool.not_eq_true'] at q
      obtain ⟨⟨⟨⟨⟨e1, e2⟩, hdel⟩, ht⟩, hok⟩, hni⟩ := q
      subst e1 e2
      obtain ⟨nm, bs, mro, ns, qn, hd, sn, sub, ab, col, del⟩ := cd
      dsimp only at hm hdel hok hni
      subst hm hdel
      have hsl : sl = #[k0, k1, k2, k3, some (.builtin "ValueError.__new__"), k5] := by
        obtain ⟨l⟩ := sl
        have hs : l = _ := hs
        rw [hs]
      subst hsl
      exact ⟨bm, ns, nm, qn, bs, hd, sn, sub, ab, col, dd, k0, k1, k2, k3, k5, _, KX _ _ ho, .of_isNs (PySem.W.isNs_of_in KX hok), PySem.W.nsMap_none_of_in KX hok hni, PySem.W.tail_of_in KX ht⟩
    · cases q
  · cases q
/-- a newly made exception is what this body's wish takes -/
def Throws (X : Cx) (E : XK) : Prop := ∀ (pins : List (Addr × Obj)) (σ : St) (H : Hp) (s : Shared) (h' : Heap) (e : Addr) (cls : Value) (vs : List Value), Inv X pins σ H s → Heap.MadeExcOf s.heap h' e cls vs → E cls (some e) H → X.xe (.ref e) { s with heap := h' }
def tRaise (C : Addr) (E : XK) (t : TA) : TS := fun _ σ H => t σ H fun vs H1 => vs.length ≤ sizeLine ∧ ∀ e, H1 e = none → E (.ref C) (some e) H1
theorem ps_raise (hc : X.calm = true) (O : Exc X.K X.mg x C) (hT : Throws X E) (ha : PA X (e :: es) t) (hg : Gl X x := by rfl) (hdb : (x == ("__debug__" : Str)) = false := by decide)
    (he : starEach (e :: es) X.env = (false, eval e X.env) :: starEach es X.env := by rfl) (hplain : (backTo cpos (starEach es X.env)).any (·.1) = false := by rfl) :
    PS X (.Raise (some (.Call (.Name x np) (e :: es) [] cpos)) none pos) (tRaise C E t) := by
  intro pins s σ H D I h
  obtain ⟨tl, N, nm, q, bs, hdct, sn, sub, ab, col, dd, k0, k1, k2, k3, k5, mN, hC, hN, hni, T⟩ := (O.own I.ok.mod.kin).obj
  refine wpAny_Raise_call_subT (C := C) (nm := nm) (q := q) (N := N) (bs := bs) (bm := tl) (hdct := hdct) (sn := sn) (sub := sub) (ab := ab) (col := col) (dd := dd) (k0 := k0) (k1 := k1) (k2 := k2) (k3 := k3) (k5 := k5)
    F.excBase_ValueError (mN := mN) (T.hasType F.excBase_ValueError.hasBase) (I.ok.hd hc) (by rw [he]; show (false || (backTo cpos (starEach es X.env)).any (·.1)) = false; rw [hplain]; rfl) hni (ld_glob I hg O.g ⟨rfl, ?_⟩ hdb)
  have hA := ha cpos pins s σ H _ I h
  rw [he] at hA ⊢
  refine Calls.evalArgs_plain (thn hA fun us s2 ⟨vs, H2, I2, r2, q2⟩ => ?_)
  refine ⟨rfl, by rw [← r2.length]; exact q2.1, I2.bk _ _ hC, hN.keeps I2.bk, T.keeps I2.bk, fun h' ex hx => ?_⟩
  exact hT pins σ H2 s2 h' ex (.ref C) us I2 hx (q2.2 ex (I2.hok.gone hx.new))
theorem throws_fn {P : Program} {w : World} {K : PySem.W.Frag} {mg : Str → Option Value} {base : Heap} {N : List Str} {qual : Str} {scope : Scope} {f : Addr} {cd : Value} {A : Around} {outer : List Env} {s : Shared} {H : Hp} {E : XK} :
    Throws (cxOf (CX1 P w) P w K mg base N qual scope f cd A outer s H E) E := fun pins σ H1 s1 h' e cls vs I hx hE =>
  thrown_at (env := envOfC qual scope s.heap.objs.size f cd) (fn := fun _ => true) rfl (Heap.get?_none_of_le (Nat.le_refl _)) I hx hE
/-- a def that may raise, by its body -/
theorem Fun.okX {P : Program} {w : World} {K : PySem.W.Frag} {mg : Str → Option Value} {base : Heap} {x qual : Str} {st : Stmt} {f : Addr} {fd : FuncData} {N ps : List Str} {k : Nat} {sp : Sp} (F : Fun K x qual st f fd) (S : FnScope N ps (defScope st)) (len : ∀ vs H Q E, sp vs H Q E → vs.length = ps.length)
    (hbody : ∀ (cdv : Value) (A : Around) (outer : List Env) (s : Shared) (H : Hp) (vs : List V) (Q : VK) (E : XK), Room k (A.deeper (envOfC qual (defScope st) s.heap.objs.size f cdv)) → sp vs H Q E →
      ∃ t, PSs (cxOf (CX1 P w) P w K mg base N qual (defScope st) f cdv A outer s H E) (defBody st) t ∧ t { nx := fun _ H' => Q .non H', rt := Q } (start N vs) H) : FnOk P w K mg base (CX1 P w) (k + 1) f fd ps sp := by
  obtain ⟨oc, od, kV, doc, pm, an, cdv, ct, osl, rfl, lk, hcd⟩ := F.ex
  exact fn_of lk hcd S len fun A outer s H vs Q E hr hsp => hbody cdv A outer s H vs Q E hr hsp
/-- such a def, to be called -/
structure OkX (P : Program) (w : World) (K : PySem.W.Frag) (mg : Str → Option Value) (base : Heap) (x : Str) (ps : List Str) (k : Nat) (sp : Sp) : Prop where
  ex : ∃ f fd, FnOk P w K mg base (CX1 P w) k f fd ps sp ∧ Binds K fd ps [] ∧ mg x = some (.ref f) ∧ PySem.W.keepIn K (.ref f) = true
theorem pe_callX {k j : Nat} {ps : List Str} {sp : Sp} {p pos : Pos} (O : OkX X.prog X.w X.K X.mg X.base x ps k sp) (hr : Room j X.A) (hx : Passes (CX1 X.prog X.w) X E) (ha : PA X (e :: es) t) (hg : Gl X x := by rfl) (hj : k ≤ j := by decide) (hdb : (x == ("__debug__" : Str)) = false := by decide) (he : starEach (e :: es) X.env = (false, eval e X.env) :: starEach es X.env := by rfl) (hpl : (backTo pos (starEach es X.env)).any (·.1) = false := by rfl) :
    PE X (.Call (.Name x p) (e :: es) [] pos) (tCall sp [] E t) := by
  obtain ⟨f, fd, F, b, m, kp⟩ := O.ex
  exact pe_call F (hr.mono hj) hg m kp b .nil hx ha hdb he hpl
end
end L2

set_option Elab.async false
set_option linter.all false
set_option maxRecDepth 100000
set_option maxHeartbeats 4000000
namespace L2
open PySem PySem.Spec PyProof.Rows PySem.W
/-! ### isinstance(e, C) of an error of the program's own -/
/-- what is asked of the class, all decided over the written part -/
structure ExcK (K : Frag) (C : Addr) : Prop where
  cls : (clsIn K C).isSome = true
  ga : findIn K (.ref C) "__getattribute__" = some (some (.builtin "BaseException.__getattribute__"))
  gn : findIn K (.ref C) "__getattr__" = some none
  at' : findIn K (.ref C) "__class__" = some (some (.builtin "object.__class__"))
  base : mroIn K C (.type "BaseException") = some true
  obj : mroIn K C (.type "object") = some true
section
variable {prog : Program} {w : World} {A : Around} {E : Value → Shared → Prop} {h : Heap} {g : Array GenState} {d : Drawn} {t : Nat} {os : OsState} {a C : Addr} {o : Obj} {K : Frag}
theorem xc_type {M : Model} (hx : h.get? a = some o) (hc : o.cls = .ref C) : Looks M h (typeOf (.ref a)) (.ref C) := fun A Q E s k q => by
  show wpAny M A (loadPart a _ >>= fun o => pure o.cls) Q E s
  exact wpAny_bind (wpAny_loadPart (k _ _ hx) (wpAny_pure (by rw [hc]; exact q)))
theorem xc_get {R : Result → Shared → Prop} (X : K.In h) (B : ExcK K C) (hx : h.get? a = some o) (hc : o.cls = .ref C) (hq : R (.ok (.ret (.ref C))) ⟨h, g, d, t, os⟩) :
    codeAny (model prog w) A (.call (.builtin "getset_descriptor.__get__") ⟨[.builtin "object.__class__", .ref a, .ref C], []⟩) R ⟨h, g, d, t, os⟩ := by
  have hT5 : (⟨h, g, d, t, os⟩ : Shared).TypeIs (.builtin "object.__class__") "getset_descriptor" := F.typeOf_object_class
  have hs : Looks (model prog w) h (isSubtype (.ref C) (.type (".".intercalate ("object.__class__".cutAt '.').dropLast))) true := by
    rw [F.owner_object_class]; exact looks_mroIn X B.obj
  refine codeAny_call_builtin F.slot_gs_get.plain F.entry_gs_get (F.slot_gs_get.check _ _ _ _ _ _ _ _ hT5 (F.args_gs_get _ _ _) ?_)
  repeat (any_goals (first | assumption | (with_reducible refine wpAny_loadPart_at hx ?_; rw [hc]) | with_reducible refine hs.at ?_ | wp_step))
  refine ⟨Code.quiet_builtin _ (by decide +kernel), codeAny_builtin F.entry_object_class ?_⟩
  repeat (any_goals (first | assumption | (with_reducible refine wpAny_loadPart_at hx ?_; rw [hc]) | wp_step))
theorem xc_entry {tk : Tok} {Q : Fin → Shared → Prop} (X : K.In h) (B : ExcK K C) (hx : h.get? a = some o) (hc : o.cls = .ref C) (hq : Q (.done (.ret (.ref C))) ⟨h, g, d, t, os⟩) :
    wpAny (model prog w) A (Builtin.«object.__getattribute__» ⟨[.ref a, .str "__class__" tk], []⟩) Q E ⟨h, g, d, t, os⟩ := by
  have hT5 : (⟨h, g, d, t, os⟩ : Shared).TypeIs (.builtin "object.__class__") "getset_descriptor" := F.typeOf_object_class
  have f5 := F.typeOf_object_class
  have f6 := F.slot_gs_get.lookup
  have f7 := F.slot_gs_set.lookup
  have l1 : Looks (model prog w) h (typeLookup (.ref C) "__class__") (some (.builtin "object.__class__")) := looks_findIn X B.at'
  repeat (any_goals (first | assumption | (with_reducible refine wpAny_loadPart_at hx ?_; rw [hc]) | with_reducible refine l1.at ?_ | wp_step))
  refine xc_get X B hx hc ?_
  repeat (any_goals (first | assumption | wp_step))
theorem xc_check {M : Model} {nv : Value} {Q : Unit → Shared → Prop} (X : K.In h) (B : ExcK K C) (hx : h.get? a = some o) (hc : o.cls = .ref C) (hq : Q () ⟨h, g, d, t, os⟩) :
    wpAny M A (checkBuiltinCall "BaseException.__getattribute__" ⟨[.ref a, nv], []⟩) Q E ⟨h, g, d, t, os⟩ := by
  have hk : builtinKind "BaseException.__getattribute__" = some .slot := by decide +kernel
  have hsp : splitId "BaseException.__getattribute__" = some ("BaseException", "__getattribute__") := by decide +kernel
  have hs : Looks M h (isSubtype (.ref C) (.type "BaseException")) true := looks_mroIn X B.base
  have ha := F.args_bexc_ga (.ref a) nv
  simp only [checkBuiltinCall, hk, hsp]
  refine wpAny_bind ?_
  unfold isInstance
  repeat (first | (with_reducible refine wpAny_loadPart_at hx ?_; rw [hc]) | with_reducible refine hs.at ?_ | wp_step)
  exact hq
theorem xc_by {tk : Tok} {Q : Value → Shared → Prop} (X : K.In h) (B : ExcK K C) (hx : h.get? a = some o) (hc : o.cls = .ref C) (hq : Q (.ref C) ⟨h, g, d, t, os⟩) : wpAny (model prog w) A (getAttrBy (.ref a) (.str "__class__" tk) false) Q E ⟨h, g, d, t, os⟩ := by
  have f3 := F.excAttr_ValueError.ga.bind (.ref a)
  have l1 : Looks (model prog w) h (typeLookup (.ref C) "__getattribute__") (some (.builtin "BaseException.__getattribute__")) := looks_findIn X B.ga
  have l2 : Looks (model prog w) h (typeLookup (.ref C) "__getattr__") none := looks_findIn X B.gn
  have hx2 : (Value.builtin "BaseException.__getattribute__" == Value.builtin "object.__getattribute__") = false := by decide +kernel
  have hx1 : (onTheHeap (Value.ref C) && Value.builtin "BaseException.__getattribute__" == Value.builtin "object.__getattribute__") = false := by rw [hx2]; rfl
  repeat (any_goals (first | assumption | (with_reducible refine wpAny_loadPart_at hx ?_; rw [hc]) | with_reducible refine l1.at ?_ | with_reducible refine l2.at ?_ | wp_step))
  refine codeAny_call_builtin F.excAttr_ValueError.ga.plain F.entry_bexc_ga (xc_check X B hx hc (xc_entry X B hx hc ?_))
  repeat (any_goals (first | assumption | wp_step))
theorem xc_attr {Q : Option Value → Shared → Prop} (X : K.In h) (B : ExcK K C) (hx : h.get? a = some o) (hc : o.cls = .ref C) (hq : Q (some (.ref C)) ⟨h, g, d, t + 1, os⟩) : wpAny (model prog w) A (getAttr? (.ref a) "__class__") Q E ⟨h, g, d, t, os⟩ := by
  unfold getAttr? getAttrBy?
  repeat (any_goals (first | assumption | with_reducible apply xc_by X B hx hc | wp_step))
theorem kitx_exc (B : ExcK K C) : KitX K (.ref a) (.ref C) (fun h => ∃ o, h.get? a = some o ∧ o.cls = .ref C) where
  ty := fun _ _ _ ⟨o, hx, hc⟩ => xc_type hx hc
  it := fun _ _ X _ => by
    have hcD := B.cls
    unfold clsIn at hcD
    split at hcD
    · rename_i c' d' cd' sl' ho
      intro A' Q' E' s' k q
      unfold isType loadHead
      exact wpAny_bind (wpAny_loadPart (k _ _ (X _ _ ho)) (wpAny_pure q))
    · cases hcD
  ne := fun h tp dd its n sl X htp => by
    refine Bool.eq_false_iff.mpr fun q => ?_
    have e : C = tp := Value.ref.inj (beq_iff_eq.mp q)
    subst e
    have hcD := B.cls
    unfold clsIn at hcD
    split at hcD
    · rename_i c' d' cd' sl' ho
      have z := (X _ _ ho).symm.trans htp
      cases z
    · cases hcD
  ca := fun {_ _ _ _ _ s} X p k => by
    obtain ⟨h, g, d, t, os⟩ := s
    obtain ⟨o, hx, hc⟩ := p
    exact xc_attr X B hx hc k
end
end L2

set_option Elab.async false
set_option linter.all false
set_option maxRecDepth 100000
set_option maxHeartbeats 4000000
/-! A LAW THAT MAKES FUNCTIONS: the table of its code is tracked. -/
namespace L2
open PySem PySem.Spec PyProof.Rows
/-- nothing is tracked but the script and the table -/
def OnlyT (P : Addr) (H : Hp) : Prop := ∀ b, H b = none ∨ (∃ o xs, H b = some (.frz o (.lst xs))) ∨ (b = P ∧ H b = some (.tbl #[]))
theorem law_callT {Pr : Program} {w : World} {K : PySem.W.Frag} {mg mb : Str → Option Value} {CX : CXT} {k : Nat} {fa a c P : Addr} {fd : FuncData} {x : Str} {sp : Sp} {s₁ : Shared} {vs : List Value} {ns : List Int}
    (KX : K.In s₁.heap) (hns : s₁.heap.Ns mainGlobals mg) (hb : s₁.heap.Ns builtinsNs mb) (hbb : ∀ x : Str, x ≠ "__name__" → mb x = bootBuiltins x) (hlim : s₁.heap.NoLimit) (hg : s₁.gens = #[])
    (ha : s₁.heap.get? a = some { cls := .type "list", data := .seq vs.toArray }) (hi : IntsAre vs ns) (hl : ns.length ≤ sizeLine) (hr : Room k callerA)
    (C : PySem.W.CodeHd s₁.heap c P) (hP : s₁.heap.get? P = some (PySem.W.tabObj #[])) (hKP : K.lookup P = none)
    (hB : s₁.heap.BuiltinsAt mg P) (F : ∀ base : Heap, K.In base → base.Ns mainGlobals mg → PySem.W.CodeHd base c P → base.BuiltinsAt mg P → FnOk Pr w K mg base CX k fa fd [x] sp) (hbind : ∀ (s : Shared) (u : Value), BindsTo s fd ⟨[u], []⟩ [(x, u)])
    (hsp : ∀ H : Hp, OnlyT P H → H P = some (.tbl #[]) → SqL K H a (ns.map V.int) → sp [.ref a] H (fun v _ => v = .bl true) fun _ _ _ => False)
    (hCX : ∀ H e s', CX [] H s₁ (fun _ _ _ => False) e s' → False) :
    codeAny (model Pr w) callerA (.call (.ref fa) ⟨[.ref a], []⟩) (fun r s' => r = .ok (.ret (.bool true)) ∧ OldK s₁.heap s'.heap ∧ s'.os = s₁.os ∧ AllBare s'.gens) s₁ := by
  have rv := vals_ints hi
  have lenV := hi.length
  have naP : a ≠ P := fun e => by rw [e, hP] at ha; cases ha
  have core : ∀ H : Hp, OnlyT P H → H P = some (.tbl #[]) → SqL K H a (ns.map V.int) → HOk Pr w H s₁.heap → (∀ b, H b ≠ none → b = a ∨ b = P) → (H a ≠ none → K.lookup a = none) →
      codeAny (model Pr w) callerA (.call (.ref fa) ⟨[.ref a], []⟩) (fun r s' => r = .ok (.ret (.bool true)) ∧ OldK s₁.heap s'.heap ∧ s'.os = s₁.os ∧ AllBare s'.gens) s₁ := by
    intro H hO hT hS hok hA hK
    have base_of : ∀ {b : Addr} {o : Obj}, s₁.heap.get? b = some o → H b = none → (hidT s₁.heap H).get? b = some o := fun e n => hidT_get e n
    have noA : ∀ {b : Addr} {o : Obj} {es : Array DictEntry} {ep : Nat}, s₁.heap.get? b = some o → o.data = .dict es ep → H b = none := fun {b o es ep} e d => by
      cases q : H b with
      | none => rfl
      | some u =>
        rcases hA b (by rw [q]; simp) with e' | e'
        · subst e'
          rw [ha] at e; cases e
          have d' : Data.seq vs.toArray _ = Data.dict es ep := d
          cases d'
        · subst e'
          rw [hP] at e; cases e
          cases d
    have nsK : ∀ {b : Addr} {m : Str → Option Value}, s₁.heap.Ns b m → (hidT s₁.heap H).Ns b m := fun {b m} ⟨o, es, ep, e, d, r⟩ => ⟨o, es, ep, base_of e (noA e d), d, r⟩
    have hKb : K.In (hidT s₁.heap H) := fun b o e => base_of (KX b o e) (by
      cases q : H b with
      | none => rfl
      | some u =>
        rcases hA b (by rw [q]; simp) with e' | e'
        · subst e'
          rw [hK (by rw [q]; simp)] at e; cases e
        · subst e'
          rw [hKP] at e; cases e)
    have hM : Mod K mg (hidT s₁.heap H) := ⟨hKb, nsK hns, ⟨mb, nsK hb, hbb⟩, let ⟨mc, h1, h2⟩ := hlim; ⟨mc, nsK h1, h2⟩⟩
    have noB : ∀ {b : Addr}, b ≠ a → b ≠ P → H b = none := fun {b} n1 n2 => by
      cases q : H b with
      | none => rfl
      | some u => exact ((hA b (by rw [q]; simp)).elim n1 n2).elim
    have hCb : PySem.W.CodeHd (hidT s₁.heap H) c P := by
      obtain ⟨o, vs', file, tf, flags, tg, inF, text, tt, e1, e2, r⟩ := id C
      exact ⟨o, vs', file, tf, flags, tg, inF, text, tt, base_of e1 (noB (fun z => by rw [z, ha] at e1; cases e1; exact absurd (show Value.type "list" = Value.type "code" from e2) (by decide)) r.2.2.2.2.2.2.2), e2, r⟩
    have hBb : (hidT s₁.heap H).BuiltinsAt mg P := by
      obtain ⟨bm, o, a1, a2, a3, a4, a5, a6, r⟩ := hB
      exact ⟨bm, o, a1, a2, a3, a4, base_of a5 (noB (fun z => by rw [z, ha] at a5; cases a5; exact absurd (show Value.type "list" = Value.type "module" from a6) (by decide)) a4), a6, r⟩
    have e0 : Env0 Pr w K mg (hidT s₁.heap H) callerA [] s₁ H := ⟨rfl, hM, fun b o e => of_hidT e, Nat.le_of_eq (hidT_size _ _), trivial, fun b hb => absurd (show b ∈ ([] : List Addr) from hb) (by simp), hok, .of_eq hg⟩
    refine codeAny_mono ((F _ hKb (nsK hns) hCb hBb).run callerA [] s₁ H ⟨[.ref a], []⟩ [.ref a] [.ref a] _ _ hr e0 (hbind s₁ (.ref a)) (.cons rfl .nil) (hsp H hO hT hS)) fun r s' h => ?_
    cases r with
    | error e => exact (hCX H e s' h).elim
    | ok fl =>
      cases fl with
      | next => exact False.elim h
      | brk => exact False.elim h
      | cont => exact False.elim h
      | ret u =>
        obtain ⟨v, H', os, bare, un, hok', r', q⟩ := h
        have q' : v = .bl true := q
        subst q'
        obtain rfl : u = Value.bool true := r'
        have all : ∀ b o, s₁.heap.get? b = some o → s'.heap.get? b = some o ∨ (b = P ∧ ∃ more, s'.heap.get? b = some (PySem.W.tabObj more)) := fun b o e => by
          cases q : H b with
          | none => exact .inl (un.keep b o e q (by intro z; exact absurd (show b ∈ ([] : List Addr) from z) (by simp)) (by simp))
          | some u =>
            rcases hO b with z | ⟨ob, xs, z⟩ | ⟨eb, z⟩
            · rw [q] at z; cases z
            · have z2 := un.frzs b ob _ z
              obtain ⟨e1, _⟩ := hok b _ z
              obtain ⟨e2, _⟩ := hok' b _ z2
              rw [e] at e1; cases e1
              exact .inl e2
            · obtain ⟨more, z2⟩ := un.tbls b _ z
              have z3 : s'.heap.get? b = some { cls := .none, data := .fields (#[] ++ more) } := hok' b _ z2
              exact .inr ⟨eb, _, z3⟩
        refine ⟨rfl, ⟨fun b o e => ?_, fun b o e => ?_⟩, os, bare⟩
        · rcases all b o e with z | ⟨eb, more, z⟩
          · exact .inl z
          · subst eb
            rw [hP] at e; cases e
            refine .inr (.inl ⟨(C.tab hP).isCodeTable, rfl, #[], more, rfl, ?_⟩)
            rw [z]
            simp
        · rcases all b o e with z | ⟨eb, more, z⟩
          · exact ⟨_, z⟩
          · exact ⟨_, z⟩
  cases hk : K.lookup a with
  | some o =>
    have e := KX a o hk
    rw [ha] at e
    cases e
    refine core (fun b => if b = P then some (.tbl #[]) else none) (fun b => ?_) (if_pos rfl) (.inr ⟨_, vs.toArray, _, hk, rfl, rfl, rfl, by rw [List.size_toArray, lenV]; exact hl, by simpa using rv⟩) (fun b u z => ?_) (fun b z => ?_) fun z => absurd (if_neg naP) z
    · by_cases hb : b = P
      · exact .inr (.inr ⟨hb, if_pos hb⟩)
      · exact .inl (if_neg hb)
    · by_cases hb : b = P
      · have z' := (if_pos hb).symm.trans z
        cases z'
        subst hb
        exact hP
      · have z' := (if_neg hb).symm.trans z
        cases z'
    · by_cases hb : b = P
      · exact .inr hb
      · exact absurd (if_neg hb) z
  | none =>
    refine core (fun b => if b = P then some (.tbl #[]) else if b = a then some (.frz { cls := .type "list", data := .seq vs.toArray } (.lst (ns.map V.int))) else none) (fun b => ?_) (if_pos rfl) (.inl (.inr ⟨{ cls := .type "list", data := .seq vs.toArray }, (if_neg naP).trans (if_pos rfl)⟩)) (fun b u z => ?_) (fun b z => ?_) fun _ => hk
    · by_cases hb : b = P
      · exact .inr (.inr ⟨hb, if_pos hb⟩)
      · by_cases hb2 : b = a
        · exact .inr (.inl ⟨_, _, (if_neg hb).trans (if_pos hb2)⟩)
        · exact .inl ((if_neg hb).trans (if_neg hb2))
    · by_cases hb : b = P
      · have z' := (if_pos hb).symm.trans z
        cases z'
        subst hb
        exact hP
      · by_cases hb2 : b = a
        · have z : (if b = P then some (HO.tbl #[]) else if b = a then some (.frz { cls := .type "list", data := .seq vs.toArray } (.lst (ns.map V.int))) else none) = some u := z
          rw [if_neg hb, if_pos hb2] at z
          cases z
          subst hb2
          exact ⟨ha, by rw [List.length_map]; exact hl, vs, _, rv, ha⟩
        · have z : (if b = P then some (HO.tbl #[]) else if b = a then some (.frz { cls := .type "list", data := .seq vs.toArray } (.lst (ns.map V.int))) else none) = some u := z
          rw [if_neg hb, if_neg hb2] at z
          cases z
    · by_cases hb : b = P
      · exact .inr hb
      · by_cases hb2 : b = a
        · exact .inl hb2
        · exact absurd (show (if b = P then some (HO.tbl #[]) else if b = a then some (.frz { cls := .type "list", data := .seq vs.toArray } (.lst (ns.map V.int))) else none) = none by rw [if_neg hb, if_neg hb2]) z
theorem walk_ofT {l : PySem.W.OpenLaw} {n k : Nat} {q : Program} {loose : List Str} {XP : (Str → Option Value) → Heap → Prop} {YP : World → Heap → Prop} {d : DefRec} {K : Params → PySem.W.Frag} {CX : World → CXT} {sp : World → Sp} {x : Str} {c P : World → Addr}
    (hn : l.most = some n) (hn2 : n ≤ sizeLine) (hdf : d.params.defaults = []) (hr : Room k callerA)
    (hY : ∀ (w : World) (h : Heap), YP w h → (K w.params).In h)
    (hrec : (recsOf q).find? (fun e => e.name == d.name) = some d) (ht : ∀ w, PySem.W.tabIn (K w.params) d.name = some (c w, P w)) (hKP : ∀ w : World, (K w.params).lookup (P w) = none)
    (F : ∀ (w : World) (mg : Str → Option Value) (fa : Addr) (h : Heap), (K w.params).In h → h.Ns mainGlobals mg → mg d.name = some (.ref fa) →
      ∃ fd : FuncData, (∀ (s : Shared) (u : Value), BindsTo s fd ⟨[u], []⟩ [(x, u)]) ∧
        ∀ base : Heap, (K w.params).In base → base.Ns mainGlobals mg → PySem.W.CodeHd base (c w) (P w) → base.BuiltinsAt mg (P w) → FnOk l.prog w (K w.params) mg base (CX w) k fa fd [x] (sp w))
    (hsp : ∀ (w : World) (H : Hp) (a : Addr) (ns : List Int), ns.length ≤ n → OnlyT (P w) H → H (P w) = some (.tbl #[]) → SqL (K w.params) H a (ns.map V.int) → sp w [.ref a] H (fun v _ => v = .bl true) fun _ _ _ => False)
    (hCX : ∀ (w : World) (H : Hp) (s : Shared) (e : Value) (s' : Shared), CX w [] H s (fun _ _ _ => False) e s' → False) :
    PySem.W.WalkO q loose XP YP l.row.toRowW d [] (fun f vs => PySem.call f vs) := by
  refine Att.attach_call hn hdf fun w s₀ s₁ mg mb fa o pm cd doc a vs ns G Y ho hd hcd hmg hobj hints hlen hg => ?_
  have KX := hY w _ Y
  obtain ⟨fd, hb, hF⟩ := F w mg fa _ KX G.T.g hmg
  obtain ⟨C, hP⟩ := PySem.W.tab_of G.T KX hrec (ht w)
  have hB : s₁.heap.BuiltinsAt mg (P w) := by
    obtain ⟨bm, ob, h1, h2, h3, h4, h5, h6⟩ := G.T.bmain
    refine ⟨bm, ob, h1, h2, fun z => ?_, fun z => ?_, h3, h4, h5, h6⟩
    · obtain ⟨o, es, ep, e, hd, _⟩ := G.T.g
      rw [z, e] at h3; cases h3
      rw [h6] at hd; cases hd
    · rw [z, hP] at h3; cases h3
      cases h6
  exact law_callT KX G.T.g G.T.b G.T.builtins G.T.nolimit hg hobj hints (Nat.le_trans hlen hn2) hr C hP (hKP w) hB hF hb (fun H hO hT hS => hsp w H a ns hlen hO hT hS) fun H e s' => hCX w H s₁ e s'
end L2

set_option Elab.async false
set_option linter.all false
set_option maxRecDepth 100000
set_option maxHeartbeats 4000000
/-! A LAMBDA is made: its code in the table, its function object known. -/
namespace L2
open PySem PySem.Spec PyProof.Rows
/-- what lies at f: a lambda of this code -/
def FunIs (f : Addr) (name qual : Str) (params : Arguments) (body : Expr) (scope : Scope) (clos : List (Str × Addr)) (pm cv ctv : Value) : Heap → Prop := fun h => h.get? f = some { cls := .type "function", data := .func (PySem.W.kla_fn name qual params body scope clos pm cv ctv) }
def CodeIs (c : Addr) (qual : Str) : Heap → Prop := fun h => h.CodeRec (.ref c) qual
theorem CodeIs.stay {c : Addr} {qual : Str} {h h' : Heap} (p : CodeIs c qual h) (k : ∀ o, h.get? c = some o → h'.get? c = some o) : CodeIs c qual h' := by
  obtain ⟨c', oc, vs, tq, e, e1, e2, e3⟩ := p
  cases e
  exact ⟨c, oc, vs, tq, rfl, k _ e1, e2, e3⟩
section
variable {X : Cx} {params : Arguments} {body : Expr} {scope : Scope} {pos : Pos} {clos : List (Str × Addr)} {c P : Addr}
def tLam (X : Cx) (P : Addr) (params : Arguments) (body : Expr) (scope : Scope) (pos : Pos) (clos : List (Str × Addr)) : TE := fun σ H Q => ∃ ps : Array Value, H P = some (.tbl ps) ∧ TriplesOk ps.toList ∧
  (codeAmong pos ps.toList = none → ∀ (f c' : Addr) (ctv : Value), H c' = none → H f = none → f ≠ c' → f ≠ P → c' ≠ P →
    Q (.ref f) (upd (upd (upd H P (.tbl (ps ++ #[rawInt pos.line, rawInt pos.col, .ref c']))) c' (.ext (CodeIs c' (X.env.qual ++ "<lambda>")))) f (.ext (FunIs f "<lambda>" (X.env.qual ++ "<lambda>") params body scope clos ((X.mg "__name__").getD .none) (.ref c') ctv)))) ∧
  (∀ cv, codeAmong pos ps.toList = some cv → ∀ (f : Addr) (ctv : Value), H f = none → Q (.ref f) (upd H f (.ext (FunIs f "<lambda>" (X.env.qual ++ "<lambda>") params body scope clos ((X.mg "__name__").getD .none) cv ctv))))
theorem pe_lam (hdef : defaultsOf params X.env = ([], [])) (hcl : closureFor scope X.env = pure clos) (hcode : X.env.code = .ref c) (hC : PySem.W.CodeHd X.base c P) (hB : X.base.BuiltinsAt X.mg P) : PE X (.Lambda params body scope pos) (tLam X P params body scope pos clos) := by
  intro pins s σ H Q I h
  obtain ⟨ps, hT, ht, h1, h2⟩ := h
  have hP : s.heap.get? P = some (PySem.W.tabObj ps) := I.hok P _ hT
  have hgl : s.heap.Ns mainGlobals X.mg := I.mod.glob.keeps I.bk
  have hgP : mainGlobals ≠ P := fun e => by
    obtain ⟨o, es, ep, e1, e2, _⟩ := hgl
    rw [e, hP] at e1; cases e1; cases e2
  have hB' : s.heap.BuiltinsAt X.mg P := let ⟨bm, o, a1, a2, a3, a4, a5, r⟩ := hB; ⟨bm, o, a1, a2, a3, a4, I.bk _ _ a5, r⟩
  have hC' := hC.keeps I.bk
  have lt : ∀ {b : Addr} {u : HO}, H b = some u → b < s.heap.objs.size := fun e => I.hok.lt e
  refine PySem.W.kla_eval hdef ?_
  cases hf : codeAmong pos ps.toList with
  | none =>
    refine PySem.W.kla_makeFunction hcl I.ok.glob hgl hcode hC' hP ht hf hgP hB' fun c' ctv h' tk hx hge hlt hrec hP' => ?_
    have hszP : P < s.heap.objs.size := Heap.lt_size hP
    have ncP : c' ≠ P := fun e => Nat.lt_irrefl _ (Nat.lt_of_lt_of_le hszP (e ▸ hge))
    have hle : s.heap.objs.size ≤ h'.objs.size := Nat.le_trans hge (Nat.le_of_lt hlt)
    have nfP : h'.objs.size ≠ P := fun e => Nat.lt_irrefl _ (Nat.lt_of_lt_of_le hszP (e ▸ hle))
    have nfc : h'.objs.size ≠ c' := fun e => Nat.lt_irrefl _ (e ▸ hlt)
    have old : ∀ {b : Addr}, b < s.heap.objs.size → b ≠ c' ∧ b ≠ h'.objs.size := fun hb => ⟨fun e => Nat.lt_irrefl _ (Nat.lt_of_lt_of_le hb (e ▸ hge)), fun e => Nat.lt_irrefl _ (Nat.lt_of_lt_of_le hb (e ▸ hle))⟩
    generalize eO : PySem.W.kla_obj "<lambda>" (X.env.qual ++ "<lambda>") params body scope clos ((X.mg "__name__").getD .none) c' ctv = ob
    have kk : ∀ b o, b ≠ P → s.heap.get? b = some o → (h'.push ob).get? b = some o := fun b o n e => Heap.get?_push_of_some _ (hx b o n e)
    have q := h1 hf h'.objs.size c' ctv (I.hok.fresh hge) (I.hok.fresh hle) nfc nfP ncP
    generalize eH : upd (upd (upd H P (.tbl (ps ++ #[rawInt pos.line, rawInt pos.col, .ref c']))) c' (.ext (CodeIs c' (X.env.qual ++ "<lambda>")))) h'.objs.size (.ext (FunIs h'.objs.size "<lambda>" (X.env.qual ++ "<lambda>") params body scope clos ((X.mg "__name__").getD .none) (.ref c') ctv)) = H' at q
    have at_old : ∀ {b : Addr}, b < s.heap.objs.size → b ≠ P → H' b = H b := fun {b} hb n => by rw [← eH, upd_ne (old hb).2, upd_ne (old hb).1, upd_ne n]
    have at_P : H' P = some (.tbl (ps ++ #[rawInt pos.line, rawInt pos.col, .ref c'])) := by rw [← eH, upd_ne (Ne.symm nfP), upd_ne (Ne.symm ncP)]; exact upd_same
    have at_c : H' c' = some (.ext (CodeIs c' (X.env.qual ++ "<lambda>"))) := by rw [← eH, upd_ne (Ne.symm nfc)]; exact upd_same
    have at_f : H' h'.objs.size = some (.ext (FunIs h'.objs.size "<lambda>" (X.env.qual ++ "<lambda>") params body scope clos ((X.mg "__name__").getD .none) (.ref c') ctv)) := by rw [← eH]; exact upd_same
    have noP : ∀ {b : Addr} {u : HO}, H b = some u → (∀ ps', u ≠ .tbl ps') → b ≠ P := fun {b u} e n z => by rw [z, hT] at e; cases e; exact n _ rfl
    refine ⟨.ref h'.objs.size, H', ?_, rfl, q⟩
    refine I.step (g' := s.gens) (d' := s.drawn) (t' := tk) (ch := []) (fun _ z => nomatch z) (fun b o _ _ _ e n => kk b o (fun z => by rw [z, hT] at n; cases n) e) (fun b o _ _ _ e n => ⟨o.slots, kk b o (fun z => by rw [z, hT] at n; cases n) e⟩)
      (fun b o _ e n => (at_old (Heap.lt_size e) (fun z => by rw [z, hT] at n; cases n)).trans n) (fun b o _ e => ?_) (fun b xs e => (at_old (lt e) (noP e fun _ z => by cases z)).trans e) (fun b o u e => (at_old (lt e) (noP e fun _ z => by cases z)).trans e) (fun b ps' e => ?_) (fun m hm => ?_) ?_ I.bare
    · by_cases hb : b = P
      · exact ⟨_, Heap.get?_push_of_some _ (hb ▸ hP')⟩
      · exact ⟨o, kk b o hb e⟩
    · by_cases hb : b = P
      · subst hb
        rw [hT] at e; cases e
        exact ⟨_, at_P⟩
      · exact ⟨#[], ((at_old (lt e) hb).trans e).trans (by simp)⟩
    · have nL : X.env.locals ≠ P := fun z => by have := I.free; rw [z, hT] at this; cases this
      obtain ⟨o, es, ep, e1, e2, r⟩ := hm
      exact ⟨o, es, ep, kk _ _ nL e1, e2, r⟩
    · intro b u e
      by_cases hbf : b = h'.objs.size
      · subst hbf
        rw [at_f] at e; cases e
        exact ⟨by rw [← eO]; exact Heap.get?_push_size _ rfl, ⟨_, by rw [← eO]; exact Heap.get?_push_size _ rfl⟩, fun h1 h2 p k => k _ p⟩
      · by_cases hbc : b = c'
        · subst hbc
          rw [at_c] at e; cases e
          have hr : CodeIs b (X.env.qual ++ "<lambda>") (h'.push ob) := CodeIs.stay (h := h') hrec fun o e => Heap.get?_push_of_some _ e
          obtain ⟨c2, oc, vs, tq, e0, e1, e2, e3⟩ := id hr
          cases e0
          exact ⟨hr, ⟨_, e1⟩, fun h1 h2 p k => CodeIs.stay p k⟩
        · by_cases hbP : b = P
          · subst hbP
            rw [at_P] at e; cases e
            exact Heap.get?_push_of_some _ hP'
          · have e' : H b = some u := by rw [← eH, upd_ne hbf, upd_ne hbc, upd_ne hbP] at e; exact e
            refine (I.hok b u e').stay (fun cc v hc qq => kk cc v ?_ qq) (fun cc r => (at_old (lt r) (noP r fun _ z => by cases z)).trans r) fun cc xs r => (at_old (lt r) (noP r fun _ z => by cases z)).trans r
            rcases hc with rfl | hc
            · exact hbP
            · exact noP hc fun _ z => by cases z
  | some cv =>
    refine PySem.W.kla_makeFunctionHit hcl I.ok.glob hgl hcode hC' hP ht hf hB' fun ctv h' tk hk hle => ?_
    have kk : ∀ b o, s.heap.get? b = some o → (h'.push { cls := .type "function", data := .func (PySem.W.kla_fn "<lambda>" (X.env.qual ++ "<lambda>") params body scope clos ((X.mg "__name__").getD .none) cv ctv) }).get? b = some o := fun b o e => Heap.get?_push_of_some _ (hk b o e)
    exact ⟨.ref h'.objs.size, _, I.laid (t' := tk) kk hle (show ObjOk X.prog X.w _ _ _ (.ext _) from ⟨Heap.get?_push_size _ rfl, ⟨_, Heap.get?_push_size _ rfl⟩, fun h1 h2 p k => k _ p⟩), rfl, h2 cv hf h'.objs.size ctv (I.hok.fresh hle)⟩
end
end L2

set_option Elab.async false
set_option linter.all false
set_option maxRecDepth 100000
set_option maxHeartbeats 4000000
/-! CELLS of a caller, frozen while a callee runs that may read them through a function made here. -/
namespace L2
open PySem PySem.Spec PyProof.Rows
/-- these objects known as they are -/
def addC (cs : List (Addr × Obj)) (H : Hp) : Hp := fun b => match cs.lookup b with
  | some o => some (.frz o (.ext fun _ => True))
  | none => H b
/-- these untracked -/
def dropC (cs : List (Addr × Obj)) (H : Hp) : Hp := fun b => match cs.lookup b with
  | some _ => none
  | none => H b
theorem addC_in {cs : List (Addr × Obj)} {H : Hp} {b : Addr} {o : Obj} (e : cs.lookup b = some o) : addC cs H b = some (.frz o (.ext fun _ => True)) := by unfold addC; rw [e]
theorem addC_out {cs : List (Addr × Obj)} {H : Hp} {b : Addr} (e : cs.lookup b = none) : addC cs H b = H b := by unfold addC; rw [e]
theorem dropC_in {cs : List (Addr × Obj)} {H : Hp} {b : Addr} {o : Obj} (e : cs.lookup b = some o) : dropC cs H b = none := by unfold dropC; rw [e]
theorem dropC_out {cs : List (Addr × Obj)} {H : Hp} {b : Addr} (e : cs.lookup b = none) : dropC cs H b = H b := by unfold dropC; rw [e]
section
variable {fs : List Addr} {cs : List (Addr × Obj)} {H H1 : Hp} {h h' : Heap} {P : Program} {w : World}
theorem addC_un (u : Un fs [] H H1 h h') : Un fs [] (addC cs H) (addC cs H1) h h' where
  keep := fun b o e n hb hx => u.keep b o e (by
    cases q : cs.lookup b with
    | some o' => rw [addC_in q] at n; cases n
    | none => rw [addC_out q] at n; exact n) hb hx
  slot := fun b o e n hb hx => u.slot b o e (by
    cases q : cs.lookup b with
    | some o' => rw [addC_in q] at n; cases n
    | none => rw [addC_out q] at n; exact n) hb hx
  free := fun b o e n hx => by
    cases q : cs.lookup b with
    | some o' => rw [addC_in q] at n; cases n
    | none => rw [addC_out q] at n ⊢; exact u.free b o e n hx
  there := u.there
  tups := fun b xs e => by
    cases q : cs.lookup b with
    | some o' => rw [addC_in q] at e; cases e
    | none => rw [addC_out q] at e ⊢; exact u.tups b xs e
  frzs := fun b o v e => by
    cases q : cs.lookup b with
    | some o' => rw [addC_in q] at e ⊢; exact e
    | none => rw [addC_out q] at e ⊢; exact u.frzs b o v e
  tbls := fun b ps e => by
    cases q : cs.lookup b with
    | some o' => rw [addC_in q] at e; cases e
    | none => rw [addC_out q] at e ⊢; exact u.tbls b ps e
theorem addC_hok (ok : HOk P w H h) (hc : ∀ b o, cs.lookup b = some o → h.get? b = some o) (hn : ∀ b o, cs.lookup b = some o → H b = none) : HOk P w (addC cs H) h := fun b u e => by
  cases q : cs.lookup b with
  | some o =>
    rw [addC_in q] at e; cases e
    exact ⟨hc b o q, trivial, ⟨o, hc b o q⟩, fun _ _ _ _ => trivial⟩
  | none =>
    rw [addC_out q] at e
    have out : ∀ {c : Addr} {v : HO}, H c = some v → cs.lookup c = none := fun {c v} r => by
      cases z : cs.lookup c with
      | none => rfl
      | some o => rw [hn c o z] at r; cases r
    exact (ok b u e).stay (fun _ _ _ r => r) (fun c r => by rw [addC_out (out r)]; exact r) fun c xs r => by rw [addC_out (out r)]; exact r
/-- and back -/
theorem dropC_un (u : Un fs [] (addC cs H) H1 h h') (ok1 : HOk P w H1 h') (hn : ∀ b o, cs.lookup b = some o → H b = none ∧ h.get? b = some o) : Un fs [] H (dropC cs H1) h h' where
  keep := fun b o e n hb hx => by
    cases q : cs.lookup b with
    | some o' =>
      have z := u.frzs b o' _ (addC_in q)
      rw [(hn b o' q).2] at e; cases e
      exact (ok1 b _ z).1
    | none => exact u.keep b o e (by rw [addC_out q]; exact n) hb hx
  slot := fun b o e n hb hx => by
    cases q : cs.lookup b with
    | some o' =>
      have z := u.frzs b o' _ (addC_in q)
      rw [(hn b o' q).2] at e; cases e
      exact ⟨o.slots, (ok1 b _ z).1⟩
    | none => exact u.slot b o e (by rw [addC_out q]; exact n) hb hx
  free := fun b o e n hx => by
    cases q : cs.lookup b with
    | some o' => exact dropC_in q
    | none => rw [dropC_out q]; exact u.free b o e (by rw [addC_out q]; exact n) hx
  there := u.there
  tups := fun b xs e => by
    cases q : cs.lookup b with
    | some o' => rw [(hn b o' q).1] at e; cases e
    | none => rw [dropC_out q]; exact u.tups b xs (by rw [addC_out q]; exact e)
  frzs := fun b o v e => by
    cases q : cs.lookup b with
    | some o' => rw [(hn b o' q).1] at e; cases e
    | none => rw [dropC_out q]; exact u.frzs b o v (by rw [addC_out q]; exact e)
  tbls := fun b ps e => by
    cases q : cs.lookup b with
    | some o' => rw [(hn b o' q).1] at e; cases e
    | none => rw [dropC_out q]; exact u.tbls b ps (by rw [addC_out q]; exact e)
theorem dropC_hok (ok : HOk P w H h) (hf : ∀ b o, cs.lookup b = some o → ∃ v, H b = some (.frz o v)) : HOk P w (dropC cs H) h := fun b u e => by
  cases q : cs.lookup b with
  | some o => rw [dropC_in q] at e; cases e
  | none =>
    rw [dropC_out q] at e
    have out : ∀ {c : Addr} {v : HO}, H c = some v → (∀ o v', v ≠ .frz o v') → cs.lookup c = none := fun {c v} r nf => by
      cases z : cs.lookup c with
      | none => rfl
      | some o =>
        obtain ⟨v', z'⟩ := hf c o z
        rw [z'] at r; cases r
        exact absurd rfl (nf _ _)
    exact (ok b u e).stay (fun _ _ _ r => r) (fun c r => by rw [dropC_out (out r fun _ _ z => by cases z)]; exact r) fun c xs r => by rw [dropC_out (out r fun _ _ z => by cases z)]; exact r
theorem addC_dropC (hf : ∀ b o, cs.lookup b = some o → H b = some (.frz o (.ext fun _ => True))) : addC cs (dropC cs H) = H := by
  funext b
  cases q : cs.lookup b with
  | some o => rw [addC_in q, hf b o q]
  | none => rw [addC_out q, dropC_out q]
end
/-- a callee runs while these cells are known -/
theorem run_fnC {X : Cx} {CX : CXT} {k : Nat} {f : Addr} {fd : FuncData} {ps : List Str} {sp : Sp} {pins : List (Addr × Obj)} {σ : St} {H : Hp} {s : Shared} {Q : VK} {E : XK} {us : List Value} {vs : List V} {cs : List (Addr × Obj)}
    (F : FnOk X.prog X.w X.K X.mg X.base CX k f fd ps sp) (hr : Room k X.A) (hb : Binds X.K fd ps []) (I : Inv X pins σ H s) (r : Vals vs us)
    (hc : ∀ b o, cs.lookup b = some o → H b = none ∧ s.heap.get? b = some o) (hbase : ∀ b o o', cs.lookup b = some o → X.base.get? b = some o' → False) (hfr : ∀ b o, cs.lookup b = some o → b ∉ frs X.stack)
    (hx : ∀ e s', CX X.stack (addC cs H) s E e s' → X.xe e s') (h : sp vs (addC cs H) (fun v H' => Q v (dropC cs H')) E) : wpAny (model X.prog X.w) X.A (call (.ref f) us) (EP X pins σ Q) X.xe s := by
  have hl : us.length = ps.length := by rw [← r.length]; exact F.len _ _ _ _ h
  have e0 := I.env0
  have out : ∀ {b : Addr}, (∀ o, cs.lookup b = some o → False) → cs.lookup b = none := fun {b} n => by
    cases z : cs.lookup b with
    | none => rfl
    | some o => exact (n o z).elim
  have e1 : Env0 X.prog X.w X.K X.mg X.base X.A X.stack s (addC cs H) := ⟨e0.frames, e0.mod, fun b o e => ⟨(e0.bs b o e).1, by rw [addC_out (out fun o' z => hbase b o' o z e)]; exact (e0.bs b o e).2⟩, e0.bsz, e0.funs, fun b hb => by rw [addC_out (out fun o' z => hfr b o' z hb)]; exact e0.frf b hb, addC_hok e0.hok (fun b o z => (hc b o z).2) fun b o z => (hc b o z).1, e0.bare⟩
  have hbb := hb s us I.kIn (by rw [List.append_nil]; exact hl)
  rw [List.append_nil] at hbb
  refine wpAny_call (codeAny_mono (F.run X.A X.stack s (addC cs H) ⟨us, []⟩ us vs _ E hr e1 hbb r h) fun r s' hq => ?_)
  cases r with
  | error e => exact hx e s' hq
  | ok fl =>
    cases fl with
    | next => exact False.elim hq
    | brk => exact False.elim hq
    | cont => exact False.elim hq
    | ret u =>
      obtain ⟨v, H', os, bare, un, hok, rv, q⟩ := hq
      exact I.after ⟨v, dropC cs H', os, bare, dropC_un un hok hc, dropC_hok hok fun b o z => ⟨_, un.frzs b o _ (addC_in z)⟩, rv, q⟩
end L2

set_option Elab.async false
set_option linter.all false
set_option maxRecDepth 100000
set_option maxHeartbeats 4000000
/-! A LAMBDA without parameters, called while the cells that it reads are known. -/
namespace L2
open PySem PySem.Spec PyProof.Rows
theorem dropC_addC {cs : List (Addr × Obj)} {H : Hp} (hn : ∀ b o, cs.lookup b = some o → H b = none) : dropC cs (addC cs H) = H := by
  funext b
  cases q : cs.lookup b with
  | some o => rw [dropC_in q, hn b o q]
  | none => rw [dropC_out q, addC_out q]
theorem cx1_addC {P : Program} {w : World} {outer : List Env} {cs : List (Addr × Obj)} {H0 : Hp} {s s' : Shared} {E : XK} {e : Value} (hn : ∀ b o, cs.lookup b = some o → H0 b = none ∧ s.heap.get? b = some o ∧ b ∉ frs outer)
    (h : CX1 P w outer H0 s (fun cls x H1 => (∀ b, x = some b → cs.lookup b = none) → E cls x (addC cs H1)) e s') : CX1 P w outer (addC cs H0) s E e s' := by
  obtain ⟨x, cls, H', rfl, os, bare, un, ok, ⟨fn, fu, oe, vs, T, oT, ts, t1, t2, t3, t4, t5, t6, t7, t8, t9, t10⟩, hE⟩ := h
  have out : ∀ {b : Addr}, s.heap.get? b = none → cs.lookup b = none := fun {b} n => by
    cases z : cs.lookup b with
    | none => rfl
    | some o => rw [(hn b o z).2.1] at n; cases n
  refine ⟨x, cls, addC cs H', rfl, os, bare, addC_un un, addC_hok ok (fun b o z => ?_) (fun b o z => ?_), ⟨fn, by rw [addC_out (out fn)]; exact fu, oe, vs, T, oT, ts, t1, t2, t3, t4, t5, by rw [addC_out (out t5)]; exact t6, t7, t8, t9, t10⟩, hE fun b e => by cases e; exact out fn⟩
  · obtain ⟨a1, a2, a3⟩ := hn b o z
    exact un.keep b o a2 a1 a3 (by simp)
  · obtain ⟨a1, a2, a3⟩ := hn b o z
    exact un.free b o a2 a1 (by simp)
section
variable {P : Program} {w : World} {K : PySem.W.Frag} {mg : Str → Option Value} {base : Heap} {k : Nat} {f c' : Addr} {name qual : Str} {params : Arguments} {body : Expr} {scope : Scope} {clos : List (Str × Addr)} {pm ctv : Value} {N : List Str} {sp : Sp}
/-- what such a call wants -/
structure LamAt (P : Program) (w : World) (K : PySem.W.Frag) (mg : Str → Option Value) (base : Heap) (k : Nat) (f c' : Addr) (name qual : Str) (params : Arguments) (body : Expr) (scope : Scope) (clos : List (Str × Addr)) (pm ctv : Value) (N : List Str) (H : Hp) (Q : VK) (E : XK) (H0 : Hp) (cs : List (Addr × Obj)) (σ : St) : Prop where
  eq : H = addC cs H0
  un : ∀ b o, cs.lookup b = some o → H0 b = none
  fn : H0 f = some (.ext (FunIs f name qual params body scope clos pm (.ref c') ctv))
  cd : H0 c' = some (.ext (CodeIs c' qual))
  cell : ∀ x c, clos.lookup x = some c → ∃ o v, cs.lookup c = some o ∧ o.data = .cell v
  len : σ.length = N.length
  val : ∀ (i : Nat) (x : Str) (v : V), N[i]? = some x → σ[i]? = some (some v) → ∃ c o u, clos.lookup x = some c ∧ cs.lookup c = some o ∧ o.data = .cell (some u) ∧ RelV v u
  run : ∀ (A : Around) (outer : List Env) (s : Shared), Room k (A.deeper (PySem.W.envX qual scope s.heap.objs.size f (.ref c') clos)) →
    ∃ t, PE (cxAt (CX1 P w) P w K mg base N (PySem.W.envX qual scope s.heap.objs.size f (.ref c') clos) (fun _ => false) A outer s H0 (fun cls x H1 => (∀ b, x = some b → cs.lookup b = none) → E cls x (addC cs H1))) body t ∧ t σ H0 (fun v H1 => Q v (addC cs H1))
theorem lam_ok (hco : scope.isCoroutine = false) (hgen : scope.isGenerator = false) (hk : scope.kind = .function) (hfree : ∀ x ∈ scope.names, x.2 ≠ .cell ∧ x.2 ≠ .local) (inj : ∀ x y c, clos.lookup x = some c → clos.lookup y = some c → x = y)
    (has : ∀ x, scope.names.lookup x = some .free → ∃ c, clos.lookup x = some c) (hsp : ∀ vs H Q E, sp vs H Q E → vs = [] ∧ ∃ H0 cs σ, LamAt P w K mg base k f c' name qual params body scope clos pm ctv N H Q E H0 cs σ) :
    FnOk P w K mg base (CX1 P w) (k + 1) f (PySem.W.kla_fn name qual params body scope clos pm (.ref c') ctv) [] sp := by
  refine ⟨fun vs H Q E h => by rw [(hsp vs H Q E h).1]; rfl, fun A outer s H args us vs Q E hr e0 hb r h => ?_⟩
  obtain ⟨rfl, H0, cs, σ, L⟩ := hsp vs H Q E h
  obtain rfl := L.eq
  have outS : ∀ {b : Addr} {u : HO}, H0 b = some u → cs.lookup b = none := fun {b u} e => by
    cases z : cs.lookup b with
    | none => rfl
    | some o => rw [L.un b o z] at e; cases e
  have outN : ∀ {b : Addr}, addC cs H0 b = none → cs.lookup b = none ∧ H0 b = none := fun {b} n => by
    cases z : cs.lookup b with
    | none => rw [addC_out z] at n; exact ⟨rfl, n⟩
    | some o => rw [addC_in z] at n; cases n
  have fo : s.heap.get? f = some { cls := .type "function", data := .func (PySem.W.kla_fn name qual params body scope clos pm (.ref c') ctv) } := (e0.hok f _ ((addC_out (outS L.fn)).trans L.fn)).1
  have co : s.heap.CodeRec (.ref c') qual := (e0.hok c' _ ((addC_out (outS L.cd)).trans L.cd)).1
  have cells : ∀ b o, cs.lookup b = some o → H0 b = none ∧ s.heap.get? b = some o ∧ b ∉ frs outer := fun b o z => ⟨L.un b o z, (e0.hok b _ (addC_in z)).1, fun hb => by have := e0.frf b hb; rw [addC_in z] at this; cases this⟩
  have lim : s.heap.NoLimit := e0.mod.nolimit.keeps fun b o e => (e0.bs b o e).1
  refine PySem.W.kla_callFunE hr.depth fo rfl hco hgen rfl co (hb _ _ _ _ ?_)
  refine wpAny_newFunctionEnv (fun x hx => (hfree x hx).1) (fun y hy => absurd hy (by simp)) (fun h₁ hns hsb => ⟨lim.fresh _ hsb, ?_⟩) hk
  have hk₁ : ∀ b o, s.heap.get? b = some o → h₁.get? b = some o := fun b o e => hsb.extBut b o (Nat.ne_of_lt (Heap.lt_size e)) (Heap.get?_push_of_some _ e)
  obtain ⟨t, ht, hq⟩ := L.run A outer s (hr.deeper _)
  have noCell : ∀ {x : Str}, scope.names.lookup x = some .cell → False := fun {x} e => (hfree (x, .cell) (PySem.mem_of_lookup e)).1 rfl
  have noLocal : ∀ {x : Str}, scope.names.lookup x = some .local → False := fun {x} e => (hfree (x, .local) (PySem.mem_of_lookup e)).2 rfl
  have I : Inv (cxAt (CX1 P w) P w K mg base N (PySem.W.envX qual scope s.heap.objs.size f (.ref c') clos) (fun _ => false) A outer s H0 (fun cls x H1 => (∀ b, x = some b → cs.lookup b = none) → E cls x (addC cs H1))) [] σ H0 { s with heap := h₁, toks := s.toks + 0 } := by
    refine ⟨⟨e0.mod, hk, rfl, rfl, Nat.le_refl _, inj, fun x hx => ?_, fun x c z _ => absurd (show false = true from z) (by simp), fun _ => hr.hd, Around.frames_deeper e0.frames, .inr ⟨rfl, rfl⟩, fun b z => absurd (show b ∈ ([] : List Addr) from z) (by simp), fun b o e => ⟨(e0.bs b o e).1, (outN (e0.bs b o e).2).2⟩, e0.bsz, fun b _ _ z => absurd (show b ∈ ([] : List Addr) from z) (by simp), fun b z => absurd (show b ∈ ([] : List Addr) from z) (by simp), e0.funs, fun b hb => (outN (e0.frf b hb)).2⟩,
      rfl, e0.bare, Un.kept hk₁, ⟨_, hns, fun i x v h1 h2 h3 => ?_⟩, fun x c h => ?_, (outN (e0.hok.fresh (Nat.le_refl _))).2, fun x c h => ?_, fun p hp => absurd (show p ∈ ([] : List (Addr × Obj)) from hp) (by simp), ?_, L.len⟩
    · have hx : scope.names.lookup x = some .cell ∨ scope.names.lookup x = some .free := hx
      rcases hx with hx | hx
      · exact (noCell hx).elim
      · exact has x hx
    · obtain ⟨c, o, u, a1, a2, a3, rv⟩ := L.val i x v h1 h2
      refine ⟨u, rv, .inr ⟨.inr ?_, c, a1, o, hk₁ _ _ (cells c o a2).2.1, a3⟩⟩
      have h3 : scope.names.lookup x = some .local ∨ scope.names.lookup x = some .cell ∨ scope.names.lookup x = some .free := h3
      rcases h3 with z | z | z
      · exact (noLocal z).elim
      · exact (noCell z).elim
      · exact z
    · obtain ⟨o, v, a1, a2⟩ := L.cell x c h
      exact ⟨v, o, hk₁ _ _ (cells c o a1).2.1, a2⟩
    · obtain ⟨o, v, a1, a2⟩ := L.cell x c h
      exact L.un c o a1
    · have ok : HOk P w (dropC cs (addC cs H0)) s.heap := dropC_hok e0.hok fun b o z => ⟨_, addC_in z⟩
      rw [dropC_addC L.un] at ok
      exact ok.kept hk₁
  show codeAny _ _ (.expr body (PySem.W.envX qual scope s.heap.objs.size f (.ref c') clos)) _ _
  refine PySem.W.kla_codeExpr (wpAny_mono (ht [] _ σ H0 _ I hq) (fun v s' hs => ?_) fun e s' hs => ?_)
  · obtain ⟨x, H', J, rv, q⟩ := hs
    have un : Un (frs outer) [] H0 H' s.heap s'.heap := J.base
    exact ⟨x, addC cs H', J.os, J.bare, addC_un un, addC_hok J.hok (fun b o z => un.keep b o (cells b o z).2.1 (cells b o z).1 (cells b o z).2.2 (by simp)) (fun b o z => un.free b o (cells b o z).2.1 (cells b o z).1 (by simp)), rv, q⟩
  · exact wpAny_mono hs (fun _ s'' hc => cx1_addC cells hc) fun e' s'' hc => cx1_addC cells hc
end
end L2
namespace L2
open PySem PySem.Spec PyProof.Rows
/-- f(), f a name of this body that holds a lambda -/
def tCallV (X : Cx) (k i : Nat) (E : XK) : TE := fun σ H Q => tVar i σ H fun v H1 => ∃ (f : Addr) (name qual : Str) (params : Arguments) (body : Expr) (scope : Scope) (clos : List (Str × Addr)) (pm cv ctv : Value) (sp : Sp), v = .ref f ∧ H1 f = some (.ext (FunIs f name qual params body scope clos pm cv ctv)) ∧
  FnOk X.prog X.w X.K X.mg X.base (CX1 X.prog X.w) k f (PySem.W.kla_fn name qual params body scope clos pm cv ctv) [] sp ∧ Binds X.K (PySem.W.kla_fn name qual params body scope clos pm cv ctv) [] [] ∧ sp [] H1 Q E
end L2

set_option Elab.async false
set_option linter.all false
set_option maxRecDepth 100000
set_option maxHeartbeats 4000000
namespace L2
open PySem PySem.Spec PyProof.Rows
theorem getB_some {bs : List Bool} {i : Nat} {x : V} (h : (bs.map V.bl)[i]? = some x) : i < bs.length ∧ x = .bl (bs.getD i false) := by
  rw [List.getElem?_map] at h
  cases e : bs[i]? with
  | none => rw [e] at h; cases h
  | some b =>
    rw [e] at h
    have hi := (List.getElem?_eq_some_iff.mp e).1
    refine ⟨hi, ?_⟩
    rw [List.getD_eq_getElem?_getD, e]
    exact (Option.some.inj h).symm
section
variable {X : Cx}
/-- == of two lists of truth values, of any lengths -/
theorem op_eqB (hu : X.A.units < cLine) : OpR X (compareOp .Eq) (fun x y H Q => ∃ (p q : Addr) (xs ys : List Bool), x = .ref p ∧ y = .ref q ∧ SqL X.K H p (xs.map V.bl) ∧ SqL X.K H q (ys.map V.bl) ∧ Q (.bl (decide (xs = ys))) H) := by
  intro pins s σ H x y v u Q I rx ry h
  obtain ⟨p, q, xs, ys, rfl, rfl, h1, h2, hq⟩ := h
  cases rx
  cases ry
  obtain ⟨its, r1, pl1, _⟩ := I.list h1
  obtain ⟨jts, r2, pl2, _⟩ := I.list h2
  have l1 := r1.length
  have l2 := r2.length
  rw [List.length_map] at l1 l2
  by_cases hl : xs.length = ys.length
  · refine SeqAt.eq_listAt (e := fun j => xs.getD j false == ys.getD j false) pl1.isList pl2.isList (by simp only [List.size_toArray]; omega) hu (fun j a b => ?_) ?_
    · obtain ⟨x, e, ru⟩ := r1.at (j := j) (by simpa using a)
      obtain ⟨x', e', ru'⟩ := r2.at (j := j) (by simpa using b)
      obtain ⟨_, rfl⟩ := getB_some e
      obtain ⟨_, rfl⟩ := getB_some e'
      have ru : its[j] = _ := ru
      have ru' : jts[j] = _ := ru'
      show SeqAt.EqAt _ s its[j] jts[j] _
      rw [ru, ru']
      exact SeqAt.EqAt.bool_bool _ _
    · have ed : (List.range its.toArray.size).all (fun j => xs.getD j false == ys.getD j false) = decide (xs = ys) := by
        rw [Bool.eq_iff_iff, List.all_eq_true, decide_eq_true_iff]
        simp only [List.mem_range, List.size_toArray, beq_iff_eq]
        refine ⟨fun h => List.ext_getElem hl fun i h1 h2 => ?_, fun h j _ => by rw [h]⟩
        have := h i (by omega)
        rw [List.getD_eq_getElem?_getD, List.getD_eq_getElem?_getD, List.getElem?_eq_getElem h1, List.getElem?_eq_getElem h2] at this
        exact this
      rw [ed]
      exact ⟨.bl _, H, I, rfl, hq⟩
  · refine SeqAt.eq_list_lengthsAt pl1.isList pl2.isList (by simp only [List.size_toArray, bne_iff_ne]; omega) hu ?_
    have : decide (xs = ys) = false := decide_eq_false fun e => hl (by rw [e])
    rw [this] at hq
    exact ⟨.bl false, H, I, rfl, hq⟩
end
end L2

set_option Elab.async false
set_option linter.all false
set_option maxRecDepth 100000
set_option maxHeartbeats 4000000
/-! TRY f() EXCEPT C AS e, over the hand layer. -/
namespace L2
open PySem PySem.Spec PyProof.Rows
/-- an exception of this class -/
def ExcIs (x : Addr) (cls : Value) : Heap → Prop := fun h => ∃ o, h.get? x = some o ∧ o.cls = cls
theorem excIs_ok {P : Program} {w : World} {H : Hp} {h : Heap} {x : Addr} {cls : Value} (o : ExcIs x cls h) : ObjOk P w H h x (.ext (ExcIs x cls)) :=
  let ⟨ob, e, c⟩ := o
  ⟨⟨ob, e, c⟩, ⟨ob, e⟩, fun _ _ ⟨o1, e1, c1⟩ k => ⟨o1, k _ e1, c1⟩⟩
section
variable {X : Cx} {pins : List (Addr × Obj)} {σ : St} {H : Hp} {s : Shared}
/-- an untracked new object is known from here on -/
theorem Inv.adopt {x : Addr} {o : HO} (I : Inv X pins σ H s) (h0 : X.s₀.heap.get? x = none) (hL : x ≠ X.env.locals) (hC : ∀ y c, X.env.cells.lookup y = some c → c ≠ x) (hP : ∀ p ∈ X.pn ++ pins, p.1 ≠ x) (hn : H x = none)
    (new : ObjOk X.prog X.w (upd H x o) s.heap x o) : Inv X pins σ (upd H x o) s := by
  have ne : ∀ {b : Addr} {u : HO}, H b = some u → b ≠ x := fun e => ne_of_none e hn
  refine ⟨I.ok, I.os, I.bare, ⟨I.base.keep, I.base.slot, fun b ob e n hx => ?_, I.base.there, fun b xs e => ?_, fun b ob u e => ?_, fun b ps e => ?_⟩, I.loc, I.cell, ?_, fun y c e => ?_, fun p hp => ?_, fun b u e => ?_, I.len⟩
  · have : b ≠ x := fun z => by rw [z, h0] at e; cases e
    rw [upd_ne this]; exact I.base.free b ob e n hx
  · have q := I.base.tups b xs e
    rw [upd_ne (ne q)]; exact q
  · have q := I.base.frzs b ob u e
    rw [upd_ne (ne q)]; exact q
  · obtain ⟨m, q⟩ := I.base.tbls b ps e
    exact ⟨m, by rw [upd_ne (ne q)]; exact q⟩
  · rw [upd_ne (Ne.symm hL)]; exact I.free
  · rw [upd_ne (hC y c e)]; exact I.freeC y c e
  · obtain ⟨a1, a2, a3, a4, a5⟩ := I.pin p hp
    exact ⟨a1, by rw [upd_ne (hP p hp)]; exact a2, a3, a4, a5⟩
  · by_cases hb : b = x
    · subst hb
      rw [upd_same] at e; cases e
      exact new
    · rw [upd_ne hb] at e
      exact (I.hok b u e).stay (fun _ _ _ q => q) (fun c r => by rw [upd_ne (ne r)]; exact r) fun c xs r => by rw [upd_ne (ne r)]; exact r
/-- within an except suite -/
abbrev Cx.marked (X : Cx) (e : Value) (E : Value → Shared → Prop) : Cx := { X with A := X.A.mark (some e), calm := false, xe := E }
theorem Inv.marked {e : Value} {E : Value → Shared → Prop} (I : Inv X pins σ H s) : Inv (X.marked e E) pins σ H s :=
  ⟨⟨I.ok.mod, I.ok.kind, I.ok.glob, I.ok.blt, I.ok.above, I.ok.inj, I.ok.has, I.ok.cab, fun z => absurd (show false = true from z) (by decide), I.ok.frames, I.ok.stk, I.ok.exf, I.ok.bs, I.ok.bsz, I.ok.noex, I.ok.exfs, I.ok.funs, I.ok.frf⟩, I.os, I.bare, I.base, I.loc, I.cell, I.free, I.freeC, I.pin, I.hok, I.len⟩
theorem Inv.unmarked {e : Value} {E : Value → Shared → Prop} (I : Inv (X.marked e E) pins σ H s) (hd : X.calm = true → X.A.handled = none) : Inv X pins σ H s :=
  ⟨⟨I.ok.mod, I.ok.kind, I.ok.glob, I.ok.blt, I.ok.above, I.ok.inj, I.ok.has, I.ok.cab, hd, I.ok.frames, I.ok.stk, I.ok.exf, I.ok.bs, I.ok.bsz, I.ok.noex, I.ok.exfs, I.ok.funs, I.ok.frf⟩, I.os, I.bare, I.base, I.loc, I.cell, I.free, I.freeC, I.pin, I.hok, I.len⟩
/-- the name of an except clause goes -/
theorem name_gone {M : Model} {A : Around} {E : Value → Shared → Prop} {i : Nat} {n : Str} {pos : Pos} {Q : Unit → Shared → Prop} (I : Inv X pins σ H s) (hN : X.N.Nodup) (hi : X.N[i]? = some n) (hk : X.env.kindOf n = some .local)
    (h : ∀ s', Inv X pins (σ.set i none) H s' → Q () s') : wpAny M A (do bindName X.env n .none; unbindBehindTheSuite X.env n pos) Q E s := by
  obtain ⟨m, hn, hl⟩ := id I.loc
  have hcls : (X.env.scope.kind == .class || (X.env.scope.kind == .module && X.env.locals != X.env.globals)) = false := by rw [I.ok.kind]; rfl
  have hiσ : i < σ.length := by rw [I.len]; exact (List.getElem?_eq_some_iff.mp hi).1
  have cne := I.cne
  refine wpAny_nameGoes_keeps hk hn hcls fun h' v hn' hs => ?_
  obtain ⟨oL, _, _, hoL, _⟩ := id hn
  have tracked : HOk X.prog X.w H h' := fun b ob e => by
    refine (I.hok b ob e).stay (fun c w' hc q => (hs.2 c ?_).trans q) (fun _ q => q) fun _ _ q => q
    rintro rfl
    have hfree := I.free
    rcases hc with hc | hc
    · rw [← hc, hfree] at e; cases e
    · rw [hfree] at hc; cases hc
  have J : Inv X pins (σ.set i none) H { s with heap := h' } := by
    refine ⟨I.ok, I.os, I.bare, ⟨fun b o e n hb hx => ?_, fun b o e n hb hx => ?_, I.base.free, fun b o e hx => ?_, I.base.tups, I.base.frzs, I.base.tbls⟩, ⟨_, hn', fun j y v' e1 e2 e3 => ?_⟩, fun y c e => ?_, I.free, I.freeC, fun p hp => ?_, tracked, by simpa using I.len⟩
    · exact (hs.2 b (Nat.ne_of_lt (Nat.lt_of_lt_of_le (Heap.lt_size e) I.ok.above))).trans (I.base.keep b o e n hb hx)
    · obtain ⟨sl, e1⟩ := I.base.slot b o e n hb hx
      exact ⟨sl, (hs.2 b (Nat.ne_of_lt (Nat.lt_of_lt_of_le (Heap.lt_size e) I.ok.above))).trans e1⟩
    · obtain ⟨o', e1⟩ := I.base.there b o e hx
      exact ⟨o', (hs.2 b (Nat.ne_of_lt (Nat.lt_of_lt_of_le (Heap.lt_size e) I.ok.above))).trans e1⟩
    · by_cases hj : j = i
      · subst hj
        rw [List.getElem?_set_self hiσ] at e2
        cases e2
      · rw [List.getElem?_set_ne (Ne.symm hj)] at e2
        obtain ⟨u', r', q⟩ := hl j y v' e1 e2 e3
        refine ⟨u', r', ?_⟩
        rcases q with ⟨k, e⟩ | ⟨k, c, e, z⟩
        · refine .inl ⟨k, ?_⟩
          have : y ≠ n := fun e => hj (nodup_ix hN e1 (e ▸ hi))
          simp [this, e]
        · exact .inr ⟨k, c, e, z.sameBut hs (cne y c e)⟩
    · obtain ⟨w', z⟩ := I.cell y c e
      exact ⟨w', z.sameBut hs (cne y c e)⟩
    · obtain ⟨e, n, ne, nf, d⟩ := I.pin p hp
      exact ⟨(hs.2 p.1 ne).trans e, n, ne, nf, d⟩
  exact h _ (J.tok (s.toks + 1))
/-- an exception that a callee threw is caught in this frame -/
theorem caught_at {M : Model} {EE : Value → Shared → Prop} {Q : Unit → Shared → Prop} {E : XK} {s' : Shared} {e : Value} (hf : X.env.frame = some X.env.locals) (hst : X.stack = X.env :: X.outer) (I : Inv X pins σ H s) (hc : CX1 X.prog X.w X.stack H s E e s')
    (k : ∀ x cls H2 s2, e = .ref x → Inv X pins σ H2 s2 → Fly s.heap x cls H2 s2.heap → E cls (some x) H2 → Q () s2) :
    wpAny M X.A (noteFrame e X.env) (fun _ s2 => wpAny M X.A (setFlight e none) Q EE s2) EE s' := by
  obtain ⟨x, cls, H2, rfl, os, bare, u, ok, F, hE⟩ := hc
  have st : s.heap.FunFrames X.base X.stack := I.stack
  have free1 : ∀ b ∈ frs X.stack, H b = none := I.stkFree
  have free : ∀ b ∈ frs X.stack, H2 b = none := fun b hb => by
    obtain ⟨_, o, ho, _⟩ := st.mem hb
    exact u.free b o ho (free1 b hb) (by simp)
  have st1 : s'.heap.FunFrames X.base X.stack := by
    have all : ∀ (l : List Env), (∀ b ∈ frs l, b ∈ frs X.stack) → s.heap.FunFrames X.base l → s'.heap.FunFrames X.base l := by
      intro l
      induction l with
      | nil => intro _ _; trivial
      | cons en r ih =>
        intro hs hl
        obtain ⟨hk, ⟨L, o, hf', hn, ho, hd⟩, hr⟩ := hl
        have hL : L ∈ frs X.stack := hs L (by unfold frs; rw [List.filterMap_cons, hf']; exact List.mem_cons_self)
        obtain ⟨sl, e⟩ := u.slot L o ho (free1 L hL) hL (by simp)
        exact ⟨hk, ⟨L, _, hf', hn, e, hd⟩, ih (fun b hb => hs b (by unfold frs; rw [List.filterMap_cons, hf']; exact List.mem_cons_of_mem _ hb)) hr⟩
    exact all _ (fun _ hb => hb) st
  obtain ⟨oe, ws, T, oT, ts, a1, a2, a3, a4, a5, a6, a7, a8, a9, a10⟩ := F.tr
  have hs1 : ∀ d, s'.heap.get? d = none → s.heap.get? d = none := fun d q => by
    cases z : s.heap.get? d with
    | none => rfl
    | some o =>
      obtain ⟨o', y⟩ := u.there d o z (by simp)
      rw [q] at y; cases y
  have z1 : 1 < ws.size := (Array.getElem?_eq_some_iff.mp a4).1
  have z0 : ws[0]? = some ws[0] := Array.getElem?_eq_getElem (by omega)
  have hfr : X.A.frames = some (X.env :: X.outer) := by rw [← hst]; exact I.ok.frames
  have fr2 : s'.heap.FunFrames (PySem.W.hideAll s'.heap ([x, T] ++ frs X.stack)) X.stack := PySem.W.funFrames_hide st1 fun en henv a ha => List.mem_append_right _ (List.mem_filterMap.mpr ⟨en, henv, ha⟩)
  refine wpAny_looks_onW (base := PySem.W.hideAll s'.heap ([x, T] ++ frs X.stack)) (cls := cls) hfr hf
    ⟨fun b o q => PySem.W.of_hideAll _ q, PySem.W.hideAll_none _ (by simp), by rw [← hst]; exact fr2, ⟨oe, ws, T, oT, ts, a1, ⟨a2, z0⟩, a3, a4, PySem.W.hideAll_none _ (by simp), a7, a8, a9, a10⟩⟩ fun h2 hN hs2 => ?_
  refine wpAny_landsW hN fun h3 hF hs3 => ?_
  have hss := hs2.trans hs3
  have k1 : ∀ b o, b ∉ [x, T] → b ∉ frs X.stack → s'.heap.get? b = some o → h3.get? b = some o := fun b o n1 n2 e =>
    hF.1 b o (PySem.W.hideAll_get _ e fun z => (List.mem_append.mp z).elim n1 n2)
  have k2 : ∀ b o, b ∈ frs X.stack → s'.heap.get? b = some o → ∃ sl, h3.get? b = some { o with slots := sl } := fun b o hb q => by
    obtain ⟨_, o', e', nr⟩ := st1.mem hb
    rw [q] at e'; cases e'
    exact hss b o q nr
  have two : ∀ d ∈ [x, T], d = x ∨ d = T := fun d hd => by simpa using hd
  have hd0 : ∀ d ∈ [x, T], s.heap.get? d = none := fun d hd => (two d hd).elim (fun z => by rw [z]; exact F.new) fun z => by rw [z]; exact a5
  have hd1 : ∀ d ∈ [x, T], H2 d = none := fun d hd => (two d hd).elim (fun z => by rw [z]; exact F.un) fun z => by rw [z]; exact a6
  have un3 : Un (frs X.stack) [] H H2 s.heap h3 := un_left u k1 k2 hd0 (fun b hb => .inl hb) fun _ hb => hb
  have ok3 : HOk X.prog X.w H2 h3 := hok_left ok k1 hd1 free
  have J : Inv X pins σ H2 { s' with heap := h3 } := I.call' (s' := { s' with heap := h3 }) (ch := []) os un3 ok3 bare fun _ z => nomatch z
  refine k x cls H2 _ rfl J ⟨F.new, F.un, ?_⟩ hE
  obtain ⟨oe', ws', T', oT', ts', c1, ⟨c2, _⟩, c3, c4, c5, c6, c7, c8, c9⟩ := hF.2.2.2
  have hT : T' = T ∨ s'.heap.get? T' = none := by
    by_cases hTT : T' = T
    · exact .inl hTT
    · refine .inr ?_
      cases z : s'.heap.get? T' with
      | none => rfl
      | some o =>
        by_cases hT : T' ∈ frs X.stack
        · obtain ⟨_, o', e', nr⟩ := st1.mem hT
          obtain ⟨sl, y⟩ := k2 T' o' hT e'
          rw [c7] at y; cases y
          exact absurd c8 (nr ts')
        · have := PySem.W.hideAll_get ([x, T] ++ frs X.stack) z (fun q => by
            rcases List.mem_append.mp q with q | q
            · exact (two T' q).elim c6 hTT
            · exact hT q)
          rw [c5] at this; cases this
  have hT0 : s.heap.get? T' = none ∧ H2 T' = none := by
    rcases hT with z | z
    · rw [z]; exact ⟨a5, a6⟩
    · exact ⟨hs1 T' z, ok.gone z⟩
  exact ⟨oe', ws', T', oT', ts', c1, c2, c3, c4, hT0.1, hT0.2, c6, c7, c8, c9⟩
/-- it lies already: nothing changes -/
theorem flight_again {M : Model} {A : Around} {EE : Value → Shared → Prop} {Q : Unit → Shared → Prop} {h0 : Heap} {x : Addr} {cls : Value} (I : Inv X pins σ H s) (F : Fly h0 x cls H s.heap)
    (k : ∀ s2, Inv X pins σ H s2 → ExcIs x cls s2.heap → Q () s2) : wpAny M A (setFlight (.ref x) none) Q EE s := by
  obtain ⟨oe, ws, T, oT, ts, a1, a2, a3, a4, a5, a6, a7, a8, a9, a10⟩ := F.tr
  have hsz : 3 < ts.size := (Array.getElem?_eq_some_iff.mp a10).1
  refine wpAny_setFlight_none a1 a3 a4 a8 a9 hsz ?_
  have same : ∀ b u, s.heap.get? b = some u → (s.heap.update T (Obj.mapFields (·.setIfInBounds 3 .none))).get? b = some u := fun b u e => by
    by_cases hb : b = T
    · subst hb
      rw [Heap.get?_update_self _ a8 (Obj.isFreed_of_fields (Obj.data_mapFields a9 _))]
      rw [a8] at e; cases e
      obtain ⟨c, d, dt, sl⟩ := oT
      obtain rfl : dt = .fields ts := a9
      have : ts.setIfInBounds 3 .none = ts := by
        refine Array.ext_getElem? fun i => ?_
        rw [Array.getElem?_setIfInBounds]
        by_cases hi : 3 = i
        · subst hi
          rw [if_pos rfl, if_pos hsz, a10]
        · rw [if_neg hi]
      show some (⟨c, d, Data.fields (ts.setIfInBounds 3 .none), sl⟩ : Obj) = _
      rw [this]
    · exact (Heap.get?_update_other _ _ (Ne.symm hb)).trans e
  exact k _ (I.kept (t' := s.toks) same) ⟨oe, same _ _ a1, a2⟩
end
section
variable {X : Cx} {k i ie : Nat} {x0 tn n : Str} {p cpos epos tp hpos pos : Pos} {CT : Addr} {b₀ : Stmt} {suite : List Stmt} {ts : TS}
/-- try: f() except C as e: suite. f a name of this body that holds a lambda -/
def tTry (X : Cx) (k i ie : Nat) (CT : Addr) (ts : TS) : TS := fun D σ H => tVar i σ H fun v H1 => ∃ (f : Addr) (name qual : Str) (params : Arguments) (body : Expr) (scope : Scope) (clos : List (Str × Addr)) (pm cv ctv : Value) (sp : Sp), v = .ref f ∧ H1 f = some (.ext (FunIs f name qual params body scope clos pm cv ctv)) ∧
  FnOk X.prog X.w X.K X.mg X.base (CX1 X.prog X.w) k f (PySem.W.kla_fn name qual params body scope clos pm cv ctv) [] sp ∧ Binds X.K (PySem.W.kla_fn name qual params body scope clos pm cv ctv) [] [] ∧
  sp [] H1 (fun _ H2 => D.nx σ H2) (fun cls x H2 => ∃ xa C, x = some xa ∧ cls = .ref C ∧ PySem.W.exmOne X.K (.ref C) (.ref CT) = some true ∧ ts { nx := fun σ' H' => D.nx (σ'.set ie none) H', rt := fun _ _ => False } (σ.set ie (some (.ref xa))) (upd H2 xa (.ext (ExcIs xa (.ref C)))))
theorem ps_try (hf : X.env.frame = some X.env.locals) (hst : X.stack = X.env :: X.outer) (hex : X.ex = []) (hN : X.N[i]? = some x0) (hv : Vis X.env.scope x0) (hr : Room k X.A) (hnd : X.N.Nodup) (hi : X.N[ie]? = some n) (hk : X.env.kindOf n = some .local) (hg : Gl X tn) (hCT : X.mg tn = some (.ref CT))
    (hsu : ∀ x : Addr, PSs (X.marked (.ref x) fun _ _ => False) (b₀ :: suite) ts) (hd1 : (x0 == ("__debug__" : Str)) = false := by decide) (hd2 : (x0 == ("__classdict__" : Str)) = false := by decide) (hd3 : (tn == ("__debug__" : Str)) = false := by decide) (hsw : ∀ l, swapsWith (.Call (.Name x0 p) [] [] cpos) none l X.env = pure false := by exact fun _ => rfl) :
    PS X (.Try [.Expr (.Call (.Name x0 p) [] [] cpos) epos] [.ExceptHandler (some (.Name tn tp)) (some n) (b₀ :: suite) hpos] [] [] pos) (tTry X k i ie CT ts) := by
  intro pins s σ H D I h
  refine wpAny_Try_except ?_
  generalize hE : (fun (e : Value) (s₁ : Shared) => wpAny (model X.prog X.w) X.A (noteFrame e X.env) (fun _ s₂ => wpAny (model X.prog X.w) X.A (setFlight e none) (fun _ s₃ => wpAny (model X.prog X.w) X.A (handleBy e X.env [.ExceptHandler (some (.Name tn tp)) (some n) (b₀ :: suite) hpos]) (SP X pins D) X.xe s₃) X.xe s₂) X.xe s₁) = EE
  have core : wpAny (model X.prog X.w) X.A (eval (.Call (.Name x0 p) [] [] cpos) X.env) (EP (X.wish EE) pins σ (fun _ H2 => D.nx σ H2)) EE s := by
    refine wpAny_Call_Name_kw (thn (pe_var (X := X.wish EE) hN hv hd1 hd2 pins s σ H _ (I.wish EE) h) fun u s1 ⟨v, H1, I1, r1, q1⟩ => ?_)
    obtain ⟨f, name, qual, params, body, scope, clos, pm, cv, ctv, sp, rfl, hff, F, hb, q⟩ := q1
    cases r1
    have fo : s1.heap.get? f = some { cls := .type "function", data := .func (PySem.W.kla_fn name qual params body scope clos pm cv ctv) } := (I1.hok f _ hff).1
    show wpAny _ _ (callWith cpos (.ref f) [] [] []) _ _ _
    refine Calls.callWith_function (o := { cls := .type "function", data := .func (PySem.W.kla_fn name qual params body scope clos pm cv ctv) }) (fd := PySem.W.kla_fn name qual params body scope clos pm cv ctv) ?_
    refine evalArgs_nil3 ⟨⟨fo, rfl⟩, run_fnC (X := X.wish EE) (us := []) (vs := []) (cs := []) F hr hb I1 .nil (fun _ _ z => nomatch z) (fun _ _ _ z => nomatch z) (fun _ _ z => nomatch z) (fun e s' hc => ?_) q⟩
    have I0 : Inv X pins σ H1 s1 := I1.unwish
    have hc : CX1 X.prog X.w X.stack H1 s1 _ e s' := hc
    show EE e s'
    rw [← hE]
    refine caught_at hf hst I0 hc fun x cls H2 s2 he J Fl hq => ?_
    subst he
    obtain ⟨xa, C, e1, rfl, hm, hs⟩ := hq
    cases e1
    refine wpAny_handleBy_cons (codeAny_handlers_test ?_) (by intro q; cases q)
    refine ld_glob (X := X.marked (.ref x) fun _ _ => False) J.marked hg hCT ?_ hd3
    obtain ⟨ob, ho, hoc⟩ : ExcIs x (.ref C) s2.heap := let ⟨oe, _, _, _, _, a1, a2, _⟩ := Fl.tr; ⟨oe, a1, a2⟩
    refine PySem.W.exm_one J.kIn (xc_type ho hoc) hm _ _ _ s2 (fun _ _ e => e) ?_
    refine codeAny_handlers_suite_as ?_
    refine flight_again J Fl fun s3 J3 x3 => ?_
    have h0 : X.s₀.heap.get? x = none := by
      cases z : X.s₀.heap.get? x with
      | none => rfl
      | some o =>
        obtain ⟨o', y⟩ := I0.base.there x o z (by rw [hex]; simp)
        rw [Fl.new] at y; cases y
    have old : ∀ {b : Addr} {o : Obj}, s1.heap.get? b = some o → b ≠ x := fun {b o} e z => by rw [z, Fl.new] at e; cases e
    have J4 : Inv X pins σ (upd H2 x (.ext (ExcIs x (.ref C)))) s3 := J3.adopt h0 (fun z => by obtain ⟨m, ⟨o, _, _, e, _⟩, _⟩ := I0.loc; exact old e z.symm) (fun y c e => by obtain ⟨v, o, eo, _⟩ := I0.cell y c e; exact old eo) (fun p hp => old (I0.pin p hp).1) Fl.un (excIs_ok x3)
    refine store_ok (X := X.marked (.ref x) fun _ _ => False) (i := ie) (v := .ref x) J4.marked hnd hi (.inl hk) rfl (fun s4 J5 => ?_) (.inr hk)
    refine wpAny_mono (hsu x pins s4 _ _ _ J5 hs) (fun fl s5 hq => ?_) fun _ _ z => z.elim
    cases fl with
    | next =>
      obtain ⟨σ', H', J6, q⟩ := hq
      exact name_gone (J6.unmarked I.ok.hd) hnd hi hk fun s' J7 => ⟨_, _, J7, q⟩
    | brk => obtain ⟨_, _, _, q⟩ := hq; exact q.elim
    | cont => obtain ⟨_, _, _, q⟩ := hq; exact q.elim
    | ret v => obtain ⟨_, _, _, _, _, q⟩ := hq; exact q.elim
  refine wpAny_execs_cons (wpAny_Expr_any (thn core fun v s1 ⟨x, H1, I1, r1, q1⟩ => ?_) I.quiet (hsw _))
  exact wpAny_execs_nil (wpAny_execs_nil ⟨σ, H1, I1.unwish, q1⟩)
/-- isinstance(e, C) of an exception -/
theorem call_isiX : CallR X (.builtin "isinstance") (fun xs H Q => ∃ x c C b, xs = [.ref x, c] ∧ H x = some (.ext (ExcIs x (.ref C))) ∧ ExcK X.K C ∧ ((∃ T, c = .ty T ∧ PySem.W.kitOne X.K (.ref C) (.type T) = some b) ∨ ∃ D, c = .ref D ∧ PySem.W.kitOne X.K (.ref C) (.ref D) = some b) ∧ Q (.bl b) H) := by
  intro pins s σ H xs us Q I r h
  obtain ⟨x, c, C, b, rfl, hx, B, hk, q⟩ := h
  obtain ⟨u, v, rfl, ru, rv⟩ := r.two
  cases (show u = Value.ref x from ru)
  have p : ExcIs x (.ref C) s.heap := (I.hok x _ hx).1
  rcases hk with ⟨T, rfl, hk⟩ | ⟨D, rfl, hk⟩
  · cases (show v = Value.type T from rv)
    exact PySem.W.kia_one (kitx_exc B) I.kIn p hk (fun z => nomatch z) fun tk => ⟨.bl b, H, I.tok tk, rfl, q⟩
  · cases (show v = Value.ref D from rv)
    exact PySem.W.kia_one (kitx_exc B) I.kIn p hk (fun z => nomatch z) fun tk => ⟨.bl b, H, I.tok tk, rfl, q⟩
theorem pe_isiX {a b : Expr} {ta tb : TE} (hm : X.mg "isinstance" = none) (ha : PE X a ta) (hb : PE X b tb) (hg : Gl X "isinstance" := by rfl) (hs : starEach [a, b] X.env = (false, eval a X.env) :: starEach [b] X.env := by rfl) (hs2 : starEach [b] X.env = (false, eval b X.env) :: starEach [] X.env := by rfl) :
    PE X (.Call (.Name "isinstance" p) [a, b] [] pos) (tCB (fun xs H Q => ∃ x c C b, xs = [.ref x, c] ∧ H x = some (.ext (ExcIs x (.ref C))) ∧ ExcK X.K C ∧ ((∃ T, c = .ty T ∧ PySem.W.kitOne X.K (.ref C) (.type T) = some b) ∨ ∃ D, c = .ref D ∧ PySem.W.kitOne X.K (.ref C) (.ref D) = some b) ∧ Q (.bl b) H) (tCons ta (tCons tb tNil))) :=
  pe_callB call_isiX hg hm (by decide +kernel) (pa_cons ha (pa_cons hb pa_nil hs2) hs) (by decide) (by decide) hs (by rw [hs2]; rfl)
end
end L2

set_option Elab.async false
set_option linter.all false
set_option maxRecDepth 100000
set_option maxHeartbeats 4000000
/-! A CALL of a def while the cells of this body are known (it calls a lambda that was made here). -/
namespace L2
open PySem PySem.Spec PyProof.Rows
def cellsNow (h : Heap) : List (Str × Addr) → List (Addr × Obj)
  | [] => []
  | (_, c) :: r => match h.get? c with
    | none => cellsNow h r
    | some u => (c, u) :: cellsNow h r
theorem lookup_fm {h : Heap} {b : Addr} {o : Obj} : ∀ {cells : List (Str × Addr)}, (cellsNow h cells).lookup b = some o → h.get? b = some o ∧ ∃ x, (x, b) ∈ cells
  | [], e => by cases e
  | (y, c) :: r, e => by
    unfold cellsNow at e
    split at e
    · obtain ⟨h1, x, hx⟩ := lookup_fm e
      exact ⟨h1, x, List.mem_cons_of_mem _ hx⟩
    · rename_i u q
      rw [List.lookup_cons] at e
      cases z : b == c with
      | true => rw [z] at e; cases e; rw [eq_of_beq z]; exact ⟨q, y, List.mem_cons_self⟩
      | false =>
        rw [z] at e
        obtain ⟨h1, x, hx⟩ := lookup_fm e
        exact ⟨h1, x, List.mem_cons_of_mem _ hx⟩
theorem lookup_fm_some {h : Heap} {b : Addr} {o : Obj} (e : h.get? b = some o) : ∀ {cells : List (Str × Addr)} {x : Str}, (x, b) ∈ cells → (cellsNow h cells).lookup b = some o
  | [], _, hm => by cases hm
  | (y, c) :: r, x, hm => by
    unfold cellsNow
    by_cases hc : b = c
    · subst hc
      rw [e]
      show (List.lookup b ((b, o) :: _)) = _
      rw [List.lookup_cons]
      simp
    · have hm' : (x, b) ∈ r := by
        rcases List.mem_cons.mp hm with z | z
        · cases z; exact absurd rfl hc
        · exact z
      have ih := lookup_fm_some e hm'
      cases q : h.get? c with
      | none => exact ih
      | some u =>
        show (List.lookup b ((c, u) :: _)) = _
        rw [List.lookup_cons, beq_eq_false_iff_ne.mpr hc]
        exact ih
/-- cs: the cells of this body as they are -/
structure CellsAt (X : Cx) (σ : St) (H : Hp) (cs : List (Addr × Obj)) : Prop where
  un : ∀ b o, cs.lookup b = some o → H b = none
  all : ∀ x c, X.env.cells.lookup x = some c → ∃ o v, cs.lookup c = some o ∧ o.data = .cell v
  val : ∀ (i : Nat) (x : Str) (v : V), X.N[i]? = some x → σ[i]? = some (some v) → X.env.kindOf x = some .cell → ∃ c o u, X.env.cells.lookup x = some c ∧ cs.lookup c = some o ∧ o.data = .cell (some u) ∧ RelV v u
def tCallC (X : Cx) (sp : Sp) (t : TA) : TE := fun σ H Q => t σ H fun vs H1 => ∀ cs, CellsAt X σ H1 cs → sp vs (addC cs H1) (fun v H' => Q v (dropC cs H')) E0
section
variable {X : Cx} {k j : Nat} {ps : List Str} {sp : Sp} {x : Str} {p pos : Pos} {e : Expr} {es : List Expr} {t : TA}
theorem pe_callC (O : OkX X.prog X.w X.K X.mg X.base x ps k sp) (hr : Room j X.A) (ha : PA X (e :: es) t) (hfn : ∀ y, X.fn y = true) (hnd : ∀ y c, (y, c) ∈ X.env.cells → X.env.cells.lookup y = some c) (hg : Gl X x := by rfl) (hj : k ≤ j := by decide) (hdb : (x == ("__debug__" : Str)) = false := by decide) (he : starEach (e :: es) X.env = (false, eval e X.env) :: starEach es X.env := by rfl) (hpl : (backTo pos (starEach es X.env)).any (·.1) = false := by rfl) :
    PE X (.Call (.Name x p) (e :: es) [] pos) (tCallC X sp t) := by
  obtain ⟨f, fd, F, hb, hm, hk⟩ := O.ex
  intro pins s σ H Q I h
  refine wpAny_Call_Name_kw (ld_glob I hg hm ?_ hdb)
  refine PySem.W.callWith_K (h₀ := X.base) I.ok.mod.kin hk (thn (ha pos pins s σ H _ I h) fun us s1 ⟨vs, H1, I1, r, q⟩ => ⟨I1.kIn, ?_⟩) he hpl
  generalize hcs : cellsNow s1.heap X.env.cells = cs
  have hc : ∀ b o, cs.lookup b = some o → s1.heap.get? b = some o ∧ ∃ y, X.env.cells.lookup y = some b := fun b o z => by
    rw [← hcs] at z
    obtain ⟨h1, y, hy⟩ := lookup_fm z
    exact ⟨h1, y, hnd y b hy⟩
  have hi : ∀ y c o, X.env.cells.lookup y = some c → s1.heap.get? c = some o → cs.lookup c = some o := fun y c o e1 e2 => by
    rw [← hcs]
    exact lookup_fm_some e2 (PySem.mem_of_lookup e1)
  have C : CellsAt X σ H1 cs := by
    refine ⟨fun b o z => ?_, fun y c e1 => ?_, fun i y v e1 e2 e3 => ?_⟩
    · obtain ⟨_, y, hy⟩ := hc b o z
      exact I1.freeC y b hy
    · obtain ⟨v, o, eo, ed⟩ := I1.cell y c e1
      exact ⟨o, v, hi y c o e1 eo, ed⟩
    · obtain ⟨m, hn, hl⟩ := I1.loc
      obtain ⟨u, ru, lk⟩ := hl i y v e1 e2 (.inr (.inl e3))
      rcases lk with ⟨k1, _⟩ | ⟨_, c, ec, o, eo, ed⟩
      · rw [e3] at k1; cases k1
      · exact ⟨c, o, u, ec, hi y c o ec eo, ed, ru⟩
  refine run_fnC (cs := cs) F (hr.mono hj) hb I1 r (fun b o z => ⟨C.un b o z, (hc b o z).1⟩) (fun b o o' z e' => ?_) (fun b o z hf => ?_) (fun e s' hx => ?_) (q cs C)
  · obtain ⟨_, y, hy⟩ := hc b o z
    have h1 := I1.ok.cab y b (hfn y) hy
    have h2 := Heap.lt_size e'
    have h3 := I1.ok.bsz
    exact Nat.lt_irrefl _ (Nat.lt_of_lt_of_le h2 (Nat.le_trans h3 h1))
  · obtain ⟨_, y, hy⟩ := hc b o z
    rcases List.mem_cons.mp (I1.stkSub b hf) with e1 | e1
    · exact I1.cne y b hy e1
    · obtain ⟨_, ob, ho, _⟩ := I1.ok.funs.mem e1
      have h1 := I1.ok.cab y b (hfn y) hy
      have h2 := Heap.lt_size ho
      exact Nat.lt_irrefl _ (Nat.lt_of_lt_of_le h2 h1)
  · obtain ⟨_, _, _, _, _, _, _, _, _, hE⟩ := hx
    exact hE.elim
end
/-- a def that may raise, its code known -/
theorem Fun.okT {P : Program} {w : World} {K : PySem.W.Frag} {mg : Str → Option Value} {base : Heap} {x qual : Str} {st : Stmt} {f : Addr} {fd : FuncData} {N ps : List Str} {k : Nat} {sp : Sp} (F : Fun K x qual st f fd) (S : FnScope N ps (defScope st)) (len : ∀ vs H Q E, sp vs H Q E → vs.length = ps.length)
    (hbody : ∀ (A : Around) (outer : List Env) (s : Shared) (H : Hp) (vs : List V) (Q : VK) (E : XK), Room k (A.deeper (envOfC qual (defScope st) s.heap.objs.size f fd.code)) → sp vs H Q E →
      ∃ t, PSs (cxOf (CX1 P w) P w K mg base N qual (defScope st) f fd.code A outer s H E) (defBody st) t ∧ t { nx := fun _ H' => Q .non H', rt := Q } (start N vs) H) : FnOk P w K mg base (CX1 P w) (k + 1) f fd ps sp := by
  obtain ⟨oc, od, kV, doc, pm, an, cdv, ct, osl, rfl, lk, hcd⟩ := F.ex
  exact fn_of lk hcd S len fun A outer s H vs Q E hr hsp => hbody A outer s H vs Q E hr hsp
/-- the cells of a def's body stand apart -/
theorem cells_in {n : Nat} {names : List (Str × NameKind)} : ∀ {acc : List (Str × Addr)}, (names.map (·.1)).Nodup → (∀ y c, (y, c) ∈ acc → acc.lookup y = some c ∧ y ∉ names.map (·.1)) → ∀ y c, (y, c) ∈ cellsFrom n names acc → (cellsFrom n names acc).lookup y = some c := by
  induction names generalizing n with
  | nil => intro acc _ h y c hy; exact (h y c hy).1
  | cons z r ih =>
    intro acc hn h
    obtain ⟨nm, kd⟩ := z
    have hn' : nm ∉ r.map (·.1) ∧ (r.map (·.1)).Nodup := List.nodup_cons.mp hn
    unfold cellsFrom
    split
    · refine ih hn'.2 fun y c hy => ?_
      rcases List.mem_cons.mp hy with e | e
      · cases e
        exact ⟨by rw [List.lookup_cons]; simp, hn'.1⟩
      · obtain ⟨h1, h2⟩ := h y c e
        have ne : y ≠ nm := fun q => h2 (by rw [q]; exact List.mem_cons_self)
        exact ⟨by rw [List.lookup_cons, beq_eq_false_iff_ne.mpr ne]; exact h1, fun q => h2 (List.mem_cons_of_mem _ q)⟩
    · exact ih hn'.2 fun y c hy => ⟨(h y c hy).1, fun q => (h y c hy).2 (List.mem_cons_of_mem _ q)⟩
/-- known cells, later -/
theorem Same.drop {cs : List (Addr × Obj)} {H H' : Hp} (hn : ∀ b o, cs.lookup b = some o → H b = none) (s : Same (addC cs H) H') : Same H (dropC cs H') := fun b o e => by
  have q : cs.lookup b = none := by
    cases z : cs.lookup b with
    | none => rfl
    | some u => rw [hn b u z] at e; cases e
  rw [dropC_out q]
  exact s b o (by rw [addC_out q]; exact e)
theorem Same.cells {cs : List (Addr × Obj)} {H H' : Hp} (s : Same (addC cs H) H') : addC cs (dropC cs H') = H' := addC_dropC fun b o z => s b _ (addC_in z)
/-! ### the refusals' classes -/
structure Errs (mg : Str → Option Value) (CT : Addr) (C : Nat → Addr) : Prop where
  thaw : mg "ThawError" = some (.ref CT)
  g0 : mg "UnknownBed" = some (.ref (C 0))
  g1 : mg "UnknownDeed" = some (.ref (C 1))
  g2 : mg "BadBeds" = some (.ref (C 2))
  g3 : mg "BadNeed" = some (.ref (C 3))
  g4 : mg "BadHeat" = some (.ref (C 4))
  g5 : mg "BadYear" = some (.ref (C 5))
  g6 : mg "BadAmount" = some (.ref (C 6))
  g7 : mg "BadTimes" = some (.ref (C 7))
  g8 : mg "UnknownSeason" = some (.ref (C 8))
  g9 : mg "TooManyLaid" = some (.ref (C 9))
  g10 : mg "TooManyDeeds" = some (.ref (C 10))
  g11 : mg "NothingDone" = some (.ref (C 11))
structure Refuses (K : PySem.W.Frag) (CT : Addr) (C : Nat → Addr) (j : Nat) : Prop where
  kx : ExcK K (C j)
  ex : PySem.W.exmOne K (.ref (C j)) (.ref CT) = some true
  one : ∀ i, i < 12 → PySem.W.kitOne K (.ref (C j)) (.ref (C i)) = some (decide (i = j))
  ve : PySem.W.kitOne K (.ref (C j)) (.type "ValueError") = some true
theorem kinds_due (j : Nat) (hj : j < 12) : ([0, 1, 2, 3, 4, 5, 6, 7, 8, 9, 10, 11].map (fun i : Nat => decide (i = j)) ++ [true]) = (List.range 13).map (fun k : Nat => inV (.int ((0 : Int) + (k : Int))) [.int (j : Int), .int 12]) := by
  have h : ∀ j : Fin 12, ([0, 1, 2, 3, 4, 5, 6, 7, 8, 9, 10, 11].map (fun i : Nat => decide (i = j.val)) ++ [true]) = (List.range 13).map (fun k : Nat => inV (.int ((0 : Int) + (k : Int))) [.int (j.val : Int), .int 12]) := by decide
  exact h ⟨j, hj⟩
/-- f: a lambda whose call is refused with the j-th class -/
def LamRef (P : Program) (w : World) (K : PySem.W.Frag) (mg : Str → Option Value) (base : Heap) (C : Nat → Addr) (H : Hp) (f : Addr) (j : Nat) : Prop := ∃ (name qual : Str) (params : Arguments) (body : Expr) (scope : Scope) (clos : List (Str × Addr)) (pm cv ctv : Value) (sp : Sp),
  H f = some (.ext (FunIs f name qual params body scope clos pm cv ctv)) ∧ FnOk P w K mg base (CX1 P w) 6 f (PySem.W.kla_fn name qual params body scope clos pm cv ctv) [] sp ∧ Binds K (PySem.W.kla_fn name qual params body scope clos pm cv ctv) [] [] ∧
  ∀ (H' : Hp) (Q' : VK) (E' : XK), Same H H' → (∀ (H1 : Hp) (xa : Addr), Same H' H1 → H1 xa = none → E' (.ref (C j)) (some xa) H1) → sp [] H' Q' E'
theorem pe_cls {X : Cx} {x : Str} {C : Addr} {pos : Pos} (hm : X.mg x = some (.ref C)) (hg : Gl X x := by rfl) (hd : (x == ("__debug__" : Str)) = false := by decide) : PE X (.Name x pos) (tC (.ref C)) := pe_glob hg hm (show RelV (.ref C) (.ref C) from rfl) hd
theorem pe_isiXK {X : Cx} {p pos : Pos} (K : PySem.W.Frag) {a b : Expr} {ta tb : TE} (hm : X.mg "isinstance" = none) (ha : PE X a ta) (hb : PE X b tb) (h : X.K = K := by rfl) (hg : Gl X "isinstance" := by rfl) (hs : starEach [a, b] X.env = (false, eval a X.env) :: starEach [b] X.env := by rfl) (hs2 : starEach [b] X.env = (false, eval b X.env) :: starEach [] X.env := by rfl) :
    PE X (.Call (.Name "isinstance" p) [a, b] [] pos) (tCB (fun xs H Q => ∃ x c C b, xs = [.ref x, c] ∧ H x = some (.ext (ExcIs x (.ref C))) ∧ ExcK K C ∧ ((∃ T, c = .ty T ∧ PySem.W.kitOne K (.ref C) (.type T) = some b) ∨ ∃ D, c = .ref D ∧ PySem.W.kitOne K (.ref C) (.ref D) = some b) ∧ Q (.bl b) H) (tCons ta (tCons tb tNil))) := by
  subst h
  exact pe_isiX hm ha hb hg hs hs2
end L2

set_option Elab.async false
set_option linter.all false
set_option maxRecDepth 100000
set_option maxHeartbeats 4000000
/-! A LAW that makes lambdas and hands them on. -/
namespace L2
open PySem PySem.Spec PyProof.Rows
/-- the table of a law's code: all that lies in it is code of this name -/
def TabOk (P : Addr) (qual : Str) (H : Hp) : Prop := ∃ ps : Array Value, H P = some (.tbl ps) ∧ TriplesOk ps.toList ∧ ∀ pos cv, codeAmong pos ps.toList = some cv → ∃ c', cv = .ref c' ∧ H c' = some (.ext (CodeIs c' qual))
theorem TabOk.nil {P : Addr} {qual : Str} {H : Hp} (h : H P = some (.tbl #[])) : TabOk P qual H := ⟨#[], h, trivial, fun pos cv e => by cases e⟩
theorem TabOk.same {P : Addr} {qual : Str} {H H' : Hp} (h : TabOk P qual H) (s : Same H H') : TabOk P qual H' := by
  obtain ⟨ps, h1, h2, h3⟩ := h
  refine ⟨ps, s _ _ h1, h2, fun pos cv e => ?_⟩
  obtain ⟨c', e1, e2⟩ := h3 pos cv e
  exact ⟨c', e1, s _ _ e2⟩
theorem codeAmong_app {pos : Pos} {a b : Int} {c : Value} (l : List Value) (h : TriplesOk l) : codeAmong pos (l ++ [rawInt a, rawInt b, c]) = codeAmong pos l ∨ codeAmong pos (l ++ [rawInt a, rawInt b, c]) = some c := by
  fun_induction TriplesOk l with
  | case1 =>
    show (if _ then _ else _) = _ ∨ (if _ then _ else _) = _
    by_cases q : (a == (pos.line : Int) && b == (pos.col : Int)) = true
    · right; rw [if_pos q]
    · left; rw [if_neg q]
  | case2 a' t b' u x rest ih =>
    simp only [List.cons_append, codeAmong]
    by_cases q : (a' == (pos.line : Int) && b' == (pos.col : Int)) = true
    · left; rw [if_pos q, if_pos q]
    · rw [if_neg q, if_neg q]; exact ih h
  | case3 l h1 h2 => exact h.elim
section
variable {X : Cx} {params : Arguments} {body : Expr} {scope : Scope} {pos : Pos} {cl : List (Str × Addr)} {c P : Addr} {σ : St} {H : Hp} {Q : VK}
theorem tLam_by (hT : TabOk P (X.env.qual ++ "<lambda>") H)
    (k : ∀ (f c' : Addr) (ctv : Value) (H3 : Hp), (∀ b o, b ≠ P → H b = some o → H3 b = some o) → H f = none → H3 f = some (.ext (FunIs f "<lambda>" (X.env.qual ++ "<lambda>") params body scope cl ((X.mg "__name__").getD .none) (.ref c') ctv)) → H3 c' = some (.ext (CodeIs c' (X.env.qual ++ "<lambda>"))) → TabOk P (X.env.qual ++ "<lambda>") H3 → Q (.ref f) H3) :
    tLam X P params body scope pos cl σ H Q := by
  obtain ⟨ps, h1, h2, h3⟩ := hT
  refine ⟨ps, h1, h2, fun hn f c' ctv nc nf n1 n2 n3 => ?_, fun cv hh f ctv nf => ?_⟩
  · refine k f c' ctv _ (fun b o nb e => ?_) nf upd_same ((upd_ne (Ne.symm n1)).trans upd_same) ?_
    · rw [upd_ne (ne_of_none e nf), upd_ne (ne_of_none e nc), upd_ne nb]; exact e
    · refine ⟨_, (upd_ne (Ne.symm n2)).trans ((upd_ne (Ne.symm n3)).trans upd_same), ?_, fun pos' cv e => ?_⟩
      · rw [Array.toList_append]; exact TriplesOk_snoc _ _ _ _ h2
      · rw [Array.toList_append] at e
        rcases codeAmong_app (pos := pos') (a := pos.line) (b := pos.col) (c := .ref c') ps.toList h2 with z | z
        · obtain ⟨c2, e1, e2⟩ := h3 pos' cv (z.symm.trans e)
          refine ⟨c2, e1, ?_⟩
          have nP : c2 ≠ P := ne_of e2 h1 (by intro q; cases q)
          rw [upd_ne (ne_of_none e2 nf), upd_ne (ne_of_none e2 nc), upd_ne nP]; exact e2
        · have := z.symm.trans e
          cases this
          exact ⟨c', rfl, (upd_ne (Ne.symm n1)).trans upd_same⟩
  · obtain ⟨c', rfl, e2⟩ := h3 pos cv hh
    have s := Same.upd (o := .ext (FunIs f "<lambda>" (X.env.qual ++ "<lambda>") params body scope cl ((X.mg "__name__").getD .none) (.ref c') ctv)) nf
    exact k f c' ctv _ (fun b o _ e => s b o e) nf upd_same (s _ _ e2) (TabOk.same ⟨ps, h1, h2, h3⟩ s)
theorem pe_lamC (outer : List (Str × NameKind)) (ho : X.env.cells = cellsFrom (X.env.locals + 1) outer []) (hdef : defaultsOf params X.env = ([], [])) (h : ∀ y ∈ scope.names, y.2 = .free → outer.lookup y.1 = some .cell) (hcode : X.env.code = .ref c) (hC : PySem.W.CodeHd X.base c P) (hB : X.base.BuiltinsAt X.mg P) :
    PE X (.Lambda params body scope pos) (tLam X P params body scope pos (clos scope.names X.env.cells)) :=
  pe_lam hdef (closureFor_of fun y hy hk => by
    rw [ho]
    exact Option.isSome_iff_exists.mp (PySem.W.cellsFrom_some outer _ [] (.inl (h y hy hk)))) hcode hC hB
end
theorem cells_inj {names : List (Str × NameKind)} : ∀ {n : Nat} {acc : List (Str × Addr)}, (∀ x c, (x, c) ∈ acc → c < n) → (∀ x y c, (x, c) ∈ acc → (y, c) ∈ acc → x = y) → ∀ x y c, (x, c) ∈ cellsFrom n names acc → (y, c) ∈ cellsFrom n names acc → x = y := by
  induction names with
  | nil => intro n acc _ h x y c; exact h x y c
  | cons z r ih =>
    intro n acc hlt h
    obtain ⟨nm, kd⟩ := z
    unfold cellsFrom
    split
    · refine ih (fun x c hm => ?_) fun x y c h1 h2 => ?_
      · rcases List.mem_cons.mp hm with e | e
        · cases e; exact Nat.lt_succ_self n
        · exact Nat.lt_succ_of_lt (hlt x c e)
      · rcases List.mem_cons.mp h1 with e1 | e1
        · cases e1
          rcases List.mem_cons.mp h2 with e2 | e2
          · cases e2; rfl
          · exact absurd (hlt y _ e2) (Nat.lt_irrefl _)
        · rcases List.mem_cons.mp h2 with e2 | e2
          · cases e2
            exact absurd (hlt x _ e1) (Nat.lt_irrefl _)
          · exact h x y c e1 e2
    · exact ih hlt h
section
variable {P : Program} {w : World} {K : PySem.W.Frag} {mg : Str → Option Value} {base : Heap} {C : Nat → Addr} {j n : Nat} {H3 : Hp} {cs : List (Addr × Obj)} {f c' : Addr} {name qual : Str} {params : Arguments} {body : Expr} {scope : Scope} {pm ctv : Value} {N : List Str} {σ : St}
theorem lamRef_of (outer : List (Str × NameKind)) (hco : scope.isCoroutine = false) (hgen : scope.isGenerator = false) (hk : scope.kind = .function) (hfree : ∀ x ∈ scope.names, x.2 ≠ .cell ∧ x.2 ≠ .local) (hsub : ∀ y ∈ scope.names, y.2 = .free → outer.lookup y.1 = some .cell)
    (hb : Binds K (PySem.W.kla_fn name qual params body scope (clos scope.names (cellsFrom n outer [])) pm (.ref c') ctv) [] []) (hf : H3 f = some (.ext (FunIs f name qual params body scope (clos scope.names (cellsFrom n outer [])) pm (.ref c') ctv))) (hc : H3 c' = some (.ext (CodeIs c' qual)))
    (un : ∀ b o, cs.lookup b = some o → H3 b = none) (all : ∀ x c, (cellsFrom n outer []).lookup x = some c → ∃ o v, cs.lookup c = some o ∧ o.data = .cell v) (len : σ.length = N.length)
    (val : ∀ (i : Nat) (x : Str) (v : V), N[i]? = some x → σ[i]? = some (some v) → (x, NameKind.free) ∈ scope.names ∧ ∃ c o u, (cellsFrom n outer []).lookup x = some c ∧ cs.lookup c = some o ∧ o.data = .cell (some u) ∧ RelV v u)
    (run : ∀ (A : Around) (out : List Env) (s : Shared) (H0 : Hp) (Q' : VK) (E' : XK), Room 5 (A.deeper (PySem.W.envX qual scope s.heap.objs.size f (.ref c') (clos scope.names (cellsFrom n outer [])))) → Same H3 H0 → (∀ (H1 : Hp) (xa : Addr), Same H0 H1 → H1 xa = none → E' (.ref (C j)) (some xa) H1) →
      ∃ t, PE (cxAt (CX1 P w) P w K mg base N (PySem.W.envX qual scope s.heap.objs.size f (.ref c') (clos scope.names (cellsFrom n outer []))) (fun _ => false) A out s H0 E') body t ∧ t σ H0 Q') : LamRef P w K mg base C (addC cs H3) f j := by
  have out : ∀ {b : Addr} {u : HO}, H3 b = some u → cs.lookup b = none := fun {b u} e => by
    cases z : cs.lookup b with
    | none => rfl
    | some o => rw [un b o z] at e; cases e
  have sub : ∀ {x : Str} {c : Addr}, (clos scope.names (cellsFrom n outer [])).lookup x = some c → (cellsFrom n outer []).lookup x = some c := fun {x c} e => by
    obtain ⟨e1, e2⟩ := clos_lookup e
    obtain ⟨c2, e3⟩ := Option.isSome_iff_exists.mp (PySem.W.cellsFrom_some outer n [] (x := x) (.inl (hsub _ e2 rfl)))
    rw [e3] at e1
    rw [e3, e1]; rfl
  refine ⟨name, qual, params, body, scope, _, pm, .ref c', ctv, fun vs H Q E => vs = [] ∧ ∃ H0 cs σ, LamAt P w K mg base 5 f c' name qual params body scope (clos scope.names (cellsFrom n outer [])) pm ctv N H Q E H0 cs σ, ?_, ?_, hb, fun H' Q' E' sH hE => ?_⟩
  · rw [addC_out (out hf)]; exact hf
  · refine lam_ok hco hgen hk hfree (fun x y c e1 e2 => ?_) (fun x e => ?_) fun vs H Q E h => h
    · exact cells_inj (n := n) (names := outer) (acc := []) (fun _ _ z => nomatch z) (fun _ _ _ z => nomatch z) x y c (PySem.mem_of_lookup (sub e1)) (PySem.mem_of_lookup (sub e2))
    · exact clos_has (PySem.mem_of_lookup e)
  · have eH := sH.cells
    have s0 : Same H3 (dropC cs H') := sH.drop un
    have frz : ∀ b o, cs.lookup b = some o → H' b = some (.frz o (.ext fun _ => True)) := fun b o z => sH b _ (addC_in z)
    refine ⟨rfl, dropC cs H', cs, σ, ⟨eH.symm, fun b o z => dropC_in z, s0 _ _ hf, s0 _ _ hc, fun x c e => all x c (sub e), len, fun i x v h1 h2 => ?_, fun A ou s hr => ?_⟩⟩
    · obtain ⟨hm, c, o, u, a1, a2, a3, a4⟩ := val i x v h1 h2
      obtain ⟨c2, a5⟩ := clos_has (cells := cellsFrom n outer []) hm
      have := sub a5
      rw [a1] at this; cases this
      exact ⟨c, o, u, a5, a2, a3, a4⟩
    · have hS : ∀ H1, Same (dropC cs H') H1 → Same H' (addC cs H1) := fun H1 s1 b o e => by
        cases z : cs.lookup b with
        | some o' =>
          rw [frz b o' z] at e; cases e
          exact addC_in z
        | none =>
          rw [addC_out z]
          exact s1 b o (by rw [dropC_out z]; exact e)
      exact run A ou s (dropC cs H') (fun v H1 => Q' v (addC cs H1)) (fun cls x H1 => (∀ b, x = some b → cs.lookup b = none) → E' cls x (addC cs H1)) hr s0 (fun H1 xa s1 hx hcs => hE _ xa (hS H1 s1) (by rw [addC_out (hcs xa rfl)]; exact hx))
end
/-- a law, its code known; nothing leaves it -/
theorem Fun.okL {P : Program} {w : World} {K : PySem.W.Frag} {mg : Str → Option Value} {base : Heap} {x qual : Str} {st : Stmt} {f : Addr} {fd : FuncData} {N ps : List Str} {k : Nat} {sp : Sp} (F : Fun K x qual st f fd) (S : FnScope N ps (defScope st)) (len : ∀ vs H Q E, sp vs H Q E → vs.length = ps.length)
    (hbody : ∀ (A : Around) (outer : List Env) (s : Shared) (H : Hp) (vs : List V) (Q : VK) (E : XK), Room k (A.deeper (envOfC qual (defScope st) s.heap.objs.size f fd.code)) → sp vs H Q E →
      ∃ t, PSs (cxOf (CX1 P w) P w K mg base N qual (defScope st) f fd.code A outer s H E).nox (defBody st) t ∧ t { nx := fun _ H' => Q .non H', rt := Q } (start N vs) H) : FnOk P w K mg base (CX1 P w) (k + 1) f fd ps sp :=
  F.okT S len fun A outer s H vs Q E hr hsp => let ⟨t, h, q⟩ := hbody A outer s H vs Q E hr hsp; ⟨t, h.nox, q⟩
/-! ### the classes' facts, by what is decided over the written part -/
section
open PySem.W
variable {K : Frag} {C D CT : Addr} {b : Bool} {cd : ClassData}
theorem kit_no (n : (C == D) = false) (h1 : clsIn K D = some cd) (h2 : typeIn K (.ref D) = some (.type "type")) (h3 : subIn K (.ref C) (.ref D) = some b) : kitOne K (.ref C) (.ref D) = some b := by
  unfold kitOne
  have n' : C ≠ D := beq_eq_false_iff_ne.mp n
  rw [if_neg (fun z => n' (Value.ref.inj (eq_of_beq z)))]
  unfold kitCls
  dsimp only
  rw [h1, h2, if_pos (by rfl)]
  exact h3
theorem kit_self : kitOne K (.ref C) (.ref C) = some true := by
  unfold kitOne
  rw [if_pos (beq_self_eq_true _)]
theorem kit_ve (h : subIn K (.ref C) (.type "ValueError") = some true) : kitOne K (.ref C) (.type "ValueError") = some true := by
  unfold kitOne
  rw [if_neg (by simp)]
  unfold kitCls
  dsimp only
  rw [if_pos (by decide +kernel)]
  exact h
theorem exm_of (h0 : subIn K (.ref CT) (.type "BaseException") = some true) (h1 : clsIn K CT = some cd) (h2 : typeIn K (.ref CT) = some (.type "type")) (h3 : subIn K (.ref C) (.ref CT) = some true) : exmOne K (.ref C) (.ref CT) = some true := by
  unfold exmOne
  rw [h0, if_pos (by rfl)]
  unfold kitCls
  dsimp only
  rw [h1, h2, if_pos (by rfl)]
  exact h3
theorem tabIn_of {x : Str} {f c P : Addr} {oc : Value} {od : Option Addr} {fd : FuncData} {osl : Array (Option Value)} {cc : Value} {cod : Option Addr} {vs : Array Value} {csl : Array (Option Value)} (h1 : nsIn K mainGlobals x = some (some (.ref f))) (h2 : K.lookup f = some ⟨oc, od, .func fd, osl⟩) (h3 : fd.code = .ref c)
    (h4 : K.lookup c = some ⟨cc, cod, .fields vs, csl⟩) (h5 : vs[11]? = some (.ref P)) : tabIn K x = some (c, P) := by
  unfold tabIn
  rw [h1]
  dsimp only
  rw [h2]
  dsimp only
  rw [h3]
  dsimp only
  rw [h4]
  dsimp only
  rw [h5]
end
/-- the refusal with this class, whatever was made until then -/
def Thr (mg : Str → Option Value) (nm : Str) (E : XK) (H : Hp) : Prop := ∀ (C x : Addr) (H' : Hp), mg nm = some (.ref C) → Same H H' → H' x = none → E (.ref C) (some x) H'
theorem Thr.same {mg : Str → Option Value} {nm : Str} {E : XK} {H H' : Hp} (h : Thr mg nm E H) (s : Same H H') : Thr mg nm E H' := fun C x H2 hm s2 hx => h C x H2 hm (s.trans s2) hx
/-- an amount that is none -/
abbrev GoodAm (m : Int) : Prop := 0 ≤ m ∧ m ≤ 1000000
theorem tSeq_i {t u : TS} {D : Ends} {σ : St} {H : Hp} (h : t { D with nx := u D } σ H) : tSeq t u D σ H := h
theorem tAsg_i {te : TE} {g : TG} {D : Ends} {σ : St} {H : Hp} (h : te σ H fun x H1 => g x σ H1 D.nx) : tAsg te g D σ H := h
theorem tLst_i {t : TA} {σ : St} {H : Hp} {Q : VK} (h : t σ H fun xs H1 => xs.length ≤ sizeLine ∧ ∀ p, H1 p = none → Q (.ref p) (upd H1 p (.lst xs))) : tLst t σ H Q := h
theorem tCons_i {ta : TE} {tr : TA} {σ : St} {H : Hp} {Q : List V → Hp → Prop} (h : ta σ H fun x H1 => tr σ H1 fun xs H2 => Q (x :: xs) H2) : tCons ta tr σ H Q := h
/-- all kept but what is at pc, and tables -/
def SameN (pc : Addr) (H H' : Hp) : Prop := ∀ b o, (∀ ps, o ≠ .tbl ps) → b ≠ pc → H b = some o → H' b = some o
theorem SameN.trans {pc : Addr} {H H1 H2 : Hp} (a : SameN pc H H1) (b : SameN pc H1 H2) : SameN pc H H2 := fun c o n h e => b c o n h (a c o n h e)
theorem SameN.upd {pc : Addr} {H : Hp} {o : HO} : SameN pc H (upd H pc o) := fun b u _ h e => by rw [upd_ne h]; exact e
theorem SameN.of_lam {pc P : Addr} {qual : Str} {H H' : Hp} (hT : TabOk P qual H) (s : ∀ b o, b ≠ P → H b = some o → H' b = some o) : SameN pc H H' := fun b o n _ e => by
  obtain ⟨ps, hp, _⟩ := hT
  exact s b o (ne_of e hp (n ps)) e
theorem TabOk.upd {P pc : Addr} {qual : Str} {H : Hp} {xs ys : List V} (hT : TabOk P qual H) (hp : H pc = some (.lst xs)) : TabOk P qual (upd H pc (.lst ys)) := by
  obtain ⟨ps, h1, h2, h3⟩ := hT
  refine ⟨ps, (upd_ne (ne_of h1 hp (by intro z; cases z))).trans h1, h2, fun pos cv e => ?_⟩
  obtain ⟨c', e1, e2⟩ := h3 pos cv e
  exact ⟨c', e1, (upd_ne (ne_of e2 hp (by intro z; cases z))).trans e2⟩
theorem TabOk.kept {P b : Addr} {qual : Str} {H H' : Hp} {o : HO} (hT : TabOk P qual H) (s : ∀ b o, b ≠ P → H b = some o → H' b = some o) (n : ∀ ps, o ≠ .tbl ps) (e : H b = some o) : H' b = some o := by
  obtain ⟨ps, hp, _⟩ := hT
  exact s b o (ne_of e hp (n ps)) e
end L2

namespace Tf
open PySem L2
def top (i : Nat) : Stmt := PySem.Challenge.pw_thawfront_k06_amounts_refused.main.body.getD i (.Pass ⟨0, 0, 0, 0⟩)
structure Txt (K : PySem.W.Frag) (mg : Str → Option Value) : Prop where
  n_ValueError : mg "ValueError" = none
  n_bool : mg "bool" = none
  n_int : mg "int" = none
  n_isinstance : mg "isinstance" = none
  n_len : mg "len" = none
  n_list : mg "list" = none
  n_max : mg "max" = none
  n_min : mg "min" = none
  n_range : mg "range" = none
  n_sum : mg "sum" = none
  n_zip : mg "zip" = none
  g_MOST_AMOUNT : ∃ t, mg "MOST_AMOUNT" = some (.int 1000000 t)
section
variable {P : Program} {w : World} {K : PySem.W.Frag} {mg : Str → Option Value} {base : Heap}
abbrev s_check_amount : Stmt := top 16
abbrev N_check_amount : List Str := ["amount"]
abbrev P_check_amount : List Str := ["amount"]
theorem sc_check_amount : FnScope N_check_amount P_check_amount (defScope s_check_amount) := ⟨rfl, rfl, rfl, by decide +kernel, rfl, by decide +kernel, by decide +kernel⟩
/-! check_amount -/
/-- an amount, or the refusal -/
def sp_check_amountX (mg : Str → Option Value) : Sp := fun vs H Q E => ∃ (m : Int), vs = [.int m] ∧ (GoodAm m → Q .non H) ∧ (¬ GoodAm m → Thr mg "BadAmount" E H)
theorem ok_check_amountX {f : Addr} {fd : FuncData} (F : Fun K "check_amount" "check_amount" s_check_amount f fd) (T : Txt K mg) {C0 : Addr} (XU : Exc K mg "BadAmount" C0) : FnOk P w K mg base (CX1 P w) 1 f fd P_check_amount (sp_check_amountX mg) := by
  refine F.okX sc_check_amount (fun vs H Q E h => ?_) (fun cdv A outer s H vs Q E hr h => ?_)
  · obtain ⟨m, rfl, _⟩ := h
    rfl
  · obtain ⟨m, rfl, q1, q2⟩ := h
    refine ⟨_, (pss_one (ps_if (PW.pt (pw_or (pt_cmpR op_lt (pv 0) pe_int (nomark _)) (pw_or1 (pt_cmpR op_gt (pv 0) (pe_gint T.g_MOST_AMOUNT) (nomark _)))))
        (pss_one (ps_raise (C := C0) (E := E) rfl XU throws_fn (pa_cons (pe_fstr (pj_str (pj_int (pe_gint T.g_MOST_AMOUNT) pj_nil))) pa_nil)))
        pss_nil)), ?_⟩
    refine ⟨_, rfl, _, _, rfl, rfl, _, rfl, ?_⟩
    refine ite2 (fun h => ?_) (fun h => ?_)
    · have h := of_decide_eq_true h
      exact iteT ⟨_, rfl, by decide, fun z => ⟨sz1000' (by show 1 ≤ 100000; decide), fun e he => q2 (by omega) C0 e _ XU.g (Same.refl _) he⟩⟩
    · have h : ¬ (m < 0) := fun c => h (decide_eq_true c)
      refine ⟨_, rfl, _, _, rfl, rfl, _, rfl, ?_⟩
      refine ite2 (fun h2 => ?_) (fun h2 => ?_)
      · have h2 := of_decide_eq_true h2
        exact ⟨_, rfl, by decide, fun z => ⟨sz1000' (by show 1 ≤ 100000; decide), fun e he => q2 (by omega) C0 e _ XU.g (Same.refl _) he⟩⟩
      · have h2 : ¬ ((1000000 : Int) < m) := fun c => h2 (decide_eq_true c)
        exact q1 (by omega)
abbrev s_shared_from_top : Stmt := top 18
abbrev N_shared_from_top : List Str := ["limits", "amount", "shares", "left", "place"]
abbrev P_shared_from_top : List Str := ["limits", "amount"]
theorem sc_shared_from_top : FnScope N_shared_from_top P_shared_from_top (defScope s_shared_from_top) := ⟨rfl, rfl, rfl, by decide +kernel, rfl, by decide +kernel, by decide +kernel⟩
/-! shared_from_top -/
def sp_shared_from_top (K : PySem.W.Frag) : Sp := fun vs H Q _ => ∃ (a : Addr) (rs : List Int) (m : Int), vs = [.ref a, .int m] ∧ SqL K H a (rs.map V.int) ∧ rs.length ≤ 1000 ∧ 0 ≤ m ∧ (∀ i, i < rs.length → 0 ≤ rs.getD i 0) ∧
  ∀ (H' : Hp) (t p : Addr), Same H H' → H t = none → H p = none → H' t = some (.tup [.ref p, .int (leftAt rs m 0)]) → H' p = some (.lst ((shares rs m).map V.int)) → Q (.ref t) H'
theorem ok_shared_from_top {f : Addr} {fd : FuncData} (F : Fun K "shared_from_top" "shared_from_top" s_shared_from_top f fd) (T : Txt K mg) : FnOk P w K mg base CX0 1 f fd P_shared_from_top (sp_shared_from_top K) := by
  refine F.ok sc_shared_from_top (fun vs H Q E h => ?_) (fun cdv A outer s H vs Q E hr h => ?_)
  · obtain ⟨a, rs, m, rfl, _⟩ := h
    rfl
  · obtain ⟨a, rs, m, rfl, hA, hn, hm, hx, q⟩ := h
    refine ⟨_, (pss_cons (ps_set (i := 2) sc_shared_from_top.nd rfl (Or.inl rfl) (pe_list T.n_list (pv 0)))
      (pss_cons (ps_set (i := 3) sc_shared_from_top.nd rfl (Or.inl rfl) (pv 1))
      (pss_cons (ps_for PassesOwn.never rfl (pi_rangeD (by rfl) T.n_range (pa_cons (pe_op op_sub (pe_len T.n_len (pv 0)) pe_int) (pa_cons (pe_un un_neg pe_int) (pa_cons (pe_un un_neg pe_int) pa_nil)))) (pg_name (i := 4) sc_shared_from_top.nd rfl (Or.inl rfl))
        (pss_cons (ps_asg (pe_min (by rfl) T.n_min (pv 3) (pe_ix ix_list (pv 0) (pv 4) (fun _ _ => rfl))) (pg_sub (pv 2) (pv 4) set_list))
        (pss_one (ps_set (i := 3) sc_shared_from_top.nd rfl (Or.inl rfl) (pe_op op_sub (pv 3) (pe_ix ix_list (pv 2) (pv 4) (fun _ _ => rfl)))))))
      (pss_one (ps_ret (pe_tup (pa_cons (pv 2) (pa_cons (pv 3) pa_nil)))))))), ?_⟩
    refine ⟨_, rfl, a, _, rfl, .inl hA, fun p hp => ?_⟩
    refine ⟨_, rfl, _, rfl, a, _, rfl, .inl (hA.upd hp), _, _, rfl, rfl, _, rfl, _, rfl, _, _, rfl, by rw [List.length_map]; omega, ?_⟩
    refine for_rangeD (fun i σ H2 => (∃ v, σ = [some (.ref a), some (.int m), some (.ref p), some (.int (leftAt rs m (rs.length - i))), v]) ∧ H2 = upd H p (.lst (((List.range rs.length).map fun j => if j < rs.length - i then rs.getD j 0 else shareAt rs m j).map V.int))) ?_ ?_ ?_
    · refine ⟨⟨none, by rw [Nat.sub_zero, leftAt_top (Nat.le_refl _) hm]; rfl⟩, ?_⟩
      rw [Nat.sub_zero, range_congr (g := fun j => rs.getD j 0) fun i hi => if_pos hi, ← list_range rs]
    · rintro i σ H2 hi ⟨⟨v, rfl⟩, rfl⟩
      have hi' : i < rs.length := by rw [List.length_map] at hi; omega
      have e0 : ((rs.map V.int).length : Int) - 1 - (i : Int) = ((rs.length - i - 1 : Nat) : Int) := by rw [List.length_map]; omega
      rw [e0]
      generalize hk : rs.length - i - 1 = k at *
      have hk1 : rs.length - i = k + 1 := by omega
      have hkn : k < rs.length := by omega
      rw [hk1]
      refine ⟨_, rfl, _, rfl, _, rfl, a, _, _, _, rfl, rfl, hA.upd hp, atI_int hkn, _, _, rfl, ?_⟩
      have es : (if rs.getD k 0 < leftAt rs m (k + 1) then rs.getD k 0 else leftAt rs m (k + 1)) = shareAt rs m k := by unfold shareAt; split <;> omega
      rw [es]
      refine ⟨_, rfl, _, rfl, p, _, _, k, rfl, rfl, upd_same, ?_, ?_⟩
      · unfold ixN
        rw [if_pos (by omega), if_pos (by simp; omega), Int.toNat_natCast]
      rw [setI, set_range, upd_upd]
      have ef : (List.range rs.length).map (fun j => if j = k then shareAt rs m k else if j < k + 1 then rs.getD j 0 else shareAt rs m j) = (List.range rs.length).map (fun j => if j < k then rs.getD j 0 else shareAt rs m j) := by
        refine range_congr fun j _ => ?_
        by_cases h : j = k
        · rw [if_pos h, if_neg (by omega), h]
        · by_cases h' : j < k
          · rw [if_neg h, if_pos (by omega), if_pos h']
          · rw [if_neg h, if_neg (by omega), if_neg h']
      rw [ef]
      refine ⟨_, rfl, _, rfl, _, rfl, p, _, _, _, rfl, rfl, SqL.of upd_same, atI_int (by simpa using hkn), _, _, rfl, rfl, ⟨some (.int ((k : Nat) : Int)), ?_⟩, ?_⟩
      · rw [getD_rangeMap hkn, if_neg (by omega), leftAt_step hkn (hx k hkn)]
        rfl
      · rfl
    · rintro σ H2 ⟨⟨v, rfl⟩, e2⟩
      have en : (((rs.map V.int).length : Int) - 1 - -1).toNat = rs.length := by rw [List.length_map]; omega
      rw [en, Nat.sub_self] at e2 ⊢
      have ef : (List.range rs.length).map (fun j => if j < 0 then rs.getD j 0 else shareAt rs m j) = shares rs m := range_congr fun j _ => if_neg (by omega)
      rw [ef] at e2
      refine ⟨_, rfl, _, rfl, sz1000' (by show 2 ≤ 100000; decide), fun t ft => ?_⟩
      have s2 : Same H H2 := by rw [e2]; exact Same.upd hp
      have h2 : H2 p = some (.lst ((shares rs m).map V.int)) := by rw [e2]; exact upd_same
      exact q _ t p (s2.trans (Same.upd ft)) (s2.free ft) hp upd_same (by rw [upd_ne (ne_of_none h2 ft)]; exact h2)
abbrev s_warmed : Stmt := top 19
abbrev N_warmed : List Str := ["needs", "heats", "amount", "rooms", "shared"]
abbrev P_warmed : List Str := ["needs", "heats", "amount"]
theorem sc_warmed : FnScope N_warmed P_warmed (defScope s_warmed) := ⟨rfl, rfl, rfl, by decide +kernel, rfl, by decide +kernel, by decide +kernel⟩
/-! warmed -/
def sp_warmedX (K : PySem.W.Frag) (mg : Str → Option Value) : Sp := fun vs H Q E => ∃ (a b : Addr) (needs heats : List Int) (m : Int), vs = [.ref a, .ref b, .int m] ∧ SqL K H a (needs.map V.int) ∧ SqL K H b (heats.map V.int) ∧ heats.length = needs.length ∧ needs.length ≤ 1000 ∧
  (∀ i, i < needs.length → heats.getD i 0 ≤ needs.getD i 0) ∧ (GoodAm m →
  ∀ (H' : Hp) (t p : Addr), Same H H' → H t = none → H p = none → H' t = some (.tup [.ref p, .int (leftAt (rooms needs heats) m 0)]) → H' p = some (.lst ((warmL needs heats m).map V.int)) → Q (.ref t) H') ∧ (¬ GoodAm m → Thr mg "BadAmount" E H)
theorem ok_warmedX {f : Addr} {fd : FuncData} (F : Fun K "warmed" "warmed" s_warmed f fd) (T : Txt K mg) (o_check_amount : OkX P w K mg base "check_amount" P_check_amount 1 (sp_check_amountX mg)) (o_shared_from_top : Ok P w K mg base "shared_from_top" P_shared_from_top 1 (sp_shared_from_top K)) : FnOk P w K mg base (CX1 P w) 2 f fd P_warmed (sp_warmedX K mg) := by
  refine F.okX sc_warmed (fun vs H Q E h => ?_) (fun cdv A outer s H vs Q E hr h => ?_)
  · obtain ⟨a, b, needs, heats, m, rfl, _⟩ := h
    rfl
  · obtain ⟨a, b, needs, heats, m, rfl, hA, hB, hl, hn, hx, q, q2⟩ := h
    refine ⟨_, (pss_cons (ps_expr (pe_callX o_check_amount hr (pass_fn (E := E)) (pa_cons (pv 2) pa_nil)))
      (pss_cons (ps_setC (i := 3) rfl sc_warmed.nd rfl rfl (CompScope.of (T := ["need", "heat"]) (js := []) (defScope s_warmed).names N_warmed rfl rfl rfl (by decide +kernel)) (pi_zip (by rfl) T.n_zip (pa_cons (pv 0) (pa_cons (pv 1) pa_nil))) (fun _ _ _ _ => ⟨(pg_tupK K (n := 2) (by rfl) (pgs_cons (pg_name (i := 0) (by show List.Nodup (["need", "heat"] : List Str); decide +kernel) rfl (Or.inl rfl)) (pgs_cons (pg_name (i := 1) (by show List.Nodup (["need", "heat"] : List Str); decide +kernel) rfl (Or.inl rfl)) pgs_nil))), pif_nil, (pe_op op_sub (pv 0) (pv 1))⟩))
      (pss_cons (ps_set (i := 4) sc_warmed.nd rfl (Or.inl rfl) (pe_callO o_shared_from_top hr (pa_cons (pv 3) (pa_cons (pv 2) pa_nil))))
      (pss_one (ps_ret (pe_tup (pa_cons (pe_comp rfl (CompScope.of (T := ["heat", "share"]) (js := []) (defScope s_warmed).names N_warmed rfl rfl rfl (by decide +kernel)) (pi_zip (by rfl) T.n_zip (pa_cons (pv 1) (pa_cons (pe_ix ix_tup (pv 4) pe_int (fun _ _ => rfl)) pa_nil))) (fun _ _ _ _ => ⟨(pg_tupK K (n := 2) (by rfl) (pgs_cons (pg_name (i := 0) (by show List.Nodup (["heat", "share"] : List Str); decide +kernel) rfl (Or.inl rfl)) (pgs_cons (pg_name (i := 1) (by show List.Nodup (["heat", "share"] : List Str); decide +kernel) rfl (Or.inl rfl)) pgs_nil))), pif_nil, (pe_op op_add (pv 0) (pv 1))⟩)) (pa_cons (pe_ix ix_tup (pv 4) pe_int (fun _ _ => rfl)) pa_nil)))))))), ?_⟩
    refine ⟨_, rfl, m, rfl, fun hg => ?_, q2⟩
    have q := q hg
    obtain ⟨h0, h1⟩ := hg
    refine ⟨_, rfl, _, rfl, a, b, rfl, ⟨_, hA⟩, ⟨_, hB⟩, fun pr fpr => ?_⟩
    refine comp_zip_ints (fun n h => n - h) hl.symm hn hA hB fpr (fun x y H Q' q => ⟨_, rfl, _, rfl, _, _, rfl, rfl, q⟩) fun H1 s1 h1r => ?_
    have hr0 : ∀ i, i < (rooms needs heats).length → 0 ≤ (rooms needs heats).getD i 0 := fun i hi => by
      rw [rooms_len hl] at hi
      rw [rooms_at hl hi]
      have := hx i hi
      omega
    refine ⟨_, rfl, _, rfl, pr, rooms needs heats, m, rfl, SqL.of h1r, by rw [rooms_len hl]; exact hn, h0, hr0, fun H2 t ps s2 ft fps ht hps => ?_⟩
    refine ⟨_, rfl, _, rfl, t, _, _, _, rfl, rfl, SqT.of ht, rfl, b, ps, rfl, ⟨_, (s1.trans s2).seq hB⟩, ⟨_, SqL.of hps⟩, fun pw fpw => ?_⟩
    refine comp_zip_ints (fun h s => h + s) (by rw [shares_len, rooms_len hl, hl]) (by omega) ((s1.trans s2).seq hB) (SqL.of hps) fpw (fun x y H Q' q => ⟨_, rfl, _, rfl, _, _, rfl, rfl, q⟩) fun H3 s3 h3w => ?_
    refine ⟨_, rfl, t, _, _, _, rfl, rfl, SqT.of (s3 _ _ ht), rfl, sz1000' (by show 2 ≤ 100000; decide), fun t' ft' => ?_⟩
    have s4 : Same H H3 := (s1.trans s2).trans s3
    exact q _ t' pw (s4.trans (Same.upd ft')) (s4.free ft') ((s1.trans s2).free fpw) upd_same (by rw [upd_ne (ne_of_none h3w ft')]; exact h3w)
abbrev s_chilled : Stmt := top 20
abbrev N_chilled : List Str := ["needs", "heats", "amount", "shared"]
abbrev P_chilled : List Str := ["needs", "heats", "amount"]
theorem sc_chilled : FnScope N_chilled P_chilled (defScope s_chilled) := ⟨rfl, rfl, rfl, by decide +kernel, rfl, by decide +kernel, by decide +kernel⟩
/-! chilled -/
def sp_chilledX (K : PySem.W.Frag) (mg : Str → Option Value) : Sp := fun vs H Q E => ∃ (x : V) (b : Addr) (heats : List Int) (m : Int), vs = [x, .ref b, .int m] ∧ SqL K H b (heats.map V.int) ∧ heats.length ≤ 1000 ∧
  (∀ i, i < heats.length → 0 ≤ heats.getD i 0) ∧ (GoodAm m →
  ∀ (H' : Hp) (t p : Addr), Same H H' → H t = none → H p = none → H' t = some (.tup [.ref p, .int (leftAt heats m 0)]) → H' p = some (.lst ((coldL heats m).map V.int)) → Q (.ref t) H') ∧ (¬ GoodAm m → Thr mg "BadAmount" E H)
theorem ok_chilledX {f : Addr} {fd : FuncData} (F : Fun K "chilled" "chilled" s_chilled f fd) (T : Txt K mg) (o_check_amount : OkX P w K mg base "check_amount" P_check_amount 1 (sp_check_amountX mg)) (o_shared_from_top : Ok P w K mg base "shared_from_top" P_shared_from_top 1 (sp_shared_from_top K)) : FnOk P w K mg base (CX1 P w) 2 f fd P_chilled (sp_chilledX K mg) := by
  refine F.okX sc_chilled (fun vs H Q E h => ?_) (fun cdv A outer s H vs Q E hr h => ?_)
  · obtain ⟨x, b, heats, m, rfl, _⟩ := h
    rfl
  · obtain ⟨x, b, heats, m, rfl, hB, hn, hx, q, q2⟩ := h
    refine ⟨_, (pss_cons (ps_expr (pe_callX o_check_amount hr (pass_fn (E := E)) (pa_cons (pv 2) pa_nil)))
      (pss_cons (ps_set (i := 3) sc_chilled.nd rfl (Or.inl rfl) (pe_callO o_shared_from_top hr (pa_cons (pv 1) (pa_cons (pv 2) pa_nil))))
      (pss_one (ps_ret (pe_tup (pa_cons (pe_comp rfl (CompScope.of (T := ["heat", "share"]) (js := []) (defScope s_chilled).names N_chilled rfl rfl rfl (by decide +kernel)) (pi_zip (by rfl) T.n_zip (pa_cons (pv 1) (pa_cons (pe_ix ix_tup (pv 3) pe_int (fun _ _ => rfl)) pa_nil))) (fun _ _ _ _ => ⟨(pg_tupK K (n := 2) (by rfl) (pgs_cons (pg_name (i := 0) (by show List.Nodup (["heat", "share"] : List Str); decide +kernel) rfl (Or.inl rfl)) (pgs_cons (pg_name (i := 1) (by show List.Nodup (["heat", "share"] : List Str); decide +kernel) rfl (Or.inl rfl)) pgs_nil))), pif_nil, (pe_op op_sub (pv 0) (pv 1))⟩)) (pa_cons (pe_ix ix_tup (pv 3) pe_int (fun _ _ => rfl)) pa_nil))))))), ?_⟩
    refine ⟨_, rfl, m, rfl, fun hg => ?_, q2⟩
    have q := q hg
    obtain ⟨h0, h1⟩ := hg
    refine ⟨_, rfl, _, rfl, b, heats, m, rfl, hB, hn, h0, hx, fun H2 t ps s2 ft fps ht hps => ?_⟩
    refine ⟨_, rfl, _, rfl, t, _, _, _, rfl, rfl, SqT.of ht, rfl, b, ps, rfl, ⟨_, s2.seq hB⟩, ⟨_, SqL.of hps⟩, fun pw fpw => ?_⟩
    refine comp_zip_ints (fun h s => h - s) (by rw [shares_len]) hn (s2.seq hB) (SqL.of hps) fpw (fun x y H Q' q => ⟨_, rfl, _, rfl, _, _, rfl, rfl, q⟩) fun H3 s3 h3w => ?_
    refine ⟨_, rfl, t, _, _, _, rfl, rfl, SqT.of (s3 _ _ ht), rfl, sz1000' (by show 2 ≤ 100000; decide), fun t' ft' => ?_⟩
    have s4 : Same H H3 := s2.trans s3
    exact q _ t' pw (s4.trans (Same.upd ft')) (s4.free ft') (s2.free fpw) upd_same (by rw [upd_ne (ne_of_none h3w ft')]; exact h3w)
abbrev s_passed : Stmt := top 21
abbrev N_passed : List Str := ["needs", "heats", "seasons", "now", "no_room", "no_heat", "kind", "amount", "behind"]
abbrev P_passed : List Str := ["needs", "heats", "seasons"]
theorem sc_passed : FnScope N_passed P_passed (defScope s_passed) := ⟨rfl, rfl, rfl, by decide +kernel, rfl, by decide +kernel, by decide +kernel⟩
/-! passed -/
def sp_passedX (K : PySem.W.Frag) (mg : Str → Option Value) : Sp := fun vs H Q E => ∃ (a b c : Addr) (needs heats : List Int) (ts : List Addr) (ss : List (Bool × Int)), vs = [.ref a, .ref b, .ref c] ∧ SqL K H a (needs.map V.int) ∧ SqL K H b (heats.map V.int) ∧ SqL K H c (ts.map V.ref) ∧ SeasAt H ts ss ∧
  HeatsOk needs heats ∧ needs.length ≤ 1000 ∧ (∃ z ∈ ss, ¬ GoodAm z.2) ∧ Thr mg "BadAmount" E H
theorem ok_passedX {f : Addr} {fd : FuncData} (F : Fun K "passed" "passed" s_passed f fd) (T : Txt K mg) (o_warmed : OkX P w K mg base "warmed" P_warmed 2 (sp_warmedX K mg)) (o_chilled : OkX P w K mg base "chilled" P_chilled 2 (sp_chilledX K mg)) : FnOk P w K mg base (CX1 P w) 3 f fd P_passed (sp_passedX K mg) := by
  refine F.okX sc_passed (fun vs H Q E h => ?_) (fun cdv A outer s H vs Q E hr h => ?_)
  · obtain ⟨a, b, c, needs, heats, ts, ss, rfl, _⟩ := h
    rfl
  · obtain ⟨a, b, c, needs, heats, ts, ss, rfl, hA, hB, hC, hS, hO, hn, hbad, q⟩ := h
    refine ⟨_, (pss_cons (ps_set (i := 3) sc_passed.nd rfl (Or.inl rfl) (pe_list T.n_list (pv 1)))
      (pss_cons (ps_set (i := 4) sc_passed.nd rfl (Or.inl rfl) pe_int)
      (pss_cons (ps_set (i := 5) sc_passed.nd rfl (Or.inl rfl) pe_int)
      (pss_cons (ps_for PassesOwn.leaving rfl (pi_list (pv 2)) (pg_tup (n := 2) (by rfl) (pgs_cons (pg_name (i := 6) sc_passed.nd rfl (Or.inl rfl)) (pgs_cons (pg_name (i := 7) sc_passed.nd rfl (Or.inl rfl)) pgs_nil)))
        (pss_cons (ps_if (pt_cmpR op_eq (pv 6) pe_str (nomark _))
          (pss_cons (ps_set (i := 8) sc_passed.nd rfl (Or.inl rfl) (pe_callX o_warmed hr (pass_fn (E := E)) (pa_cons (pv 0) (pa_cons (pv 3) (pa_cons (pv 7) pa_nil)))))
          (pss_one (ps_set (i := 4) sc_passed.nd rfl (Or.inl rfl) (pe_op op_add (pv 4) (pe_ix ix_tup (pv 8) pe_int (fun _ _ => rfl))))))
          (pss_cons (ps_set (i := 8) sc_passed.nd rfl (Or.inl rfl) (pe_callX o_chilled hr (pass_fn (E := E)) (pa_cons (pv 0) (pa_cons (pv 3) (pa_cons (pv 7) pa_nil)))))
          (pss_one (ps_set (i := 5) sc_passed.nd rfl (Or.inl rfl) (pe_op op_add (pv 5) (pe_ix ix_tup (pv 8) pe_int (fun _ _ => rfl)))))))
        (pss_one (ps_set (i := 3) sc_passed.nd rfl (Or.inl rfl) (pe_ix ix_tup (pv 8) pe_int (fun _ _ => rfl))))))
      (pss_one (ps_ret (pe_tup (pa_cons (pv 3) (pa_cons (pv 4) (pa_cons (pv 5) pa_nil)))))))))), ?_⟩
    refine ⟨_, rfl, b, _, rfl, .inl hB, fun p0 f0 => ?_⟩
    refine ⟨_, rfl, c, rfl, ⟨_, hC.upd f0⟩, ?_⟩
    refine for_list (xs := ts.map V.ref) (fun i σ H2 => ∃ (p : Addr) (v6 v7 v8 : Option V), σ = [some (.ref a), some (.ref b), some (.ref c), some (.ref p), some (.int (passL needs heats (ss.take i)).room), some (.int (passL needs heats (ss.take i)).heat), v6, v7, v8] ∧
      (∀ z ∈ ss.take i, GoodAm z.2) ∧ Same H H2 ∧ H p = none ∧ H2 p = some (.lst ((passL needs heats (ss.take i)).heats.map V.int))) ?_ ?_ ?_ ?_
    · exact ⟨p0, none, none, none, by rw [List.take_zero]; rfl, by simp, Same.upd f0, f0, by rw [List.take_zero]; exact upd_same⟩
    · rintro i σ H2 _ ⟨_, _, _, _, _, _, s2, _⟩
      exact s2.seq hC
    · rintro i x σ H2 hx ⟨p, v6, v7, v8, rfl, hz, s2, fp, h2p⟩
      rw [List.getElem?_map] at hx
      cases et : ts[i]? with
      | none => rw [et] at hx; cases hx
      | some t =>
        rw [et] at hx
        obtain rfl : V.ref t = x := Option.some.inj hx
        have hi : i < ss.length := by rw [← hS.len]; exact (List.getElem?_eq_some_iff.mp et).1
        have ez : ss[i]? = some ss[i] := List.getElem?_eq_getElem hi
        generalize ss[i] = z at ez
        obtain ⟨t', e1, e2⟩ := hS.at' i z ez
        rw [et] at e1
        cases e1
        have hzn : GoodAm z.2 → ∀ y ∈ ss.take (i + 1), GoodAm y.2 := fun hg y hy => by
          rw [take_snoc ez] at hy
          rcases List.mem_append.mp hy with h | h
          · exact hz y h
          · have : y = z := by simpa using h
            rw [this]; exact hg
        have hOk := passL_ok hO (ss.take i)
        have hst : passL needs heats (ss.take (i + 1)) = stepS needs (passL needs heats (ss.take i)) z := by rw [take_snoc ez, passL_snoc]
        generalize passL needs heats (ss.take i) = R at *
        refine ⟨t, _, rfl, SqT.of (s2 _ _ e2), rfl, _, _, rfl, _, _, rfl, rfl, ?_⟩
        refine ⟨_, rfl, rfl, _, rfl, ?_⟩
        rw [kind_warm]
        refine ite2 (fun hb => ?_) (fun hb => ?_)
        · refine ⟨_, rfl, _, rfl, _, rfl, a, p, needs, R.heats, z.2, rfl, s2.seq hA, SqL.of h2p, hOk.len, hn, hOk.hi, fun hg H3 t3 p3 s3 ft3 fp3 ht3 hp3 => ?_, fun _ => q.same s2⟩
          refine ⟨_, rfl, _, rfl, t3, _, _, _, rfl, rfl, SqT.of ht3, rfl, _, _, rfl, rfl, ?_⟩
          refine ⟨_, rfl, t3, _, _, _, rfl, rfl, SqT.of ht3, rfl, p3, some (.str (kindS z.1)), some (.int z.2), some (.ref t3), ?_, hzn hg, s2.trans s3, s2.free fp3, ?_⟩
          · rw [hst]
            unfold stepS seasLeft
            rw [if_pos hb, if_pos hb, if_pos hb]
            rfl
          · rw [hst, hp3]
            unfold stepS seasL
            rw [if_pos hb]
        · refine ⟨_, rfl, _, rfl, _, rfl, _, p, R.heats, z.2, rfl, SqL.of h2p, by rw [hOk.len]; exact hn, fun i hi => hOk.lo i (by rw [← hOk.len]; exact hi), fun hg H3 t3 p3 s3 ft3 fp3 ht3 hp3 => ?_, fun _ => q.same s2⟩
          refine ⟨_, rfl, _, rfl, t3, _, _, _, rfl, rfl, SqT.of ht3, rfl, _, _, rfl, rfl, ?_⟩
          refine ⟨_, rfl, t3, _, _, _, rfl, rfl, SqT.of ht3, rfl, p3, some (.str (kindS z.1)), some (.int z.2), some (.ref t3), ?_, hzn hg, s2.trans s3, s2.free fp3, ?_⟩
          · rw [hst]
            unfold stepS seasLeft
            rw [if_neg hb, if_neg hb, if_neg hb]
            rfl
          · rw [hst, hp3]
            unfold stepS seasL
            rw [if_neg hb]
    · rintro σ H2 ⟨p, v6, v7, v8, rfl, hz, s2, fp, h2p⟩
      have el : ss.take (ts.map V.ref).length = ss := List.take_of_length_le (by rw [List.length_map, hS.len]; exact Nat.le_refl _)
      rw [el] at hz
      obtain ⟨z, hm, hb⟩ := hbad
      exact absurd (hz z hm) hb
abbrev s_still : Stmt := top 23
abbrev N_still : List Str := ["full"]
abbrev P_still : List Str := ["full"]
theorem sc_still : FnScope N_still P_still (defScope s_still) := ⟨rfl, rfl, rfl, by decide +kernel, rfl, by decide +kernel, by decide +kernel⟩
/-! still -/
def sp_still : Sp := fun vs H Q _ => ∃ (full : Int), vs = [.int full] ∧ ∀ (H' : Hp) (t : Addr), Same H H' → H t = none → H' t = some (.tup [.int 0, .int 0, .int full]) → Q (.ref t) H'
theorem ok_still {f : Addr} {fd : FuncData} (F : Fun K "still" "still" s_still f fd) (T : Txt K mg) : FnOk P w K mg base CX0 1 f fd P_still sp_still := by
  refine F.ok sc_still (fun vs H Q E h => ?_) (fun cdv A outer s H vs Q E hr h => ?_)
  · obtain ⟨full, rfl, _⟩ := h
    rfl
  · obtain ⟨full, rfl, q⟩ := h
    refine ⟨_, (pss_one (ps_ret (pe_tup (pa_cons pe_int (pa_cons pe_int (pa_cons (pv 0) pa_nil)))))), ?_⟩
    exact ⟨_, rfl, sz1000' (by show 3 ≤ 100000; decide), fun t ht => q _ t (Same.upd ht) ht upd_same⟩
abbrev s_applied : Stmt := top 24
abbrev N_applied : List Str := ["rule", "heat", "behind"]
abbrev P_applied : List Str := ["rule", "heat"]
theorem sc_applied : FnScope N_applied P_applied (defScope s_applied) := ⟨rfl, rfl, rfl, by decide +kernel, rfl, by decide +kernel, by decide +kernel⟩
/-! applied -/
/-- a rule made of a heat -/
def sp_applied (K : PySem.W.Frag) : Sp := fun vs H Q _ => ∃ (r : Addr) (d l m x : Int), vs = [.ref r, .int x] ∧ SqT K H r [.int d, .int l, .int m] ∧ l ≤ m ∧ ∀ H', Same H H' → Q (.int (clampI (x + d) l m)) H'
theorem ok_applied {f : Addr} {fd : FuncData} (F : Fun K "applied" "applied" s_applied f fd) (T : Txt K mg) : FnOk P w K mg base CX0 1 f fd P_applied (sp_applied K) := by
  refine F.ok sc_applied (fun vs H Q E h => ?_) (fun cdv A outer s H vs Q E hr h => ?_)
  · obtain ⟨r, d, l, m, x, rfl, _⟩ := h
    rfl
  · obtain ⟨r, d, l, m, x, rfl, hr', hlm, q⟩ := h
    have q := q H (Same.refl H)
    refine ⟨_, (pss_cons (ps_set (i := 2) sc_applied.nd rfl (Or.inl rfl) (pe_op op_add (pv 1) (pe_ix ix_tup (pv 0) pe_int (fun _ _ => rfl))))
      (pss_cons (ps_if (pt_cmpR op_lt (pv 2) (pe_ix ix_tup (pv 0) pe_int (fun _ _ => rfl)) (nomark _))
        (pss_one (ps_ret (pe_ix ix_tup (pv 0) pe_int (fun _ _ => rfl))))
        pss_nil)
      (pss_cons (ps_if (pt_cmpR op_gt (pv 2) (pe_ix ix_tup (pv 0) pe_int (fun _ _ => rfl)) (nomark _))
        (pss_one (ps_ret (pe_ix ix_tup (pv 0) pe_int (fun _ _ => rfl))))
        pss_nil)
      (pss_one (ps_ret (pv 2)))))), ?_⟩
    refine ⟨_, rfl, _, rfl, r, _, _, _, rfl, rfl, hr', rfl, _, _, rfl, rfl, ?_⟩
    refine ⟨_, rfl, _, rfl, r, _, _, _, rfl, rfl, hr', rfl, _, _, rfl, rfl, _, rfl, ?_⟩
    refine ite2 (fun h => ?_) (fun h => ?_)
    · have h := of_decide_eq_true h
      have e : clampI (x + d) l m = l := by unfold clampI; (repeat' split) <;> omega
      rw [e] at q
      exact ⟨_, rfl, r, _, _, _, rfl, rfl, hr', rfl, q⟩
    · have h : ¬ (x + d < l) := fun c => h (decide_eq_true c)
      refine ⟨_, rfl, _, rfl, r, _, _, _, rfl, rfl, hr', rfl, _, _, rfl, rfl, _, rfl, ?_⟩
      refine ite2 (fun h2 => ?_) (fun h2 => ?_)
      · have h2 := of_decide_eq_true h2
        have e : clampI (x + d) l m = m := by unfold clampI; (repeat' split) <;> omega
        rw [e] at q
        exact ⟨_, rfl, r, _, _, _, rfl, rfl, hr', rfl, q⟩
      · have h2 : ¬ (m < x + d) := fun c => h2 (decide_eq_true c)
        have e : clampI (x + d) l m = x + d := by unfold clampI; (repeat' split) <;> omega
        rw [e] at q
        exact ⟨_, rfl, q⟩
abbrev s_joined : Stmt := top 25
abbrev N_joined : List Str := ["first", "second"]
abbrev P_joined : List Str := ["first", "second"]
theorem sc_joined : FnScope N_joined P_joined (defScope s_joined) := ⟨rfl, rfl, rfl, by decide +kernel, rfl, by decide +kernel, by decide +kernel⟩
/-! joined -/
/-- two rules joined: a new tuple -/
def sp_joined (K : PySem.W.Frag) : Sp := fun vs H Q _ => ∃ (r1 r2 : Addr) (d1 l1 m1 d2 l2 m2 : Int), vs = [.ref r1, .ref r2] ∧ SqT K H r1 [.int d1, .int l1, .int m1] ∧ SqT K H r2 [.int d2, .int l2, .int m2] ∧ l1 ≤ m1 ∧ l2 ≤ m2 ∧
  ∀ (H' : Hp) (t : Addr), Same H H' → H t = none → H' t = some (.tup [.int (d1 + d2), .int (clampI (l1 + d2) l2 m2), .int (clampI (m1 + d2) l2 m2)]) → Q (.ref t) H'
theorem ok_joined {f : Addr} {fd : FuncData} (F : Fun K "joined" "joined" s_joined f fd) (T : Txt K mg) (o_applied : Ok P w K mg base "applied" P_applied 1 (sp_applied K)) : FnOk P w K mg base CX0 2 f fd P_joined (sp_joined K) := by
  refine F.ok sc_joined (fun vs H Q E h => ?_) (fun cdv A outer s H vs Q E hr h => ?_)
  · obtain ⟨r1, r2, d1, l1, m1, d2, l2, m2, rfl, _⟩ := h
    rfl
  · obtain ⟨r1, r2, d1, l1, m1, d2, l2, m2, rfl, hA, hB, h1, h2, q⟩ := h
    refine ⟨_, (pss_one (ps_ret (pe_tup (pa_cons (pe_op op_add (pe_ix ix_tup (pv 0) pe_int (fun _ _ => rfl)) (pe_ix ix_tup (pv 1) pe_int (fun _ _ => rfl))) (pa_cons (pe_callO o_applied hr (pa_cons (pv 1) (pa_cons (pe_ix ix_tup (pv 0) pe_int (fun _ _ => rfl)) pa_nil))) (pa_cons (pe_callO o_applied hr (pa_cons (pv 1) (pa_cons (pe_ix ix_tup (pv 0) pe_int (fun _ _ => rfl)) pa_nil))) pa_nil)))))), ?_⟩
    refine ⟨_, rfl, r1, _, _, _, rfl, rfl, hA, rfl, _, rfl, r2, _, _, _, rfl, rfl, hB, rfl, _, _, rfl, rfl, ?_⟩
    refine ⟨_, rfl, _, rfl, r1, _, _, _, rfl, rfl, hA, rfl, r2, d2, l2, m2, l1, rfl, hB, h2, fun H1 s1 => ?_⟩
    refine ⟨_, rfl, _, rfl, r1, _, _, _, rfl, rfl, s1.tup hA, rfl, r2, d2, l2, m2, m1, rfl, s1.tup hB, h2, fun H2 s2 => ?_⟩
    refine ⟨sz1000' (by show 3 ≤ 100000; decide), fun t ht => ?_⟩
    exact q _ t ((s1.trans s2).trans (Same.upd ht)) (none_of (s1.trans s2) ht) upd_same
abbrev s_season_rule : Stmt := top 26
abbrev N_season_rule : List Str := ["full", "season", "amount"]
abbrev P_season_rule : List Str := ["full", "season"]
theorem sc_season_rule : FnScope N_season_rule P_season_rule (defScope s_season_rule) := ⟨rfl, rfl, rfl, by decide +kernel, rfl, by decide +kernel, by decide +kernel⟩
/-! season_rule -/
/-- the rule of one season -/
def sp_season_ruleX (K : PySem.W.Frag) (mg : Str → Option Value) : Sp := fun vs H Q E => ∃ (full : Int) (t : Addr) (z : Bool × Int), vs = [.int full, .ref t] ∧ H t = some (.tup [.str (kindS z.1), .int z.2]) ∧ 0 ≤ full ∧ (GoodAm z.2 →
  ∀ (H' : Hp) (r : Addr), Same H H' → H r = none → H' r = some (.tup (seasR full z).vs) → Q (.ref r) H') ∧ (¬ GoodAm z.2 → Thr mg "BadAmount" E H)
theorem ok_season_ruleX {f : Addr} {fd : FuncData} (F : Fun K "season_rule" "season_rule" s_season_rule f fd) (T : Txt K mg) (o_check_amount : OkX P w K mg base "check_amount" P_check_amount 1 (sp_check_amountX mg)) : FnOk P w K mg base (CX1 P w) 2 f fd P_season_rule (sp_season_ruleX K mg) := by
  refine F.okX sc_season_rule (fun vs H Q E h => ?_) (fun cdv A outer s H vs Q E hr h => ?_)
  · obtain ⟨full, t, z, rfl, _⟩ := h
    rfl
  · obtain ⟨full, t, z, rfl, hT, hf, q, q2⟩ := h
    refine ⟨_, (pss_cons (ps_set (i := 2) sc_season_rule.nd rfl (Or.inl rfl) (pe_ix ix_tup (pv 1) pe_int (fun _ _ => rfl)))
      (pss_cons (ps_expr (pe_callX o_check_amount hr (pass_fn (E := E)) (pa_cons (pv 2) pa_nil)))
      (pss_cons (ps_if (pt_cmpR op_eq (pe_ix ix_tup (pv 1) pe_int (fun _ _ => rfl)) pe_str (nomark _))
        (pss_one (ps_ret (pe_tup (pa_cons (pv 2) (pa_cons (pe_min (by rfl) T.n_min (pv 2) (pv 0)) (pa_cons (pv 0) pa_nil))))))
        pss_nil)
      (pss_one (ps_ret (pe_tup (pa_cons (pe_un un_neg (pv 2)) (pa_cons pe_int (pa_cons (pe_max (by rfl) T.n_max pe_int (pe_op op_sub (pv 0) (pv 2))) pa_nil))))))))), ?_⟩
    refine ⟨_, rfl, t, _, _, _, rfl, rfl, SqT.of hT, rfl, ?_⟩
    refine ⟨_, rfl, z.2, rfl, fun hg => ?_, q2⟩
    have q := q hg
    obtain ⟨z0, z1⟩ := hg
    refine ⟨_, rfl, t, _, _, _, rfl, rfl, SqT.of hT, rfl, rfl, _, rfl, ?_⟩
    rw [kind_warm]
    unfold seasR at q
    cases e : z.1 with
    | true =>
      rw [e, if_pos rfl] at q
      refine iteT ?_
      refine ⟨_, rfl, _, rfl, _, rfl, _, _, rfl, _, rfl, sz1000' (by show 3 ≤ 100000; decide), fun r hr => q _ r (Same.upd hr) hr (upd_same.trans ?_)⟩
      show some (HO.tup [.int z.2, .int (if full < z.2 then full else z.2), .int full]) = some (HO.tup [.int z.2, .int (min full z.2), .int full])
      rw [show (if full < z.2 then full else z.2) = min full z.2 by split <;> omega]
    | false =>
      rw [e, if_neg (by simp)] at q
      refine iteF ?_
      refine ⟨_, rfl, _, rfl, _, rfl, _, rfl, _, _, rfl, rfl, _, _, rfl, sz1000' (by show 3 ≤ 100000; decide), fun r hr => q _ r (Same.upd hr) hr (upd_same.trans ?_)⟩
      show some (HO.tup [.int (-z.2), .int 0, .int (if (0 : Int) < full - z.2 then full - z.2 else 0)]) = some (HO.tup [.int (-z.2), .int 0, .int (max 0 (full - z.2))])
      rw [show (if (0 : Int) < full - z.2 then full - z.2 else 0) = max 0 (full - z.2) by split <;> omega]
abbrev s_row_rule : Stmt := top 27
abbrev N_row_rule : List Str := ["full", "seasons", "rule", "season"]
abbrev P_row_rule : List Str := ["full", "seasons"]
theorem sc_row_rule : FnScope N_row_rule P_row_rule (defScope s_row_rule) := ⟨rfl, rfl, rfl, by decide +kernel, rfl, by decide +kernel, by decide +kernel⟩
/-! row_rule -/
/-- the rule of a row of seasons -/
def sp_row_ruleX (K : PySem.W.Frag) (mg : Str → Option Value) : Sp := fun vs H Q E => ∃ (full : Int) (p : Addr) (ts : List Addr) (ss : List (Bool × Int)), vs = [.int full, .ref p] ∧ SqL K H p (ts.map V.ref) ∧ SeasAt H ts ss ∧ 0 ≤ full ∧ (∃ z ∈ ss, ¬ GoodAm z.2) ∧ ss.length ≤ 1000 ∧ Thr mg "BadAmount" E H
theorem ok_row_ruleX {f : Addr} {fd : FuncData} (F : Fun K "row_rule" "row_rule" s_row_rule f fd) (T : Txt K mg) (o_still : Ok P w K mg base "still" P_still 1 sp_still) (o_season_rule : OkX P w K mg base "season_rule" P_season_rule 2 (sp_season_ruleX K mg)) (o_joined : Ok P w K mg base "joined" P_joined 2 (sp_joined K)) : FnOk P w K mg base (CX1 P w) 3 f fd P_row_rule (sp_row_ruleX K mg) := by
  refine F.okX sc_row_rule (fun vs H Q E h => ?_) (fun cdv A outer s H vs Q E hr h => ?_)
  · obtain ⟨full, p, ts, ss, rfl, _⟩ := h
    rfl
  · obtain ⟨full, p, ts, ss, rfl, hP, hS, hf, hbad, hn, q⟩ := h
    refine ⟨_, (pss_cons (ps_set (i := 2) sc_row_rule.nd rfl (Or.inl rfl) (pe_callO o_still hr (pa_cons (pv 0) pa_nil)))
      (pss_cons (ps_for PassesOwn.leaving rfl (pi_list (pv 1)) (pg_name (i := 3) sc_row_rule.nd rfl (Or.inl rfl))
        (pss_one (ps_set (i := 2) sc_row_rule.nd rfl (Or.inl rfl) (pe_callO o_joined hr (pa_cons (pv 2) (pa_cons (pe_callX o_season_rule hr (pass_fn (E := E)) (pa_cons (pv 0) (pa_cons (pv 3) pa_nil))) pa_nil))))))
      (pss_one (ps_ret (pv 2))))), ?_⟩
    refine ⟨_, rfl, full, rfl, fun H1 r1 s1 f1 hr1 => ?_⟩
    refine ⟨_, rfl, p, rfl, ⟨_, s1.seq hP⟩, ?_⟩
    refine for_list (xs := ts.map V.ref) (fun i σ H2 => (∀ z ∈ ss.take i, GoodAm z.2) ∧ Same H H2 ∧ ∃ (r : Addr) (v : Option V), H r = none ∧ H2 r = some (.tup (rowR full (ss.take i)).vs) ∧ σ = [some (.int full), some (.ref p), some (.ref r), v]) ⟨by simp, s1, r1, none, f1, hr1, rfl⟩ (fun i σ H2 _ z => z.2.1.seq hP) ?_ ?_
    · rintro i x σ H2 hx ⟨hz, s2, r, v, fr, hr2, rfl⟩
      obtain ⟨t, z, rfl, hzi, ht⟩ := hS.item hx
      have hza : ∀ z ∈ ss.take i, 0 ≤ z.2 := fun y hy => (hz y hy).1
      refine ⟨_, rfl, _, rfl, _, rfl, full, t, z, rfl, s2 _ _ ht, hf, fun hzz H3 u s3 fu hu => ?_, fun _ => q.same s2⟩
      refine ⟨r, u, _, _, _, _, _, _, rfl, s3.tup (SqT.of hr2), SqT.of hu, rowR_ok hf _, seasR_ok hf hzz.1, fun H4 c s4 fc hc => ?_⟩
      refine ⟨fun y hy => ?_, s2.trans (s3.trans s4), c, _, none_of (s2.trans s3) fc, ?_, rfl⟩
      · rw [take_snoc hzi] at hy
        rcases List.mem_append.mp hy with h | h
        · exact hz y h
        · have : y = z := by simpa using h
          rw [this]; exact hzz
      · rw [take_snoc hzi, rowR_snoc hf hza hzz.1]
        exact hc
    · rintro σ H2 ⟨hz, s2, r, v, fr, hr2, rfl⟩
      rw [List.length_map, hS.len, List.take_length] at hz
      obtain ⟨z, hm, hb⟩ := hbad
      exact absurd (hz z hm) hb
abbrev s_at : Stmt := top 29
abbrev N_at : List Str := ["_law_script", "_law_k"]
abbrev P_at : List Str := ["_law_script", "_law_k"]
theorem sc_at : FnScope N_at P_at (defScope s_at) := ⟨rfl, rfl, rfl, by decide +kernel, rfl, by decide +kernel, by decide +kernel⟩
/-! _law_at -/
def sp_at (K : PySem.W.Frag) : Sp := fun vs H Q _ => ∃ (a : Addr) (ns : List Int) (k : Nat), vs = [.ref a, .int k] ∧ SqL K H a (ns.map V.int) ∧ Q (.int (ns.getD k 0)) H
theorem ok_at {f : Addr} {fd : FuncData} (F : Fun K "_law_at" "_law_at" s_at f fd) (T : Txt K mg) : FnOk P w K mg base CX0 1 f fd P_at (sp_at K) := by
  refine F.ok sc_at (fun vs H Q E h => ?_) (fun cdv A outer s H vs Q E hr h => ?_)
  · obtain ⟨a, ns, k, rfl, _⟩ := h
    rfl
  · obtain ⟨a, ns, k, rfl, hS, q⟩ := h
    refine ⟨_, (pss_cons (ps_if (pt_cmpR op_lt (pv 1) (pe_len T.n_len (pv 0)) (nomark _))
        (pss_one (ps_ret (pe_ix ix_list (pv 0) (pv 1) (fun _ _ => rfl))))
        pss_nil)
      (pss_one (ps_ret pe_int))), ?_⟩
    refine ⟨_, rfl, _, rfl, a, _, rfl, .inl hS, _, _, rfl, rfl, _, rfl, ?_⟩
    refine ite2 (fun hc => ?_) (fun hc => ?_)
    · have hc : (k : Int) < ((ns.map V.int).length : Int) := by simpa using hc
      rw [List.length_map] at hc
      exact ⟨_, rfl, _, rfl, a, _, _, _, rfl, rfl, hS, atI_int (by omega), q⟩
    · have hc : ¬ (k : Int) < ((ns.map V.int).length : Int) := by simpa using hc
      rw [List.length_map] at hc
      have e : ns.getD k 0 = 0 := by rw [List.getD_eq_getElem?_getD, List.getElem?_eq_none (by omega)]; rfl
      rw [e] at q
      exact q
abbrev s_whole : Stmt := top 30
abbrev N_whole : List Str := ["_law_found"]
abbrev P_whole : List Str := ["_law_found"]
theorem sc_whole : FnScope N_whole P_whole (defScope s_whole) := ⟨rfl, rfl, rfl, by decide +kernel, rfl, by decide +kernel, by decide +kernel⟩
/-! _law_whole -/
def sp_whole : Sp := fun vs H Q _ => ∃ (i : Int), vs = [.int i] ∧ Q (.bl true) H
theorem ok_whole {f : Addr} {fd : FuncData} (F : Fun K "_law_whole" "_law_whole" s_whole f fd) (T : Txt K mg) : FnOk P w K mg base CX0 1 f fd P_whole sp_whole := by
  refine F.ok sc_whole (fun vs H Q E h => ?_) (fun cdv A outer s H vs Q E hr h => ?_)
  · obtain ⟨i, rfl, _⟩ := h
    rfl
  · obtain ⟨i, rfl, q⟩ := h
    refine ⟨_, (pss_one (ps_ret (pe_and (pe_isinst T.n_isinstance (pv 0) (pe_ty T.n_int)) (pe_one (pe_not (pe_isinst T.n_isinstance (pv 0) (pe_ty T.n_bool))))))), ?_⟩
    refine ⟨_, rfl, _, _, _, true, rfl, .int i, .inl ⟨_, rfl, kit_ii _⟩, _, rfl, ?_⟩
    refine iteT ?_
    exact ⟨_, rfl, _, _, _, false, rfl, .int i, .inl ⟨_, rfl, kit_ib _⟩, _, rfl, q⟩
abbrev s_numbers : Stmt := top 31
abbrev N_numbers : List Str := ["_law_found", "_law_due", "_law_k"]
abbrev P_numbers : List Str := ["_law_found", "_law_due"]
theorem sc_numbers : FnScope N_numbers P_numbers (defScope s_numbers) := ⟨rfl, rfl, rfl, by decide +kernel, rfl, by decide +kernel, by decide +kernel⟩
/-! _law_numbers -/
def sp_numbers (K : PySem.W.Frag) : Sp := fun vs H Q _ => ∃ (a b : Addr) (ns : List Int), vs = [.ref a, .ref b] ∧ H a = some (.lst (ns.map V.int)) ∧ SqL K H b (ns.map V.int) ∧ ns.length ≤ 100000 ∧ Q (.bl true) H
theorem ok_numbers {f : Addr} {fd : FuncData} (F : Fun K "_law_numbers" "_law_numbers" s_numbers f fd) (T : Txt K mg) (o_whole : Ok P w K mg base "_law_whole" P_whole 1 sp_whole) : FnOk P w K mg base CX0 2 f fd P_numbers (sp_numbers K) := by
  refine F.ok sc_numbers (fun vs H Q E h => ?_) (fun cdv A outer s H vs Q E hr h => ?_)
  · obtain ⟨a, b, ns, rfl, _⟩ := h
    rfl
  · obtain ⟨a, b, ns, rfl, hA, hB, hn, q⟩ := h
    refine ⟨_, (pss_cons (ps_if (PW.pt (pw_or (pt_not (pt_val (pe_isinst T.n_isinstance (pv 0) (pe_ty T.n_list)))) (pw_or1 (pt_cmpR op_ne (pe_len T.n_len (pv 0)) (pe_len T.n_len (pv 1)) (nomark _)))))
        (pss_one (ps_ret pe_bl))
        pss_nil)
      (pss_cons (ps_for PassesOwn.never rfl (pi_range1 (by rfl) T.n_range (pa_cons (pe_len T.n_len (pv 1)) pa_nil)) (pg_name (i := 2) sc_numbers.nd rfl (Or.inl rfl))
        (pss_one (ps_if (PW.pt (pw_or (pt_not (pt_val (pe_callO o_whole hr (pa_cons (pe_ix ix_list (pv 0) (pv 2) (fun _ _ => rfl)) pa_nil)))) (pw_or1 (pt_cmpR op_ne (pe_ix ix_list (pv 0) (pv 2) (fun _ _ => rfl)) (pe_ix ix_list (pv 1) (pv 2) (fun _ _ => rfl)) (nomark _)))))
          (pss_one (ps_ret pe_bl))
          pss_nil)))
      (pss_one (ps_ret pe_bl)))), ?_⟩
    refine ⟨_, rfl, _, _, _, true, rfl, .lst hA, .inl ⟨_, rfl, kit_ll _⟩, _, rfl, ?_⟩
    refine iteF ?_
    refine ⟨_, rfl, a, _, rfl, .inl (SqL.of hA), _, rfl, b, _, rfl, .inl hB, rfl, _, rfl, ?_⟩
    refine iteNS rfl ?_
    refine ⟨_, rfl, b, _, rfl, .inl hB, _, rfl, by omega, by rw [List.length_map]; omega, ?_⟩
    refine for_range (n := ((ns.map V.int).length : Int).toNat) (fun i σ H2 => (∃ v, σ = [some (.ref a), some (.ref b), v]) ∧ H2 = H) ⟨⟨none, rfl⟩, rfl⟩ ?_ ?_
    · rintro i σ H2 hi ⟨⟨v, rfl⟩, rfl⟩
      rw [List.length_map] at hi
      have hi' : i < ns.length := by omega
      have e0 : (0 : Int) + (i : Int) = (i : Int) := by omega
      rw [e0]
      refine ⟨_, rfl, _, rfl, a, _, _, _, rfl, rfl, SqL.of hA, atI_int hi', ⟨_, rfl, _, rfl, ?_⟩⟩
      refine iteF ?_
      refine ⟨_, rfl, _, rfl, a, _, _, _, rfl, rfl, SqL.of hA, atI_int hi', _, rfl, _, rfl, b, _, _, _, rfl, rfl, hB, atI_int hi', rfl, _, rfl, ?_⟩
      refine iteNS rfl ?_
      exact ⟨⟨_, rfl⟩, rfl⟩
    · rintro σ H2 ⟨_, rfl⟩
      exact q
abbrev s_row : Stmt := top 32
abbrev N_row : List Str := ["_law_cell", "_law_many", "_law_base", "_law_row_here", "_law_rest", "_law_k", "_law_one"]
abbrev P_row : List Str := ["_law_cell", "_law_many", "_law_base"]
theorem sc_row : FnScope N_row P_row (defScope s_row) := ⟨rfl, rfl, rfl, by decide +kernel, rfl, by decide +kernel, by decide +kernel⟩
/-! _law_row -/
def sp_row : Sp := fun vs H Q _ => ∃ (cell base : Int) (many : Nat), vs = [.int cell, .int many, .int base] ∧ many ≤ 1000 ∧ 0 < base ∧ base < 1073741824 ∧
  ∀ (p : Addr) (fs : List Int), H p = none → fs.length = many → (∀ x ∈ fs, 0 ≤ x ∧ x < base) → Q (.ref p) (upd H p (.lst (fs.map V.int)))
theorem ok_row {f : Addr} {fd : FuncData} (F : Fun K "_law_row" "_law_row" s_row f fd) (T : Txt K mg) : FnOk P w K mg base CX0 1 f fd P_row sp_row := by
  refine F.ok sc_row (fun vs H Q E h => ?_) (fun cdv A outer s H vs Q E hr h => ?_)
  · obtain ⟨cell, bs, many, rfl, _⟩ := h
    rfl
  · obtain ⟨cell, bs, many, rfl, hm, hb0, hb1, q⟩ := h
    refine ⟨_, (pss_cons (ps_set (i := 3) sc_row.nd rfl (Or.inl rfl) (pe_lst pa_nil))
      (pss_cons (ps_set (i := 4) sc_row.nd rfl (Or.inl rfl) (pe_op op_fdiv (pv 0) pe_int))
      (pss_cons (ps_for PassesOwn.never rfl (pi_range1 (by rfl) T.n_range (pa_cons (pv 1) pa_nil)) (pg_name (i := 5) sc_row.nd rfl (Or.inl rfl))
        (pss_one (ps_if (pt_cmpR op_eq (pe_op op_mod (pv 0) pe_int) pe_int (nomark _))
          (pss_cons (ps_expr (pe_bm PySem.F.plainAttrs_list PySem.F.slot_list_append PySem.F.type_list_append mt_append (pv 3) (pa_cons (pe_op op_mod (pv 4) (pv 2)) pa_nil)))
          (pss_one (ps_set (i := 4) sc_row.nd rfl (Or.inl rfl) (pe_op op_fdiv (pv 4) (pv 2)))))
          (pss_cons (ps_set (i := 6) sc_row.nd rfl (Or.inl rfl) (pe_op op_mod (pe_op op_add (pe_op op_add (pe_op op_mul (pv 0) pe_int) (pe_op op_mul (pv 5) pe_int)) pe_int) pe_int))
          (pss_one (ps_expr (pe_bm PySem.F.plainAttrs_list PySem.F.slot_list_append PySem.F.type_list_append mt_append (pv 3) (pa_cons (pe_op op_mod (pe_op op_mod (pe_op op_add (pe_op op_mul (pv 6) (pv 6)) (pe_op op_mul (pv 5) pe_int)) pe_int) (pv 2)) pa_nil))))))))
      (pss_one (ps_ret (pv 3)))))), ?_⟩
    refine ⟨sz1000' (by show 0 ≤ 100000; decide), fun p hp => ?_⟩
    refine ⟨_, rfl, _, _, rfl, rfl, ⟨by decide, by decide⟩, ?_⟩
    refine ⟨_, rfl, _, rfl, by omega, by omega, ?_⟩
    refine for_range (n := (many : Int).toNat) (fun i σ H2 => ∃ (fs : List Int) (rest : Int) (k one : Option V), σ = [some (.int cell), some (.int many), some (.int bs), some (.ref p), some (.int rest), k, one] ∧ H2 = upd H p (.lst (fs.map V.int)) ∧ fs.length = i ∧ ∀ x ∈ fs, 0 ≤ x ∧ x < bs)
      ⟨[], _, _, _, rfl, rfl, rfl, by simp⟩ ?_ ?_
    · rintro i σ H2 hi ⟨fs, rest, k, one, rfl, rfl, hl, hx⟩
      have grow : ∀ z : Int, 0 ≤ z → z < bs → (∀ x ∈ fs ++ [z], 0 ≤ x ∧ x < bs) := fun z h0 h1 x hx' => by
        rcases List.mem_append.mp hx' with h | h
        · exact hx x h
        · have : x = z := by simpa using h
          subst this; exact ⟨h0, h1⟩
      have eqH : ∀ z : Int, upd (upd H p (.lst (fs.map V.int))) p (.lst (fs.map V.int ++ [.int z])) = upd H p (.lst ((fs ++ [z]).map V.int)) := fun z => by rw [upd_upd, List.map_append]; rfl
      refine ⟨_, rfl, _, _, rfl, rfl, (by show (0 : Int) < 3; decide), rfl, _, rfl, ?_⟩
      refine ite2 (fun _ => ?_) (fun _ => ?_)
      · refine ⟨_, rfl, .inl ⟨rfl, _, SqL.of upd_same⟩, _, rfl, _, rfl, _, _, rfl, rfl, hb0, p, _, _, rfl, rfl, upd_same, sz1000 (by rw [List.length_map]; omega), ?_⟩
        refine ⟨_, rfl, _, rfl, _, _, rfl, rfl, ⟨hb0, hb1⟩, ?_⟩
        rw [eqH]
        exact ⟨_, _, _, _, rfl, rfl, by rw [List.length_append, hl]; rfl, grow _ (Int.emod_nonneg _ (by omega)) (Int.emod_lt_of_pos _ hb0)⟩
      · refine ⟨_, rfl, _, _, rfl, rfl, .inr ⟨by decide, by decide⟩, _, rfl, _, _, rfl, rfl, .inr ⟨by decide, by decide⟩, _, _, rfl, rfl, _, _, rfl, rfl, _, _, rfl, rfl, (by show (0 : Int) < 2147483647; decide), ?_⟩
        refine ⟨_, rfl, .inl ⟨rfl, _, SqL.of upd_same⟩, ?_⟩
        refine ⟨_, rfl, _, rfl, _, _, rfl, rfl, .inl ⟨?_, ?_⟩, _, rfl, _, _, rfl, rfl, .inr ⟨by decide, by decide⟩, _, _, rfl, rfl, _, _, rfl, rfl, (by show (0 : Int) < 2147483629; decide), _, rfl, _, _, rfl, rfl, hb0, p, _, _, rfl, rfl, upd_same, sz1000 (by rw [List.length_map]; omega), ?_⟩
        · exact Int.lt_of_lt_of_le (by decide) (Int.emod_nonneg _ (by decide))
        · exact Int.lt_trans (Int.emod_lt_of_pos _ (by decide)) (by decide)
        · rw [eqH]
          exact ⟨_, _, _, _, rfl, rfl, by rw [List.length_append, hl]; rfl, grow _ (Int.emod_nonneg _ (by omega)) (Int.emod_lt_of_pos _ hb0)⟩
    · rintro σ H2 ⟨fs, rest, k, one, rfl, rfl, hl, hx⟩
      exact ⟨_, rfl, q p fs hp (by omega) hx⟩
abbrev s_beds : Stmt := top 33
abbrev N_beds : List Str := ["_law_script", "_law_cell", "_law_many", "_law_needs", "_law_figures", "_law_heats"]
abbrev P_beds : List Str := ["_law_script"]
theorem sc_beds : FnScope N_beds P_beds (defScope s_beds) := ⟨rfl, rfl, rfl, by decide +kernel, rfl, by decide +kernel, by decide +kernel⟩
/-! _law_beds -/
def sp_beds (K : PySem.W.Frag) : Sp := fun vs H Q _ => ∃ (a : Addr) (ns : List Int), vs = [.ref a] ∧ SqL K H a (ns.map V.int) ∧
  ∀ (H' : Hp) (l pn ph : Addr) (needs heats : List Int), Same H H' → H l = none → H pn = none → H ph = none → l ≠ pn → l ≠ ph → pn ≠ ph →
    H' l = some (.lst [.ref pn, .ref ph]) → H' pn = some (.lst (needs.map V.int)) → H' ph = some (.lst (heats.map V.int)) → Beds needs heats → Q (.ref l) H'
theorem ok_beds {f : Addr} {fd : FuncData} (F : Fun K "_law_beds" "_law_beds" s_beds f fd) (T : Txt K mg) (o_at : Ok P w K mg base "_law_at" P_at 1 (sp_at K)) (o_row : Ok P w K mg base "_law_row" P_row 1 sp_row) : FnOk P w K mg base CX0 2 f fd P_beds (sp_beds K) := by
  refine F.ok sc_beds (fun vs H Q E h => ?_) (fun cdv A outer s H vs Q E hr h => ?_)
  · obtain ⟨a, ns, rfl, _⟩ := h
    rfl
  · obtain ⟨a, ns, rfl, hS, q⟩ := h
    refine ⟨_, (pss_cons (ps_set (i := 1) sc_beds.nd rfl (Or.inl rfl) (pe_callO o_at hr (pa_cons (pv 0) (pa_cons pe_int pa_nil))))
      (pss_cons (ps_set (i := 2) sc_beds.nd rfl (Or.inl rfl) (pe_op op_add pe_int (pe_op op_mod (pv 1) pe_int)))
      (pss_cons (ps_set (i := 3) sc_beds.nd rfl (Or.inr rfl) (pe_comp rfl (CompScope.of (T := ["_law_figure"]) (js := []) (defScope s_beds).names N_beds rfl rfl rfl (by decide +kernel)) (pi_list (pe_callO o_row hr (pa_cons (pe_callO o_at hr (pa_cons (pv 0) (pa_cons pe_int pa_nil))) (pa_cons (pv 2) (pa_cons (pe_ix ix_list (pe_lst (pa_cons pe_int (pa_cons pe_int (pa_cons pe_int pa_nil)))) (pe_op op_mod (pe_op op_fdiv (pv 1) pe_int) pe_int) (fun _ _ => rfl)) pa_nil))))) (fun _ _ _ _ => ⟨(pg_name (i := 0) (by show List.Nodup (["_law_figure"] : List Str); decide +kernel) rfl (Or.inl rfl)), pif_nil, (pe_op op_add pe_int (pv 0))⟩)))
      (pss_cons (ps_set (i := 4) sc_beds.nd rfl (Or.inr rfl) (pe_callO o_row hr (pa_cons (pe_callO o_at hr (pa_cons (pv 0) (pa_cons pe_int pa_nil))) (pa_cons (pv 2) (pa_cons pe_int pa_nil)))))
      (pss_cons (ps_setC (i := 5) rfl sc_beds.nd rfl rfl (CompScope.of (T := ["_law_k"]) (js := [3, 4]) (defScope s_beds).names N_beds rfl rfl rfl (by decide +kernel)) (pi_range1 (by rfl) T.n_range (pa_cons (pv 2) pa_nil)) (fun _ _ _ _ => ⟨(pg_name (i := 0) (by show List.Nodup (["_law_k", "_law_needs", "_law_figures"] : List Str); decide +kernel) rfl (Or.inl rfl)), pif_nil, (pe_op op_mod (pe_ix (ix_listK K) (pv 2) (pv 0) (fun _ _ => rfl)) (pe_op op_add (pe_ix (ix_listK K) (pv 1) (pv 0) (fun _ _ => rfl)) pe_int))⟩))
      (pss_cons (ps_if (pt_cmpR op_eq (pe_op op_mod (pe_op op_fdiv (pv 1) pe_int) pe_int) pe_int (nomark _))
        (pss_one (ps_set (i := 5) sc_beds.nd rfl (Or.inl rfl) (pe_op op_rep (pe_lst (pa_cons pe_int pa_nil)) (pv 2))))
        pss_nil)
      (pss_cons (ps_if (pt_cmpR op_eq (pe_op op_mod (pe_op op_fdiv (pv 1) pe_int) pe_int) pe_int (nomark _))
        (pss_one (ps_set (i := 5) sc_beds.nd rfl (Or.inl rfl) (pe_list T.n_list (pv 3))))
        pss_nil)
      (pss_one (ps_ret (pe_lst (pa_cons (pv 3) (pa_cons (pv 5) pa_nil)))))))))))), ?_⟩
    -- cell, many
    refine ⟨_, rfl, a, ns, 0, rfl, hS, ?_⟩
    refine ⟨_, rfl, _, _, rfl, rfl, (by show (0 : Int) < 30; decide), _, _, rfl, rfl, ?_⟩
    obtain ⟨n, en, hn1, hn2⟩ := many_nat (ns.getD 0 0) 30 (by decide)
    have hn3 : n ≤ 30 := by omega
    -- needs
    refine ⟨_, rfl, a, ns, 1, rfl, hS, _, rfl, sz1000' (by show 3 ≤ 100000; decide), fun p0 f0 => ?_⟩
    obtain ⟨bs, eb, hb0, hb1⟩ := base_at (ns.getD 0 0 / 30)
    refine ⟨_, rfl, _, _, rfl, rfl, ⟨by decide, by decide⟩, _, _, rfl, rfl, (by show (0 : Int) < 3; decide), p0, _, _, _, rfl, rfl, SqL.of upd_same, eb, ?_⟩
    refine ⟨_, bs, n, congrArg (fun z => [V.int _, V.int z, V.int _]) en, by omega, hb0, by omega, fun pr fs fr hfl hfx => ⟨pr, rfl, ⟨_, SqL.of upd_same⟩, fun pn fn => ?_⟩⟩
    have s2 : Same H (upd (upd H p0 (.lst [.int 3, .int 12, .int 200])) pr (.lst (fs.map V.int))) := (Same.upd f0).trans (Same.upd fr)
    have npr : pr ≠ pn := fun e => by rw [e] at fn; rw [upd_same] at fn; cases fn
    refine comp_list (xs := fs.map V.int) (fun i σ H2 => (∃ v, σ = [v]) ∧ H2 = upd (upd (upd H p0 (.lst [.int 3, .int 12, .int 200])) pr (.lst (fs.map V.int))) pn (.lst ((fs.take i).map fun x => V.int (1 + x)))) ?_ ?_ ?_ ?_
    · exact ⟨⟨none, rfl⟩, by rw [List.take_zero]; rfl⟩
    · rintro i σ H2 _ ⟨_, rfl⟩
      exact SqL.of (by rw [upd_ne npr]; exact upd_same)
    · rintro i x σ H2 hx ⟨⟨v, rfl⟩, rfl⟩
      obtain ⟨hi, rfl⟩ := getI_some hx
      refine compT_one ?_
      refine ⟨_, rfl, _, _, rfl, rfl, _, upd_same, sz1000 (by rw [List.length_map, List.length_take]; omega), ⟨_, rfl⟩, ?_⟩
      rw [upd_upd, take_map_succ (f := fun x => V.int (1 + x)) hi]
    rintro σ0 H3 ⟨_, e3⟩
    rw [List.length_map, List.take_length] at e3
    generalize eN : fs.map (fun x => 1 + x) = needs at *
    have eV : (fs.map fun x => V.int (1 + x)) = needs.map V.int := by rw [← eN, List.map_map]; rfl
    rw [eV] at e3
    have hnl : needs.length = n := by rw [← eN, List.length_map, hfl]
    have hnx : ∀ i, i < needs.length → 1 ≤ needs.getD i 0 ∧ needs.getD i 0 ≤ 200 := fun i hi => by
      rw [hnl, ← hfl] at hi
      rw [← eN, getD_map hi]
      have := hfx _ (getD_mem hi)
      omega
    have fpn : H pn = none := s2.free fn
    have s3 : Same H H3 := by rw [e3]; exact s2.trans (Same.upd fn)
    have h3n : H3 pn = some (.lst (needs.map V.int)) := by rw [e3]; exact upd_same
    clear e3
    -- figures
    refine ⟨_, rfl, a, ns, 2, rfl, s3.seq hS, _, rfl, _, 201, n, congrArg (fun z => [V.int _, V.int z, V.int _]) en, by omega, by decide, by decide, fun pf gs fpf hgl hgx => ?_⟩
    have s4 : Same H3 (upd H3 pf (.lst (gs.map V.int))) := Same.upd fpf
    -- heats
    refine ⟨_, rfl, _, rfl, by omega, by omega, fun ph fph => ?_⟩
    have hpf : pf ≠ ph := fun e => by rw [e, upd_same] at fph; cases fph
    have h4n : (upd H3 pf (.lst (gs.map V.int))) pn = some (.lst (needs.map V.int)) := s4 _ _ h3n
    have hpn : pn ≠ ph := ne_of_none h4n fph
    refine comp_range (fun i σ H2 => (∃ v, σ = [v, some (.ref pn), some (.ref pf)]) ∧ H2 = upd (upd H3 pf (.lst (gs.map V.int))) ph (.lst ((List.range i).map fun k => V.int (gs.getD k 0 % (needs.getD k 0 + 1))))) ?_ ?_ ?_
    · exact ⟨⟨none, rfl⟩, rfl⟩
    · rintro i σ H2 hi ⟨⟨v, rfl⟩, rfl⟩
      have hi' : i < n := by omega
      have e0 : (0 : Int) + (i : Int) = (i : Int) := by omega
      rw [e0]
      refine compT_one ?_
      refine ⟨_, rfl, _, rfl, pf, _, _, _, rfl, rfl, SqL.of (by rw [upd_ne hpf]; exact upd_same), atI_int (by omega), _, rfl, _, rfl, pn, _, _, _, rfl, rfl, SqL.of (by rw [upd_ne hpn]; exact h4n), atI_int (by omega), _, _, rfl, rfl, _, _, rfl, rfl, ?_, _, upd_same, sz1000 (by rw [List.length_map, List.length_range]; omega), ⟨_, rfl⟩, ?_⟩
      · have := hnx i (by omega)
        show (0 : Int) < needs.getD i 0 + 1
        omega
      · rw [upd_upd, range_map_succ (f := fun k => V.int (gs.getD k 0 % (needs.getD k 0 + 1)))]
    rintro σ1 H5 ⟨_, e5⟩
    rw [show ((1 + ns.getD 0 0 % 30 : Int)).toNat = n by omega] at e5
    generalize eH : (List.range n).map (fun k => gs.getD k 0 % (needs.getD k 0 + 1)) = heats at *
    have eV : ((List.range n).map fun k => V.int (gs.getD k 0 % (needs.getD k 0 + 1))) = heats.map V.int := by rw [← eH, List.map_map]; rfl
    rw [eV] at e5
    have hB : Beds needs heats := ⟨by rw [← eH, hnl]; simp, by omega, by omega, hnx, fun i hi => by
      have h1 := hnx i hi
      rw [← eH, getD_rangeMap (by omega)]
      exact ⟨Int.emod_nonneg _ (by omega), by have := Int.emod_lt_of_pos (gs.getD i 0) (show 0 < needs.getD i 0 + 1 by omega); omega⟩⟩
    have s5 : Same H3 H5 := by rw [e5]; exact s4.trans (Same.upd fph)
    have h5n : H5 pn = some (.lst (needs.map V.int)) := s5 _ _ h3n
    have h5h : H5 ph = some (.lst (heats.map V.int)) := by rw [e5]; exact upd_same
    have fhh : H3 ph = none := s4.free fph
    clear e5 eV eH
    -- what stands behind both ifs: heats at some address, new since H3
    have fin : ∀ (H6 : Hp) (ph : Addr) (heats : List Int), Same H3 H6 → H3 ph = none → H6 ph = some (.lst (heats.map V.int)) → Beds needs heats → ∀ l, H6 l = none → Q (.ref l) (upd H6 l (.lst [.ref pn, .ref ph])) := fun H6 ph heats s6 f6 h6 B l fl => by
      have h6n : H6 pn = some (.lst (needs.map V.int)) := s6 _ _ h3n
      have n1 : pn ≠ l := ne_of_none h6n fl
      have n2 : ph ≠ l := ne_of_none h6 fl
      have n3 : pn ≠ ph := ne_of_none h3n f6
      exact q _ l pn ph needs heats ((s3.trans s6).trans (Same.upd fl)) ((s3.trans s6).free fl) fpn (s3.free f6) (Ne.symm n1) (Ne.symm n2) n3 upd_same (by rw [upd_ne n1]; exact h6n) (by rw [upd_ne n2]; exact h6) B
    have B0 : Beds needs (List.replicate n 0) := ⟨by simp [hnl], hB.lo, hB.hi, hnx, fun i hi => by
      have h1 := hnx i hi
      have : (List.replicate n (0 : Int)).getD i 0 = 0 := by simp [List.getD_eq_getElem?_getD, List.getElem?_replicate, show i < n by omega]
      rw [this]
      omega⟩
    have B1 : Beds needs needs := ⟨rfl, hB.lo, hB.hi, hnx, fun i hi => by have := hnx i hi; omega⟩
    -- the second if and the end, from any heats
    have second : ∀ (H6 : Hp) (ph : Addr) (heats : List Int), Same H3 H6 → H3 ph = none → H6 ph = some (.lst (heats.map V.int)) → Beds needs heats →
        (∀ l, H6 l = none → Q (.ref l) (upd H6 l (.lst [.ref pn, .ref ph]))) ∧ ∀ l, H6 l = none → ∀ l', upd H6 l (.lst (needs.map V.int)) l' = none → Q (.ref l') (upd (upd H6 l (.lst (needs.map V.int))) l' (.lst [.ref pn, .ref l])) := fun H6 ph heats s6 f6 h6 B =>
      ⟨fin H6 ph heats s6 f6 h6 B, fun l fl l' fl' => fin _ l needs (s6.trans (Same.upd fl)) (s6.free fl) upd_same B1 l' fl'⟩
    refine ⟨_, rfl, _, _, rfl, rfl, ⟨by decide, by decide⟩, _, _, rfl, rfl, (by show (0 : Int) < 4; decide), rfl, _, rfl, ?_⟩
    refine ite2 (fun _ => ?_) (fun _ => ?_)
    · -- heats = [0] * many
      refine ⟨sz1000' (by show 1 ≤ 100000; decide), fun p6 f6 => ?_⟩
      refine ⟨_, rfl, p6, _, _, rfl, rfl, upd_same, ?_, ?_, ?_, fun p7 f7 => ?_⟩
      · omega
      · omega
      · rw [show ((1 + ns.getD 0 0 % 30 : Int)).toNat = n by omega]
        exact sz1000' (by show 1 * n ≤ 100000; omega)
      have e7 : (List.replicate ((1 + ns.getD 0 0 % 30 : Int)).toNat [V.int 0]).flatten = (List.replicate n (0 : Int)).map V.int := by
        rw [show ((1 + ns.getD 0 0 % 30 : Int)).toNat = n by omega]
        simp
      rw [e7]
      have s7 : Same H3 (upd (upd H5 p6 (.lst [.int 0])) p7 (.lst ((List.replicate n (0 : Int)).map V.int))) := (s5.trans (Same.upd f6)).trans (Same.upd f7)
      have f7' : H3 p7 = none := (s5.trans (Same.upd f6)).free f7
      obtain ⟨z1, z2⟩ := second _ p7 (List.replicate n 0) s7 f7' upd_same B0
      refine ⟨_, rfl, _, _, rfl, rfl, ⟨by decide, by decide⟩, _, _, rfl, rfl, (by show (0 : Int) < 4; decide), rfl, _, rfl, ?_⟩
      refine ite2 (fun _ => ?_) (fun _ => ?_)
      · refine ⟨_, rfl, pn, _, rfl, .inl (SqL.of (s7 _ _ h3n)), fun l fl => ?_⟩
        exact ⟨_, rfl, _, rfl, sz1000' (by show 2 ≤ 100000; decide), fun l' fl' => z2 l fl l' fl'⟩
      · exact ⟨_, rfl, _, rfl, sz1000' (by show 2 ≤ 100000; decide), fun l' fl' => z1 l' fl'⟩
    · obtain ⟨z1, z2⟩ := second H5 ph heats s5 fhh h5h hB
      refine ⟨_, rfl, _, _, rfl, rfl, ⟨by decide, by decide⟩, _, _, rfl, rfl, (by show (0 : Int) < 4; decide), rfl, _, rfl, ?_⟩
      refine ite2 (fun _ => ?_) (fun _ => ?_)
      · refine ⟨_, rfl, pn, _, rfl, .inl (SqL.of h5n), fun l fl => ?_⟩
        exact ⟨_, rfl, _, rfl, sz1000' (by show 2 ≤ 100000; decide), fun l' fl' => z2 l fl l' fl'⟩
      · exact ⟨_, rfl, _, rfl, sz1000' (by show 2 ≤ 100000; decide), fun l' fl' => z1 l' fl'⟩
abbrev s_amount : Stmt := top 34
abbrev N_amount : List Str := ["_law_cell", "_law_scale", "_law_free"]
abbrev P_amount : List Str := ["_law_cell", "_law_scale"]
theorem sc_amount : FnScope N_amount P_amount (defScope s_amount) := ⟨rfl, rfl, rfl, by decide +kernel, rfl, by decide +kernel, by decide +kernel⟩
/-! _law_amount -/
def sp_amount : Sp := fun vs H Q _ => ∃ (cell scale : Int), vs = [.int cell, .int scale] ∧ 1 ≤ scale ∧ scale ≤ 999999 ∧ ∀ (m : Int) (H' : Hp), 0 ≤ m → m ≤ 1000000 → Same H H' → Q (.int m) H'
theorem amount_at (z scale : Int) (h1 : 1 ≤ scale) (h2 : scale ≤ 999999) : ∃ b : Int, atI [V.int 0, V.int 1, V.int scale, V.int (scale + 1), V.int 1000000, V.int 999999, V.int (scale - 1)] (z % 7) = some (.int b) ∧ 0 ≤ b ∧ b ≤ 1000000 := by
  have h3 := Int.emod_nonneg z (show (7 : Int) ≠ 0 by decide)
  have h4 := Int.emod_lt_of_pos z (show (0 : Int) < 7 by decide)
  have h5 : z % 7 = 0 ∨ z % 7 = 1 ∨ z % 7 = 2 ∨ z % 7 = 3 ∨ z % 7 = 4 ∨ z % 7 = 5 ∨ z % 7 = 6 := by omega
  rcases h5 with e | e | e | e | e | e | e <;> rw [e]
  · exact ⟨0, rfl, by decide, by decide⟩
  · exact ⟨1, rfl, by decide, by decide⟩
  · exact ⟨scale, rfl, by omega, by omega⟩
  · exact ⟨scale + 1, rfl, by omega, by omega⟩
  · exact ⟨1000000, rfl, by decide, by decide⟩
  · exact ⟨999999, rfl, by decide, by decide⟩
  · exact ⟨scale - 1, rfl, by omega, by omega⟩
theorem ok_amount {f : Addr} {fd : FuncData} (F : Fun K "_law_amount" "_law_amount" s_amount f fd) (T : Txt K mg) : FnOk P w K mg base CX0 1 f fd P_amount sp_amount := by
  refine F.ok sc_amount (fun vs H Q E h => ?_) (fun cdv A outer s H vs Q E hr h => ?_)
  · obtain ⟨cell, scale, rfl, _⟩ := h
    rfl
  · obtain ⟨cell, scale, rfl, h1, h2, q⟩ := h
    refine ⟨_, (pss_cons (ps_set (i := 2) sc_amount.nd rfl (Or.inl rfl) (pe_op op_fdiv (pv 0) pe_int))
      (pss_cons (ps_if (pt_cmpR op_eq (pe_op op_mod (pv 0) pe_int) pe_int (nomark _))
        (pss_one (ps_ret (pe_op op_mod (pv 2) pe_int)))
        pss_nil)
      (pss_cons (ps_if (pt_cmpR op_eq (pe_op op_mod (pv 0) pe_int) pe_int (nomark _))
        (pss_one (ps_ret (pe_ix ix_list (pe_lst (pa_cons pe_int (pa_cons pe_int (pa_cons (pv 1) (pa_cons (pe_op op_add (pv 1) pe_int) (pa_cons pe_int (pa_cons pe_int (pa_cons (pe_op op_sub (pv 1) pe_int) pa_nil)))))))) (pe_op op_mod (pv 2) pe_int) (fun _ _ => rfl))))
        pss_nil)
      (pss_cons (ps_if (pt_cmpR op_eq (pe_op op_mod (pv 0) pe_int) pe_int (nomark _))
        (pss_one (ps_ret (pe_op op_mod (pv 2) (pe_op op_add (pv 1) pe_int))))
        pss_nil)
      (pss_one (ps_ret (pe_op op_mod (pv 2) (pe_op op_add (pe_op op_fdiv (pv 1) pe_int) pe_int)))))))), ?_⟩
    refine ⟨_, rfl, _, _, rfl, rfl, ⟨by decide, by decide⟩, ?_⟩
    refine ⟨_, rfl, _, _, rfl, rfl, (by show (0 : Int) < 5; decide), rfl, _, rfl, ?_⟩
    refine ite2 (fun _ => ?_) (fun _ => ?_)
    · refine ⟨_, rfl, _, _, rfl, rfl, (by show (0 : Int) < 1000001; decide), q _ H (Int.emod_nonneg _ (by decide)) ?_ (Same.refl H)⟩
      have := Int.emod_lt_of_pos (cell / 5) (show (0 : Int) < 1000001 by decide)
      omega
    refine ⟨_, rfl, _, _, rfl, rfl, (by show (0 : Int) < 5; decide), rfl, _, rfl, ?_⟩
    refine ite2 (fun _ => ?_) (fun _ => ?_)
    · obtain ⟨b, eb, b1, b2⟩ := amount_at (cell / 5) scale h1 h2
      refine ⟨_, rfl, _, rfl, _, _, rfl, rfl, _, rfl, _, _, rfl, rfl, sz1000' (by show 7 ≤ 100000; decide), fun p hp => ?_⟩
      exact ⟨_, rfl, _, _, rfl, rfl, (by show (0 : Int) < 7; decide), p, _, _, _, rfl, rfl, SqL.of upd_same, eb, q b _ b1 b2 (Same.upd hp)⟩
    refine ⟨_, rfl, _, _, rfl, rfl, (by show (0 : Int) < 5; decide), rfl, _, rfl, ?_⟩
    refine ite2 (fun _ => ?_) (fun _ => ?_)
    · refine ⟨_, rfl, _, rfl, _, _, rfl, rfl, _, _, rfl, rfl, (by show (0 : Int) < scale + 1; omega), q _ H (Int.emod_nonneg _ (by omega)) ?_ (Same.refl H)⟩
      have := Int.emod_lt_of_pos (cell / 5) (show (0 : Int) < scale + 1 by omega)
      omega
    · refine ⟨_, rfl, _, rfl, _, _, rfl, rfl, ⟨by decide, by decide⟩, _, _, rfl, rfl, _, _, rfl, rfl, (by show (0 : Int) < scale / 8 + 2; omega), q _ H (Int.emod_nonneg _ (by omega)) ?_ (Same.refl H)⟩
      have := Int.emod_lt_of_pos (cell / 5) (show (0 : Int) < scale / 8 + 2 by omega)
      omega
abbrev s_season : Stmt := top 35
abbrev N_season : List Str := ["_law_cell", "_law_scale"]
abbrev P_season : List Str := ["_law_cell", "_law_scale"]
theorem sc_season : FnScope N_season P_season (defScope s_season) := ⟨rfl, rfl, rfl, by decide +kernel, rfl, by decide +kernel, by decide +kernel⟩
/-! _law_season -/
def sp_season : Sp := fun vs H Q _ => ∃ (cell scale : Int), vs = [.int cell, .int scale] ∧ 1 ≤ scale ∧ scale ≤ 999999 ∧
  ∀ (H' : Hp) (t : Addr) (z : Bool × Int), Same H H' → H t = none → 0 ≤ z.2 → z.2 ≤ 1000000 → H' t = some (.tup [.str (kindS z.1), .int z.2]) → Q (.ref t) H'
theorem kind_at (z : Int) : ∃ b : Bool, atI [V.str "warm", V.str "cold"] (z % 2) = some (.str (kindS b)) := by
  have h3 := Int.emod_nonneg z (show (2 : Int) ≠ 0 by decide)
  have h4 := Int.emod_lt_of_pos z (show (0 : Int) < 2 by decide)
  have h5 : z % 2 = 0 ∨ z % 2 = 1 := by omega
  rcases h5 with e | e <;> rw [e]
  · exact ⟨true, rfl⟩
  · exact ⟨false, rfl⟩
theorem ok_season {f : Addr} {fd : FuncData} (F : Fun K "_law_season" "_law_season" s_season f fd) (T : Txt K mg) (o_amount : Ok P w K mg base "_law_amount" P_amount 1 sp_amount) : FnOk P w K mg base CX0 2 f fd P_season sp_season := by
  refine F.ok sc_season (fun vs H Q E h => ?_) (fun cdv A outer s H vs Q E hr h => ?_)
  · obtain ⟨cell, scale, rfl, _⟩ := h
    rfl
  · obtain ⟨cell, scale, rfl, h1, h2, q⟩ := h
    refine ⟨_, (pss_one (ps_ret (pe_tup (pa_cons (pe_ix ix_list (pe_lst (pa_cons pe_str (pa_cons pe_str pa_nil))) (pe_op op_mod (pv 0) pe_int) (fun _ _ => rfl)) (pa_cons (pe_callO o_amount hr (pa_cons (pe_op op_fdiv (pv 0) pe_int) (pa_cons (pv 1) pa_nil))) pa_nil))))), ?_⟩
    obtain ⟨b, eb⟩ := kind_at cell
    refine ⟨sz1000' (by show 2 ≤ 100000; decide), fun p hp => ⟨_, rfl, _, _, rfl, rfl, (by show (0 : Int) < 2; decide), p, _, _, _, rfl, rfl, SqL.of upd_same, eb, ?_⟩⟩
    refine ⟨_, rfl, _, _, rfl, rfl, ⟨by decide, by decide⟩, _, rfl, _, _, rfl, h1, h2, fun m H2 m0 m1 s2 => ⟨sz1000' (by show 2 ≤ 100000; decide), fun t ft => ?_⟩⟩
    have s3 : Same H H2 := (Same.upd hp).trans s2
    exact q _ t (b, m) (s3.trans (Same.upd ft)) (s3.free ft) m0 m1 upd_same
abbrev s_seasons : Stmt := top 36
abbrev N_seasons : List Str := ["_law_cell", "_law_many", "_law_scale"]
abbrev P_seasons : List Str := ["_law_cell", "_law_many", "_law_scale"]
theorem sc_seasons : FnScope N_seasons P_seasons (defScope s_seasons) := ⟨rfl, rfl, rfl, by decide +kernel, rfl, by decide +kernel, by decide +kernel⟩
/-! _law_seasons -/
def sp_seasons : Sp := fun vs H Q _ => ∃ (cell scale : Int) (many : Nat), vs = [.int cell, .int many, .int scale] ∧ many ≤ 1000 ∧ 1 ≤ scale ∧ scale ≤ 999999 ∧
  ∀ (H' : Hp) (p : Addr) (ts : List Addr) (ss : List (Bool × Int)), Same H H' → H p = none → ss.length = many → (∀ z ∈ ss, 0 ≤ z.2 ∧ z.2 ≤ 1000000) → H' p = some (.lst (ts.map V.ref)) → SeasAt H' ts ss → Q (.ref p) H'
theorem ok_seasons {f : Addr} {fd : FuncData} (F : Fun K "_law_seasons" "_law_seasons" s_seasons f fd) (T : Txt K mg) (o_row : Ok P w K mg base "_law_row" P_row 1 sp_row) (o_season : Ok P w K mg base "_law_season" P_season 2 sp_season) : FnOk P w K mg base CX0 3 f fd P_seasons sp_seasons := by
  refine F.ok sc_seasons (fun vs H Q E h => ?_) (fun cdv A outer s H vs Q E hr h => ?_)
  · obtain ⟨cell, scale, many, rfl, _⟩ := h
    rfl
  · obtain ⟨cell, scale, many, rfl, hm, h1, h2, q⟩ := h
    refine ⟨_, (pss_one (ps_ret (pe_comp rfl (CompScope.of (T := ["_law_figure"]) (js := [2]) (defScope s_seasons).names N_seasons rfl rfl rfl (by decide +kernel)) (pi_list (pe_callO o_row hr (pa_cons (pv 0) (pa_cons (pv 1) (pa_cons pe_int pa_nil))))) (fun _ _ _ _ => ⟨(pg_name (i := 0) (by show List.Nodup (["_law_figure", "_law_scale"] : List Str); decide +kernel) rfl (Or.inl rfl)), pif_nil, (pe_callO o_season hr (pa_cons (pv 0) (pa_cons (pv 1) pa_nil)))⟩)))), ?_⟩
    refine ⟨_, rfl, _, rfl, _, _, many, rfl, hm, by decide, by decide, fun pr fs fr hfl hfx => ⟨pr, rfl, ⟨_, SqL.of upd_same⟩, fun p fp => ?_⟩⟩
    have fp' : H p = none := (Same.upd fr).free fp
    refine comp_list (xs := fs.map V.int) (fun i σ H2 => (∃ v, σ = [v, some (.int scale)]) ∧ ∃ (ts : List Addr) (ss : List (Bool × Int)), Same (upd H pr (.lst (fs.map V.int))) H2 ∧ ss.length = i ∧ (∀ z ∈ ss, 0 ≤ z.2 ∧ z.2 ≤ 1000000) ∧ H2 p = some (.lst (ts.map V.ref)) ∧ SeasAt H2 ts ss) ?_ ?_ ?_ ?_
    · exact ⟨⟨none, rfl⟩, [], [], Same.upd fp, rfl, by simp, upd_same, SeasAt.nil _⟩
    · rintro i σ H2 _ ⟨_, ts, ss, s2, _⟩
      exact s2.seq (SqL.of upd_same)
    · rintro i x σ H2 hx ⟨⟨v, rfl⟩, ts, ss, s2, hl, hz, h2p, hS⟩
      obtain ⟨hi, rfl⟩ := getI_some hx
      refine compT_one ?_
      refine ⟨_, rfl, _, rfl, _, _, rfl, h1, h2, fun H3 t z s3 ft z0 z1 ht => ?_⟩
      have h3p := s3 _ _ h2p
      have ntp : t ≠ p := Ne.symm (ne_of_none h2p ft)
      refine ⟨_, h3p, sz1000 (by rw [List.length_map, hS.len]; omega), ⟨_, rfl⟩, ts ++ [t], ss ++ [z], (s2.trans s3).set fp, by rw [List.length_append, hl]; rfl, fun y hy => ?_, ?_, ?_⟩
      · rcases List.mem_append.mp hy with h | h
        · exact hz y h
        · have : y = z := by simpa using h
          subst this
          exact ⟨z0, z1⟩
      · rw [upd_same, List.map_append]; rfl
      · have S3 : SeasAt H3 (ts ++ [t]) (ss ++ [z]) := (hS.same s3).snoc ht
        refine ⟨S3.len, fun j y e => ?_⟩
        obtain ⟨t', e1, e2⟩ := S3.at' j y e
        exact ⟨t', e1, by rw [upd_ne (ne_of e2 h3p (by intro z; cases z))]; exact e2⟩
    · rintro σ H2 ⟨_, ts, ss, s2, hl, hz, h2p, hS⟩
      rw [List.length_map] at hl
      exact q H2 p ts ss ((Same.upd fr).trans s2) fp' (by omega) hz h2p hS
abbrev s_refusal : Stmt := top 37
abbrev N_refusal : List Str := ["_law_call", "_law_place", "_law_kinds", "e"]
abbrev P_refusal : List Str := ["_law_call", "_law_place"]
theorem sc_refusal : FnScope N_refusal P_refusal (defScope s_refusal) := ⟨rfl, rfl, rfl, by decide +kernel, rfl, by decide +kernel, by decide +kernel⟩
/-! _law_refusal -/
/-- a call that is refused with just the class at that place -/
def sp_refusal (P : Program) (w : World) (K : PySem.W.Frag) (mg : Str → Option Value) (base : Heap) (CT : Addr) (C : Nat → Addr) : Sp := fun vs H Q E => ∃ (f : Addr) (j : Nat), vs = [.ref f, .int (j : Int)] ∧ j < 12 ∧ LamRef P w K mg base C H f j ∧ Refuses K CT C j ∧ ∀ H', Same H H' → Q (.bl true) H'
theorem ok_refusal {f : Addr} {fd : FuncData} (F : Fun K "_law_refusal" "_law_refusal" s_refusal f fd) (T : Txt K mg) {CT : Addr} {C : Nat → Addr} (XE : Errs mg CT C) : FnOk P w K mg base (CX1 P w) 7 f fd P_refusal (sp_refusal P w K mg base CT C) := by
  refine F.okX sc_refusal (fun vs H Q E h => ?_) (fun cdv A outer s H vs Q E hr h => ?_)
  · obtain ⟨f, j, rfl, _⟩ := h
    rfl
  · obtain ⟨f, j, rfl, hj, ⟨name, qual, params, body, scope, clos, pm, cv, ctv, sp, hf, FO, hb, hrun⟩, R, q⟩ := h
    refine ⟨_, (pss_cons (ps_set (i := 2) sc_refusal.nd rfl (Or.inl rfl) (pe_lst pa_nil))
      (pss_cons (ps_try (i := 0) (ie := 3) rfl rfl rfl rfl (Or.inl rfl) hr sc_refusal.nd rfl rfl (by rfl) XE.thaw (fun _ => by exact (pss_cons (ps_set (i := 2) sc_refusal.nd rfl (Or.inl rfl) (pe_lst (pa_cons (pe_isiXK K T.n_isinstance (pv 3) (pe_cls XE.g0)) (pa_cons (pe_isiXK K T.n_isinstance (pv 3) (pe_cls XE.g1)) (pa_cons (pe_isiXK K T.n_isinstance (pv 3) (pe_cls XE.g2)) pa_nil)))))
          (pss_cons (ps_set (i := 2) sc_refusal.nd rfl (Or.inl rfl) (pe_op op_cat (pv 2) (pe_lst (pa_cons (pe_isiXK K T.n_isinstance (pv 3) (pe_cls XE.g3)) (pa_cons (pe_isiXK K T.n_isinstance (pv 3) (pe_cls XE.g4)) (pa_cons (pe_isiXK K T.n_isinstance (pv 3) (pe_cls XE.g5)) pa_nil))))))
          (pss_cons (ps_set (i := 2) sc_refusal.nd rfl (Or.inl rfl) (pe_op op_cat (pv 2) (pe_lst (pa_cons (pe_isiXK K T.n_isinstance (pv 3) (pe_cls XE.g6)) (pa_cons (pe_isiXK K T.n_isinstance (pv 3) (pe_cls XE.g7)) (pa_cons (pe_isiXK K T.n_isinstance (pv 3) (pe_cls XE.g8)) pa_nil))))))
          (pss_cons (ps_set (i := 2) sc_refusal.nd rfl (Or.inl rfl) (pe_op op_cat (pv 2) (pe_lst (pa_cons (pe_isiXK K T.n_isinstance (pv 3) (pe_cls XE.g9)) (pa_cons (pe_isiXK K T.n_isinstance (pv 3) (pe_cls XE.g10)) (pa_cons (pe_isiXK K T.n_isinstance (pv 3) (pe_cls XE.g11)) pa_nil))))))
          (pss_one (ps_set (i := 2) sc_refusal.nd rfl (Or.inl rfl) (pe_op op_cat (pv 2) (pe_lst (pa_cons (pe_isiXK K T.n_isinstance (pv 3) (pe_ty T.n_ValueError)) pa_nil)))))))))))
      (pss_one (ps_ret (pe_cmpR (op_eqB hr.units0) (pv 2) (pe_comp rfl (CompScope.of (T := ["_law_k"]) (js := [1]) (defScope s_refusal).names N_refusal rfl rfl rfl (by decide +kernel)) (pi_range1 (by rfl) T.n_range (pa_cons pe_int pa_nil)) (fun _ _ _ _ => ⟨(pg_name (i := 0) (by show List.Nodup (["_law_k", "_law_place"] : List Str); decide +kernel) rfl (Or.inl rfl)), pif_nil, (pe_cmpR (op_in_seqK K) (pv 0) (pe_tup (pa_cons (pv 1) (pa_cons pe_int pa_nil))) rfl)⟩)) (nomark _)))))), ?_⟩
    refine ⟨sz1000' (by show 0 ≤ 100000; decide), fun l hl => ?_⟩
    have s0 : Same H (upd H l (.lst [])) := Same.upd hl
    refine ⟨_, rfl, f, name, qual, params, body, scope, clos, pm, cv, ctv, sp, rfl, s0 _ _ hf, FO, hb, hrun _ _ _ s0 fun H1 xa s1 hx => ?_⟩
    refine ⟨xa, C j, rfl, rfl, R.ex, ?_⟩
    have sx : Same H1 (upd H1 xa (.ext (ExcIs xa (.ref (C j))))) := Same.upd hx
    have hX : (upd H1 xa (.ext (ExcIs xa (.ref (C j))))) xa = some (.ext (ExcIs xa (.ref (C j)))) := upd_same
    generalize (upd H1 xa (.ext (ExcIs xa (.ref (C j))))) = G0 at sx hX ⊢
    have sG0 : Same H G0 := (s0.trans s1).trans sx
    clear sx s1 s0 hx
    -- the first three
    refine ⟨_, rfl, xa, _, _, _, rfl, hX, R.kx, .inr ⟨_, rfl, R.one 0 (by decide)⟩, _, rfl, xa, _, _, _, rfl, hX, R.kx, .inr ⟨_, rfl, R.one 1 (by decide)⟩, _, rfl, xa, _, _, _, rfl, hX, R.kx, .inr ⟨_, rfl, R.one 2 (by decide)⟩, sz1000' (by show 3 ≤ 100000; decide), fun p1 f1 => ?_⟩
    have sg1 := Same.upd (o := .lst [.bl (decide (0 = j)), .bl (decide (1 = j)), .bl (decide (2 = j))]) f1
    have hL1 : (upd G0 p1 (.lst [.bl (decide (0 = j)), .bl (decide (1 = j)), .bl (decide (2 = j))])) p1 = some (.lst [.bl (decide (0 = j)), .bl (decide (1 = j)), .bl (decide (2 = j))]) := upd_same
    generalize (upd G0 p1 (.lst [.bl (decide (0 = j)), .bl (decide (1 = j)), .bl (decide (2 = j))])) = G1 at sg1 hL1 ⊢
    have sG1 := sG0.trans sg1
    have hX1 := sg1 _ _ hX
    -- three more
    refine ⟨_, rfl, _, rfl, xa, _, _, _, rfl, hX1, R.kx, .inr ⟨_, rfl, R.one 3 (by decide)⟩, _, rfl, xa, _, _, _, rfl, hX1, R.kx, .inr ⟨_, rfl, R.one 4 (by decide)⟩, _, rfl, xa, _, _, _, rfl, hX1, R.kx, .inr ⟨_, rfl, R.one 5 (by decide)⟩, sz1000' (by show 3 ≤ 100000; decide), fun q2 g2 => ?_⟩
    refine ⟨p1, q2, _, _, rfl, rfl, Same.upd g2 _ _ hL1, upd_same, sz1000' (by show 6 ≤ 100000; decide), fun p2 f2 => ?_⟩
    have sg2 := (Same.upd (o := .lst [.bl (decide (3 = j)), .bl (decide (4 = j)), .bl (decide (5 = j))]) g2).trans (Same.upd (o := .lst ([.bl (decide (0 = j)), .bl (decide (1 = j)), .bl (decide (2 = j))] ++ [.bl (decide (3 = j)), .bl (decide (4 = j)), .bl (decide (5 = j))])) f2)
    have hL2 : (upd (upd G1 q2 (.lst [.bl (decide (3 = j)), .bl (decide (4 = j)), .bl (decide (5 = j))])) p2 (.lst ([.bl (decide (0 = j)), .bl (decide (1 = j)), .bl (decide (2 = j))] ++ [.bl (decide (3 = j)), .bl (decide (4 = j)), .bl (decide (5 = j))]))) p2 = some (.lst ([.bl (decide (0 = j)), .bl (decide (1 = j)), .bl (decide (2 = j))] ++ [.bl (decide (3 = j)), .bl (decide (4 = j)), .bl (decide (5 = j))])) := upd_same
    generalize (upd (upd G1 q2 (.lst [.bl (decide (3 = j)), .bl (decide (4 = j)), .bl (decide (5 = j))])) p2 (.lst ([.bl (decide (0 = j)), .bl (decide (1 = j)), .bl (decide (2 = j))] ++ [.bl (decide (3 = j)), .bl (decide (4 = j)), .bl (decide (5 = j))]))) = G2 at sg2 hL2 ⊢
    have sG2 := sG1.trans sg2
    have hX2 := sg2 _ _ hX1
    -- three more
    refine ⟨_, rfl, _, rfl, xa, _, _, _, rfl, hX2, R.kx, .inr ⟨_, rfl, R.one 6 (by decide)⟩, _, rfl, xa, _, _, _, rfl, hX2, R.kx, .inr ⟨_, rfl, R.one 7 (by decide)⟩, _, rfl, xa, _, _, _, rfl, hX2, R.kx, .inr ⟨_, rfl, R.one 8 (by decide)⟩, sz1000' (by show 3 ≤ 100000; decide), fun q3 g3 => ?_⟩
    refine ⟨p2, q3, _, _, rfl, rfl, Same.upd g3 _ _ hL2, upd_same, sz1000' (by show 9 ≤ 100000; decide), fun p3 f3 => ?_⟩
    refine ⟨_, rfl, _, rfl, xa, _, _, _, rfl, Same.upd f3 _ _ (Same.upd g3 _ _ hX2), R.kx, .inr ⟨_, rfl, R.one 9 (by decide)⟩, _, rfl, xa, _, _, _, rfl, Same.upd f3 _ _ (Same.upd g3 _ _ hX2), R.kx, .inr ⟨_, rfl, R.one 10 (by decide)⟩, _, rfl, xa, _, _, _, rfl, Same.upd f3 _ _ (Same.upd g3 _ _ hX2), R.kx, .inr ⟨_, rfl, R.one 11 (by decide)⟩, sz1000' (by show 3 ≤ 100000; decide), fun q4 g4 => ?_⟩
    refine ⟨p3, q4, _, _, rfl, rfl, Same.upd g4 _ _ upd_same, upd_same, sz1000' (by show 12 ≤ 100000; decide), fun p4 f4 => ?_⟩
    refine ⟨_, rfl, _, rfl, xa, _, _, _, rfl, Same.upd f4 _ _ (Same.upd g4 _ _ (Same.upd f3 _ _ (Same.upd g3 _ _ hX2))), R.kx, .inl ⟨_, rfl, R.ve⟩, sz1000' (by show 1 ≤ 100000; decide), fun q5 g5 => ?_⟩
    refine ⟨p4, q5, _, _, rfl, rfl, Same.upd g5 _ _ upd_same, upd_same, sz1000' (by show 13 ≤ 100000; decide), fun p5 f5 => ?_⟩
    have sG5 := (((((sG2.trans (Same.upd (o := .lst [.bl (decide (6 = j)), .bl (decide (7 = j)), .bl (decide (8 = j))]) g3)).trans (Same.upd f3)).trans (Same.upd g4)).trans (Same.upd f4)).trans (Same.upd g5)).trans (Same.upd (o := .lst (((([.bl (decide (0 = j)), .bl (decide (1 = j)), .bl (decide (2 = j))] ++ [.bl (decide (3 = j)), .bl (decide (4 = j)), .bl (decide (5 = j))]) ++ [.bl (decide (6 = j)), .bl (decide (7 = j)), .bl (decide (8 = j))]) ++ [.bl (decide (9 = j)), .bl (decide (10 = j)), .bl (decide (11 = j))]) ++ [.bl true])) f5)
    refine ⟨_, rfl, 13, rfl, by decide, by decide, fun ph fph => ?_⟩
    have h5 := upd_same (H := (upd (upd (upd (upd (upd G2 q3 (.lst [.bl (decide (6 = j)), .bl (decide (7 = j)), .bl (decide (8 = j))])) p3 (.lst (([.bl (decide (0 = j)), .bl (decide (1 = j)), .bl (decide (2 = j))] ++ [.bl (decide (3 = j)), .bl (decide (4 = j)), .bl (decide (5 = j))]) ++ [.bl (decide (6 = j)), .bl (decide (7 = j)), .bl (decide (8 = j))]))) q4 (.lst [.bl (decide (9 = j)), .bl (decide (10 = j)), .bl (decide (11 = j))])) p4 (.lst ((([.bl (decide (0 = j)), .bl (decide (1 = j)), .bl (decide (2 = j))] ++ [.bl (decide (3 = j)), .bl (decide (4 = j)), .bl (decide (5 = j))]) ++ [.bl (decide (6 = j)), .bl (decide (7 = j)), .bl (decide (8 = j))]) ++ [.bl (decide (9 = j)), .bl (decide (10 = j)), .bl (decide (11 = j))]))) q5 (.lst [.bl true]))) (a := p5) (o := .lst (((([.bl (decide (0 = j)), .bl (decide (1 = j)), .bl (decide (2 = j))] ++ [.bl (decide (3 = j)), .bl (decide (4 = j)), .bl (decide (5 = j))]) ++ [.bl (decide (6 = j)), .bl (decide (7 = j)), .bl (decide (8 = j))]) ++ [.bl (decide (9 = j)), .bl (decide (10 = j)), .bl (decide (11 = j))]) ++ [.bl true]))
    revert fph
    generalize upd (upd (upd (upd (upd (upd G2 q3 (.lst [.bl (decide (6 = j)), .bl (decide (7 = j)), .bl (decide (8 = j))])) p3 (.lst (([.bl (decide (0 = j)), .bl (decide (1 = j)), .bl (decide (2 = j))] ++ [.bl (decide (3 = j)), .bl (decide (4 = j)), .bl (decide (5 = j))]) ++ [.bl (decide (6 = j)), .bl (decide (7 = j)), .bl (decide (8 = j))]))) q4 (.lst [.bl (decide (9 = j)), .bl (decide (10 = j)), .bl (decide (11 = j))])) p4 (.lst ((([.bl (decide (0 = j)), .bl (decide (1 = j)), .bl (decide (2 = j))] ++ [.bl (decide (3 = j)), .bl (decide (4 = j)), .bl (decide (5 = j))]) ++ [.bl (decide (6 = j)), .bl (decide (7 = j)), .bl (decide (8 = j))]) ++ [.bl (decide (9 = j)), .bl (decide (10 = j)), .bl (decide (11 = j))]))) q5 (.lst [.bl true])) p5 (.lst (((([.bl (decide (0 = j)), .bl (decide (1 = j)), .bl (decide (2 = j))] ++ [.bl (decide (3 = j)), .bl (decide (4 = j)), .bl (decide (5 = j))]) ++ [.bl (decide (6 = j)), .bl (decide (7 = j)), .bl (decide (8 = j))]) ++ [.bl (decide (9 = j)), .bl (decide (10 = j)), .bl (decide (11 = j))]) ++ [.bl true])) = G5 at sG5 h5 ⊢
    intro fph
    have h5n : p5 ≠ ph := ne_of_none h5 fph
    refine comp_range (fun i σ H2 => (∃ v, σ = [v, some (.int (j : Int))]) ∧ Same G5 H2 ∧ H2 ph = some (.lst ((List.range i).map fun k : Nat => V.bl (inV (.int ((0 : Int) + (k : Int))) [.int (j : Int), .int 12])))) ?_ ?_ ?_
    · exact ⟨⟨none, rfl⟩, Same.upd fph, upd_same⟩
    · rintro i σ H2 hi ⟨⟨v, rfl⟩, sH, hp⟩
      have hi' : i < 13 := hi
      refine compT_one ?_
      refine ⟨_, rfl, _, rfl, sz1000' (by show 2 ≤ 100000; decide), fun tp ft => ⟨tp, _, rfl, .inr (SqT.of upd_same), rfl, rfl, _, Same.upd ft _ _ hp, sz1000 (by rw [List.length_map, List.length_range]; omega), ⟨_, rfl⟩, ?_, ?_⟩⟩
      · intro b o hb
        have : b ≠ ph := fun z => by rw [z] at hb; rw [fph] at hb; cases hb
        rw [upd_ne this]
        exact Same.upd ft _ _ (sH _ _ hb)
      · rw [upd_same, range_map_succ (f := fun k : Nat => V.bl (inV (.int ((0 : Int) + (k : Int))) [.int (j : Int), .int 12]))]
        rfl
    rintro σ1 H6 ⟨_, s6, h6⟩
    refine ⟨p5, ph, ([0, 1, 2, 3, 4, 5, 6, 7, 8, 9, 10, 11].map (fun i : Nat => decide (i = j)) ++ [true]), (List.range 13).map (fun k : Nat => inV (.int ((0 : Int) + (k : Int))) [.int (j : Int), .int 12]), rfl, rfl, SqL.of (s6 _ _ h5), SqL.of (h6.trans (by rw [List.map_map]; rfl)), ?_⟩
    rw [decide_eq_true (kinds_due j hj)]
    exact q _ (sG5.trans s6)
abbrev s_law : Stmt := top 38
abbrev N_law : List Str := ["_law_script", "_law_needs", "_law_heats", "_law_cell", "_law_far", "_law_bad", "_law_row_here", "_law_place", "_law_season_here", "_law_handed", "_law_calls", "_law_call"]
abbrev P_law : List Str := ["_law_script"]
theorem sc_law : FnScope N_law P_law (defScope s_law) := ⟨rfl, rfl, rfl, by decide +kernel, rfl, by decide +kernel, by decide +kernel⟩
/-! law -/
def sp_law (K : PySem.W.Frag) (PT : Addr) : Sp := fun vs H Q _ => ∃ (a : Addr) (ns : List Int), vs = [.ref a] ∧ SqL K H a (ns.map V.int) ∧ ns.length ≤ 63 ∧ H PT = some (.tbl #[]) ∧ ∀ H', Q (.bl true) H'
theorem bad_at (c far : Int) (hf : 0 ≤ far) : ∃ m : Int, atI [V.int (-1), V.int 1000001, V.int (-1 - far), V.int (1000001 + far)] (c % 4) = some (.int m) ∧ ¬ GoodAm m := by
  have h1 := Int.emod_nonneg c (show (4 : Int) ≠ 0 by decide)
  have h2 := Int.emod_lt_of_pos c (show (0 : Int) < 4 by decide)
  have h5 : c % 4 = 0 ∨ c % 4 = 1 ∨ c % 4 = 2 ∨ c % 4 = 3 := by omega
  rcases h5 with e | e | e | e <;> rw [e]
  · exact ⟨_, rfl, by unfold GoodAm; omega⟩
  · exact ⟨_, rfl, by unfold GoodAm; omega⟩
  · exact ⟨_, rfl, by unfold GoodAm; omega⟩
  · exact ⟨_, rfl, by unfold GoodAm; omega⟩
theorem ok_law {f : Addr} {fd : FuncData} (F : Fun K "law" "law" s_law f fd) (T : Txt K mg) {c PT CT : Addr} {C : Nat → Addr} (XE : Errs mg CT C) (R6 : Refuses K CT C 6) (hcode : fd.code = .ref c) (hC : PySem.W.CodeHd base c PT) (hB : base.BuiltinsAt mg PT)
    (o_at : Ok P w K mg base "_law_at" P_at 1 (sp_at K)) (o_whole : Ok P w K mg base "_law_whole" P_whole 1 sp_whole) (o_numbers : Ok P w K mg base "_law_numbers" P_numbers 2 (sp_numbers K))
    (o_beds : Ok P w K mg base "_law_beds" P_beds 2 (sp_beds K)) (o_seasons : Ok P w K mg base "_law_seasons" P_seasons 3 sp_seasons) (o_refusal : OkX P w K mg base "_law_refusal" P_refusal 7 (sp_refusal P w K mg base CT C))
    (o_warmed : OkX P w K mg base "warmed" P_warmed 2 (sp_warmedX K mg)) (o_chilled : OkX P w K mg base "chilled" P_chilled 2 (sp_chilledX K mg)) (o_passed : OkX P w K mg base "passed" P_passed 3 (sp_passedX K mg)) (o_season_rule : OkX P w K mg base "season_rule" P_season_rule 2 (sp_season_ruleX K mg)) (o_row_rule : OkX P w K mg base "row_rule" P_row_rule 3 (sp_row_ruleX K mg)) : FnOk P w K mg base (CX1 P w) 8 f fd P_law (sp_law K PT) := by
  refine F.okL sc_law (fun vs H Q E h => ?_) (fun A outer s H vs Q E hr h => ?_)
  · obtain ⟨a, ns, rfl, _⟩ := h
    rfl
  · obtain ⟨a, ns, rfl, hS, hlen, hT, q⟩ := h
    refine ⟨_, (pss_cons (ps_asg (pe_callO o_beds hr (pa_cons (pv 0) pa_nil)) (pg_tupL (n := 2) (by rfl) (pgs_cons (pg_name (i := 1) sc_law.nd rfl (Or.inr rfl)) (pgs_cons (pg_name (i := 2) sc_law.nd rfl (Or.inl rfl)) pgs_nil))))
      (pss_cons (ps_set (i := 3) sc_law.nd rfl (Or.inl rfl) (pe_callO o_at hr (pa_cons (pv 0) (pa_cons pe_int pa_nil))))
      (pss_cons (ps_set (i := 4) sc_law.nd rfl (Or.inl rfl) (pe_op op_mod (pe_op op_fdiv (pv 3) pe_int) (pe_op op_pow pe_int pe_int)))
      (pss_cons (ps_set (i := 5) sc_law.nd rfl (Or.inr rfl) (pe_ix ix_list (pe_lst (pa_cons (pe_un un_neg pe_int) (pa_cons pe_int (pa_cons (pe_op op_sub (pe_un un_neg pe_int) (pv 4)) (pa_cons (pe_op op_add pe_int (pv 4)) pa_nil))))) (pe_op op_mod (pv 3) pe_int) (fun _ _ => rfl)))
      (pss_cons (ps_set (i := 6) sc_law.nd rfl (Or.inl rfl) (pe_callO o_seasons hr (pa_cons (pe_callO o_at hr (pa_cons (pv 0) (pa_cons pe_int pa_nil))) (pa_cons (pe_op op_mod (pe_callO o_at hr (pa_cons (pv 0) (pa_cons pe_int pa_nil))) pe_int) (pa_cons (pe_sum (by rfl) T.n_sum (pv 1)) pa_nil)))))
      (pss_cons (ps_set (i := 7) sc_law.nd rfl (Or.inl rfl) (pe_op op_mod (pe_callO o_at hr (pa_cons (pv 0) (pa_cons pe_int pa_nil))) (pe_op op_add (pe_len T.n_len (pv 6)) pe_int)))
      (pss_cons (ps_set (i := 8) sc_law.nd rfl (Or.inr rfl) (pe_tup (pa_cons (pe_ix ix_list (pe_lst (pa_cons pe_str (pa_cons pe_str pa_nil))) (pe_op op_mod (pe_callO o_at hr (pa_cons (pv 0) (pa_cons pe_int pa_nil))) pe_int) (fun _ _ => rfl)) (pa_cons (pv 5) pa_nil))))
      (pss_cons (ps_set (i := 6) sc_law.nd rfl (Or.inl rfl) (pe_op op_cat (pe_op op_cat (pe_slice sl_list (pv 6) po_none (po_some (pv 7))) (pe_lst (pa_cons (pv 8) pa_nil))) (pe_slice sl_list (pv 6) (po_some (pv 7)) po_none)))
      (pss_cons (ps_if (pt_cmpR op_eq (pe_op op_mod (pe_op op_fdiv (pe_callO o_at hr (pa_cons (pv 0) (pa_cons pe_int pa_nil))) pe_int) pe_int) pe_int (nomark _))
        (pss_one (ps_set (i := 6) sc_law.nd rfl (Or.inl rfl) (pe_op op_cat (pe_slice sl_list (pv 6) po_none (po_some pe_int)) (pe_lst (pa_cons (pe_tup (pa_cons pe_str (pa_cons (pe_un un_neg pe_int) pa_nil))) pa_nil)))))
        pss_nil)
      (pss_cons (ps_set (i := 9) sc_law.nd rfl (Or.inr rfl) (pe_lst (pa_cons (pe_list T.n_list (pv 1)) (pa_cons (pe_list T.n_list (pv 2)) (pa_cons (pe_list T.n_list (pv 6)) pa_nil)))))
      (pss_cons (ps_set (i := 10) sc_law.nd rfl (Or.inl rfl) (pe_lst (pa_cons (pe_lamC (c := c) (P := PT) (defScope s_law).names rfl rfl (by decide +kernel) hcode hC hB) pa_nil)))
      (pss_cons (ps_expr (pe_bm PySem.F.plainAttrs_list PySem.F.slot_list_append PySem.F.type_list_append mt_append (pv 10) (pa_cons (pe_lamC (c := c) (P := PT) (defScope s_law).names rfl rfl (by decide +kernel) hcode hC hB) pa_nil)))
      (pss_cons (ps_expr (pe_bm PySem.F.plainAttrs_list PySem.F.slot_list_append PySem.F.type_list_append mt_append (pv 10) (pa_cons (pe_lamC (c := c) (P := PT) (defScope s_law).names rfl rfl (by decide +kernel) hcode hC hB) pa_nil)))
      (pss_cons (ps_expr (pe_bm PySem.F.plainAttrs_list PySem.F.slot_list_append PySem.F.type_list_append mt_append (pv 10) (pa_cons (pe_lamC (c := c) (P := PT) (defScope s_law).names rfl rfl (by decide +kernel) hcode hC hB) pa_nil)))
      (pss_cons (ps_expr (pe_bm PySem.F.plainAttrs_list PySem.F.slot_list_append PySem.F.type_list_append mt_append (pv 10) (pa_cons (pe_lamC (c := c) (P := PT) (defScope s_law).names rfl rfl (by decide +kernel) hcode hC hB) pa_nil)))
      (pss_cons (ps_for PassesOwn.never rfl (pi_list (pv 10)) (pg_name (i := 11) sc_law.nd rfl (Or.inl rfl))
        (pss_one (ps_if (pt_not (pt_val (pe_callC o_refusal hr (pa_cons (pv 11) (pa_cons pe_int pa_nil)) (fun _ => rfl) (cells_in (by decide +kernel) (fun _ _ h => nomatch h)))))
          (pss_one (ps_ret pe_bl))
          pss_nil)))
      (pss_cons (ps_if (PW.pt (pw_or (pt_not (pt_val (pe_callO o_whole hr (pa_cons (pe_gint T.g_MOST_AMOUNT) pa_nil)))) (pw_or (pt_cmpR op_ne (pe_gint T.g_MOST_AMOUNT) pe_int (nomark _)) (pw_or1 (pt_cmpR (op_neL (hr.units0)) (pe_ix ix_list (pv 9) pe_int (fun _ _ => rfl)) (pv 6) (nomark _))))))
        (pss_one (ps_ret pe_bl))
        pss_nil)
      (pss_one (ps_ret (pe_and (pe_callO o_numbers hr (pa_cons (pe_ix ix_list (pv 9) pe_int (fun _ _ => rfl)) (pa_cons (pv 1) pa_nil))) (pe_one (pe_callO o_numbers hr (pa_cons (pe_ix ix_list (pv 9) pe_int (fun _ _ => rfl)) (pa_cons (pv 2) pa_nil)))))))))))))))))))))))), ?_⟩
    refine ⟨_, rfl, a, ns, rfl, hS, fun H1 l pn ph needs heats s1 fl fpn fph d1 d2 d3 hl hn hh B => ?_⟩
    refine ⟨l, _, rfl, SqL.of hl, rfl, _, _, rfl, _, _, rfl, rfl, ?_⟩
    have hB1 := B.len
    have hB2 := B.hi
    have hB3 := B.lo
    have hBs := B.sum
    -- the bad amount
    refine ⟨_, rfl, a, ns, 3, rfl, s1.seq hS, ?_⟩
    refine ⟨_, rfl, _, _, rfl, rfl, ⟨by decide, by decide⟩, _, _, rfl, rfl, ⟨by decide, by decide, by decide⟩, _, _, rfl, rfl, (by show (0 : Int) < 10 ^ 30; decide), ?_⟩
    have hfar : 0 ≤ ns.getD 3 0 / 4 % 10 ^ (30 : Int).toNat := Int.emod_nonneg _ (by decide)
    obtain ⟨bad, ebad, hbad⟩ := bad_at (ns.getD 3 0) _ hfar
    refine ⟨_, rfl, _, rfl, _, rfl, _, _, rfl, rfl, _, rfl, _, _, rfl, rfl, sz1000' (by show 4 ≤ 100000; decide), fun p0 f0 => ⟨_, rfl, _, _, rfl, rfl, (by show (0 : Int) < 4; decide), p0, _, _, _, rfl, rfl, SqL.of upd_same, ebad, ?_⟩⟩
    have s0 := s1.trans (Same.upd (o := .lst [V.int (-1), V.int 1000001, V.int (-1 - ns.getD 3 0 / 4 % 10 ^ (30 : Int).toNat), V.int (1000001 + ns.getD 3 0 / 4 % 10 ^ (30 : Int).toNat)]) f0)
    have hn0 := Same.upd (o := .lst [V.int (-1), V.int 1000001, V.int (-1 - ns.getD 3 0 / 4 % 10 ^ (30 : Int).toNat), V.int (1000001 + ns.getD 3 0 / 4 % 10 ^ (30 : Int).toNat)]) f0 _ _ hn
    have hh0 := Same.upd (o := .lst [V.int (-1), V.int 1000001, V.int (-1 - ns.getD 3 0 / 4 % 10 ^ (30 : Int).toNat), V.int (1000001 + ns.getD 3 0 / 4 % 10 ^ (30 : Int).toNat)]) f0 _ _ hh
    generalize upd H1 p0 (.lst [V.int (-1), V.int 1000001, V.int (-1 - ns.getD 3 0 / 4 % 10 ^ (30 : Int).toNat), V.int (1000001 + ns.getD 3 0 / 4 % 10 ^ (30 : Int).toNat)]) = H0 at s0 hn0 hh0 ⊢
    clear s1 hn hh hl f0 ebad fl fpn fph
    -- the row
    obtain ⟨n, en, hn60⟩ : ∃ n : Nat, ns.getD 5 0 % 60 = (n : Int) ∧ n ≤ 59 := by
      have h1 := Int.emod_nonneg (ns.getD 5 0) (show (60 : Int) ≠ 0 by decide)
      have h2 := Int.emod_lt_of_pos (ns.getD 5 0) (show (0 : Int) < 60 by decide)
      exact ⟨(ns.getD 5 0 % 60).toNat, by omega, by omega⟩
    refine ⟨_, rfl, a, ns, 4, rfl, s0.seq hS, _, rfl, a, ns, 5, rfl, s0.seq hS, _, _, rfl, rfl, (by show (0 : Int) < 60; decide), _, rfl, pn, needs, rfl, SqL.of hn0, _, _, n, congrArg (fun z => [V.int _, V.int z, V.int _]) en, by omega, hBs.1, by omega, fun H2 pr ts ss s2 fr hsl hz hr2 hS2 => ?_⟩
    have sH2 := s0.trans s2
    have h2n := s2 _ _ hn0
    have h2h := s2 _ _ hh0
    clear s2 s0 hn0 hh0
    have hts : ts.length = n := by rw [hS2.len, hsl]
    -- its place
    refine ⟨_, rfl, a, ns, 6, rfl, sH2.seq hS, _, rfl, pr, _, rfl, .inl (SqL.of hr2), _, _, rfl, rfl, _, _, rfl, rfl, ?_, ?_⟩
    · show (0 : Int) < ((ts.map V.ref).length : Int) + 1
      omega
    obtain ⟨pl, epl, hpl⟩ : ∃ pl : Nat, ns.getD 6 0 % (((ts.map V.ref).length : Int) + 1) = (pl : Int) ∧ pl ≤ ts.length := by
      have h1 := Int.emod_nonneg (ns.getD 6 0) (show (((ts.map V.ref).length : Int) + 1) ≠ 0 by omega)
      have h2 := Int.emod_lt_of_pos (ns.getD 6 0) (show (0 : Int) < ((ts.map V.ref).length : Int) + 1 by omega)
      rw [List.length_map] at h1 h2 ⊢
      exact ⟨(ns.getD 6 0 % ((ts.length : Int) + 1)).toNat, by omega, by omega⟩
    -- the bad season
    obtain ⟨bk, ebk⟩ := kind_at (ns.getD 7 0)
    refine ⟨sz1000' (by show 2 ≤ 100000; decide), fun p1 f1 => ⟨_, rfl, a, ns, 7, rfl, (sH2.trans (Same.upd f1)).seq hS, _, _, rfl, rfl, (by show (0 : Int) < 2; decide), p1, _, _, _, rfl, rfl, SqL.of upd_same, ebk, ?_⟩⟩
    refine ⟨_, rfl, sz1000' (by show 2 ≤ 100000; decide), fun t0 ft0 => ?_⟩
    have s3 := (Same.upd (o := .lst [V.str "warm", V.str "cold"]) f1).trans (Same.upd (o := .tup [.str (kindS bk), .int bad]) ft0)
    have ht0 : (upd (upd H2 p1 (.lst [V.str "warm", V.str "cold"])) t0 (.tup [.str (kindS bk), .int bad])) t0 = some (.tup [.str (kindS bk), .int bad]) := upd_same
    generalize upd (upd H2 p1 (.lst [V.str "warm", V.str "cold"])) t0 (.tup [.str (kindS bk), .int bad]) = H3 at s3 ht0 ⊢
    have sH3 := sH2.trans s3
    have h3n := s3 _ _ h2n
    have h3h := s3 _ _ h2h
    have h3r := s3 _ _ hr2
    have hS3 := hS2.same s3
    clear s3 h2n h2h hr2 hS2 ft0 f1
    -- the row with it
    have ec1 : cutV (ts.map V.ref) none (some (ns.getD 6 0 % (((ts.map V.ref).length : Int) + 1))) = (ts.take pl).map V.ref := by rw [epl, cut_takeG, List.map_take]
    have ec2 : cutV (ts.map V.ref) (some (ns.getD 6 0 % (((ts.map V.ref).length : Int) + 1))) none = (ts.drop pl).map V.ref := by rw [epl, cut_dropG, List.map_drop]
    refine ⟨_, rfl, _, rfl, _, rfl, pr, _, rfl, SqL.of h3r, fun q1 g1 => ⟨_, rfl, sz1000' (by show 1 ≤ 100000; decide), fun q2 g2 => ⟨q1, q2, _, _, rfl, rfl, Same.upd g2 _ _ upd_same, upd_same, ?_, fun q3 g3 => ?_⟩⟩⟩
    · rw [ec1]
      refine sz1000' ?_
      simp only [List.length_map, List.length_take, List.length_cons, List.length_nil]
      omega
    refine ⟨_, rfl, _, rfl, _, rfl, pr, _, rfl, SqL.of (Same.upd g3 _ _ (Same.upd g2 _ _ (Same.upd g1 _ _ h3r))), fun q4 g4 => ⟨q3, q4, _, _, rfl, rfl, Same.upd g4 _ _ upd_same, upd_same, ?_, fun q5 g5 => ?_⟩⟩
    · rw [ec1, ec2]
      refine sz1000' ?_
      simp only [List.length_append, List.length_map, List.length_take, List.length_drop, List.length_cons, List.length_nil]
      omega
    have eL : ((cutV (ts.map V.ref) none (some (ns.getD 6 0 % (((ts.map V.ref).length : Int) + 1))) ++ [V.ref t0]) ++ cutV (ts.map V.ref) (some (ns.getD 6 0 % (((ts.map V.ref).length : Int) + 1))) none) = ((ts.take pl ++ [t0]) ++ ts.drop pl).map V.ref := by rw [ec1, ec2, List.map_append, List.map_append]; rfl
    have sg := (((Same.upd g1).trans (Same.upd g2)).trans (Same.upd g3)).trans ((Same.upd g4).trans (Same.upd (o := .lst ((cutV (ts.map V.ref) none (some (ns.getD 6 0 % (((ts.map V.ref).length : Int) + 1))) ++ [V.ref t0]) ++ cutV (ts.map V.ref) (some (ns.getD 6 0 % (((ts.map V.ref).length : Int) + 1))) none)) g5))
    dsimp only [gName]
    refine seq_cut (fun σ H6 => ∃ (pr : Addr) (ts : List Addr) (ss : List (Bool × Int)) (v3 v4 v7 : Option V), σ = [some (.ref a), some (.ref pn), some (.ref ph), v3, v4, some (.int bad), some (.ref pr), v7, some (.ref t0), none, none, none] ∧ Same H H6 ∧ H6 pn = some (.lst (needs.map V.int)) ∧ H6 ph = some (.lst (heats.map V.int)) ∧ H6 t0 = some (.tup [.str (kindS bk), .int bad]) ∧ H6 pr = some (.lst (ts.map V.ref)) ∧ SeasAt H6 ts ss ∧ ss.length ≤ 100 ∧ ∃ z ∈ ss, ¬ GoodAm z.2) ?_ ?_
    · intro nx hnx
      have sH4 := sH3.trans sg
      have h4n := sg _ _ h3n
      have h4h := sg _ _ h3h
      have h4t := sg _ _ ht0
      have hS4 : SeasAt _ ((ts.take pl ++ [t0]) ++ ts.drop pl) ((ss.take pl ++ [(bk, bad)]) ++ ss.drop pl) := ((((hS3.same sg).take pl).snoc (z := (bk, bad)) h4t).append ((hS3.same sg).drop pl))
      refine ⟨_, rfl, a, ns, 7, rfl, sH4.seq hS, _, _, rfl, rfl, ⟨by decide, by decide⟩, _, _, rfl, rfl, (by show (0 : Int) < 2; decide), rfl, _, rfl, ?_⟩
      have hs60 : ((ss.take pl ++ [(bk, bad)]) ++ ss.drop pl).length ≤ 100 := by
        simp only [List.length_append, List.length_take, List.length_drop, List.length_cons, List.length_nil]
        omega
      refine ite2 (fun _ => ?_) (fun _ => ?_)
      · refine ⟨_, rfl, _, rfl, q5, _, rfl, SqL.of upd_same, fun q6 g6 => ⟨_, rfl, sz1000' (by show 2 ≤ 100000; decide), fun t1 g7 => ⟨sz1000' (by show 1 ≤ 100000; decide), fun q7 g8 => ⟨q6, q7, _, _, rfl, rfl, Same.upd g8 _ _ (Same.upd g7 _ _ upd_same), upd_same, ?_, fun q8 g9 => ?_⟩⟩⟩⟩
        · refine sz1000' ?_
          rw [eL, show (59 : Int) = ((59 : Nat) : Int) from rfl, cut_takeG]
          simp only [List.length_take, List.length_cons, List.length_nil]
          omega
        have s7 := ((Same.upd g6).trans (Same.upd (o := .tup [.str "warm", .int (-5)]) g7)).trans ((Same.upd g8).trans (Same.upd (o := .lst (cutV ((cutV (ts.map V.ref) none (some (ns.getD 6 0 % (((ts.map V.ref).length : Int) + 1))) ++ [V.ref t0]) ++ cutV (ts.map V.ref) (some (ns.getD 6 0 % (((ts.map V.ref).length : Int) + 1))) none) none (some 59) ++ [V.ref t1])) g9))
        have h7t := (Same.upd g8).trans (Same.upd (o := .lst (cutV ((cutV (ts.map V.ref) none (some (ns.getD 6 0 % (((ts.map V.ref).length : Int) + 1))) ++ [V.ref t0]) ++ cutV (ts.map V.ref) (some (ns.getD 6 0 % (((ts.map V.ref).length : Int) + 1))) none) none (some 59) ++ [V.ref t1])) g9) _ _ (upd_same (a := t1) (o := .tup [.str "warm", .int (-5)]))
        refine hnx _ _ ⟨q8, ((ts.take pl ++ [t0]) ++ ts.drop pl).take 59 ++ [t1], ((ss.take pl ++ [(bk, bad)]) ++ ss.drop pl).take 59 ++ [(true, -5)], _, _, _, rfl, sH4.trans s7, s7 _ _ h4n, s7 _ _ h4h, s7 _ _ h4t, upd_same.trans (congrArg (fun z => some (HO.lst z)) ?_), ((hS4.same s7).take 59).snoc (z := (true, -5)) h7t, ?_, (true, -5), by simp, by unfold GoodAm; omega⟩
        · rw [eL, show (59 : Int) = ((59 : Nat) : Int) from rfl, cut_takeG, ← List.map_take, List.map_append]; rfl
        · rw [List.length_append, List.length_take]
          show _ + 1 ≤ 100
          omega
      · exact hnx _ _ ⟨q5, _, _, _, _, _, rfl, sH4, h4n, h4h, h4t, upd_same.trans (congrArg (fun z => some (HO.lst z)) eL), hS4, hs60, (bk, bad), by simp, hbad⟩
    · rintro σ0 H6 ⟨pr, ts, ss, v3, v4, v7, rfl, sH6, h6n, h6h, h6t, h6r, hS6, hs6, hbz⟩
      clear sg eL ec1 ec2 hS3 h3r h3h h3n sH3 ht0 g1 g2 g3 g4 g5 epl hpl hts hsl hz fr en hn60 hfar
      have hT6 : TabOk PT ((("law" : Str) ++ ".<locals>.") ++ "<lambda>") H6 := TabOk.nil (sH6 _ _ hT)
      -- handed
      refine ⟨_, rfl, pn, _, rfl, .inl (SqL.of h6n), fun c1 e1 => ⟨_, rfl, ph, _, rfl, .inl (SqL.of (Same.upd e1 _ _ h6h)), fun c2 e2 => ⟨_, rfl, pr, _, rfl, .inl (SqL.of (Same.upd e2 _ _ (Same.upd e1 _ _ h6r))), fun c3 e3 => ⟨sz1000' (by show 3 ≤ 100000; decide), fun ha e4 => ?_⟩⟩⟩⟩
      have s7 := ((Same.upd (o := .lst (needs.map V.int)) e1).trans (Same.upd (o := .lst (heats.map V.int)) e2)).trans ((Same.upd (o := .lst (ts.map V.ref)) e3).trans (Same.upd (o := .lst [.ref c1, .ref c2, .ref c3]) e4))
      have h7a : (upd (upd (upd (upd H6 c1 (.lst (needs.map V.int))) c2 (.lst (heats.map V.int))) c3 (.lst (ts.map V.ref))) ha (.lst [.ref c1, .ref c2, .ref c3])) c1 = some (.lst (needs.map V.int)) := Same.upd e4 _ _ (Same.upd e3 _ _ (Same.upd e2 _ _ upd_same))
      have h7b : (upd (upd (upd (upd H6 c1 (.lst (needs.map V.int))) c2 (.lst (heats.map V.int))) c3 (.lst (ts.map V.ref))) ha (.lst [.ref c1, .ref c2, .ref c3])) c2 = some (.lst (heats.map V.int)) := Same.upd e4 _ _ (Same.upd e3 _ _ upd_same)
      have h7c : (upd (upd (upd (upd H6 c1 (.lst (needs.map V.int))) c2 (.lst (heats.map V.int))) c3 (.lst (ts.map V.ref))) ha (.lst [.ref c1, .ref c2, .ref c3])) c3 = some (.lst (ts.map V.ref)) := Same.upd e4 _ _ upd_same
      have h7d : (upd (upd (upd (upd H6 c1 (.lst (needs.map V.int))) c2 (.lst (heats.map V.int))) c3 (.lst (ts.map V.ref))) ha (.lst [.ref c1, .ref c2, .ref c3])) ha = some (.lst [.ref c1, .ref c2, .ref c3]) := upd_same
      generalize upd (upd (upd (upd H6 c1 (.lst (needs.map V.int))) c2 (.lst (heats.map V.int))) c3 (.lst (ts.map V.ref))) ha (.lst [.ref c1, .ref c2, .ref c3]) = H7 at s7 h7a h7b h7c h7d ⊢
      have h7n := s7 _ _ h6n
      have h7h := s7 _ _ h6h
      have h7t := s7 _ _ h6t
      have h7r := s7 _ _ h6r
      have hS7 := hS6.same s7
      have hT7 := hT6.same s7
      clear e1 e2 e3 e4 h6n h6h h6t h6r hS6 hT6 s7 sH6
      -- the calls
      dsimp only [gName]
      refine tSeq_i (tAsg_i (tLst_i (tCons_i (tLam_by hT7 fun f1 k1 u1 H8 s8 n1 hf1 hk1 hT8 => ?_))))
      refine ⟨sz1000' (by show 1 ≤ 100000; decide), fun pc fpc => ?_⟩
      have sN1 : SameN pc H7 (upd H8 pc (.lst [.ref f1])) := (SameN.of_lam hT7 s8).trans SameN.upd
      have hp1 : (upd H8 pc (.lst [.ref f1])) pc = some (.lst [.ref f1]) := upd_same
      have hT1 := hT8.same (Same.upd (o := .lst [.ref f1]) fpc)
      have hf1 := Same.upd (o := .lst [.ref f1]) fpc _ _ hf1
      have hk1 := Same.upd (o := .lst [.ref f1]) fpc _ _ hk1
      have npc : ∀ {b : Addr} {o : HO}, (∀ ps, o ≠ .tbl ps) → H7 b = some o → b ≠ pc := fun {b o} n e => ne_of_none (hT7.kept s8 n e) fpc
      generalize upd H8 pc (.lst [.ref f1]) = G1 at sN1 hp1 hT1 hf1 hk1 ⊢
      clear hT8 s8 fpc n1
      dsimp only [gName]
      refine ⟨_, rfl, .inl ⟨rfl, _, SqL.of hp1⟩, tCons_i (tLam_by hT1 fun f2 k2 u2 M2 m2 n2 hf2 hk2 hM2 => ?_)⟩
      have hq2 := hT1.kept m2 (by intro _ z; cases z) hp1
      refine ⟨pc, _, _, rfl, rfl, hq2, sz1000 (by show 1 ≤ 100000; decide), ?_⟩
      have sN2 : SameN pc G1 (upd M2 pc (.lst ([V.ref f1] ++ [V.ref f2]))) := (SameN.of_lam hT1 m2).trans SameN.upd
      have hp2 : (upd M2 pc (.lst ([V.ref f1] ++ [V.ref f2]))) pc = some (.lst ([V.ref f1] ++ [V.ref f2])) := upd_same
      have hT2 := hM2.upd (ys := ([V.ref f1] ++ [V.ref f2])) hq2
      have hz2 : f2 ≠ pc := Ne.symm (ne_of_none hp1 n2)
      have hf2 := (upd_ne (o := .lst ([V.ref f1] ++ [V.ref f2])) hz2).trans hf2
      have hk2 := (upd_ne (o := .lst ([V.ref f1] ++ [V.ref f2])) (ne_of hk2 hq2 (by intro z; cases z))).trans hk2
      generalize upd M2 pc (.lst ([V.ref f1] ++ [V.ref f2])) = G2 at sN2 hp2 hT2 hf2 hk2 ⊢
      clear hM2 m2 hq2 n2
      dsimp only [gName]
      refine ⟨_, rfl, .inl ⟨rfl, _, SqL.of hp2⟩, tCons_i (tLam_by hT2 fun f3 k3 u3 M3 m3 n3 hf3 hk3 hM3 => ?_)⟩
      have hq3 := hT2.kept m3 (by intro _ z; cases z) hp2
      refine ⟨pc, _, _, rfl, rfl, hq3, sz1000 (by show 2 ≤ 100000; decide), ?_⟩
      have sN3 : SameN pc G2 (upd M3 pc (.lst (([V.ref f1] ++ [V.ref f2]) ++ [V.ref f3]))) := (SameN.of_lam hT2 m3).trans SameN.upd
      have hp3 : (upd M3 pc (.lst (([V.ref f1] ++ [V.ref f2]) ++ [V.ref f3]))) pc = some (.lst (([V.ref f1] ++ [V.ref f2]) ++ [V.ref f3])) := upd_same
      have hT3 := hM3.upd (ys := (([V.ref f1] ++ [V.ref f2]) ++ [V.ref f3])) hq3
      have hz3 : f3 ≠ pc := Ne.symm (ne_of_none hp2 n3)
      have hf3 := (upd_ne (o := .lst (([V.ref f1] ++ [V.ref f2]) ++ [V.ref f3])) hz3).trans hf3
      have hk3 := (upd_ne (o := .lst (([V.ref f1] ++ [V.ref f2]) ++ [V.ref f3])) (ne_of hk3 hq3 (by intro z; cases z))).trans hk3
      generalize upd M3 pc (.lst (([V.ref f1] ++ [V.ref f2]) ++ [V.ref f3])) = G3 at sN3 hp3 hT3 hf3 hk3 ⊢
      clear hM3 m3 hq3 n3
      dsimp only [gName]
      refine ⟨_, rfl, .inl ⟨rfl, _, SqL.of hp3⟩, tCons_i (tLam_by hT3 fun f4 k4 u4 M4 m4 n4 hf4 hk4 hM4 => ?_)⟩
      have hq4 := hT3.kept m4 (by intro _ z; cases z) hp3
      refine ⟨pc, _, _, rfl, rfl, hq4, sz1000 (by show 3 ≤ 100000; decide), ?_⟩
      have sN4 : SameN pc G3 (upd M4 pc (.lst ((([V.ref f1] ++ [V.ref f2]) ++ [V.ref f3]) ++ [V.ref f4]))) := (SameN.of_lam hT3 m4).trans SameN.upd
      have hp4 : (upd M4 pc (.lst ((([V.ref f1] ++ [V.ref f2]) ++ [V.ref f3]) ++ [V.ref f4]))) pc = some (.lst ((([V.ref f1] ++ [V.ref f2]) ++ [V.ref f3]) ++ [V.ref f4])) := upd_same
      have hT4 := hM4.upd (ys := ((([V.ref f1] ++ [V.ref f2]) ++ [V.ref f3]) ++ [V.ref f4])) hq4
      have hz4 : f4 ≠ pc := Ne.symm (ne_of_none hp3 n4)
      have hf4 := (upd_ne (o := .lst ((([V.ref f1] ++ [V.ref f2]) ++ [V.ref f3]) ++ [V.ref f4])) hz4).trans hf4
      have hk4 := (upd_ne (o := .lst ((([V.ref f1] ++ [V.ref f2]) ++ [V.ref f3]) ++ [V.ref f4])) (ne_of hk4 hq4 (by intro z; cases z))).trans hk4
      generalize upd M4 pc (.lst ((([V.ref f1] ++ [V.ref f2]) ++ [V.ref f3]) ++ [V.ref f4])) = G4 at sN4 hp4 hT4 hf4 hk4 ⊢
      clear hM4 m4 hq4 n4
      dsimp only [gName]
      refine ⟨_, rfl, .inl ⟨rfl, _, SqL.of hp4⟩, tCons_i (tLam_by hT4 fun f5 k5 u5 M5 m5 n5 hf5 hk5 hM5 => ?_)⟩
      have hq5 := hT4.kept m5 (by intro _ z; cases z) hp4
      refine ⟨pc, _, _, rfl, rfl, hq5, sz1000 (by show 4 ≤ 100000; decide), ?_⟩
      have sN5 : SameN pc G4 (upd M5 pc (.lst (((([V.ref f1] ++ [V.ref f2]) ++ [V.ref f3]) ++ [V.ref f4]) ++ [V.ref f5]))) := (SameN.of_lam hT4 m5).trans SameN.upd
      have hp5 : (upd M5 pc (.lst (((([V.ref f1] ++ [V.ref f2]) ++ [V.ref f3]) ++ [V.ref f4]) ++ [V.ref f5]))) pc = some (.lst (((([V.ref f1] ++ [V.ref f2]) ++ [V.ref f3]) ++ [V.ref f4]) ++ [V.ref f5])) := upd_same
      have hT5 := hM5.upd (ys := (((([V.ref f1] ++ [V.ref f2]) ++ [V.ref f3]) ++ [V.ref f4]) ++ [V.ref f5])) hq5
      have hz5 : f5 ≠ pc := Ne.symm (ne_of_none hp4 n5)
      have hf5 := (upd_ne (o := .lst (((([V.ref f1] ++ [V.ref f2]) ++ [V.ref f3]) ++ [V.ref f4]) ++ [V.ref f5])) hz5).trans hf5
      have hk5 := (upd_ne (o := .lst (((([V.ref f1] ++ [V.ref f2]) ++ [V.ref f3]) ++ [V.ref f4]) ++ [V.ref f5])) (ne_of hk5 hq5 (by intro z; cases z))).trans hk5
      generalize upd M5 pc (.lst (((([V.ref f1] ++ [V.ref f2]) ++ [V.ref f3]) ++ [V.ref f4]) ++ [V.ref f5])) = G5 at sN5 hp5 hT5 hf5 hk5 ⊢
      clear hM5 m5 hq5 n5
      have sE1 := sN2.trans (sN3.trans (sN4.trans sN5))
      have sE2 := sN3.trans (sN4.trans sN5)
      have sE3 := sN4.trans sN5
      have hf1 := sE1 _ _ (by intro _ z; cases z) (ne_of hf1 hp1 (by intro z; cases z)) hf1
      have hk1 := sE1 _ _ (by intro _ z; cases z) (ne_of hk1 hp1 (by intro z; cases z)) hk1
      have hf2 := sE2 _ _ (by intro _ z; cases z) (ne_of hf2 hp2 (by intro z; cases z)) hf2
      have hk2 := sE2 _ _ (by intro _ z; cases z) (ne_of hk2 hp2 (by intro z; cases z)) hk2
      have hf3 := sE3 _ _ (by intro _ z; cases z) (ne_of hf3 hp3 (by intro z; cases z)) hf3
      have hk3 := sE3 _ _ (by intro _ z; cases z) (ne_of hk3 hp3 (by intro z; cases z)) hk3
      have hf4 := sN5 _ _ (by intro _ z; cases z) (ne_of hf4 hp4 (by intro z; cases z)) hf4
      have hk4 := sN5 _ _ (by intro _ z; cases z) (ne_of hk4 hp4 (by intro z; cases z)) hk4
      have sE : ∀ {b : Addr} {o : HO}, (∀ ps, o ≠ .tbl ps) → H7 b = some o → G5 b = some o := fun {b o} n e => sE1 _ _ n (npc n e) (sN1 _ _ n (npc n e) e)
      have h7a := sE (by intro _ z; cases z) h7a
      have h7b := sE (by intro _ z; cases z) h7b
      have h7c := sE (by intro _ z; cases z) h7c
      have h7d := sE (by intro _ z; cases z) h7d
      have h7n := sE (by intro _ z; cases z) h7n
      have h7h := sE (by intro _ z; cases z) h7h
      have h7t := sE (by intro _ z; cases z) h7t
      have h7r := sE (by intro _ z; cases z) h7r
      have hS7 : SeasAt G5 ts ss := ⟨hS7.len, fun i z e => let ⟨t, a1, a2⟩ := hS7.at' i z e; ⟨t, a1, sE (by intro _ z; cases z) a2⟩⟩
      clear sE sE1 sE2 sE3 sN1 sN2 sN3 sN4 sN5 hp1 hp2 hp3 hp4 hT1 hT2 hT3 hT4 hT5 hz2 hz3 hz4 hz5 npc hT7
      dsimp only [gName]
      -- each is refused
      refine ⟨_, rfl, pc, rfl, ⟨_, SqL.of hp5⟩, ?_⟩
      refine for_list (xs := ((((([V.ref f1] ++ [V.ref f2]) ++ [V.ref f3]) ++ [V.ref f4]) ++ [V.ref f5]))) (fun i σ H9 => (∃ v11, σ = [some (.ref a), some (.ref pn), some (.ref ph), v3, v4, some (.int bad), some (.ref pr), v7, some (.ref t0), some (.ref ha), some (.ref pc), v11]) ∧ Same G5 H9) ?_ ?_ ?_ ?_
      · exact ⟨⟨_, rfl⟩, Same.refl _⟩
      · rintro i σ H9 _ ⟨_, s9⟩
        exact SqL.of (s9 _ _ hp5)
      · rintro i x σ H9 hx ⟨⟨v11, rfl⟩, s9⟩
        obtain ⟨g, rfl, hg⟩ : ∃ g : Addr, x = .ref g ∧ ∀ cs, CellsAt (cxOf (CX1 P w) P w K mg base N_law "law" (defScope s_law) f fd.code A outer s H E).nox [some (.ref a), some (.ref pn), some (.ref ph), v3, v4, some (.int bad), some (.ref pr), v7, some (.ref t0), some (.ref ha), some (.ref pc), some x] H9 cs → LamRef P w K mg base C (addC cs H9) g 6 := by
          match i, hx with
          | 0, hx =>
            cases (Option.some.inj hx)
            exact ⟨f1, rfl, fun cs CA => lamRef_of (N := ["_law_handed", "_law_bad"]) (σ := [some (.ref ha), some (.int bad)]) (defScope s_law).names rfl rfl rfl (by decide +kernel) (by decide +kernel) (.all fun us hl => match us, hl with | [], _ => rfl) (s9 _ _ hf1) (s9 _ _ hk1) CA.un CA.all rfl (by
              intro i y v e1 e2
              match i, e1, e2 with
              | 0, e1, e2 =>
                cases e1; cases e2
                exact ⟨by decide +kernel, CA.val 9 _ _ rfl rfl rfl⟩
              | 1, e1, e2 =>
                cases e1; cases e2
                exact ⟨by decide +kernel, CA.val 5 _ _ rfl rfl rfl⟩
              | k + 2, e1, _ => cases e1) (fun A2 out2 s8 H0 Q' E' hr2 s0 hE => ⟨_, pe_callX o_warmed hr2 (pass_at rfl (Heap.get?_none_of_le (Nat.le_refl _))) (pa_cons (pe_ix ix_list (pv 0) pe_int (fun _ _ => rfl)) (pa_cons (pe_ix ix_list (pv 0) pe_int (fun _ _ => rfl)) (pa_cons (pv 1) pa_nil))), ⟨_, rfl, ha, _, _, _, rfl, rfl, SqL.of (s0 _ _ (s9 _ _ h7d)), rfl, _, rfl, ha, _, _, _, rfl, rfl, SqL.of (s0 _ _ (s9 _ _ h7d)), rfl, _, rfl, c1, c2, needs, heats, bad, rfl, SqL.of (s0 _ _ (s9 _ _ h7a)), SqL.of (s0 _ _ (s9 _ _ h7b)), hB1, by omega, B.ok.hi, fun hg => absurd hg hbad, fun _ => (fun C' xa H' hm sx hx => by have e := XE.g6.symm.trans hm; cases e; exact hE H' xa sx hx)⟩⟩)⟩
          | 1, hx =>
            cases (Option.some.inj hx)
            exact ⟨f2, rfl, fun cs CA => lamRef_of (N := ["_law_handed", "_law_bad"]) (σ := [some (.ref ha), some (.int bad)]) (defScope s_law).names rfl rfl rfl (by decide +kernel) (by decide +kernel) (.all fun us hl => match us, hl with | [], _ => rfl) (s9 _ _ hf2) (s9 _ _ hk2) CA.un CA.all rfl (by
              intro i y v e1 e2
              match i, e1, e2 with
              | 0, e1, e2 =>
                cases e1; cases e2
                exact ⟨by decide +kernel, CA.val 9 _ _ rfl rfl rfl⟩
              | 1, e1, e2 =>
                cases e1; cases e2
                exact ⟨by decide +kernel, CA.val 5 _ _ rfl rfl rfl⟩
              | k + 2, e1, _ => cases e1) (fun A2 out2 s8 H0 Q' E' hr2 s0 hE => ⟨_, pe_callX o_chilled hr2 (pass_at rfl (Heap.get?_none_of_le (Nat.le_refl _))) (pa_cons (pe_ix ix_list (pv 0) pe_int (fun _ _ => rfl)) (pa_cons (pe_ix ix_list (pv 0) pe_int (fun _ _ => rfl)) (pa_cons (pv 1) pa_nil))), ⟨_, rfl, ha, _, _, _, rfl, rfl, SqL.of (s0 _ _ (s9 _ _ h7d)), rfl, _, rfl, ha, _, _, _, rfl, rfl, SqL.of (s0 _ _ (s9 _ _ h7d)), rfl, _, rfl, _, c2, heats, bad, rfl, SqL.of (s0 _ _ (s9 _ _ h7b)), by omega, fun i hi => B.ok.lo i (by omega), fun hg => absurd hg hbad, fun _ => (fun C' xa H' hm sx hx => by have e := XE.g6.symm.trans hm; cases e; exact hE H' xa sx hx)⟩⟩)⟩
          | 2, hx =>
            cases (Option.some.inj hx)
            exact ⟨f3, rfl, fun cs CA => lamRef_of (N := ["_law_handed"]) (σ := [some (.ref ha)]) (defScope s_law).names rfl rfl rfl (by decide +kernel) (by decide +kernel) (.all fun us hl => match us, hl with | [], _ => rfl) (s9 _ _ hf3) (s9 _ _ hk3) CA.un CA.all rfl (by
              intro i y v e1 e2
              match i, e1, e2 with
              | 0, e1, e2 =>
                cases e1; cases e2
                exact ⟨by decide +kernel, CA.val 9 _ _ rfl rfl rfl⟩
              | k + 1, e1, _ => cases e1) (fun A2 out2 s8 H0 Q' E' hr2 s0 hE => ⟨_, pe_callX o_passed hr2 (pass_at rfl (Heap.get?_none_of_le (Nat.le_refl _))) (pa_cons (pe_ix ix_list (pv 0) pe_int (fun _ _ => rfl)) (pa_cons (pe_ix ix_list (pv 0) pe_int (fun _ _ => rfl)) (pa_cons (pe_ix ix_list (pv 0) pe_int (fun _ _ => rfl)) pa_nil))), ⟨_, rfl, ha, _, _, _, rfl, rfl, SqL.of (s0 _ _ (s9 _ _ h7d)), rfl, _, rfl, ha, _, _, _, rfl, rfl, SqL.of (s0 _ _ (s9 _ _ h7d)), rfl, _, rfl, ha, _, _, _, rfl, rfl, SqL.of (s0 _ _ (s9 _ _ h7d)), rfl, c1, c2, c3, needs, heats, ts, ss, rfl, SqL.of (s0 _ _ (s9 _ _ h7a)), SqL.of (s0 _ _ (s9 _ _ h7b)), SqL.of (s0 _ _ (s9 _ _ h7c)), (hS7.same s9).same s0, B.ok, by omega, hbz, (fun C' xa H' hm sx hx => by have e := XE.g6.symm.trans hm; cases e; exact hE H' xa sx hx)⟩⟩)⟩
          | 3, hx =>
            cases (Option.some.inj hx)
            exact ⟨f4, rfl, fun cs CA => lamRef_of (N := ["_law_needs", "_law_season_here"]) (σ := [some (.ref pn), some (.ref t0)]) (defScope s_law).names rfl rfl rfl (by decide +kernel) (by decide +kernel) (.all fun us hl => match us, hl with | [], _ => rfl) (s9 _ _ hf4) (s9 _ _ hk4) CA.un CA.all rfl (by
              intro i y v e1 e2
              match i, e1, e2 with
              | 0, e1, e2 =>
                cases e1; cases e2
                exact ⟨by decide +kernel, CA.val 1 _ _ rfl rfl rfl⟩
              | 1, e1, e2 =>
                cases e1; cases e2
                exact ⟨by decide +kernel, CA.val 8 _ _ rfl rfl rfl⟩
              | k + 2, e1, _ => cases e1) (fun A2 out2 s8 H0 Q' E' hr2 s0 hE => ⟨_, pe_callX o_season_rule hr2 (pass_at rfl (Heap.get?_none_of_le (Nat.le_refl _))) (pa_cons (pe_sum (by rfl) T.n_sum (pv 0)) (pa_cons (pv 1) pa_nil)), ⟨_, rfl, pn, needs, rfl, SqL.of (s0 _ _ (s9 _ _ h7n)), _, rfl, _, t0, (bk, bad), rfl, s0 _ _ (s9 _ _ h7t), by omega, fun hg => absurd hg hbad, fun _ => (fun C' xa H' hm sx hx => by have e := XE.g6.symm.trans hm; cases e; exact hE H' xa sx hx)⟩⟩)⟩
          | 4, hx =>
            cases (Option.some.inj hx)
            exact ⟨f5, rfl, fun cs CA => lamRef_of (N := ["_law_needs", "_law_handed"]) (σ := [some (.ref pn), some (.ref ha)]) (defScope s_law).names rfl rfl rfl (by decide +kernel) (by decide +kernel) (.all fun us hl => match us, hl with | [], _ => rfl) (s9 _ _ hf5) (s9 _ _ hk5) CA.un CA.all rfl (by
              intro i y v e1 e2
              match i, e1, e2 with
              | 0, e1, e2 =>
                cases e1; cases e2
                exact ⟨by decide +kernel, CA.val 1 _ _ rfl rfl rfl⟩
              | 1, e1, e2 =>
                cases e1; cases e2
                exact ⟨by decide +kernel, CA.val 9 _ _ rfl rfl rfl⟩
              | k + 2, e1, _ => cases e1) (fun A2 out2 s8 H0 Q' E' hr2 s0 hE => ⟨_, pe_callX o_row_rule hr2 (pass_at rfl (Heap.get?_none_of_le (Nat.le_refl _))) (pa_cons (pe_sum (by rfl) T.n_sum (pv 0)) (pa_cons (pe_ix ix_list (pv 1) pe_int (fun _ _ => rfl)) pa_nil)), ⟨_, rfl, pn, needs, rfl, SqL.of (s0 _ _ (s9 _ _ h7n)), _, rfl, ha, _, _, _, rfl, rfl, SqL.of (s0 _ _ (s9 _ _ h7d)), rfl, _, c3, ts, ss, rfl, SqL.of (s0 _ _ (s9 _ _ h7c)), (hS7.same s9).same s0, by omega, hbz, by omega, (fun C' xa H' hm sx hx => by have e := XE.g6.symm.trans hm; cases e; exact hE H' xa sx hx)⟩⟩)⟩
          | k + 5, hx => cases hx
        dsimp only [gName]
        refine ⟨_, rfl, fun cs CA => ⟨g, 6, rfl, by decide, hg cs CA, R6, fun H10 s10 => ⟨_, rfl, ?_⟩⟩⟩
        refine iteF ?_
        exact ⟨⟨_, rfl⟩, s9.trans (s10.drop CA.un)⟩
      · rintro σ H9 ⟨⟨v11, rfl⟩, s9⟩
        have hd := s9 _ _ h7d
        refine ⟨_, rfl, _, rfl, ?_⟩
        refine iteF ?_
        refine ⟨rfl, _, rfl, ?_⟩
        refine iteF ?_
        refine ⟨_, rfl, ha, _, _, _, rfl, rfl, SqL.of hd, rfl, _, rfl, c3, pr, _, rfl, rfl, SqL.of (s9 _ _ h7c), SqL.of (s9 _ _ h7r), ?_, _, rfl, ?_⟩
        · exact List.all_eq_true.mpr fun x hx => by
            obtain ⟨t, _, rfl⟩ := List.mem_map.mp hx
            rfl
        refine iteF ?_
        refine ⟨_, rfl, ha, _, _, _, rfl, rfl, SqL.of hd, rfl, _, rfl, c1, pn, needs, rfl, s9 _ _ h7a, SqL.of (s9 _ _ h7n), by omega, _, rfl, ?_⟩
        refine iteT ?_
        exact ⟨_, rfl, ha, _, _, _, rfl, rfl, SqL.of hd, rfl, _, rfl, c2, ph, heats, rfl, s9 _ _ h7b, SqL.of (s9 _ _ h7h), by omega, q _⟩
end
theorem all_mk {l : PySem.W.OpenLaw} {w : World} {K : PySem.W.Frag} {h : Heap} {mg : Str → Option Value} {fa c PT CT f_check_amount f_shared_from_top f_warmed f_chilled f_passed f_still f_applied f_joined f_season_rule f_row_rule f_at f_whole f_numbers f_row f_beds f_amount f_season f_seasons f_refusal f_law e_0 e_1 e_2 e_3 e_4 e_5 e_6 e_7 e_8 e_9 e_10 e_11 : Addr} {cdT cd_0 cd_1 cd_2 cd_3 cd_4 cd_5 cd_6 cd_7 cd_8 cd_9 cd_10 cd_11 : ClassData} (X : K.In h) (G : h.Ns mainGlobals mg) (hfa : mg "law" = some (.ref fa))
    {od_check_amount an_check_amount od_shared_from_top an_shared_from_top od_warmed an_warmed od_chilled an_chilled od_passed an_passed od_still an_still od_applied an_applied od_joined an_joined od_season_rule an_season_rule od_row_rule an_row_rule od_at an_at od_whole an_whole od_numbers an_numbers od_row an_row od_beds an_beds od_amount an_amount od_season an_season od_seasons an_seasons od_refusal an_refusal od_law an_law : Option Addr} {sl_check_amount sl_shared_from_top sl_warmed sl_chilled sl_passed sl_still sl_applied sl_joined sl_season_rule sl_row_rule sl_at sl_whole sl_numbers sl_row sl_beds sl_amount sl_season sl_seasons sl_refusal sl_law : Array (Option Value)} {oc_check_amount kV_check_amount dc_check_amount pm_check_amount ct_check_amount cv_check_amount oc_shared_from_top kV_shared_from_top dc_shared_from_top pm_shared_from_top ct_shared_from_top cv_shared_from_top oc_warmed kV_warmed dc_warmed pm_warmed ct_warmed cv_warmed oc_chilled kV_chilled dc_chilled pm_chilled ct_chilled cv_chilled oc_passed kV_passed dc_passed pm_passed ct_passed cv_passed oc_still kV_still dc_still pm_still ct_still cv_still oc_applied kV_applied dc_applied pm_applied ct_applied cv_applied oc_joined kV_joined dc_joined pm_joined ct_joined cv_joined oc_season_rule kV_season_rule dc_season_rule pm_season_rule ct_season_rule cv_season_rule oc_row_rule kV_row_rule dc_row_rule pm_row_rule ct_row_rule cv_row_rule oc_at kV_at dc_at pm_at ct_at cv_at oc_whole kV_whole dc_whole pm_whole ct_whole cv_whole oc_numbers kV_numbers dc_numbers pm_numbers ct_numbers cv_numbers oc_row kV_row dc_row pm_row ct_row cv_row oc_beds kV_beds dc_beds pm_beds ct_beds cv_beds oc_amount kV_amount dc_amount pm_amount ct_amount cv_amount oc_season kV_season dc_season pm_season ct_season cv_season oc_seasons kV_seasons dc_seasons pm_seasons ct_seasons cv_seasons oc_refusal kV_refusal dc_refusal pm_refusal ct_refusal cv_refusal oc_law kV_law dc_law pm_law ct_law : Value}
    {t_MOST_AMOUNT : Tok}
    (a_check_amount : PySem.W.nsIn K mainGlobals "check_amount" = some (some (.ref f_check_amount))) (l_check_amount : K.lookup f_check_amount = some ⟨oc_check_amount, od_check_amount, .func (PySem.W.fnOf "check_amount" "check_amount" (defArgs s_check_amount) (defBody s_check_amount) (defScope s_check_amount) .none kV_check_amount dc_check_amount pm_check_amount an_check_amount cv_check_amount ct_check_amount), sl_check_amount⟩) (c_check_amount : PySem.W.codeIn K cv_check_amount "check_amount" = true) (k_check_amount : PySem.W.keepIn K (.ref f_check_amount) = true)
    (a_shared_from_top : PySem.W.nsIn K mainGlobals "shared_from_top" = some (some (.ref f_shared_from_top))) (l_shared_from_top : K.lookup f_shared_from_top = some ⟨oc_shared_from_top, od_shared_from_top, .func (PySem.W.fnOf "shared_from_top" "shared_from_top" (defArgs s_shared_from_top) (defBody s_shared_from_top) (defScope s_shared_from_top) .none kV_shared_from_top dc_shared_from_top pm_shared_from_top an_shared_from_top cv_shared_from_top ct_shared_from_top), sl_shared_from_top⟩) (c_shared_from_top : PySem.W.codeIn K cv_shared_from_top "shared_from_top" = true) (k_shared_from_top : PySem.W.keepIn K (.ref f_shared_from_top) = true)
    (a_warmed : PySem.W.nsIn K mainGlobals "warmed" = some (some (.ref f_warmed))) (l_warmed : K.lookup f_warmed = some ⟨oc_warmed, od_warmed, .func (PySem.W.fnOf "warmed" "warmed" (defArgs s_warmed) (defBody s_warmed) (defScope s_warmed) .none kV_warmed dc_warmed pm_warmed an_warmed cv_warmed ct_warmed), sl_warmed⟩) (c_warmed : PySem.W.codeIn K cv_warmed "warmed" = true) (k_warmed : PySem.W.keepIn K (.ref f_warmed) = true)
    (a_chilled : PySem.W.nsIn K mainGlobals "chilled" = some (some (.ref f_chilled))) (l_chilled : K.lookup f_chilled = some ⟨oc_chilled, od_chilled, .func (PySem.W.fnOf "chilled" "chilled" (defArgs s_chilled) (defBody s_chilled) (defScope s_chilled) .none kV_chilled dc_chilled pm_chilled an_chilled cv_chilled ct_chilled), sl_chilled⟩) (c_chilled : PySem.W.codeIn K cv_chilled "chilled" = true) (k_chilled : PySem.W.keepIn K (.ref f_chilled) = true)
    (a_passed : PySem.W.nsIn K mainGlobals "passed" = some (some (.ref f_passed))) (l_passed : K.lookup f_passed = some ⟨oc_passed, od_passed, .func (PySem.W.fnOf "passed" "passed" (defArgs s_passed) (defBody s_passed) (defScope s_passed) .none kV_passed dc_passed pm_passed an_passed cv_passed ct_passed), sl_passed⟩) (c_passed : PySem.W.codeIn K cv_passed "passed" = true) (k_passed : PySem.W.keepIn K (.ref f_passed) = true)
    (a_still : PySem.W.nsIn K mainGlobals "still" = some (some (.ref f_still))) (l_still : K.lookup f_still = some ⟨oc_still, od_still, .func (PySem.W.fnOf "still" "still" (defArgs s_still) (defBody s_still) (defScope s_still) .none kV_still dc_still pm_still an_still cv_still ct_still), sl_still⟩) (c_still : PySem.W.codeIn K cv_still "still" = true) (k_still : PySem.W.keepIn K (.ref f_still) = true)
    (a_applied : PySem.W.nsIn K mainGlobals "applied" = some (some (.ref f_applied))) (l_applied : K.lookup f_applied = some ⟨oc_applied, od_applied, .func (PySem.W.fnOf "applied" "applied" (defArgs s_applied) (defBody s_applied) (defScope s_applied) .none kV_applied dc_applied pm_applied an_applied cv_applied ct_applied), sl_applied⟩) (c_applied : PySem.W.codeIn K cv_applied "applied" = true) (k_applied : PySem.W.keepIn K (.ref f_applied) = true)
    (a_joined : PySem.W.nsIn K mainGlobals "joined" = some (some (.ref f_joined))) (l_joined : K.lookup f_joined = some ⟨oc_joined, od_joined, .func (PySem.W.fnOf "joined" "joined" (defArgs s_joined) (defBody s_joined) (defScope s_joined) .none kV_joined dc_joined pm_joined an_joined cv_joined ct_joined), sl_joined⟩) (c_joined : PySem.W.codeIn K cv_joined "joined" = true) (k_joined : PySem.W.keepIn K (.ref f_joined) = true)
    (a_season_rule : PySem.W.nsIn K mainGlobals "season_rule" = some (some (.ref f_season_rule))) (l_season_rule : K.lookup f_season_rule = some ⟨oc_season_rule, od_season_rule, .func (PySem.W.fnOf "season_rule" "season_rule" (defArgs s_season_rule) (defBody s_season_rule) (defScope s_season_rule) .none kV_season_rule dc_season_rule pm_season_rule an_season_rule cv_season_rule ct_season_rule), sl_season_rule⟩) (c_season_rule : PySem.W.codeIn K cv_season_rule "season_rule" = true) (k_season_rule : PySem.W.keepIn K (.ref f_season_rule) = true)
    (a_row_rule : PySem.W.nsIn K mainGlobals "row_rule" = some (some (.ref f_row_rule))) (l_row_rule : K.lookup f_row_rule = some ⟨oc_row_rule, od_row_rule, .func (PySem.W.fnOf "row_rule" "row_rule" (defArgs s_row_rule) (defBody s_row_rule) (defScope s_row_rule) .none kV_row_rule dc_row_rule pm_row_rule an_row_rule cv_row_rule ct_row_rule), sl_row_rule⟩) (c_row_rule : PySem.W.codeIn K cv_row_rule "row_rule" = true) (k_row_rule : PySem.W.keepIn K (.ref f_row_rule) = true)
    (a_at : PySem.W.nsIn K mainGlobals "_law_at" = some (some (.ref f_at))) (l_at : K.lookup f_at = some ⟨oc_at, od_at, .func (PySem.W.fnOf "_law_at" "_law_at" (defArgs s_at) (defBody s_at) (defScope s_at) .none kV_at dc_at pm_at an_at cv_at ct_at), sl_at⟩) (c_at : PySem.W.codeIn K cv_at "_law_at" = true) (k_at : PySem.W.keepIn K (.ref f_at) = true)
    (a_whole : PySem.W.nsIn K mainGlobals "_law_whole" = some (some (.ref f_whole))) (l_whole : K.lookup f_whole = some ⟨oc_whole, od_whole, .func (PySem.W.fnOf "_law_whole" "_law_whole" (defArgs s_whole) (defBody s_whole) (defScope s_whole) .none kV_whole dc_whole pm_whole an_whole cv_whole ct_whole), sl_whole⟩) (c_whole : PySem.W.codeIn K cv_whole "_law_whole" = true) (k_whole : PySem.W.keepIn K (.ref f_whole) = true)
    (a_numbers : PySem.W.nsIn K mainGlobals "_law_numbers" = some (some (.ref f_numbers))) (l_numbers : K.lookup f_numbers = some ⟨oc_numbers, od_numbers, .func (PySem.W.fnOf "_law_numbers" "_law_numbers" (defArgs s_numbers) (defBody s_numbers) (defScope s_numbers) .none kV_numbers dc_numbers pm_numbers an_numbers cv_numbers ct_numbers), sl_numbers⟩) (c_numbers : PySem.W.codeIn K cv_numbers "_law_numbers" = true) (k_numbers : PySem.W.keepIn K (.ref f_numbers) = true)
    (a_row : PySem.W.nsIn K mainGlobals "_law_row" = some (some (.ref f_row))) (l_row : K.lookup f_row = some ⟨oc_row, od_row, .func (PySem.W.fnOf "_law_row" "_law_row" (defArgs s_row) (defBody s_row) (defScope s_row) .none kV_row dc_row pm_row an_row cv_row ct_row), sl_row⟩) (c_row : PySem.W.codeIn K cv_row "_law_row" = true) (k_row : PySem.W.keepIn K (.ref f_row) = true)
    (a_beds : PySem.W.nsIn K mainGlobals "_law_beds" = some (some (.ref f_beds))) (l_beds : K.lookup f_beds = some ⟨oc_beds, od_beds, .func (PySem.W.fnOf "_law_beds" "_law_beds" (defArgs s_beds) (defBody s_beds) (defScope s_beds) .none kV_beds dc_beds pm_beds an_beds cv_beds ct_beds), sl_beds⟩) (c_beds : PySem.W.codeIn K cv_beds "_law_beds" = true) (k_beds : PySem.W.keepIn K (.ref f_beds) = true)
    (a_amount : PySem.W.nsIn K mainGlobals "_law_amount" = some (some (.ref f_amount))) (l_amount : K.lookup f_amount = some ⟨oc_amount, od_amount, .func (PySem.W.fnOf "_law_amount" "_law_amount" (defArgs s_amount) (defBody s_amount) (defScope s_amount) .none kV_amount dc_amount pm_amount an_amount cv_amount ct_amount), sl_amount⟩) (c_amount : PySem.W.codeIn K cv_amount "_law_amount" = true) (k_amount : PySem.W.keepIn K (.ref f_amount) = true)
    (a_season : PySem.W.nsIn K mainGlobals "_law_season" = some (some (.ref f_season))) (l_season : K.lookup f_season = some ⟨oc_season, od_season, .func (PySem.W.fnOf "_law_season" "_law_season" (defArgs s_season) (defBody s_season) (defScope s_season) .none kV_season dc_season pm_season an_season cv_season ct_season), sl_season⟩) (c_season : PySem.W.codeIn K cv_season "_law_season" = true) (k_season : PySem.W.keepIn K (.ref f_season) = true)
    (a_seasons : PySem.W.nsIn K mainGlobals "_law_seasons" = some (some (.ref f_seasons))) (l_seasons : K.lookup f_seasons = some ⟨oc_seasons, od_seasons, .func (PySem.W.fnOf "_law_seasons" "_law_seasons" (defArgs s_seasons) (defBody s_seasons) (defScope s_seasons) .none kV_seasons dc_seasons pm_seasons an_seasons cv_seasons ct_seasons), sl_seasons⟩) (c_seasons : PySem.W.codeIn K cv_seasons "_law_seasons" = true) (k_seasons : PySem.W.keepIn K (.ref f_seasons) = true)
    (a_refusal : PySem.W.nsIn K mainGlobals "_law_refusal" = some (some (.ref f_refusal))) (l_refusal : K.lookup f_refusal = some ⟨oc_refusal, od_refusal, .func (PySem.W.fnOf "_law_refusal" "_law_refusal" (defArgs s_refusal) (defBody s_refusal) (defScope s_refusal) .none kV_refusal dc_refusal pm_refusal an_refusal cv_refusal ct_refusal), sl_refusal⟩) (c_refusal : PySem.W.codeIn K cv_refusal "_law_refusal" = true) (k_refusal : PySem.W.keepIn K (.ref f_refusal) = true)
    (a_law : PySem.W.nsIn K mainGlobals "law" = some (some (.ref f_law))) (l_law : K.lookup f_law = some ⟨oc_law, od_law, .func (PySem.W.fnOf "law" "law" (defArgs s_law) (defBody s_law) (defScope s_law) .none kV_law dc_law pm_law an_law (.ref c) ct_law), sl_law⟩) (c_law : PySem.W.codeIn K (.ref c) "law" = true) (k_law : PySem.W.keepIn K (.ref f_law) = true)
    (z_ValueError : PySem.W.nsIn K mainGlobals "ValueError" = some none)
    (z_bool : PySem.W.nsIn K mainGlobals "bool" = some none)
    (z_int : PySem.W.nsIn K mainGlobals "int" = some none)
    (z_isinstance : PySem.W.nsIn K mainGlobals "isinstance" = some none)
    (z_len : PySem.W.nsIn K mainGlobals "len" = some none)
    (z_list : PySem.W.nsIn K mainGlobals "list" = some none)
    (z_max : PySem.W.nsIn K mainGlobals "max" = some none)
    (z_min : PySem.W.nsIn K mainGlobals "min" = some none)
    (z_range : PySem.W.nsIn K mainGlobals "range" = some none)
    (z_sum : PySem.W.nsIn K mainGlobals "sum" = some none)
    (z_zip : PySem.W.nsIn K mainGlobals "zip" = some none)
    (g_MOST_AMOUNT : PySem.W.nsIn K mainGlobals "MOST_AMOUNT" = some (some (.int 1000000 t_MOST_AMOUNT)))
    (aT : PySem.W.nsIn K mainGlobals "ThawError" = some (some (.ref CT))) (bT : PySem.W.subIn K (.ref CT) (.type "BaseException") = some true) (cT : PySem.W.clsIn K CT = some cdT) (tT : PySem.W.typeIn K (.ref CT) = some (.type "type"))
    (aE0 : PySem.W.nsIn K mainGlobals "UnknownBed" = some (some (.ref e_0))) (cE0 : PySem.W.clsIn K e_0 = some cd_0) (tE0 : PySem.W.typeIn K (.ref e_0) = some (.type "type"))
    (aE1 : PySem.W.nsIn K mainGlobals "UnknownDeed" = some (some (.ref e_1))) (cE1 : PySem.W.clsIn K e_1 = some cd_1) (tE1 : PySem.W.typeIn K (.ref e_1) = some (.type "type"))
    (aE2 : PySem.W.nsIn K mainGlobals "BadBeds" = some (some (.ref e_2))) (cE2 : PySem.W.clsIn K e_2 = some cd_2) (tE2 : PySem.W.typeIn K (.ref e_2) = some (.type "type"))
    (aE3 : PySem.W.nsIn K mainGlobals "BadNeed" = some (some (.ref e_3))) (cE3 : PySem.W.clsIn K e_3 = some cd_3) (tE3 : PySem.W.typeIn K (.ref e_3) = some (.type "type"))
    (aE4 : PySem.W.nsIn K mainGlobals "BadHeat" = some (some (.ref e_4))) (cE4 : PySem.W.clsIn K e_4 = some cd_4) (tE4 : PySem.W.typeIn K (.ref e_4) = some (.type "type"))
    (aE5 : PySem.W.nsIn K mainGlobals "BadYear" = some (some (.ref e_5))) (cE5 : PySem.W.clsIn K e_5 = some cd_5) (tE5 : PySem.W.typeIn K (.ref e_5) = some (.type "type"))
    (aE6 : PySem.W.nsIn K mainGlobals "BadAmount" = some (some (.ref e_6))) (cE6 : PySem.W.clsIn K e_6 = some cd_6) (tE6 : PySem.W.typeIn K (.ref e_6) = some (.type "type"))
    (aE7 : PySem.W.nsIn K mainGlobals "BadTimes" = some (some (.ref e_7))) (cE7 : PySem.W.clsIn K e_7 = some cd_7) (tE7 : PySem.W.typeIn K (.ref e_7) = some (.type "type"))
    (aE8 : PySem.W.nsIn K mainGlobals "UnknownSeason" = some (some (.ref e_8))) (cE8 : PySem.W.clsIn K e_8 = some cd_8) (tE8 : PySem.W.typeIn K (.ref e_8) = some (.type "type"))
    (aE9 : PySem.W.nsIn K mainGlobals "TooManyLaid" = some (some (.ref e_9))) (cE9 : PySem.W.clsIn K e_9 = some cd_9) (tE9 : PySem.W.typeIn K (.ref e_9) = some (.type "type"))
    (aE10 : PySem.W.nsIn K mainGlobals "TooManyDeeds" = some (some (.ref e_10))) (cE10 : PySem.W.clsIn K e_10 = some cd_10) (tE10 : PySem.W.typeIn K (.ref e_10) = some (.type "type"))
    (aE11 : PySem.W.nsIn K mainGlobals "NothingDone" = some (some (.ref e_11))) (cE11 : PySem.W.clsIn K e_11 = some cd_11) (tE11 : PySem.W.typeIn K (.ref e_11) = some (.type "type"))
    (xE6 : PySem.W.excIn K e_6 [.type "ValueError", .type "Exception", .type "BaseException", .type "object"] "ValueError.__new__" = true)
    (r6g : PySem.W.findIn K (.ref e_6) "__getattribute__" = some (some (.builtin "BaseException.__getattribute__"))) (r6n : PySem.W.findIn K (.ref e_6) "__getattr__" = some none) (r6c : PySem.W.findIn K (.ref e_6) "__class__" = some (some (.builtin "object.__class__"))) (r6b : PySem.W.mroIn K e_6 (.type "BaseException") = some true) (r6o : PySem.W.mroIn K e_6 (.type "object") = some true) (r6t : PySem.W.subIn K (.ref e_6) (.ref CT) = some true) (r6v : PySem.W.subIn K (.ref e_6) (.type "ValueError") = some true)
    (s6_0 : PySem.W.subIn K (.ref e_6) (.ref e_0) = some false) (n6_0 : (e_6 == e_0) = false)
    (s6_1 : PySem.W.subIn K (.ref e_6) (.ref e_1) = some false) (n6_1 : (e_6 == e_1) = false)
    (s6_2 : PySem.W.subIn K (.ref e_6) (.ref e_2) = some false) (n6_2 : (e_6 == e_2) = false)
    (s6_3 : PySem.W.subIn K (.ref e_6) (.ref e_3) = some false) (n6_3 : (e_6 == e_3) = false)
    (s6_4 : PySem.W.subIn K (.ref e_6) (.ref e_4) = some false) (n6_4 : (e_6 == e_4) = false)
    (s6_5 : PySem.W.subIn K (.ref e_6) (.ref e_5) = some false) (n6_5 : (e_6 == e_5) = false)
    (s6_7 : PySem.W.subIn K (.ref e_6) (.ref e_7) = some false) (n6_7 : (e_6 == e_7) = false)
    (s6_8 : PySem.W.subIn K (.ref e_6) (.ref e_8) = some false) (n6_8 : (e_6 == e_8) = false)
    (s6_9 : PySem.W.subIn K (.ref e_6) (.ref e_9) = some false) (n6_9 : (e_6 == e_9) = false)
    (s6_10 : PySem.W.subIn K (.ref e_6) (.ref e_10) = some false) (n6_10 : (e_6 == e_10) = false)
    (s6_11 : PySem.W.subIn K (.ref e_6) (.ref e_11) = some false) (n6_11 : (e_6 == e_11) = false)
    : ∃ fd : FuncData, (∀ (s : Shared) (v : Value), BindsTo s fd ⟨[v], []⟩ [("_law_script", v)]) ∧ ∀ base : Heap, K.In base → base.Ns mainGlobals mg → PySem.W.CodeHd base c PT → base.BuiltinsAt mg PT → FnOk l.prog w K mg base (CX1 l.prog w) 8 fa fd ["_law_script"] (sp_law K PT) := by
  have e := hfa.symm.trans (PySem.W.mg_of X G a_law)
  cases e
  have T : Txt K mg := ⟨PySem.W.mg_none_of X G z_ValueError, PySem.W.mg_none_of X G z_bool, PySem.W.mg_none_of X G z_int, PySem.W.mg_none_of X G z_isinstance, PySem.W.mg_none_of X G z_len, PySem.W.mg_none_of X G z_list, PySem.W.mg_none_of X G z_max, PySem.W.mg_none_of X G z_min, PySem.W.mg_none_of X G z_range, PySem.W.mg_none_of X G z_sum, PySem.W.mg_none_of X G z_zip, ⟨_, PySem.W.mg_of X G g_MOST_AMOUNT⟩⟩
  have XE : Errs mg CT (fun i => [e_0, e_1, e_2, e_3, e_4, e_5, e_6, e_7, e_8, e_9, e_10, e_11].getD i 0) := ⟨PySem.W.mg_of X G aT, PySem.W.mg_of X G aE0, PySem.W.mg_of X G aE1, PySem.W.mg_of X G aE2, PySem.W.mg_of X G aE3, PySem.W.mg_of X G aE4, PySem.W.mg_of X G aE5, PySem.W.mg_of X G aE6, PySem.W.mg_of X G aE7, PySem.W.mg_of X G aE8, PySem.W.mg_of X G aE9, PySem.W.mg_of X G aE10, PySem.W.mg_of X G aE11⟩
  have XU_BadAmount : Exc K mg "BadAmount" e_6 := ⟨PySem.W.mg_of X G aE6, xE6⟩
  have R6 : Refuses K CT (fun i => [e_0, e_1, e_2, e_3, e_4, e_5, e_6, e_7, e_8, e_9, e_10, e_11].getD i 0) 6 := ⟨⟨by show (PySem.W.clsIn K e_6).isSome = true; rw [cE6]; rfl, r6g, r6n, r6c, r6b, r6o⟩, exm_of bT cT tT r6t, fun i hi => match i, hi with | 0, _ => kit_no n6_0 cE0 tE0 s6_0 | 1, _ => kit_no n6_1 cE1 tE1 s6_1 | 2, _ => kit_no n6_2 cE2 tE2 s6_2 | 3, _ => kit_no n6_3 cE3 tE3 s6_3 | 4, _ => kit_no n6_4 cE4 tE4 s6_4 | 5, _ => kit_no n6_5 cE5 tE5 s6_5 | 6, _ => kit_self | 7, _ => kit_no n6_7 cE7 tE7 s6_7 | 8, _ => kit_no n6_8 cE8 tE8 s6_8 | 9, _ => kit_no n6_9 cE9 tE9 s6_9 | 10, _ => kit_no n6_10 cE10 tE10 s6_10 | 11, _ => kit_no n6_11 cE11 tE11 s6_11 | k + 12, hi => absurd hi (by omega), kit_ve r6v⟩
  have F_check_amount := fun_mk (st := s_check_amount) l_check_amount c_check_amount k_check_amount
  have b_check_amount := F_check_amount.binds (ps := P_check_amount) fun _ _ _ _ _ _ us hl => match us, hl with | [_], _ => rfl
  have F_shared_from_top := fun_mk (st := s_shared_from_top) l_shared_from_top c_shared_from_top k_shared_from_top
  have b_shared_from_top := F_shared_from_top.binds (ps := P_shared_from_top) fun _ _ _ _ _ _ us hl => match us, hl with | [_, _], _ => rfl
  have F_warmed := fun_mk (st := s_warmed) l_warmed c_warmed k_warmed
  have b_warmed := F_warmed.binds (ps := P_warmed) fun _ _ _ _ _ _ us hl => match us, hl with | [_, _, _], _ => rfl
  have F_chilled := fun_mk (st := s_chilled) l_chilled c_chilled k_chilled
  have b_chilled := F_chilled.binds (ps := P_chilled) fun _ _ _ _ _ _ us hl => match us, hl with | [_, _, _], _ => rfl
  have F_passed := fun_mk (st := s_passed) l_passed c_passed k_passed
  have b_passed := F_passed.binds (ps := P_passed) fun _ _ _ _ _ _ us hl => match us, hl with | [_, _, _], _ => rfl
  have F_still := fun_mk (st := s_still) l_still c_still k_still
  have b_still := F_still.binds (ps := P_still) fun _ _ _ _ _ _ us hl => match us, hl with | [_], _ => rfl
  have F_applied := fun_mk (st := s_applied) l_applied c_applied k_applied
  have b_applied := F_applied.binds (ps := P_applied) fun _ _ _ _ _ _ us hl => match us, hl with | [_, _], _ => rfl
  have F_joined := fun_mk (st := s_joined) l_joined c_joined k_joined
  have b_joined := F_joined.binds (ps := P_joined) fun _ _ _ _ _ _ us hl => match us, hl with | [_, _], _ => rfl
  have F_season_rule := fun_mk (st := s_season_rule) l_season_rule c_season_rule k_season_rule
  have b_season_rule := F_season_rule.binds (ps := P_season_rule) fun _ _ _ _ _ _ us hl => match us, hl with | [_, _], _ => rfl
  have F_row_rule := fun_mk (st := s_row_rule) l_row_rule c_row_rule k_row_rule
  have b_row_rule := F_row_rule.binds (ps := P_row_rule) fun _ _ _ _ _ _ us hl => match us, hl with | [_, _], _ => rfl
  have F_at := fun_mk (st := s_at) l_at c_at k_at
  have b_at := F_at.binds (ps := P_at) fun _ _ _ _ _ _ us hl => match us, hl with | [_, _], _ => rfl
  have F_whole := fun_mk (st := s_whole) l_whole c_whole k_whole
  have b_whole := F_whole.binds (ps := P_whole) fun _ _ _ _ _ _ us hl => match us, hl with | [_], _ => rfl
  have F_numbers := fun_mk (st := s_numbers) l_numbers c_numbers k_numbers
  have b_numbers := F_numbers.binds (ps := P_numbers) fun _ _ _ _ _ _ us hl => match us, hl with | [_, _], _ => rfl
  have F_row := fun_mk (st := s_row) l_row c_row k_row
  have b_row := F_row.binds (ps := P_row) fun _ _ _ _ _ _ us hl => match us, hl with | [_, _, _], _ => rfl
  have F_beds := fun_mk (st := s_beds) l_beds c_beds k_beds
  have b_beds := F_beds.binds (ps := P_beds) fun _ _ _ _ _ _ us hl => match us, hl with | [_], _ => rfl
  have F_amount := fun_mk (st := s_amount) l_amount c_amount k_amount
  have b_amount := F_amount.binds (ps := P_amount) fun _ _ _ _ _ _ us hl => match us, hl with | [_, _], _ => rfl
  have F_season := fun_mk (st := s_season) l_season c_season k_season
  have b_season := F_season.binds (ps := P_season) fun _ _ _ _ _ _ us hl => match us, hl with | [_, _], _ => rfl
  have F_seasons := fun_mk (st := s_seasons) l_seasons c_seasons k_seasons
  have b_seasons := F_seasons.binds (ps := P_seasons) fun _ _ _ _ _ _ us hl => match us, hl with | [_, _, _], _ => rfl
  have F_refusal := fun_mk (st := s_refusal) l_refusal c_refusal k_refusal
  have b_refusal := F_refusal.binds (ps := P_refusal) fun _ _ _ _ _ _ us hl => match us, hl with | [_, _], _ => rfl
  have F_law := fun_mk (st := s_law) l_law c_law k_law
  refine ⟨PySem.W.fnOf "law" "law" (defArgs s_law) (defBody s_law) (defScope s_law) .none kV_law dc_law pm_law an_law (.ref c) ct_law, fun s v => .of_eq rfl, fun base _ _ hC hB => ?_⟩
  have o_at : Ok l.prog w K mg base "_law_at" P_at 1 (sp_at K) := ⟨_, _, ok_at F_at T, b_at, PySem.W.mg_of X G a_at, k_at⟩
  have o_whole : Ok l.prog w K mg base "_law_whole" P_whole 1 sp_whole := ⟨_, _, ok_whole F_whole T, b_whole, PySem.W.mg_of X G a_whole, k_whole⟩
  have o_numbers : Ok l.prog w K mg base "_law_numbers" P_numbers 2 (sp_numbers K) := ⟨_, _, ok_numbers F_numbers T o_whole, b_numbers, PySem.W.mg_of X G a_numbers, k_numbers⟩
  have o_row : Ok l.prog w K mg base "_law_row" P_row 1 sp_row := ⟨_, _, ok_row F_row T, b_row, PySem.W.mg_of X G a_row, k_row⟩
  have o_beds : Ok l.prog w K mg base "_law_beds" P_beds 2 (sp_beds K) := ⟨_, _, ok_beds F_beds T o_at o_row, b_beds, PySem.W.mg_of X G a_beds, k_beds⟩
  have o_amount : Ok l.prog w K mg base "_law_amount" P_amount 1 sp_amount := ⟨_, _, ok_amount F_amount T, b_amount, PySem.W.mg_of X G a_amount, k_amount⟩
  have o_season : Ok l.prog w K mg base "_law_season" P_season 2 sp_season := ⟨_, _, ok_season F_season T o_amount, b_season, PySem.W.mg_of X G a_season, k_season⟩
  have o_seasons : Ok l.prog w K mg base "_law_seasons" P_seasons 3 sp_seasons := ⟨_, _, ok_seasons F_seasons T o_row o_season, b_seasons, PySem.W.mg_of X G a_seasons, k_seasons⟩
  have o_refusal : OkX l.prog w K mg base "_law_refusal" P_refusal 7 (sp_refusal l.prog w K mg base CT (fun i => [e_0, e_1, e_2, e_3, e_4, e_5, e_6, e_7, e_8, e_9, e_10, e_11].getD i 0)) := ⟨_, _, ok_refusal F_refusal T XE, b_refusal, PySem.W.mg_of X G a_refusal, k_refusal⟩
  have o_check_amount : OkX l.prog w K mg base "check_amount" P_check_amount 1 (sp_check_amountX mg) := ⟨_, _, ok_check_amountX F_check_amount T XU_BadAmount, b_check_amount, PySem.W.mg_of X G a_check_amount, k_check_amount⟩
  have o_shared_from_top : Ok l.prog w K mg base "shared_from_top" P_shared_from_top 1 (sp_shared_from_top K) := ⟨_, _, ok_shared_from_top F_shared_from_top T, b_shared_from_top, PySem.W.mg_of X G a_shared_from_top, k_shared_from_top⟩
  have o_warmed : OkX l.prog w K mg base "warmed" P_warmed 2 (sp_warmedX K mg) := ⟨_, _, ok_warmedX F_warmed T o_check_amount o_shared_from_top, b_warmed, PySem.W.mg_of X G a_warmed, k_warmed⟩
  have o_chilled : OkX l.prog w K mg base "chilled" P_chilled 2 (sp_chilledX K mg) := ⟨_, _, ok_chilledX F_chilled T o_check_amount o_shared_from_top, b_chilled, PySem.W.mg_of X G a_chilled, k_chilled⟩
  have o_passed : OkX l.prog w K mg base "passed" P_passed 3 (sp_passedX K mg) := ⟨_, _, ok_passedX F_passed T o_warmed o_chilled, b_passed, PySem.W.mg_of X G a_passed, k_passed⟩
  have o_season_rule : OkX l.prog w K mg base "season_rule" P_season_rule 2 (sp_season_ruleX K mg) := ⟨_, _, ok_season_ruleX F_season_rule T o_check_amount, b_season_rule, PySem.W.mg_of X G a_season_rule, k_season_rule⟩
  have o_still : Ok l.prog w K mg base "still" P_still 1 sp_still := ⟨_, _, ok_still F_still T, b_still, PySem.W.mg_of X G a_still, k_still⟩
  have o_applied : Ok l.prog w K mg base "applied" P_applied 1 (sp_applied K) := ⟨_, _, ok_applied F_applied T, b_applied, PySem.W.mg_of X G a_applied, k_applied⟩
  have o_joined : Ok l.prog w K mg base "joined" P_joined 2 (sp_joined K) := ⟨_, _, ok_joined F_joined T o_applied, b_joined, PySem.W.mg_of X G a_joined, k_joined⟩
  have o_row_rule : OkX l.prog w K mg base "row_rule" P_row_rule 3 (sp_row_ruleX K mg) := ⟨_, _, ok_row_ruleX F_row_rule T o_still o_season_rule o_joined, b_row_rule, PySem.W.mg_of X G a_row_rule, k_row_rule⟩
  exact ok_law F_law T XE R6 rfl hC hB o_at o_whole o_numbers o_beds o_seasons o_refusal o_warmed o_chilled o_passed o_season_rule o_row_rule
theorem walk {l : PySem.W.OpenLaw} {q : Program} {loose : List Str} {XP : (Str → Option Value) → Heap → Prop} {YP : World → Heap → Prop} {d : DefRec} {K : Params → PySem.W.Frag} {c PT : Addr} (hn : l.most = some 63) (hdf : d.params.defaults = [])
    (hY : ∀ (w : World) (h : Heap), YP w h → (K w.params).In h) (hdn : d.name = "law") (hrec : (PyProof.Rows.recsOf q).find? (fun e => e.name == d.name) = some d) (ht : ∀ w : World, PySem.W.tabIn (K w.params) "law" = some (c, PT)) (hKP : ∀ w : World, (K w.params).lookup PT = none)
    (F : ∀ (w : World) (mg : Str → Option Value) (fa : Addr) (h : Heap), (K w.params).In h → h.Ns mainGlobals mg → mg "law" = some (.ref fa) →
      ∃ fd : FuncData, (∀ (s : Shared) (u : Value), BindsTo s fd ⟨[u], []⟩ [("_law_script", u)]) ∧ ∀ base : Heap, (K w.params).In base → base.Ns mainGlobals mg → PySem.W.CodeHd base c PT → base.BuiltinsAt mg PT → FnOk l.prog w (K w.params) mg base (CX1 l.prog w) 8 fa fd ["_law_script"] (sp_law (K w.params) PT)) :
    PySem.W.WalkO q loose XP YP l.row.toRowW d [] (fun f vs => PySem.call f vs) :=
  L2.walk_ofT (n := 63) (k := 8) (x := "_law_script") (c := fun _ => c) (P := fun _ => PT) (CX := fun w => CX1 l.prog w) (sp := fun w => sp_law (K w.params) PT) hn (by decide) hdf ⟨rfl, by decide, by decide⟩ hY hrec (fun w => by rw [hdn]; exact ht w) hKP (fun w mg fa h a b e => F w mg fa h a b (by rw [← hdn]; exact e)) (fun _ _ a ns hl _ hT hS => ⟨a, ns, rfl, hS, hl, hT, fun _ => rfl⟩) fun _ _ _ _ _ z => by obtain ⟨_, _, _, _, _, _, _, _, _, hE⟩ := z; exact hE
end Tf
open PySem PySem.W PyProof.Rows
set_option maxRecDepth 100000 in
set_option maxHeartbeats 0 in
theorem PySem.Challenge.cw_thawfront_k06_amounts_refused_holds : PySem.Challenge.rw_thawfront_k06_amounts_refused.Holds := by
  w_on; o_law; k_head; (case hw => w_witness2)
  k_fill
  refine' Tf.walk (l := PySem.Challenge.rw_thawfront_k06_amounts_refused) rfl rfl (fun w h Y => PySem.W.km_in_of Y) rfl rfl ?ht ?hKP ?F
  case ht =>
    intro w
    refine' L2.tabIn_of ?h1 ?h2 ?h3 ?h4 ?h5
    (case h1 => k_is)
    (case h2 => k_is)
    (case h3 => rfl)
    (case h4 => k_is)
    (case h5 => rfl)
  case hKP =>
    intro w
    kernel_rfl
  case F =>
    intro w mg fa h KX G hmg
    refine' Tf.all_mk KX G hmg ?a_check_amount ?l_check_amount ?c_check_amount ?k_check_amount ?a_shared_from_top ?l_shared_from_top ?c_shared_from_top ?k_shared_from_top ?a_warmed ?l_warmed ?c_warmed ?k_warmed ?a_chilled ?l_chilled ?c_chilled ?k_chilled ?a_passed ?l_passed ?c_passed ?k_passed ?a_still ?l_still ?c_still ?k_still ?a_applied ?l_applied ?c_applied ?k_applied ?a_joined ?l_joined ?c_joined ?k_joined ?a_season_rule ?l_season_rule ?c_season_rule ?k_season_rule ?a_row_rule ?l_row_rule ?c_row_rule ?k_row_rule ?a_at ?l_at ?c_at ?k_at ?a_whole ?l_whole ?c_whole ?k_whole ?a_numbers ?l_numbers ?c_numbers ?k_numbers ?a_row ?l_row ?c_row ?k_row ?a_beds ?l_beds ?c_beds ?k_beds ?a_amount ?l_amount ?c_amount ?k_amount ?a_season ?l_season ?c_season ?k_season ?a_seasons ?l_seasons ?c_seasons ?k_seasons ?a_refusal ?l_refusal ?c_refusal ?k_refusal ?a_law ?l_law ?c_law ?k_law ?z_ValueError ?z_bool ?z_int ?z_isinstance ?z_len ?z_list ?z_max ?z_min ?z_range ?z_sum ?z_zip ?g_MOST_AMOUNT ?aT ?bT ?cT ?tT ?aE0 ?cE0 ?tE0 ?aE1 ?cE1 ?tE1 ?aE2 ?cE2 ?tE2 ?aE3 ?cE3 ?tE3 ?aE4 ?cE4 ?tE4 ?aE5 ?cE5 ?tE5 ?aE6 ?cE6 ?tE6 ?aE7 ?cE7 ?tE7 ?aE8 ?cE8 ?tE8 ?aE9 ?cE9 ?tE9 ?aE10 ?cE10 ?tE10 ?aE11 ?cE11 ?tE11 ?xE6 ?r6g ?r6n ?r6c ?r6b ?r6o ?r6t ?r6v ?s6_0 ?n6_0 ?s6_1 ?n6_1 ?s6_2 ?n6_2 ?s6_3 ?n6_3 ?s6_4 ?n6_4 ?s6_5 ?n6_5 ?s6_7 ?n6_7 ?s6_8 ?n6_8 ?s6_9 ?n6_9 ?s6_10 ?n6_10 ?s6_11 ?n6_11
    (case a_check_amount => k_is)
    (case l_check_amount => k_is)
    (case c_check_amount => k_is)
    (case k_check_amount => k_is)
    (case a_shared_from_top => k_is)
    (case l_shared_from_top => k_is)
    (case c_shared_from_top => k_is)
    (case k_shared_from_top => k_is)
    (case a_warmed => k_is)
    (case l_warmed => k_is)
    (case c_warmed => k_is)
    (case k_warmed => k_is)
    (case a_chilled => k_is)
    (case l_chilled => k_is)
    (case c_chilled => k_is)
    (case k_chilled => k_is)
    (case a_passed => k_is)
    (case l_passed => k_is)
    (case c_passed => k_is)
    (case k_passed => k_is)
    (case a_still => k_is)
    (case l_still => k_is)
    (case c_still => k_is)
    (case k_still => k_is)
    (case a_applied => k_is)
    (case l_applied => k_is)
    (case c_applied => k_is)
    (case k_applied => k_is)
    (case a_joined => k_is)
    (case l_joined => k_is)
    (case c_joined => k_is)
    (case k_joined => k_is)
    (case a_season_rule => k_is)
    (case l_season_rule => k_is)
    (case c_season_rule => k_is)
    (case k_season_rule => k_is)
    (case a_row_rule => k_is)
    (case l_row_rule => k_is)
    (case c_row_rule => k_is)
    (case k_row_rule => k_is)
    (case a_at => k_is)
    (case l_at => k_is)
    (case c_at => k_is)
    (case k_at => k_is)
    (case a_whole => k_is)
    (case l_whole => k_is)
    (case c_whole => k_is)
    (case k_whole => k_is)
    (case a_numbers => k_is)
    (case l_numbers => k_is)
    (case c_numbers => k_is)
    (case k_numbers => k_is)
    (case a_row => k_is)
    (case l_row => k_is)
    (case c_row => k_is)
    (case k_row => k_is)
    (case a_beds => k_is)
    (case l_beds => k_is)
    (case c_beds => k_is)
    (case k_beds => k_is)
    (case a_amount => k_is)
    (case l_amount => k_is)
    (case c_amount => k_is)
    (case k_amount => k_is)
    (case a_season => k_is)
    (case l_season => k_is)
    (case c_season => k_is)
    (case k_season => k_is)
    (case a_seasons => k_is)
    (case l_seasons => k_is)
    (case c_seasons => k_is)
    (case k_seasons => k_is)
    (case a_refusal => k_is)
    (case l_refusal => k_is)
    (case c_refusal => k_is)
    (case k_refusal => k_is)
    (case a_law => k_is)
    (case l_law => k_is)
    (case c_law => k_is)
    (case k_law => k_is)
    (case z_ValueError => k_is)
    (case z_bool => k_is)
    (case z_int => k_is)
    (case z_isinstance => k_is)
    (case z_len => k_is)
    (case z_list => k_is)
    (case z_max => k_is)
    (case z_min => k_is)
    (case z_range => k_is)
    (case z_sum => k_is)
    (case z_zip => k_is)
    (case g_MOST_AMOUNT => k_is)
    (case aT => k_is)
    (case bT => k_is)
    (case cT => k_is)
    (case tT => k_is)
    (case aE0 => k_is)
    (case cE0 => k_is)
    (case tE0 => k_is)
    (case aE1 => k_is)
    (case cE1 => k_is)
    (case tE1 => k_is)
    (case aE2 => k_is)
    (case cE2 => k_is)
    (case tE2 => k_is)
    (case aE3 => k_is)
    (case cE3 => k_is)
    (case tE3 => k_is)
    (case aE4 => k_is)
    (case cE4 => k_is)
    (case tE4 => k_is)
    (case aE5 => k_is)
    (case cE5 => k_is)
    (case tE5 => k_is)
    (case aE6 => k_is)
    (case cE6 => k_is)
    (case tE6 => k_is)
    (case aE7 => k_is)
    (case cE7 => k_is)
    (case tE7 => k_is)
    (case aE8 => k_is)
    (case cE8 => k_is)
    (case tE8 => k_is)
    (case aE9 => k_is)
    (case cE9 => k_is)
    (case tE9 => k_is)
    (case aE10 => k_is)
    (case cE10 => k_is)
    (case tE10 => k_is)
    (case aE11 => k_is)
    (case cE11 => k_is)
    (case tE11 => k_is)
    (case xE6 => k_exc)
    (case r6g => k_is)
    (case r6n => k_is)
    (case r6c => k_is)
    (case r6b => k_is)
    (case r6o => k_is)
    (case r6t => k_is)
    (case r6v => k_is)
    (case s6_0 => k_is)
    (case n6_0 => rfl)
    (case s6_1 => k_is)
    (case n6_1 => rfl)
    (case s6_2 => k_is)
    (case n6_2 => rfl)
    (case s6_3 => k_is)
    (case n6_3 => rfl)
    (case s6_4 => k_is)
    (case n6_4 => rfl)
    (case s6_5 => k_is)
    (case n6_5 => rfl)
    (case s6_7 => k_is)
    (case n6_7 => rfl)
    (case s6_8 => k_is)
    (case n6_8 => rfl)
    (case s6_9 => k_is)
    (case n6_9 => rfl)
    (case s6_10 => k_is)
    (case n6_10 => rfl)
    (case s6_11 => k_is)
    (case n6_11 => rfl)
