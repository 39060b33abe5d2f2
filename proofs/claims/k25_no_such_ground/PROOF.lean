import PyProof.Rows.All
import Wide.All
import OpenK.AllK
import Wide.FinOn
import Lean
import PyProof.EqAt
import PyProof.EqKinds
import PyProof.TupleCall
import PyProof.ZipIter
import PyProof.Rows.SumAny
import PyProof.Rows.SortWalk
import PyProof.NeKinds
import OpenK.KRaise
import PyProof.Rows.FStr
import PyProof.Rows.RegStrFacts
import PyProof.Rows.Own
import OpenK.KOwn
import PyProof.ExcArgsOwn
import PyProof.IsiBase
import PyProof.ExcAttrAll.ValueError
import KE.KLam
import KE.KTryMore
import PyProof.NsDelKeeps
import PySem.Challenge.RW_thawfront_k25_no_such_ground
set_option Elab.async false
set_option linter.all false
set_option maxRecDepth 100000
set_option maxHeartbeats 4000000
/-! THE HAND LAYER, for ints, bools, texts, own classes, LISTS and tuples (index, slices, in, append, pop ..), calls, loops. Paste it whole ahead of your own text; what your proof does not reach may be deleted. -/
namespace L2
open PySem PySem.Spec PyProof.Rows

abbrev Key := Sum Int Str
def keyIs : Key → Value → Bool
  | .inl k, v => Value.isInt k v
  | .inr x, v => Value.isStrOf x v
def keyH (w : World) : Key → Int
  | .inl k => hashInt k
  | .inr x => hashStr w x
theorem keyIs_shape : ∀ {k : Key} {v : Value}, keyIs k v = true → (∃ i t, k = Sum.inl i ∧ v = Value.int i t) ∨ (∃ x t, k = Sum.inr x ∧ v = Value.str x t)
  | .inl i, v, h => by
    obtain ⟨t, e⟩ := Value.isInt_shape (k := i) (v := v) h
    exact .inl ⟨i, t, rfl, e⟩
  | .inr x, v, h => by
    obtain ⟨t, e⟩ := Value.isStrOf_shape (x := x) (v := v) h
    exact .inr ⟨x, t, rfl, e⟩
theorem keyIs_int (i : Int) (t : Tok) : keyIs (.inl i) (.int i t) = true := by simp [keyIs, Value.isInt]
theorem keyIs_str (x : Str) (t : Tok) : keyIs (.inr x) (.str x t) = true := by simp [keyIs, Value.isStrOf]
theorem key_ll (a b : Int) : decide ((Sum.inl a : Key) = Sum.inl b) = (a == b) := by
  by_cases e : a = b
  · subst e; simp
  · have h : ¬ (Sum.inl a : Key) = Sum.inl b := fun q => e (Sum.inl.inj q)
    rw [decide_eq_false h]
    exact (beq_eq_false_iff_ne.mpr e).symm
theorem key_rr (a b : Str) : decide ((Sum.inr a : Key) = Sum.inr b) = decide (a = b) := by
  by_cases e : a = b
  · subst e; simp
  · have h : ¬ (Sum.inr a : Key) = Sum.inr b := fun q => e (Sum.inr.inj q)
    rw [decide_eq_false h, decide_eq_false e]
theorem key_lr (a : Int) (b : Str) : decide ((Sum.inl a : Key) = Sum.inr b) = false := decide_eq_false (fun q => nomatch q)
theorem key_rl (a : Str) (b : Int) : decide ((Sum.inr a : Key) = Sum.inl b) = false := decide_eq_false (fun q => nomatch q)

def mixKind (prog : Program) (w : World) : PySem.KeyKind prog w Key where
  is := keyIs
  hash := keyH w
  inj := fun v a b ha hb => by
    rcases keyIs_shape ha with ⟨i, t, rfl, rfl⟩ | ⟨x, t, rfl, rfl⟩
    · rcases keyIs_shape hb with ⟨j, u, rfl, e⟩ | ⟨y, u, rfl, e⟩
      · injection e with e1 _; rw [e1]
      · exact nomatch e
    · rcases keyIs_shape hb with ⟨j, u, rfl, e⟩ | ⟨y, u, rfl, e⟩
      · exact nomatch e
      · injection e with e1 _; rw [e1]
  byValue := fun k v h => by
    rcases keyIs_shape h with ⟨i, t, rfl, rfl⟩ | ⟨x, t, rfl, rfl⟩ <;> rfl
  pyHash := fun hv h => by
    rcases keyIs_shape hv with ⟨i, t, rfl, rfl⟩ | ⟨x, t, rfl, rfl⟩
    · exact wpAny_pyHash_int h
    · exact wpAny_pyHash_str h
  eqBool := fun hu hv h => by
    rcases keyIs_shape hu with ⟨i, t, rfl, rfl⟩ | ⟨x, t, rfl, rfl⟩
    · rcases keyIs_shape hv with ⟨j, u, rfl, rfl⟩ | ⟨y, u, rfl, rfl⟩
      · rw [key_ll] at h; exact wpAny_eqBool_int h
      · rw [key_lr] at h; exact SeqAt.EqAt.int_str i t y u _ _ _ _ h
    · rcases keyIs_shape hv with ⟨j, u, rfl, rfl⟩ | ⟨y, u, rfl, rfl⟩
      · rw [key_rl] at h; exact SeqAt.EqAt.str_int x t j u _ _ _ _ h
      · rw [key_rr] at h; exact wpAny_eqBool_str h
  «strs» := fun k x t v h => by
    rcases keyIs_shape h with ⟨i, u, rfl, e⟩ | ⟨y, u, rfl, e⟩
    · exact nomatch e
    · injection e with e1 _
      subst e1
      cases v <;> rfl

theorem mixKind_int (prog : Program) (w : World) (i : Int) (t : Tok) : (mixKind prog w).is (.inl i) (.int i t) = true := keyIs_int i t
theorem mixKind_str (prog : Program) (w : World) (x : Str) (t : Tok) : (mixKind prog w).is (.inr x) (.str x t) = true := keyIs_str x t
end L2

namespace L2
open PySem PySem.Spec PyProof.Rows

inductive V where
  | non | bl (b : Bool) | int (i : Int) | str (x : Str) | byt (b : Array UInt8) | flt (b : UInt64) | ref (a : Addr) | ty (n : String)
  deriving DecidableEq

def RelV : V → Value → Prop
  | .non, u => u = Value.none
  | .bl b, u => u = Value.bool b
  | .int i, u => ∃ t, u = Value.int i t
  | .str x, u => ∃ t, u = Value.str x t
  | .byt b, u => ∃ t, u = Value.bytes b t
  | .flt b, u => ∃ t, u = Value.float b t
  | .ref a, u => u = Value.ref a
  | .ty n, u => u = Value.type n

abbrev Vals : List V → List Value → Prop := Paired RelV
theorem Vals.length {xs : List V} {us : List Value} (r : Vals xs us) : xs.length = us.length := Paired.length r
theorem Vals.get : ∀ {xs : List V} {us : List Value} {i : Nat} {x : V}, Vals xs us → xs[i]? = some x → ∃ u, us[i]? = some u ∧ RelV x u
  | _, _, _, _, .nil, e => by simp at e
  | _, _, 0, _, .cons r _, e => by simp at e; subst e; exact ⟨_, rfl, r⟩
  | _, _, i + 1, x, .cons _ t, e => by
    obtain ⟨u, h1, h2⟩ := Vals.get (i := i) (x := x) t (by simpa using e)
    exact ⟨u, by simpa using h1, h2⟩
theorem Vals.set {x : V} {u : Value} (r : RelV x u) : ∀ {xs : List V} {us : List Value} (i : Nat), Vals xs us → Vals (xs.set i x) (us.set i u)
  | _, _, _, .nil => .nil
  | _, _, 0, .cons _ t => .cons r t
  | _, _, i + 1, .cons q t => .cons q (Vals.set r i t)
theorem Vals.append : ∀ {xs ys : List V} {us ws : List Value}, Vals xs us → Vals ys ws → Vals (xs ++ ys) (us ++ ws)
  | _, _, _, _, .nil, s => s
  | _, _, _, _, .cons r t, s => .cons r (Vals.append t s)
theorem Vals.take : ∀ {xs : List V} {us : List Value} (n : Nat), Vals xs us → Vals (xs.take n) (us.take n)
  | _, _, 0, _ => .nil
  | _, _, _ + 1, .nil => .nil
  | _, _, n + 1, .cons r t => .cons r (Vals.take n t)
theorem Vals.drop : ∀ {xs : List V} {us : List Value} (n : Nat), Vals xs us → Vals (xs.drop n) (us.drop n)
  | _, _, 0, r => r
  | _, _, _ + 1, .nil => .nil
  | _, _, n + 1, .cons _ t => Vals.drop n t
def RelO : Option V → Option Value → Prop
  | some v, some u => RelV v u
  | none, none => True
  | _, _ => False
def KV {κ : Type} : List (κ × V) → List (κ × Value) → Prop := Paired fun (p : κ × V) (q : κ × Value) => p.1 = q.1 ∧ RelV p.2 q.2

def kV : Key → V
  | .inl i => .int i
  | .inr x => .str x

inductive HO where
  /-- a list -/
  | lst (xs : List V)
  /-- a tuple (never changes) -/
  | tup (xs : List V)
  /-- a dict whose keys are ints and texts; one whose keys are tuples of ints and texts (the empty one is both) -/
  | dK (kvs : List (Key × V)) | dT (kvs : List (List Key × V))
  /-- a set of ints: its members, its size -/
  | set (S : Int → Bool) (n : Nat)
  /-- an instance of the class at C, its dict at dx, its attributes -/
  | ins (C dx : Addr) (fs : List (Str × V))
  /-- the dict of the instance at x -/
  | own (x : Addr)
  /-- the dict of an exception -/
  | xd (fs : List (Str × V))
  /-- a bound method, f of x -/
  | met (f x : Addr)
  /-- a range object lo, lo + 1, .. below hi -/
  | rng (lo hi : Int)
  /-- a thing that is known to the object (the script; a dict while a loop walks it): read, never written while it is so -/
  | frz (o : Obj) (u : HO)
  /-- a code object's table -/
  | tbl (ps : Array Value)
  /-- any other thing, by what is true of its one object (a def of one's own: SetO a S n := HO.ext fun h => ..) -/
  | ext (φ : Heap → Prop)

abbrev Hp := Addr → Option HO
def upd (H : Hp) (a : Addr) (o : HO) : Hp := fun b => if b = a then some o else H b
theorem upd_same {H : Hp} {a : Addr} {o : HO} : upd H a o a = some o := by unfold upd; rw [if_pos rfl]
theorem upd_ne {H : Hp} {a b : Addr} {o : HO} (h : b ≠ a) : upd H a o b = H b := by unfold upd; rw [if_neg h]
theorem upd_upd {H : Hp} {a : Addr} {o u : HO} : upd (upd H a o) a u = upd H a u := by
  funext b; unfold upd; split <;> rfl
theorem ne_of {H : Hp} {a b : Addr} {o u : HO} (h : H a = some o) (h' : H b = some u) (d : o ≠ u) : a ≠ b := by
  intro e; subst e; rw [h] at h'; exact d (Option.some.inj h')
theorem ne_of_none {H : Hp} {a b : Addr} {o : HO} (h : H a = some o) (h' : H b = none) : a ≠ b := by
  intro e; subst e; rw [h] at h'; cases h'

section
variable (P : Program) (w : World)
def ObjOk (H : Hp) (h : Heap) (a : Addr) : HO → Prop
  | .lst xs => xs.length ≤ sizeLine ∧ ∃ (its : List Value) (n : Nat), Vals xs its ∧ h.get? a = some { cls := .type "list", data := .seq its.toArray n }
  | .tup xs => xs.length ≤ sizeLine ∧ ∃ its : List Value, Vals xs its ∧ IsTup h a its.toArray
  | .dK kvs => kvs.length ≤ sizeLine ∧ (a == sysModules) = false ∧ ∃ vs, KV kvs vs ∧ h.DictOf (mixKind P w) a vs
  | .dT kvs => kvs.length ≤ sizeLine ∧ (a == sysModules) = false ∧ ∃ xs : List (List Key × Addr × Value),
      Paired (fun (p : List Key × V) (q : List Key × Addr × Value) => p.1 = q.1 ∧ H q.2.1 = some (.tup (p.1.map kV)) ∧ RelV p.2 q.2.2) kvs xs ∧
      ∃ o es ep, h.get? a = some o ∧ o.ExactDict ∧ o.data = .dict es ep ∧ es.toList = xs.map (entryOfKey (tupleKind (mixKind P w))) ∧ (xs.map (·.1)).Nodup
  | .set S n => h.SetOf (intKind P w) a S n
  | .ins C dx fs => H dx = some (.own a) ∧ fs.length ≤ 1000 ∧ dx ≠ a ∧ h.get? a = some (PySem.W.instObj C dx) ∧
      ∃ mA, h.Ns1 dx mA ∧ (∀ f, RelO (fs.lookup f) (mA f)) ∧ PySem.Within mA (fs.map (·.1))
  | .own _ => ∃ o, h.get? a = some o
  | .xd fs => ∃ mA, h.Ns1 a mA ∧ ∀ f, RelO (fs.lookup f) (mA f)
  | .rng lo hi => ∃ t u v, h.get? a = some { cls := .type "range", data := .fields #[.int lo t, .int hi u, .int 1 v] }
  | .frz o u => h.get? a = some o ∧ ObjOk H h a u
  | .tbl ps => h.get? a = some { cls := .none, data := .fields ps }
  | .met f x => h.get? a = some (PySem.W.methodObj (.ref f) (.ref x))
  | .ext φ => φ h ∧ (∃ o, h.get? a = some o) ∧ ∀ h1 h2 : Heap, φ h1 → (∀ o, h1.get? a = some o → h2.get? a = some o) → φ h2
def HOk (H : Hp) (h : Heap) : Prop := ∀ a o, H a = some o → ObjOk P w H h a o
end

section
variable {P : Program} {w : World} {H H' : Hp} {h h' : Heap} {a : Addr} {o : HO}
theorem ObjOk.lt (x : ObjOk P w H h a o) : a < h.objs.size := by
  cases o with
  | lst xs => obtain ⟨_, _, _, _, e⟩ := x; exact Heap.lt_size e
  | tup xs => obtain ⟨_, _, _, p⟩ := x; exact p.lt
  | dK kvs => obtain ⟨_, _, _, _, o, _, _, e, _⟩ := x; exact Heap.lt_size e
  | dT kvs => obtain ⟨_, _, _, _, o, _, _, e, _⟩ := x; exact Heap.lt_size e
  | set S n => obtain ⟨o, _, _, _, e, _⟩ := x; exact Heap.lt_size e
  | ins C dx fs => obtain ⟨_, _, _, e, _⟩ := x; exact Heap.lt_size e
  | own y => obtain ⟨_, e⟩ := x; exact Heap.lt_size e
  | xd fs => obtain ⟨_, ⟨_, _, _, e, _⟩, _⟩ := x; exact Heap.lt_size e
  | rng lo hi => obtain ⟨_, _, _, e⟩ := x; exact Heap.lt_size e
  | frz ob u => obtain ⟨e, _⟩ := x; exact Heap.lt_size e
  | tbl ps => exact Heap.lt_size (show h.get? a = some _ from x)
  | met f y => exact Heap.lt_size (show h.get? a = some _ from x)
  | ext φ => obtain ⟨_, ⟨_, e⟩, _⟩ := x; exact Heap.lt_size e
theorem Paired.mapP {α β : Type} {F G : α → β → Prop} : ∀ {l₁ : List α} {l₂ : List β}, Paired F l₁ l₂ → (∀ a b, F a b → G a b) → Paired G l₁ l₂
  | _, _, .nil, _ => .nil
  | _, _, .cons r t, f => .cons (f _ _ r) (Paired.mapP t f)
theorem ObjOk.stay (x : ObjOk P w H h a o) (k : ∀ b u, (b = a ∨ H b = some (.own a)) → h.get? b = some u → h'.get? b = some u)
    (ho : ∀ b, H b = some (.own a) → H' b = some (.own a)) (ht : ∀ b xs, H b = some (.tup xs) → H' b = some (.tup xs)) : ObjOk P w H' h' a o := by
  induction o with
  | lst xs => obtain ⟨z, its, n, r, e⟩ := x; exact ⟨z, its, n, r, k _ _ (.inl rfl) e⟩
  | tup xs => obtain ⟨z, its, r, ob, e, c⟩ := x; exact ⟨z, its, r, ob, k _ _ (.inl rfl) e, c⟩
  | dK kvs => obtain ⟨z, y, vs, r, ob, es, ep, e, c⟩ := x; exact ⟨z, y, vs, r, ob, es, ep, k _ _ (.inl rfl) e, c⟩
  | dT kvs =>
    obtain ⟨z, y, xs, r, ob, es, ep, e, c⟩ := x
    exact ⟨z, y, xs, Paired.mapP r fun p q z => ⟨z.1, ht _ _ z.2.1, z.2.2⟩, ob, es, ep, k _ _ (.inl rfl) e, c⟩
  | set S n => obtain ⟨ob, es, ep, t, e, c⟩ := x; exact ⟨ob, es, ep, t, k _ _ (.inl rfl) e, c⟩
  | ins C dx fs =>
    obtain ⟨d, z, ne, e, mA, ⟨od, es, ep, e2, c⟩, r⟩ := x
    exact ⟨ho _ d, z, ne, k _ _ (.inl rfl) e, mA, ⟨od, es, ep, k _ _ (.inr d) e2, c⟩, r⟩
  | own y => obtain ⟨ob, e⟩ := x; exact ⟨ob, k _ _ (.inl rfl) e⟩
  | xd fs => obtain ⟨mA, ⟨od, es, ep, e, c⟩, r⟩ := x; exact ⟨mA, ⟨od, es, ep, k _ _ (.inl rfl) e, c⟩, r⟩
  | rng lo hi => obtain ⟨t, u, v, e⟩ := x; exact ⟨t, u, v, k _ _ (.inl rfl) e⟩
  | frz ob u ih => obtain ⟨e, q⟩ := x; exact ⟨k _ _ (.inl rfl) e, ih q⟩
  | tbl ps =>
    have e : h.get? a = some { cls := .none, data := .fields ps } := x
    show h'.get? a = some { cls := .none, data := .fields ps }
    exact k a _ (.inl rfl) e
  | met f y =>
    have e : h.get? a = some (PySem.W.methodObj (.ref f) (.ref y)) := x
    show h'.get? a = some (PySem.W.methodObj (.ref f) (.ref y))
    exact k a _ (.inl rfl) e
  | ext φ => obtain ⟨p, ⟨o, e⟩, st⟩ := x; exact ⟨st _ _ p fun o q => k _ _ (.inl rfl) q, ⟨o, k _ _ (.inl rfl) e⟩, st⟩
theorem HOk.lt (x : HOk P w H h) (e : H a = some o) : a < h.objs.size := (x a o e).lt
theorem HOk.fresh (x : HOk P w H h) (e : h.objs.size ≤ a) : H a = none := by
  cases q : H a with
  | none => rfl
  | some u => exact absurd (Nat.lt_of_lt_of_le (x.lt q) e) (Nat.lt_irrefl _)
theorem HOk.kept (x : HOk P w H h) (k : ∀ b u, h.get? b = some u → h'.get? b = some u) : HOk P w H h' := fun a o e =>
  (x a o e).stay (fun b u _ q => k b u q) (fun _ q => q) fun _ _ q => q
theorem HOk.laid (x : HOk P w H h) (k : ∀ b u, h.get? b = some u → h'.get? b = some u) (hp : h.objs.size ≤ a) (new : ObjOk P w (upd H a o) h' a o) : HOk P w (upd H a o) h' := fun b u e => by
  have hn := x.fresh hp
  by_cases hb : b = a
  · subst hb; rw [upd_same] at e; cases e; exact new
  · rw [upd_ne hb] at e
    exact (x b u e).stay (fun c v _ q => k c v q) (fun c q => by rw [upd_ne (ne_of_none q hn)]; exact q) fun c xs q => by rw [upd_ne (ne_of_none q hn)]; exact q
end

def Rd (H : Hp) (a : Addr) (u : HO) : Prop := H a = some u ∨ ∃ o, H a = some (.frz o u)
theorem Rd.ok {P : Program} {w : World} {H : Hp} {h : Heap} {a : Addr} {u : HO} (r : Rd H a u) (x : HOk P w H h) : ObjOk P w H h a u := by
  rcases r with r | ⟨o, r⟩
  · exact x a u r
  · obtain ⟨_, q⟩ := x a _ r
    exact q
def Mut : Option HO → Prop
  | some (.lst _) => True
  | some (.dK _) => True
  | some (.dT _) => True
  | some (.set _ _) => True
  | some (.ins _ _ _) => True
  | some (.ext _) => True
  | _ => False
section
variable {P : Program} {w : World} {H : Hp} {h h' : Heap} {x e : Addr} {o' : HO}
theorem HOk.write (ok : HOk P w H h) (mu : Mut (H x)) (he : e = x ∨ H e = some (.own x)) (k : ∀ b u, b ≠ e → h.get? b = some u → h'.get? b = some u) (heo : ∃ u, h'.get? e = some u)
    (new : ObjOk P w (upd H x o') h' x o') : HOk P w (upd H x o') h' := fun b u q => by
  have nown : ∀ c y, H c = some (.own y) → c ≠ x := fun c y r z => by subst z; rw [r] at mu; exact mu
  have ntup : ∀ c xs, H c = some (.tup xs) → c ≠ x := fun c xs r z => by subst z; rw [r] at mu; exact mu
  by_cases hb : b = x
  · subst hb; rw [upd_same] at q; cases q; exact new
  · rw [upd_ne hb] at q
    by_cases hbe : b = e
    · have q' : H b = some (.own x) := by
        rcases he with z | z
        · exact absurd (hbe.trans z) hb
        · rw [hbe]; exact z
      rw [q] at q'; cases q'
      obtain ⟨v, hv⟩ := heo
      exact ⟨v, by rw [hbe]; exact hv⟩
    · refine (ok b u q).stay (fun c v hc r => k c v ?_ r) (fun c r => by rw [upd_ne (nown c b r)]; exact r) fun c xs r => by rw [upd_ne (ntup c xs r)]; exact r
      rcases hc with rfl | hc
      · exact hbe
      · rintro rfl
        rcases he with z | z
        · exact nown c b hc z
        · rw [hc] at z; cases z; exact hb rfl
end

/-! ### kept unless tracked; of the frames at fs (the callers') the slots may change (an exception that passes writes there); of the records at ex (iterators) nothing is said -/
structure Un (fs ex : List Addr) (H H' : Hp) (h h' : Heap) : Prop where
  keep : ∀ b o, h.get? b = some o → H b = none → b ∉ fs → b ∉ ex → h'.get? b = some o
  slot : ∀ b o, h.get? b = some o → H b = none → b ∈ fs → b ∉ ex → ∃ sl, h'.get? b = some { o with slots := sl }
  free : ∀ b o, h.get? b = some o → H b = none → b ∉ ex → H' b = none
  there : ∀ b o, h.get? b = some o → b ∉ ex → ∃ o', h'.get? b = some o'
  tups : ∀ b xs, H b = some (.tup xs) → H' b = some (.tup xs)
  frzs : ∀ b o u, H b = some (.frz o u) → H' b = some (.frz o u)
  tbls : ∀ b ps, H b = some (.tbl ps) → ∃ more, H' b = some (.tbl (ps ++ more))
section
variable {fs fs' ex ex' : List Addr} {H H1 H2 : Hp} {h h1 h2 h' : Heap} {a x e : Addr} {o : HO}
theorem Un.any (u : Un fs ex H H1 h h1) {b : Addr} {ob : Obj} (q : h.get? b = some ob) (n : H b = none) (hx : b ∉ ex) : ∃ sl, h1.get? b = some { ob with slots := sl } := by
  by_cases hb : b ∈ fs
  · exact u.slot b ob q n hb hx
  · exact ⟨ob.slots, u.keep b ob q n hb hx⟩
theorem Un.trans (a : Un fs ex H H1 h h1) (b : Un fs ex H1 H2 h1 h2) : Un fs ex H H2 h h2 where
  keep := fun c ob q n hc hx => b.keep c ob (a.keep c ob q n hc hx) (a.free c ob q n hx) hc hx
  slot := fun c ob q n hc hx => by
    obtain ⟨sl, e1⟩ := a.slot c ob q n hc hx
    obtain ⟨sl', e2⟩ := b.slot c _ e1 (a.free c ob q n hx) hc hx
    exact ⟨sl', e2⟩
  free := fun c ob q n hx => by
    obtain ⟨o', e1⟩ := a.there c ob q hx
    exact b.free c o' e1 (a.free c ob q n hx) hx
  there := fun c ob q hx => by
    obtain ⟨o', e1⟩ := a.there c ob q hx
    exact b.there c o' e1 hx
  tups := fun c xs q => b.tups c xs (a.tups c xs q)
  frzs := fun c ob xs q => b.frzs c ob xs (a.frzs c ob xs q)
  tbls := fun c ps q => by
    obtain ⟨m1, e1⟩ := a.tbls c ps q
    obtain ⟨m2, e2⟩ := b.tbls c _ e1
    exact ⟨m1 ++ m2, by rw [e2, Array.append_assoc]⟩
theorem Un.kept (k : ∀ b u, h.get? b = some u → h'.get? b = some u) : Un fs ex H H h h' :=
  ⟨fun b ob q _ _ _ => k b ob q, fun b ob q _ _ _ => ⟨ob.slots, k b ob q⟩, fun _ _ _ n _ => n, fun b ob q _ => ⟨ob, k b ob q⟩, fun _ _ q => q, fun _ _ _ q => q, fun _ ps q => ⟨#[], by rw [q]; simp⟩⟩
theorem Un.refl : Un fs ex H H h h := Un.kept fun _ _ q => q
theorem Un.laid (k : ∀ b u, h.get? b = some u → h'.get? b = some u) (hp : h.objs.size ≤ a) (hn : H a = none) : Un fs ex H (upd H a o) h h' where
  keep := fun b u q _ _ _ => k b u q
  slot := fun b u q _ _ _ => ⟨u.slots, k b u q⟩
  free := fun b u q n _ => by rw [upd_ne (Nat.ne_of_lt (Nat.lt_of_lt_of_le (Heap.lt_size q) hp))]; exact n
  there := fun b u q _ => ⟨u, k b u q⟩
  tups := fun b xs q => by rw [upd_ne (ne_of_none q hn)]; exact q
  frzs := fun b u xs q => by rw [upd_ne (ne_of_none q hn)]; exact q
  tbls := fun b ps q => ⟨#[], by rw [upd_ne (ne_of_none q hn), q]; simp⟩
theorem Un.write (mu : Mut (H x)) (he : e = x ∨ H e = some (.own x)) (k : ∀ b u, b ≠ e → h.get? b = some u → h'.get? b = some u) (heo : ∃ u, h'.get? e = some u) : Un fs ex H (upd H x o) h h' := by
  have hx : ∀ b, H b = none → b ≠ x := fun b n z => by subst z; rw [n] at mu; exact mu
  have hb : ∀ b, H b = none → b ≠ e := fun b n z => by
    subst z
    rcases he with r | r
    · exact hx b n r
    · rw [n] at r; cases r
  have hm : ∀ b u, H b = some u → ¬ Mut (some u) → b ≠ x := fun b u q nm z => by subst z; rw [q] at mu; exact nm mu
  refine ⟨fun b u q n _ _ => k b u (hb b n) q, fun b u q n _ _ => ⟨u.slots, k b u (hb b n) q⟩, fun b u q n _ => by rw [upd_ne (hx b n)]; exact n, fun b u q _ => ?_,
    fun b xs q => by rw [upd_ne (hm b _ q fun z => z)]; exact q, fun b u xs q => by rw [upd_ne (hm b _ q fun z => z)]; exact q, fun b ps q => ⟨#[], by rw [upd_ne (hm b _ q fun z => z), q]; simp⟩⟩
  by_cases hbe : b = e
  · subst hbe; exact heo
  · exact ⟨u, k b u hbe q⟩
end

/-! ### the heap without what is tracked -/
def trk (h : Heap) (H : Hp) : List Addr := (List.range h.objs.size).filter fun a => (H a).isSome
def hidT (h : Heap) (H : Hp) : Heap := PySem.W.hideAll h (trk h H)
theorem hidT_size (h : Heap) (H : Hp) : (hidT h H).objs.size = h.objs.size := PySem.W.hideAll_size _ _
theorem hidT_get {h : Heap} {H : Hp} {b : Addr} {o : Obj} (e : h.get? b = some o) (n : H b = none) : (hidT h H).get? b = some o :=
  PySem.W.hideAll_get _ e fun hm => by
    have q : (H b).isSome = true := (List.mem_filter.mp hm).2
    rw [n] at q; simp at q
theorem of_hidT {h : Heap} {H : Hp} {b : Addr} {o : Obj} (e : (hidT h H).get? b = some o) : h.get? b = some o ∧ H b = none := by
  have e' : h.get? b = some o := PySem.W.of_hideAll (trk h H) e
  refine ⟨e', ?_⟩
  cases q : H b with
  | none => rfl
  | some x =>
    have hm : b ∈ trk h H := List.mem_filter.mpr ⟨List.mem_range.mpr (Heap.lt_size e'), by simp [q]⟩
    have z : (hidT h H).get? b = none := PySem.W.hideAll_none (trk h H) hm
    rw [z] at e; cases e

/-! ### OpenK's ledger, filled with every new object but one -/
end L2

namespace L2
open PySem PySem.Spec PyProof.Rows

structure Mod (K : PySem.W.Frag) (mg : Str → Option Value) (base : Heap) : Prop where
  kin : K.In base
  glob : base.Ns mainGlobals mg
  blt : ∃ mb, base.Ns builtinsNs mb ∧ ∀ x : Str, x ≠ "__name__" → mb x = bootBuiltins x
  nolimit : base.NoLimit

structure Cx where
  prog : Program
  w : World
  K : PySem.W.Frag
  mg : Str → Option Value
  base : Heap
  A : Around
  N : List Str
  s₀ : Shared
  H₀ : Hp
  env : Env
  outer : List Env
  stack : List Env
  ex : List Addr
  fn : Str → Bool
  calm : Bool
  pn : List (Addr × Obj)
  xe : Value → Shared → Prop
def frs (l : List Env) : List Addr := l.filterMap (·.frame)
abbrev Cx.fs (X : Cx) : List Addr := frs X.outer

def Vis (sc : Scope) (x : Str) : Prop := sc.names.lookup x = some .local ∨ sc.names.lookup x = some .cell ∨ sc.names.lookup x = some .free
def Loc (sc : Scope) (x : Str) : Prop := sc.names.lookup x = some .local ∨ sc.names.lookup x = some .cell
def Look (env : Env) (h : Heap) (m : Str → Option Value) (x : Str) (u : Value) : Prop :=
  (env.kindOf x = some .local ∧ m x = some u) ∨ ((env.kindOf x = some .cell ∨ env.kindOf x = some .free) ∧ ∃ c, env.cells.lookup x = some c ∧ h.IsCell c (some u))

structure Cx.Ok (X : Cx) : Prop where
  mod : Mod X.K X.mg X.base
  kind : X.env.scope.kind = .function
  glob : X.env.globals = mainGlobals
  blt : X.env.builtins = builtinsNs
  above : X.s₀.heap.objs.size ≤ X.env.locals
  inj : ∀ x y c, X.env.cells.lookup x = some c → X.env.cells.lookup y = some c → x = y
  has : ∀ x, (X.env.kindOf x = some .cell ∨ X.env.kindOf x = some .free) → ∃ c, X.env.cells.lookup x = some c
  cab : ∀ x c, X.fn x = true → X.env.cells.lookup x = some c → X.s₀.heap.objs.size ≤ c
  hd : X.calm = true → X.A.handled = none
  frames : X.A.frames = some X.stack
  stk : X.stack = X.outer ∨ (X.stack = X.env :: X.outer ∧ X.env.frame = some X.env.locals)
  exf : ∀ b ∈ X.ex, b ≠ X.env.locals ∧ ∀ x c, X.env.cells.lookup x = some c → c ≠ b
  bs : ∀ b o, X.base.get? b = some o → X.s₀.heap.get? b = some o ∧ X.H₀ b = none
  bsz : X.base.objs.size ≤ X.s₀.heap.objs.size
  noex : ∀ b o, X.base.get? b = some o → b ∉ X.ex
  exfs : ∀ b ∈ X.ex, b ∉ X.fs
  funs : X.s₀.heap.FunFrames X.base X.outer
  frf : ∀ b ∈ X.fs, X.H₀ b = none

structure Inv (X : Cx) (pins : List (Addr × Obj)) (σ : List (Option V)) (H : Hp) (s : Shared) : Prop where
  ok : X.Ok
  os : s.os = X.s₀.os
  bare : AllBare s.gens
  base : Un X.fs X.ex X.H₀ H X.s₀.heap s.heap
  loc : ∃ m, s.heap.Ns X.env.locals m ∧ ∀ (i : Nat) (x : Str) (v : V), X.N[i]? = some x → σ[i]? = some (some v) → Vis X.env.scope x → ∃ u, RelV v u ∧ Look X.env s.heap m x u
  cell : ∀ x c, X.env.cells.lookup x = some c → ∃ v, s.heap.IsCell c v
  free : H X.env.locals = none
  freeC : ∀ x c, X.env.cells.lookup x = some c → H c = none
  pin : ∀ p ∈ X.pn ++ pins, s.heap.get? p.1 = some p.2 ∧ H p.1 = none ∧ p.1 ≠ X.env.locals ∧ p.1 ∉ X.fs ∧ ∀ v, p.2.data ≠ .cell v
  hok : HOk X.prog X.w H s.heap
  len : σ.length = X.N.length

section
variable {X : Cx} {pins : List (Addr × Obj)} {σ : List (Option V)} {H H' : Hp} {s : Shared} {h' : Heap}

theorem Cx.Ok.nofr (ok : X.Ok) {b : Addr} {o : Obj} (e : X.base.get? b = some o) : b ∉ X.fs := fun hb => by
  have := (ok.funs.mem hb).1
  rw [e] at this; cases this
theorem Inv.bs (I : Inv X pins σ H s) : ∀ b o, X.base.get? b = some o → s.heap.get? b = some o ∧ H b = none := fun b o e =>
  ⟨I.base.keep b o (I.ok.bs b o e).1 (I.ok.bs b o e).2 (I.ok.nofr e) (I.ok.noex b o e), I.base.free b o (I.ok.bs b o e).1 (I.ok.bs b o e).2 (I.ok.noex b o e)⟩
theorem Inv.bk (I : Inv X pins σ H s) : ∀ b o, X.base.get? b = some o → s.heap.get? b = some o := fun b o e => (I.bs b o e).1
theorem Inv.mod (I : Inv X pins σ H s) : Mod X.K X.mg X.base := I.ok.mod
theorem Inv.kIn (I : Inv X pins σ H s) : X.K.In s.heap := I.ok.mod.kin.keeps I.bk
theorem Inv.lt (I : Inv X pins σ H s) : X.env.locals < s.heap.objs.size := let ⟨_, hn, _⟩ := I.loc; hn.lt
theorem Inv.sz (I : Inv X pins σ H s) : X.s₀.heap.objs.size ≤ s.heap.objs.size := Nat.le_trans I.ok.above (Nat.le_of_lt I.lt)
theorem Inv.nofs (I : Inv X pins σ H s) {a : Addr} (h : s.heap.objs.size ≤ a) : a ∉ X.fs := fun hb => by
  obtain ⟨_, o, ho, _⟩ := I.ok.funs.mem hb
  exact absurd (Nat.lt_of_lt_of_le (Heap.lt_size ho) (Nat.le_trans I.sz h)) (Nat.lt_irrefl _)
theorem Inv.cne (I : Inv X pins σ H s) : ∀ x c, X.env.cells.lookup x = some c → c ≠ X.env.locals := fun x c e z => by
  obtain ⟨v, o, ho, hd⟩ := I.cell x c e
  obtain ⟨m, ⟨o', es, ep, ho', hd', _⟩, _⟩ := I.loc
  rw [z, ho'] at ho; cases ho; rw [hd'] at hd; cases hd
theorem Inv.funs (I : Inv X pins σ H s) : s.heap.FunFrames X.base X.outer := by
  have all : ∀ (l : List Env), (∀ b ∈ frs l, b ∈ X.fs) → X.s₀.heap.FunFrames X.base l → s.heap.FunFrames X.base l := by
    intro l
    induction l with
    | nil => intro _ _; trivial
    | cons env r ih =>
      intro hs hl
      obtain ⟨hk, ⟨L, o, hf, hn, ho, hd⟩, hr⟩ := hl
      have hL : L ∈ X.fs := hs L (by unfold frs; rw [List.filterMap_cons, hf]; exact List.mem_cons_self)
      obtain ⟨sl, e⟩ := I.base.slot L o ho (I.ok.frf L hL) hL fun z => I.ok.exfs L z hL
      exact ⟨hk, ⟨L, _, hf, hn, e, hd⟩, ih (fun b hb => hs b (by unfold frs; rw [List.filterMap_cons, hf]; exact List.mem_cons_of_mem _ hb)) hr⟩
  exact all X.outer (fun _ hb => hb) I.ok.funs

theorem Inv.stack (I : Inv X pins σ H s) : s.heap.FunFrames X.base X.stack := by
  rcases I.ok.stk with e | ⟨e, hf⟩
  · rw [e]; exact I.funs
  · rw [e]
    obtain ⟨m, hn, _⟩ := I.loc
    refine .cons (by rw [I.ok.kind]; decide) hf hn ?_ I.funs
    exact Heap.get?_none_of_le (Nat.le_trans I.ok.bsz I.ok.above)
theorem Inv.stkSub (I : Inv X pins σ H s) : ∀ b ∈ frs X.stack, b ∈ X.env.locals :: X.fs := fun b hb => by
  rcases I.ok.stk with e | ⟨e, hf⟩
  · rw [e] at hb; exact List.mem_cons_of_mem _ hb
  · rw [e] at hb
    unfold frs at hb
    rw [List.filterMap_cons, hf] at hb
    exact hb
theorem Inv.stkFree (I : Inv X pins σ H s) : ∀ b ∈ frs X.stack, H b = none := fun b hb => by
  rcases List.mem_cons.mp (I.stkSub b hb) with e | hb
  · rw [e]; exact I.free
  · obtain ⟨_, o, ho, _⟩ := I.ok.funs.mem hb
    exact I.base.free b o ho (I.ok.frf b hb) fun z => I.ok.exfs b z hb

theorem Inv.step {g' : Array GenState} {t' : Nat} {d' : Drawn} {ch : List Addr} (I : Inv X pins σ H s)
    (hch : ∀ b ∈ ch, (b ∈ X.ex ∨ X.s₀.heap.objs.size ≤ b) ∧ b ≠ X.env.locals ∧ (∀ x c, X.env.cells.lookup x = some c → c ≠ b) ∧ ∀ p ∈ X.pn ++ pins, p.1 ≠ b)
    (keep : ∀ b o, b ≠ X.env.locals → b ∉ X.fs → b ∉ ch → s.heap.get? b = some o → H b = none → h'.get? b = some o)
    (slot : ∀ b o, b ≠ X.env.locals → b ∈ X.fs → b ∉ ch → s.heap.get? b = some o → H b = none → ∃ sl, h'.get? b = some { o with slots := sl }) (free : ∀ b o, b ∉ ch → s.heap.get? b = some o → H b = none → H' b = none)
    (there : ∀ b o, b ∉ ch → s.heap.get? b = some o → ∃ o', h'.get? b = some o')
    (tups : ∀ b xs, H b = some (.tup xs) → H' b = some (.tup xs)) (frzs : ∀ b o u, H b = some (.frz o u) → H' b = some (.frz o u)) (tbls : ∀ b ps, H b = some (.tbl ps) → ∃ more, H' b = some (.tbl (ps ++ more)))
    (ns : ∀ m, s.heap.Ns X.env.locals m → h'.Ns X.env.locals m) (hok : HOk X.prog X.w H' h') (hg : AllBare g') :
    Inv X pins σ H' { s with heap := h', gens := g', drawn := d', toks := t' } := by
  have neL : ∀ b o, X.s₀.heap.get? b = some o → b ≠ X.env.locals := fun b o e => Nat.ne_of_lt (Nat.lt_of_lt_of_le (Heap.lt_size e) I.ok.above)
  have neC : ∀ b o, X.s₀.heap.get? b = some o → b ∉ X.ex → b ∉ ch := fun b o e hx hb => by
    rcases (hch b hb).1 with z | z
    · exact hx z
    · exact absurd (Nat.lt_of_lt_of_le (Heap.lt_size e) z) (Nat.lt_irrefl _)
  have cellK : ∀ x c, X.env.cells.lookup x = some c → ∀ v, s.heap.IsCell c v → h'.IsCell c v := fun x c e v ⟨o, ho, hd⟩ => by
    have nch : c ∉ ch := fun z => (hch c z).2.2.1 x c e rfl
    by_cases hc : c ∈ X.fs
    · obtain ⟨sl, q⟩ := slot c o (I.cne x c e) hc nch ho (I.freeC x c e)
      exact ⟨_, q, hd⟩
    · exact ⟨o, keep c o (I.cne x c e) hc nch ho (I.freeC x c e), hd⟩
  refine ⟨I.ok, I.os, hg, ⟨fun b o e n hb hx => ?_, fun b o e n hb hx => ?_, fun b o e n hx => ?_, fun b o e hx => ?_, fun b xs e => tups b xs (I.base.tups b xs e), fun b o xs e => frzs b o xs (I.base.frzs b o xs e), fun b ps e => ?_⟩, ?_, fun x c e => ?_, ?_, fun x c e => ?_, fun p hp => ?_, hok, I.len⟩
  · exact keep b o (neL b o e) hb (neC b o e hx) (I.base.keep b o e n hb hx) (I.base.free b o e n hx)
  · obtain ⟨sl, e1⟩ := I.base.slot b o e n hb hx
    obtain ⟨sl', e2⟩ := slot b _ (neL b o e) hb (neC b o e hx) e1 (I.base.free b o e n hx)
    exact ⟨sl', e2⟩
  · obtain ⟨o', e1⟩ := I.base.there b o e hx
    exact free b o' (neC b o e hx) e1 (I.base.free b o e n hx)
  · obtain ⟨o', e1⟩ := I.base.there b o e hx
    exact there b o' (neC b o e hx) e1
  · obtain ⟨m1, e1⟩ := I.base.tbls b ps e
    obtain ⟨m2, e2⟩ := tbls b _ e1
    exact ⟨m1 ++ m2, by rw [e2, Array.append_assoc]⟩
  · obtain ⟨m, hn, hl⟩ := I.loc
    refine ⟨m, ns m hn, fun i x v e1 e2 e3 => ?_⟩
    obtain ⟨u, r, l⟩ := hl i x v e1 e2 e3
    refine ⟨u, r, ?_⟩
    rcases l with l | ⟨k, c, e, z⟩
    · exact .inl l
    · exact .inr ⟨k, c, e, cellK x c e _ z⟩
  · obtain ⟨v, z⟩ := I.cell x c e
    exact ⟨v, cellK x c e v z⟩
  · obtain ⟨m, ⟨o, _, _, ho, _⟩, _⟩ := I.loc
    exact free _ o (fun z => (hch _ z).2.1 rfl) ho I.free
  · obtain ⟨v, o, ho, hd⟩ := I.cell x c e
    exact free c o (fun z => (hch c z).2.2.1 x c e rfl) ho (I.freeC x c e)
  · obtain ⟨e, n, ne, nf, d⟩ := I.pin p hp
    have nch : p.1 ∉ ch := fun z => (hch p.1 z).2.2.2 p hp rfl
    exact ⟨keep p.1 p.2 ne nf nch e n, free p.1 p.2 nch e n, ne, nf, d⟩
theorem Inv.un {t' : Nat} (I : Inv X pins σ H s) (u : Un X.fs [] H H' s.heap h') (hok : HOk X.prog X.w H' h') : Inv X pins σ H' { s with heap := h', toks := t' } := by
  obtain ⟨m, ⟨o, es, ep, ho, r⟩, _⟩ := id I.loc
  obtain ⟨sl, hL⟩ := u.any ho I.free (by simp)
  exact I.step (g' := s.gens) (d' := s.drawn) (ch := []) (fun _ z => nomatch z) (fun b o _ hb _ e n => u.keep b o e n hb (by simp)) (fun b o _ hb _ e n => u.slot b o e n hb (by simp)) (fun b o _ e n => u.free b o e n (by simp)) (fun b o _ e => u.there b o e (by simp)) u.tups u.frzs u.tbls (fun m' hm => by
    obtain ⟨o', es', ep', ho', r'⟩ := hm
    rw [ho] at ho'; cases ho'
    exact ⟨_, es', ep', hL, r'⟩) hok I.bare
theorem Inv.call {g' : Array GenState} {t' : Nat} {d' : Drawn} {ch : List Addr} (I : Inv X pins σ H s) (u : Un (frs X.stack) ch H H' s.heap h') (hok : HOk X.prog X.w H' h') (hg : AllBare g')
    (hch : ∀ b ∈ ch, (b ∈ X.ex ∨ X.s₀.heap.objs.size ≤ b) ∧ b ≠ X.env.locals ∧ (∀ x c, X.env.cells.lookup x = some c → c ≠ b) ∧ ∀ p ∈ X.pn ++ pins, p.1 ≠ b) :
    Inv X pins σ H' { s with heap := h', gens := g', drawn := d', toks := t' } := by
  obtain ⟨m, ⟨o, es, ep, ho, r⟩, _⟩ := id I.loc
  obtain ⟨sl, hL⟩ := u.any ho I.free fun z => (hch _ z).2.1 rfl
  exact I.step (ch := ch) hch (fun b o hL hb hc e n => u.keep b o e n (fun z => (List.mem_cons.mp (I.stkSub b z)).elim hL hb) hc) (fun b o _ _ hc e n => u.any e n hc) (fun b o hc e n => u.free b o e n hc) (fun b o hc e => u.there b o e hc) u.tups u.frzs u.tbls (fun m' hm => by
    obtain ⟨o', es', ep', ho', r'⟩ := hm
    rw [ho] at ho'; cases ho'
    exact ⟨_, es', ep', hL, r'⟩) hok hg
theorem Inv.turned {t' : Nat} {it : Addr} (I : Inv X pins σ H s) (k : ∀ b o, b ≠ it → s.heap.get? b = some o → h'.get? b = some o) (hn : H it = none) (hL : it ≠ X.env.locals)
    (h1 : it ∈ X.ex ∨ X.s₀.heap.objs.size ≤ it) (h2 : ∀ x c, X.env.cells.lookup x = some c → c ≠ it) (h3 : ∀ p ∈ X.pn ++ pins, p.1 ≠ it) : Inv X pins σ H { s with heap := h', toks := t' } := by
  have nit : ∀ b u, H b = some u → b ≠ it := fun b u e z => by rw [z, hn] at e; cases e
  refine I.step (g' := s.gens) (d' := s.drawn) (ch := [it]) (fun b hb => ?_) (fun b o _ _ hc e _ => k b o (fun z => hc (by simp [z])) e) (fun b o _ _ hc e _ => ⟨o.slots, k b o (fun z => hc (by simp [z])) e⟩) (fun _ _ _ _ n => n)
    (fun b o hc e => ⟨o, k b o (fun z => hc (by simp [z])) e⟩) (fun _ _ e => e) (fun _ _ _ e => e) (fun b ps e => ⟨#[], by rw [e]; simp⟩) (fun m hm => ?_) (fun b u e => ?_) I.bare
  · have e : b = it := by simpa using hb
    subst e
    exact ⟨h1, hL, h2, h3⟩
  · obtain ⟨o, es, ep, ho, r⟩ := hm
    exact ⟨o, es, ep, k _ o (Ne.symm hL) ho, r⟩
  · refine (I.hok b u e).stay (fun c v hc q => k c v ?_ q) (fun _ q => q) fun _ _ q => q
    rcases hc with z | z
    · rw [z]; exact nit b u e
    · exact nit c _ z
theorem Inv.tok (I : Inv X pins σ H s) (t : Nat) : Inv X pins σ H { s with toks := t } := I.un (h' := s.heap) (t' := t) Un.refl I.hok
theorem Inv.kept {t' : Nat} (I : Inv X pins σ H s) (k : ∀ b u, s.heap.get? b = some u → h'.get? b = some u) : Inv X pins σ H { s with heap := h', toks := t' } := I.un (Un.kept k) (I.hok.kept k)
theorem Inv.laid {a : Addr} {o : HO} {t' : Nat} (I : Inv X pins σ H s) (k : ∀ b u, s.heap.get? b = some u → h'.get? b = some u) (hp : s.heap.objs.size ≤ a) (new : ObjOk X.prog X.w (upd H a o) h' a o) :
    Inv X pins σ (upd H a o) { s with heap := h', toks := t' } := I.un (Un.laid k hp (I.hok.fresh hp)) (I.hok.laid k hp new)
theorem Inv.write {x e : Addr} {o : HO} {t' : Nat} (I : Inv X pins σ H s) (mu : Mut (H x)) (he : e = x ∨ H e = some (.own x)) (k : ∀ b u, b ≠ e → s.heap.get? b = some u → h'.get? b = some u) (heo : ∃ u, h'.get? e = some u)
    (new : ObjOk X.prog X.w (upd H x o) h' x o) : Inv X pins σ (upd H x o) { s with heap := h', toks := t' } := I.un (Un.write mu he k heo) (I.hok.write mu he k heo new)
theorem Inv.pins_of {pins' : List (Addr × Obj)} (I : Inv X pins σ H s) (h : ∀ p ∈ pins', s.heap.get? p.1 = some p.2 ∧ H p.1 = none ∧ p.1 ≠ X.env.locals ∧ p.1 ∉ X.fs ∧ ∀ v, p.2.data ≠ .cell v) : Inv X pins' σ H s :=
  ⟨I.ok, I.os, I.bare, I.base, I.loc, I.cell, I.free, I.freeC, fun p hp => (List.mem_append.mp hp).elim (fun z => I.pin p (List.mem_append_left _ z)) (h p), I.hok, I.len⟩

theorem nodup_ix {N : List Str} (hN : N.Nodup) {i j : Nat} {x : Str} (a : N[i]? = some x) (b : N[j]? = some x) : i = j := by
  obtain ⟨h1, e1⟩ := List.getElem?_eq_some_iff.mp a
  obtain ⟨h2, e2⟩ := List.getElem?_eq_some_iff.mp b
  exact (List.getElem_inj hN).mp (e1.trans e2.symm)

theorem store_ok2 {M : Model} {A : Around} {E : Value → Shared → Prop} {i : Nat} {x : Str} {v : V} {u : Value} {Q : Unit → Shared → Prop} (I : Inv X pins σ H s) (hN : X.N.Nodup) (hi : X.N[i]? = some x) (hx : Loc X.env.scope x) (r : RelV v u)
    (h : ∀ s', Inv X pins (σ.set i (some v)) H s' → (∃ a, Heap.SameBut a s.heap s'.heap ∧ (a = X.env.locals ∨ X.env.cells.lookup x = some a)) → Q () s') (hf : X.fn x = true ∨ X.env.scope.names.lookup x = some .local := by first | exact .inl rfl | exact .inr rfl | assumption) : wpAny M A (storeName X.env x u) Q E s := by
  obtain ⟨m, hn, hl⟩ := id I.loc
  have hcls : (X.env.scope.kind == .class || (X.env.scope.kind == .module && X.env.locals != X.env.globals)) = false := by rw [I.ok.kind]; rfl
  have hiσ : i < σ.length := by rw [I.len]; exact (List.getElem?_eq_some_iff.mp hi).1
  have cne := I.cne
  have tracked : ∀ {a : Addr} {h' : Heap}, (∃ o, s.heap.get? a = some o ∧ H a = none) → Heap.SameBut a s.heap h' → HOk X.prog X.w H h' := fun {a h'} ha hs b ob e => by
    obtain ⟨_, _, hfree⟩ := ha
    refine (I.hok b ob e).stay (fun c w' hc q => (hs.2 c ?_).trans q) (fun _ q => q) fun _ _ q => q
    rintro rfl
    rcases hc with rfl | hc
    · rw [hfree] at e; cases e
    · rw [hfree] at hc; cases hc
  rcases hx with hk | hk
  · refine wpAny_storeName_local hk hn (fun h' hn' hs => ?_) hcls
    obtain ⟨oL, _, _, hoL, _⟩ := id hn
    refine h _ ⟨I.ok, I.os, I.bare, ⟨fun b o e n hb hx => ?_, fun b o e n hb hx => ?_, I.base.free, fun b o e hx => ?_, I.base.tups, I.base.frzs, I.base.tbls⟩, ⟨_, hn', fun j y v' e1 e2 e3 => ?_⟩, fun y c e => ?_, I.free, I.freeC, fun p hp => ?_, tracked ⟨oL, hoL, I.free⟩ hs, by simpa using I.len⟩ ⟨_, hs, .inl rfl⟩
    · exact (hs.2 b (Nat.ne_of_lt (Nat.lt_of_lt_of_le (Heap.lt_size e) I.ok.above))).trans (I.base.keep b o e n hb hx)
    · obtain ⟨sl, e1⟩ := I.base.slot b o e n hb hx
      exact ⟨sl, (hs.2 b (Nat.ne_of_lt (Nat.lt_of_lt_of_le (Heap.lt_size e) I.ok.above))).trans e1⟩
    · obtain ⟨o', e1⟩ := I.base.there b o e hx
      exact ⟨o', (hs.2 b (Nat.ne_of_lt (Nat.lt_of_lt_of_le (Heap.lt_size e) I.ok.above))).trans e1⟩
    · by_cases hj : j = i
      · subst hj
        rw [hi] at e1; cases e1
        rw [List.getElem?_set_self hiσ] at e2
        cases e2
        exact ⟨u, r, .inl ⟨hk, by simp⟩⟩
      · rw [List.getElem?_set_ne (Ne.symm hj)] at e2
        obtain ⟨u', r', q⟩ := hl j y v' e1 e2 e3
        refine ⟨u', r', ?_⟩
        rcases q with ⟨k, e⟩ | ⟨k, c, e, z⟩
        · refine .inl ⟨k, ?_⟩
          have : y ≠ x := fun e => hj (nodup_ix hN e1 (e ▸ hi))
          simp [this, e]
        · exact .inr ⟨k, c, e, z.sameBut hs (cne y c e)⟩
    · obtain ⟨w', z⟩ := I.cell y c e
      exact ⟨w', z.sameBut hs (cne y c e)⟩
    · obtain ⟨e, n, ne, nf, d⟩ := I.pin p hp
      exact ⟨(hs.2 p.1 ne).trans e, n, ne, nf, d⟩
  · have hfn : X.fn x = true := by
      rcases hf with z | z
      · exact z
      · rw [z] at hk; cases hk
    obtain ⟨c, hc⟩ := I.ok.has x (.inl hk)
    obtain ⟨w', z⟩ := I.cell x c hc
    refine wpAny_storeName_cell I.ok.kind hk hc z (fun h' hc' hs => ?_)
    obtain ⟨oc, hoc, hocd⟩ := id z
    refine h { s with heap := h' } ⟨I.ok, I.os, I.bare, ⟨fun b o e n hb hx => ?_, fun b o e n hb hx => ?_, I.base.free, fun b o e hx => ?_, I.base.tups, I.base.frzs, I.base.tbls⟩, ⟨m, hn.sameBut hs (Ne.symm (cne x c hc)), fun j y v' e1 e2 e3 => ?_⟩, fun y c' e => ?_, I.free, I.freeC, fun p hp => ?_, tracked ⟨oc, hoc, I.freeC x c hc⟩ hs, by simpa using I.len⟩ ⟨c, hs, .inr hc⟩
    · exact (hs.2 b (Nat.ne_of_lt (Nat.lt_of_lt_of_le (Heap.lt_size e) (I.ok.cab x c hfn hc)))).trans (I.base.keep b o e n hb hx)
    · obtain ⟨sl, e1⟩ := I.base.slot b o e n hb hx
      exact ⟨sl, (hs.2 b (Nat.ne_of_lt (Nat.lt_of_lt_of_le (Heap.lt_size e) (I.ok.cab x c hfn hc)))).trans e1⟩
    · obtain ⟨o', e1⟩ := I.base.there b o e hx
      exact ⟨o', (hs.2 b (Nat.ne_of_lt (Nat.lt_of_lt_of_le (Heap.lt_size e) (I.ok.cab x c hfn hc)))).trans e1⟩
    · by_cases hj : j = i
      · subst hj
        rw [hi] at e1; cases e1
        rw [List.getElem?_set_self hiσ] at e2
        cases e2
        exact ⟨u, r, .inr ⟨.inl hk, c, hc, hc'⟩⟩
      · rw [List.getElem?_set_ne (Ne.symm hj)] at e2
        obtain ⟨u', r', q⟩ := hl j y v' e1 e2 e3
        refine ⟨u', r', ?_⟩
        rcases q with q | ⟨k, c', e, z'⟩
        · exact .inl q
        · refine .inr ⟨k, c', e, z'.sameBut hs ?_⟩
          rintro rfl
          exact hj (nodup_ix hN e1 (I.ok.inj _ _ _ e hc ▸ hi))
    · by_cases hcc : c' = c
      · subst hcc; exact ⟨_, hc'⟩
      · obtain ⟨w2, z2⟩ := I.cell y c' e
        exact ⟨w2, z2.sameBut hs hcc⟩
    · obtain ⟨e, n, ne, nf, d⟩ := I.pin p hp
      refine ⟨(hs.2 p.1 ?_).trans e, n, ne, nf, d⟩
      intro q
      rw [q, hoc] at e
      have q' : oc = p.2 := Option.some.inj e
      exact d w' (by rw [← q']; exact hocd)
theorem store_ok {M : Model} {A : Around} {E : Value → Shared → Prop} {i : Nat} {x : Str} {v : V} {u : Value} {Q : Unit → Shared → Prop} (I : Inv X pins σ H s) (hN : X.N.Nodup) (hi : X.N[i]? = some x) (hx : Loc X.env.scope x) (r : RelV v u)
    (h : ∀ s', Inv X pins (σ.set i (some v)) H s' → Q () s') (hf : X.fn x = true ∨ X.env.scope.names.lookup x = some .local := by first | exact .inl rfl | exact .inr rfl | assumption) : wpAny M A (storeName X.env x u) Q E s :=
  store_ok2 I hN hi hx r (fun s' I' _ => h s' I') hf
theorem Inv.call' {s' : Shared} {ch : List Addr} (I : Inv X pins σ H s) (ho : s'.os = s.os) (u : Un (frs X.stack) ch H H' s.heap s'.heap) (hok : HOk X.prog X.w H' s'.heap) (hg : AllBare s'.gens)
    (hch : ∀ b ∈ ch, (b ∈ X.ex ∨ X.s₀.heap.objs.size ≤ b) ∧ b ≠ X.env.locals ∧ (∀ x c, X.env.cells.lookup x = some c → c ≠ b) ∧ ∀ p ∈ X.pn ++ pins, p.1 ≠ b) : Inv X pins σ H' s' := by
  obtain ⟨h', g', d', t', o'⟩ := s'
  have e : o' = s.os := ho
  subst e
  exact I.call (g' := g') (t' := t') (d' := d') u hok hg hch
end

/-! ### the judgements -/
abbrev XK := Value → Option Addr → Hp → Prop
abbrev St := List (Option V)
abbrev VK := V → Hp → Prop
abbrev TE := St → Hp → VK → Prop
abbrev TT := St → Hp → (Bool → Hp → Prop) → Prop
abbrev TA := St → Hp → (List V → Hp → Prop) → Prop
structure Ends where
  nx : St → Hp → Prop
  rt : VK
  bk : St → Hp → Prop := fun _ _ => False
  ct : St → Hp → Prop := fun _ _ => False
abbrev TS := Ends → St → Hp → Prop

def EP (X : Cx) (pins : List (Addr × Obj)) (σ : St) (Q : VK) (u : Value) (s' : Shared) : Prop := ∃ v H', Inv X pins σ H' s' ∧ RelV v u ∧ Q v H'
def TP (X : Cx) (pins : List (Addr × Obj)) (σ : St) (Q : Bool → Hp → Prop) (b : Bool) (s' : Shared) : Prop := ∃ H', Inv X pins σ H' s' ∧ Q b H'
def AP (X : Cx) (pins : List (Addr × Obj)) (σ : St) (Q : List V → Hp → Prop) (us : List Value) (s' : Shared) : Prop := ∃ vs H', Inv X pins σ H' s' ∧ Vals vs us ∧ Q vs H'
def SP (X : Cx) (pins : List (Addr × Obj)) (D : Ends) (f : Flow) (s' : Shared) : Prop :=
  match f with
  | .next => ∃ σ' H', Inv X pins σ' H' s' ∧ D.nx σ' H'
  | .brk => ∃ σ' H', Inv X pins σ' H' s' ∧ D.bk σ' H'
  | .cont => ∃ σ' H', Inv X pins σ' H' s' ∧ D.ct σ' H'
  | .ret u => ∃ v σ' H', Inv X pins σ' H' s' ∧ RelV v u ∧ D.rt v H'

def PE (X : Cx) (e : Expr) (t : TE) : Prop :=
  ∀ (pins : List (Addr × Obj)) (s : Shared) (σ : St) (H : Hp) (Q : VK), Inv X pins σ H s → t σ H Q → wpAny (model X.prog X.w) X.A (eval e X.env) (EP X pins σ Q) X.xe s
def PT (X : Cx) (e : Expr) (t : TT) : Prop :=
  ∀ (pins : List (Addr × Obj)) (s : Shared) (σ : St) (H : Hp) (Q : Bool → Hp → Prop), Inv X pins σ H s → t σ H Q → wpAny (model X.prog X.w) X.A (isTrue e X.env (eval e X.env)) (TP X pins σ Q) X.xe s
def PW (X : Cx) (e : Expr) (t : TT) : Prop :=
  ∀ (whole : Sem Value) (pins : List (Addr × Obj)) (s : Shared) (σ : St) (H : Hp) (Q : Bool → Hp → Prop), Inv X pins σ H s → t σ H Q → wpAny (model X.prog X.w) X.A (isTrue e X.env whole) (TP X pins σ Q) X.xe s
theorem PW.pt {X : Cx} {e : Expr} {t : TT} (h : PW X e t) : PT X e t := h _
def PA (X : Cx) (es : List Expr) (t : TA) : Prop :=
  ∀ (pos : Pos) (pins : List (Addr × Obj)) (s : Shared) (σ : St) (H : Hp) (Q : List V → Hp → Prop), Inv X pins σ H s → t σ H Q → wpAny (model X.prog X.w) X.A (spliced (backTo pos (starEach es X.env))) (AP X pins σ Q) X.xe s
def PS (X : Cx) (st : Stmt) (t : TS) : Prop :=
  ∀ (pins : List (Addr × Obj)) (s : Shared) (σ : St) (H : Hp) (D : Ends), Inv X pins σ H s → t D σ H → wpAny (model X.prog X.w) X.A (exec st X.env) (SP X pins D) X.xe s
def PSs (X : Cx) (st : List Stmt) (t : TS) : Prop :=
  ∀ (pins : List (Addr × Obj)) (s : Shared) (σ : St) (H : Hp) (D : Ends), Inv X pins σ H s → t D σ H → wpAny (model X.prog X.w) X.A (execs st X.env) (SP X pins D) X.xe s
theorem thn {α : Type} {t : Sem α} {Q Q' : α → Shared → Prop} {M : Model} {A : Around} {E : Value → Shared → Prop} {s : Shared} (h : wpAny M A t Q E s) (hQ : ∀ a s, Q a s → Q' a s) : wpAny M A t Q' E s := wpAny_mono h hQ fun _ _ x => x
end L2

namespace L2
open PySem PySem.Spec PyProof.Rows
section
variable {X : Cx}

/-! ### names and constants -/
def tVar (i : Nat) : TE := fun σ H Q => ∃ v, σ[i]? = some (some v) ∧ Q v H
def tC (v : V) : TE := fun _ H Q => Q v H
theorem pe_var {i : Nat} {x : Str} {pos : Pos} (hN : X.N[i]? = some x) (hv : Vis X.env.scope x) (hd : (x == ("__debug__" : Str)) = false := by decide) (hcd : (x == ("__classdict__" : Str)) = false := by decide) : PE X (.Name x pos) (tVar i) := by
  intro pins s σ H Q I h
  obtain ⟨v, e, h⟩ := h
  obtain ⟨m, hn, hl⟩ := I.loc
  obtain ⟨u, r, l⟩ := hl i x v hN e hv
  have fin : EP X pins σ Q u s := ⟨v, H, I, r, h⟩
  rcases l with ⟨hk, hm⟩ | ⟨hk, c, hc, hcell⟩
  · exact wpAny_Name (wpAny_loadName_local I.ok.kind hk hn hm fin) hd
  · rcases hk with hk | hk
    · exact wpAny_Name (wpAny_loadName_cell I.ok.kind hk hc hcell fin) hd
    · exact wpAny_Name (wpAny_loadName_free I.ok.kind hk hc hcell fin hcd) hd
theorem pe_int {i j pos} : PE X (.Constant (.int i) j pos) (tC (.int i)) := fun _ _ _ H _ I h => wpAny_Constant_int ⟨.int i, H, I.tok _, ⟨_, rfl⟩, h⟩
theorem pe_bl {b j pos} : PE X (.Constant (.bool b) j pos) (tC (.bl b)) := fun _ _ _ H _ I h => Constant_bool ⟨.bl b, H, I, rfl, h⟩
theorem pe_str {x j pos} : PE X (.Constant (.str x) j pos) (tC (.str x)) := fun _ _ _ H _ I h => Calls.Constant_str ⟨.str x, H, I.tok _, ⟨_, rfl⟩, h⟩

def Gl (X : Cx) (x : Str) : Prop := X.env.kindOf x = some .globalImplicit
theorem ld_glob {E : Value → Shared → Prop} {pins : List (Addr × Obj)} {s : Shared} {σ : St} {H : Hp} {x : Str} {u : Value} {pos : Pos} {Q : Value → Shared → Prop} (I : Inv X pins σ H s) (hg : Gl X x) (hm : X.mg x = some u) (h : Q u s)
    (hd : (x == ("__debug__" : Str)) = false := by decide) : wpAny (model X.prog X.w) X.A (eval (.Name x pos) X.env) Q E s :=
  Calls.Name_function_global I.ok.kind hg (Calls.loadGlobal_global (by rw [I.ok.glob]; exact I.mod.glob.keeps I.bk) hm h) hd
theorem ld_blt {E : Value → Shared → Prop} {pins : List (Addr × Obj)} {s : Shared} {σ : St} {H : Hp} {x : Str} {u : Value} {pos : Pos} {Q : Value → Shared → Prop} (I : Inv X pins σ H s) (hg : Gl X x) (hm : X.mg x = none) (hv : bootBuiltins x = some u) (h : Q u s)
    (hn : x ≠ "__name__" := by decide) (hd : (x == ("__debug__" : Str)) = false := by decide) : wpAny (model X.prog X.w) X.A (eval (.Name x pos) X.env) Q E s := by
  obtain ⟨mb, h1, h2⟩ := I.mod.blt
  exact Calls.Name_function_global I.ok.kind hg (Calls.loadGlobal_builtin (by rw [I.ok.glob]; exact I.mod.glob.keeps I.bk) hm (by rw [I.ok.blt]; exact h1.keeps I.bk) ((h2 x hn).trans hv) h) hd
theorem pe_glob {x : Str} {v : V} {u : Value} {pos : Pos} (hg : Gl X x) (hm : X.mg x = some u) (r : RelV v u) (hd : (x == ("__debug__" : Str)) = false := by decide) : PE X (.Name x pos) (tC v) :=
  fun _ _ _ H _ I h => ld_glob I hg hm ⟨v, H, I, r, h⟩ hd
theorem pe_bltn {x : Str} {v : V} {u : Value} {pos : Pos} (hg : Gl X x) (hm : X.mg x = none) (hv : bootBuiltins x = some u) (r : RelV v u) (hn : x ≠ "__name__" := by decide) (hd : (x == ("__debug__" : Str)) = false := by decide) : PE X (.Name x pos) (tC v) :=
  fun _ _ _ H _ I h => ld_blt I hg hm hv ⟨v, H, I, r, h⟩ hn hd

/-! ### arithmetic -/
variable {a b : Expr} {ta tb : TE} {pos : Pos}
/-! ### comparisons -/
def PC (X : Cx) (op : CmpOp) (a b : Expr) (t : TE) : Prop :=
  ∀ (pins : List (Addr × Obj)) (s : Shared) (σ : St) (H : Hp) (Q : VK), Inv X pins σ H s → t σ H Q →
    wpAny (model X.prog X.w) X.A (eval a X.env) (fun v s₁ => wpAny (model X.prog X.w) X.A (eval b X.env) (fun u s₂ => wpAny (model X.prog X.w) X.A (compareOp op v u) (EP X pins σ Q) X.xe s₂) X.xe s₁) X.xe s
theorem nobehind (b : Expr) {op : CmpOp} (h : op ≠ .In) (h2 : op ≠ .NotIn) : behindInMarks op b = false := by
  have e1 : (op == CmpOp.In) = false := by cases op <;> first | rfl | exact absurd rfl h
  have e2 : (op == CmpOp.NotIn) = false := by cases op <;> first | rfl | exact absurd rfl h2
  cases b <;> simp [behindInMarks, e1, e2]
def tIsN (ta : TE) : TE := fun σ H Q => ta σ H fun x H1 => Q (.bl (decide (x = .non))) H1
theorem RelV.none_iff {x : V} {v : Value} (r : RelV x v) : (v == Value.none) = decide (x = .non) := by
  cases x with
  | non => cases r; rfl
  | bl _ => cases r; rfl
  | int _ => obtain ⟨t, rfl⟩ := r; rfl
  | str _ => obtain ⟨t, rfl⟩ := r; rfl
  | byt _ => obtain ⟨t, rfl⟩ := r; rfl
  | flt _ => obtain ⟨t, rfl⟩ := r; rfl
  | ref _ => cases r; rfl
  | ty _ => cases r; rfl
theorem pc_isN {j pos'} (ha : PE X a ta) : PC X .Is a (.Constant .none j pos') (tIsN ta) := by
  intro pins s σ H Q I h
  refine thn (ha pins s σ H _ I h) fun v s1 ⟨x, H1, I1, r1, q1⟩ => ?_
  exact Constant_none (is_none_gen ⟨.bl _, H1, I1, by rw [r1.none_iff]; rfl, q1⟩)
def tB (t : TE) : TT := fun σ H Q => t σ H fun x H1 => ∃ c, x = .bl c ∧ Q c H1
theorem pt_cmp {op : CmpOp} {t : TE} (h : PC X op a b t) (h1 : behindInMarks op b = false := by first | exact nobehind _ (by decide) (by decide) | rfl) : PT X (.Compare a [op] [b] pos) (tB t) := by
  intro pins s σ H Q I hw
  refine wpAny_isTrue_Compare1 (thn (h pins s σ H _ I hw) fun v s1 h1 => thn h1 fun u s2 h2 => thn h2 fun c s3 ⟨x, H1, I1, r1, q1⟩ => ?_) h1
  obtain ⟨d, rfl, q⟩ := q1
  cases r1
  exact wpAny_truthy_bool ⟨H1, I1, q⟩
theorem pt_val {e : Expr} {t : TE} (h : PE X e t) (he : ∀ whole, isTrue e X.env whole = (do let v ← whole; standAt e.pos; holding [v] (truthy v)) := by intro _; rfl) : PT X e (tB t) := by
  intro pins s σ H Q I hw
  refine isTrue_plain (thn (h pins s σ H _ I hw) fun v s1 ⟨x, H1, I1, r1, q1⟩ => ?_) (he _)
  obtain ⟨d, rfl, q⟩ := q1
  cases r1
  exact wpAny_truthy_bool ⟨H1, I1, q⟩

/-! ### and, or, not -/
variable {tA tB' : TT} {rest : List Expr}
def tAnd (t u : TT) : TT := fun σ H Q => t σ H fun c H1 => if c = true then u σ H1 Q else Q false H1
def tOr (t u : TT) : TT := fun σ H Q => t σ H fun c H1 => if c = true then Q true H1 else u σ H1 Q
def tNot (t : TT) : TT := fun σ H Q => t σ H fun c H1 => Q (!c) H1
theorem pw_and1 (ha : PT X a tA) : PW X (.BoolOp .And [a] pos) tA := by
  intro wh pins s σ H Q I h
  refine isTrue_and (thn (ha pins s σ H Q I h) fun c s1 e => ?_)
  cases c with
  | true => exact isTrue_and_nil e
  | false => exact e
theorem pw_or1 (ha : PT X a tA) : PW X (.BoolOp .Or [a] pos) tA := by
  intro wh pins s σ H Q I h
  refine isTrue_or (thn (ha pins s σ H Q I h) fun c s1 e => ?_)
  cases c with
  | false => exact isTrue_or_nil e
  | true => exact e
theorem pw_and (ha : PT X a tA) (hb : PW X (.BoolOp .And (b :: rest) pos) tB') : PW X (.BoolOp .And (a :: b :: rest) pos) (tAnd tA tB') := by
  intro wh pins s σ H Q I h
  refine isTrue_and (thn (ha pins s σ H _ I h) fun c s1 ⟨H1, I1, q1⟩ => ?_)
  cases c with
  | true => exact hb wh pins s1 σ H1 Q I1 q1
  | false => exact ⟨H1, I1, q1⟩
theorem pw_or (ha : PT X a tA) (hb : PW X (.BoolOp .Or (b :: rest) pos) tB') : PW X (.BoolOp .Or (a :: b :: rest) pos) (tOr tA tB') := by
  intro wh pins s σ H Q I h
  refine isTrue_or (thn (ha pins s σ H _ I h) fun c s1 ⟨H1, I1, q1⟩ => ?_)
  cases c with
  | true => exact ⟨H1, I1, q1⟩
  | false => exact hb wh pins s1 σ H1 Q I1 q1
theorem pt_not (ha : PT X a tA) : PT X (.UnaryOp .Not a pos) (tNot tA) := by
  intro pins s σ H Q I h
  exact isTrue_not (ha pins s σ H (fun c H1 => Q (!c) H1) I h)
def tAndV (ta tb : TE) : TE := fun σ H Q => ta σ H fun x H1 => ∃ c, x = .bl c ∧ if c = true then tb σ H1 Q else Q (.bl false) H1
def tNotV (ta : TE) : TE := fun σ H Q => ta σ H fun x H1 => ∃ c, x = .bl c ∧ Q (.bl (!c)) H1
theorem pe_one {op} {t : TE} (h : PE X a t) : PE X (.BoolOp op [a] pos) t := fun pins s σ H Q I hw => BoolOp_one (h pins s σ H Q I hw)
theorem pe_and (ha : PE X a ta) (hb : PE X (.BoolOp .And (b :: rest) pos) tb) : PE X (.BoolOp .And (a :: b :: rest) pos) (tAndV ta tb) := by
  intro pins s σ H Q I h
  refine BoolOp_and (thn (ha pins s σ H _ I h) fun v s1 ⟨x, H1, I1, r1, q1⟩ => ?_)
  obtain ⟨c, rfl, q1⟩ := q1
  cases r1
  refine wpAny_truthy_bool ?_
  cases c with
  | true => exact hb pins s1 σ H1 Q I1 q1
  | false => exact ⟨.bl false, H1, I1, rfl, q1⟩
theorem pe_not (ha : PE X a ta) : PE X (.UnaryOp .Not a pos) (tNotV ta) := by
  intro pins s σ H Q I h
  refine UnaryOp_ (thn (ha pins s σ H _ I h) fun v s1 ⟨x, H1, I1, r1, q1⟩ => ?_)
  obtain ⟨c, rfl, q1⟩ := q1
  cases r1
  exact not_of (wpAny_truthy_bool ⟨.bl (!c), H1, I1, rfl, q1⟩)
def tIf (t : TT) (ta tb : TE) : TE := fun σ H Q => t σ H fun c H1 => if c = true then ta σ H1 Q else tb σ H1 Q
theorem pe_ifExp {c : Expr} (hc : PT X c tA) (ha : PE X a ta) (hb : PE X b tb) : PE X (.IfExp c a b pos) (tIf tA ta tb) := by
  intro pins s σ H Q I h
  refine wpAny_IfExp (thn (hc pins s σ H _ I h) fun d s1 ⟨H1, I1, q1⟩ => ?_)
  cases d with
  | true => exact ha pins s1 σ H1 Q I1 q1
  | false => exact hb pins s1 σ H1 Q I1 q1
end
end L2

namespace L2
open PySem PySem.Spec PyProof.Rows

/-! ### a list, a tuple that is read: tracked, frozen, or an object of the module -/
def SqL (K : PySem.W.Frag) (H : Hp) (a : Addr) (xs : List V) : Prop :=
  Rd H a (.lst xs) ∨
    ∃ (o : Obj) (its : Array Value) (n : Nat), K.lookup a = some o ∧ o.cls = .type "list" ∧ o.dict = none ∧ o.data = .seq its n ∧ its.size ≤ sizeLine ∧ Vals xs its.toList
def SqT (K : PySem.W.Frag) (H : Hp) (a : Addr) (xs : List V) : Prop :=
  Rd H a (.tup xs) ∨
    ∃ (o : Obj) (its : Array Value) (n : Nat), K.lookup a = some o ∧ o.cls = .type "tuple" ∧ o.data = .seq its n ∧ its.size ≤ sizeLine ∧ Vals xs its.toList
def absV : Value → Option V
  | .none => some .non
  | .bool b => some (.bl b)
  | .int i _ => some (.int i)
  | .str x _ => some (.str x)
  | .bytes b _ => some (.byt b)
  | .float b _ => some (.flt b)
  | .ref a => some (.ref a)
  | .type n => some (.ty n)
  | _ => none
theorem RelV.abs {x : V} {u : Value} (r : RelV x u) : absV u = some x := by
  cases x with
  | non => cases r; rfl
  | bl _ => cases r; rfl
  | int _ => obtain ⟨t, rfl⟩ := r; rfl
  | str _ => obtain ⟨t, rfl⟩ := r; rfl
  | byt _ => obtain ⟨t, rfl⟩ := r; rfl
  | flt _ => obtain ⟨t, rfl⟩ := r; rfl
  | ref _ => cases r; rfl
  | ty _ => cases r; rfl
theorem RelV.inj {x y : V} {u : Value} (r : RelV x u) (q : RelV y u) : x = y := Option.some.inj (r.abs.symm.trans q.abs)
theorem Vals.inj : ∀ {xs ys : List V} {us : List Value}, Vals xs us → Vals ys us → xs = ys
  | _, _, _, .nil, .nil => rfl
  | _, _, _, .cons r t, .cons r' t' => by rw [r.inj r', Vals.inj t t']
section
variable {X : Cx} {pins : List (Addr × Obj)} {σ : St} {H : Hp} {s : Shared} {a : Addr} {xs ys : List V}
theorem SqL.of {K : PySem.W.Frag} (h : H a = some (.lst xs)) : SqL K H a xs := .inl (.inl h)
theorem SqT.of {K : PySem.W.Frag} (h : H a = some (.tup xs)) : SqT K H a xs := .inl (.inl h)
theorem Inv.list (I : Inv X pins σ H s) (h : SqL X.K H a xs) : ∃ its : List Value, Vals xs its ∧ PlainL s.heap a its.toArray ∧ xs.length ≤ sizeLine := by
  rcases h with h | ⟨o, its, n, hk, hc, hd, hs, hz, r⟩
  · obtain ⟨z, its, n, r, e⟩ := h.ok I.hok
    exact ⟨its, r, ⟨_, n, e, rfl, rfl, rfl⟩, z⟩
  · refine ⟨its.toList, r, ⟨o, n, I.kIn a o hk, hc, hd, by simpa using hs⟩, ?_⟩
    have e := r.length
    simp only [Array.length_toList] at e
    omega
theorem Inv.tuple (I : Inv X pins σ H s) (h : SqT X.K H a xs) : ∃ its : List Value, Vals xs its ∧ IsTup s.heap a its.toArray ∧ xs.length ≤ sizeLine := by
  rcases h with h | ⟨o, its, n, hk, hc, hs, hz, r⟩
  · obtain ⟨z, its, r, p⟩ := h.ok I.hok
    exact ⟨its, r, p, z⟩
  · refine ⟨its.toList, r, ⟨o, I.kIn a o hk, hc, n, by simpa using hs⟩, ?_⟩
    have e := r.length
    simp only [Array.length_toList] at e
    omega
theorem Inv.list_inj (I : Inv X pins σ H s) (h : SqL X.K H a xs) (h' : SqL X.K H a ys) : xs = ys := by
  obtain ⟨its, r, ⟨o, n, e, _, _, d⟩, _⟩ := I.list h
  obtain ⟨its', r', ⟨o', n', e', _, _, d'⟩, _⟩ := I.list h'
  rw [e] at e'; cases e'
  rw [d] at d'
  injection d' with d1 _
  have : its = its' := by simpa using congrArg Array.toList d1
  subst this
  exact r.inj r'
end

/-! ### another wish about exceptions -/
abbrev Cx.wish (X : Cx) (E : Value → Shared → Prop) : Cx := { X with xe := E }
abbrev Cx.nox (X : Cx) : Cx := X.wish fun _ _ => False
theorem Cx.Ok.wish {X : Cx} (ok : X.Ok) (E : Value → Shared → Prop) : (X.wish E).Ok :=
  ⟨ok.mod, ok.kind, ok.glob, ok.blt, ok.above, ok.inj, ok.has, ok.cab, ok.hd, ok.frames, ok.stk, ok.exf, ok.bs, ok.bsz, ok.noex, ok.exfs, ok.funs, ok.frf⟩
theorem Cx.Ok.unwish {X : Cx} {E : Value → Shared → Prop} (ok : (X.wish E).Ok) : X.Ok :=
  ⟨ok.mod, ok.kind, ok.glob, ok.blt, ok.above, ok.inj, ok.has, ok.cab, ok.hd, ok.frames, ok.stk, ok.exf, ok.bs, ok.bsz, ok.noex, ok.exfs, ok.funs, ok.frf⟩
section
variable {X : Cx} {pins : List (Addr × Obj)} {σ : St} {H : Hp} {s : Shared} {E : Value → Shared → Prop}
theorem Inv.wish (I : Inv X pins σ H s) (E : Value → Shared → Prop) : Inv (X.wish E) pins σ H s := ⟨I.ok.wish E, I.os, I.bare, I.base, I.loc, I.cell, I.free, I.freeC, I.pin, I.hok, I.len⟩
theorem Inv.unwish (I : Inv (X.wish E) pins σ H s) : Inv X pins σ H s := ⟨I.ok.unwish, I.os, I.bare, I.base, I.loc, I.cell, I.free, I.freeC, I.pin, I.hok, I.len⟩
theorem SP.unwish {D : Ends} {f : Flow} {s' : Shared} (h : SP (X.wish E) pins D f s') : SP X pins D f s' := by
  cases f with
  | next => obtain ⟨σ', H', I, q⟩ := h; exact ⟨σ', H', I.unwish, q⟩
  | brk => obtain ⟨σ', H', I, q⟩ := h; exact ⟨σ', H', I.unwish, q⟩
  | cont => obtain ⟨σ', H', I, q⟩ := h; exact ⟨σ', H', I.unwish, q⟩
  | ret u => obtain ⟨v, σ', H', I, r, q⟩ := h; exact ⟨v, σ', H', I.unwish, r, q⟩
theorem PSs.nox {st : List Stmt} {t : TS} (h : PSs X.nox st t) : PSs X st t := fun pins s σ H D I hw =>
  wpAny_mono (h pins s σ H D (I.wish _) hw) (fun _ _ q => q.unwish) fun _ _ z => False.elim z
end

/-! ### blocks and small statements -/
section
variable {X : Cx} {st : Stmt} {rest : List Stmt} {t u : TS} {e : Expr} {te : TE} {pos : Pos}
def tNext : TS := fun D σ H => D.nx σ H
def tSeq (t u : TS) : TS := fun D σ H => t { D with nx := u D } σ H
theorem pss_nil : PSs X [] tNext := fun _ _ σ H _ I h => wpAny_execs_nil ⟨σ, H, I, h⟩
theorem pss_cons (h1 : PS X st t) (h2 : PSs X rest u) : PSs X (st :: rest) (tSeq t u) := by
  intro pins s σ H D I h
  refine wpAny_execs_cons (thn (h1 pins s σ H { D with nx := u D } I h) fun f s1 q => ?_)
  cases f with
  | next =>
    obtain ⟨σ', H', I', q⟩ := q
    exact h2 pins s1 σ' H' D I' q
  | ret v => exact q
  | brk => exact q
  | cont => exact q
theorem pss_one (h1 : PS X st t) : PSs X [st] t := by
  intro pins s σ H D I h
  refine wpAny_execs_cons (thn (h1 pins s σ H D I h) fun f s1 q => ?_)
  cases f with
  | next => exact wpAny_execs_nil q
  | ret v => exact q
  | brk => exact q
  | cont => exact q
theorem Inv.quiet {pins : List (Addr × Obj)} {σ : St} {H : Hp} {s : Shared} (I : Inv X pins σ H s) : interactive X.env = false := by simp [interactive, I.ok.kind]
def tDrop (te : TE) : TS := fun D σ H => te σ H fun _ H1 => D.nx σ H1
theorem ps_expr (he : PE X e te) (hs : swapsWith e none pos.line X.env = pure false := by rfl) : PS X (.Expr e pos) (tDrop te) := by
  intro pins s σ H D I h
  exact wpAny_Expr_any (thn (he pins s σ H _ I h) fun v s1 ⟨x, H1, I1, r1, q1⟩ => ⟨σ, H1, I1, q1⟩) I.quiet hs
def tRet (te : TE) : TS := fun D σ H => te σ H D.rt
theorem ps_ret (he : PE X e te) : PS X (.Return (some e) pos) (tRet te) := by
  intro pins s σ H D I h
  exact wpAny_Return_some (thn (he pins s σ H _ I h) fun v s1 ⟨x, H1, I1, r1, q1⟩ => ⟨x, σ, H1, I1, r1, q1⟩)
def tIfS (c : TT) (t u : TS) : TS := fun D σ H => c σ H fun b H1 => if b = true then t D σ H1 else u D σ H1
theorem ps_if {c : Expr} {a b : List Stmt} {tc : TT} (hc : PT X c tc) (ha : PSs X a t) (hb : PSs X b u) : PS X (.If c a b pos) (tIfS tc t u) := by
  intro pins s σ H D I h
  refine wpAny_If (thn (hc pins s σ H _ I h) fun d s1 ⟨H1, I1, q1⟩ => ?_)
  cases d with
  | true => exact ha pins s1 σ H1 D I1 q1
  | false => exact hb pins s1 σ H1 D I1 q1
def tNever : TS := fun _ _ _ => False
theorem ps_never : PS X st tNever := fun _ _ _ _ _ _ h => h.elim
end

/-! ### targets -/
abbrev TG := V → St → Hp → (St → Hp → Prop) → Prop
abbrev TGs := List V → St → Hp → (St → Hp → Prop) → Prop
def PG (X : Cx) (target : Expr) (t : TG) : Prop :=
  ∀ (pins : List (Addr × Obj)) (s : Shared) (σ : St) (H : Hp) (v : V) (u : Value) (Q : St → Hp → Prop), Inv X pins σ H s → RelV v u → t v σ H Q →
    wpAny (model X.prog X.w) X.A (assign target X.env u) (fun _ s' => ∃ σ' H', Inv X pins σ' H' s' ∧ Q σ' H') X.xe s
def PGs (X : Cx) (ts : List Expr) (t : TGs) : Prop :=
  ∀ (pins : List (Addr × Obj)) (s : Shared) (σ : St) (H : Hp) (vs : List V) (us : List Value) (Q : St → Hp → Prop), Inv X pins σ H s → Vals vs us → t vs σ H Q →
    wpAny (model X.prog X.w) X.A (assignInOrder ((assignEach ts X.env).map (·.2)) us) (fun _ s' => ∃ σ' H', Inv X pins σ' H' s' ∧ Q σ' H') X.xe s
abbrev TSet := V → V → V → Hp → (Hp → Prop) → Prop
def PSet (X : Cx) (t : TSet) : Prop :=
  ∀ (pins : List (Addr × Obj)) (s : Shared) (σ : St) (H : Hp) (o i v : V) (ov iv u : Value) (Q : Hp → Prop), Inv X pins σ H s → RelV o ov → RelV i iv → RelV v u → t o i v H Q →
    wpAny (model X.prog X.w) X.A (setItem ov iv u) (fun _ s' => ∃ H', Inv X pins σ H' s' ∧ Q H') X.xe s
section
variable {X : Cx} {pos : Pos}
def gName (i : Nat) : TG := fun v σ H Q => Q (σ.set i (some v)) H
theorem pg_name {i : Nat} {x : Str} (hN : X.N.Nodup) (hi : X.N[i]? = some x) (hx : Loc X.env.scope x) (hf : X.fn x = true ∨ X.env.scope.names.lookup x = some .local := by first | exact .inl rfl | exact .inr rfl | assumption) : PG X (.Name x pos) (gName i) := by
  intro pins s σ H v u Q I r h
  exact wpAny_assign_Name (store_ok I hN hi hx r (fun s' I' => ⟨_, H, I', h⟩) hf)
def gNil : TGs := fun vs σ H Q => vs = [] ∧ Q σ H
def gCons (t : TG) (u : TGs) : TGs := fun vs σ H Q => ∃ v r, vs = v :: r ∧ t v σ H fun σ' H' => u r σ' H' Q
theorem pgs_nil : PGs X [] gNil := by
  intro pins s σ H vs us Q I r h
  obtain ⟨e, h⟩ := h
  subst e
  cases r
  exact assignInOrder_nil ⟨σ, H, I, h⟩
theorem pgs_cons {e : Expr} {es : List Expr} {t : TG} {u : TGs} (h1 : PG X e t) (h2 : PGs X es u)
    (hs : (assignEach (e :: es) X.env).map (·.2) = assign e X.env :: (assignEach es X.env).map (·.2) := by rfl) : PGs X (e :: es) (gCons t u) := by
  intro pins s σ H vs us Q I r h
  obtain ⟨v, vr, e1, h⟩ := h
  subst e1
  cases r with
  | cons r rr =>
    rw [hs]
    refine assignInOrder_cons (thn (h1 pins s σ H _ _ _ I r h) fun _ s1 ⟨σ1, H1, I1, q1⟩ => ?_)
    exact h2 pins s1 σ1 H1 _ _ Q I1 rr q1
def gTup (K : PySem.W.Frag) (n : Nat) (t : TGs) : TG := fun v σ H Q => ∃ a xs, v = .ref a ∧ SqT K H a xs ∧ xs.length = n ∧ t xs σ H Q
theorem pg_tup {es : List Expr} {k : Nat} {t : TGs} {n : Nat} (hc : X.calm = true) (h : PGs X es t)
    (hn : (assignEach es X.env).length = n := by rfl) (hst : (assignEach es X.env).findIdx? (·.1) = none := by rfl) : PG X (.Tuple es k pos) (gTup X.K n t) := by
  intro pins s σ H v u Q I r hw
  obtain ⟨a, xs, e1, hq, hl, hw⟩ := hw
  subst e1
  cases r
  obtain ⟨its, rv, ht, hz⟩ := I.tuple hq
  refine assign_Tuple_tuple (I.ok.hd hc) ht (by simp [hn, ← hl, rv.length]) hst fun h' hx => ?_
  have I1 : Inv X pins σ H { s with heap := h' } := I.kept (t' := s.toks) fun b o e => hx b o (Nat.ne_of_lt (Heap.lt_size e)) e
  exact h pins _ σ H xs _ Q I1 (by simpa using rv) hw
def gSub (to ti : TE) (t : TSet) : TG := fun v σ H Q => to σ H fun o H1 => ti σ H1 fun i H2 => t o i v H2 fun H3 => Q σ H3
theorem pg_sub {o i : Expr} {to ti : TE} {t : TSet} (ho : PE X o to) (hi : PE X i ti) (hs : PSet X t)
    (ha : ∀ v, assign (.Subscript o i pos) X.env v = (do
      let ov ← holding [v] (eval o X.env)
      let iv ← holding [v, ov] (eval i X.env)
      standAt pos
      holding [v, ov, iv] (setItem ov iv v)
      release [v, ov, iv] []) := by intro _; rfl) : PG X (.Subscript o i pos) (gSub to ti t) := by
  intro pins s σ H v u Q I r h
  rw [ha]
  refine wpAny_bind (wpAny_holding (thn (ho pins s σ H _ I h) fun ov s1 ⟨x, H1, I1, r1, q1⟩ => ?_))
  refine wpAny_bind (wpAny_holding (thn (hi pins s1 σ H1 _ I1 q1) fun iv s2 ⟨y, H2, I2, r2, q2⟩ => ?_))
  refine wpAny_bind (wpAny_standAt (wpAny_bind (wpAny_holding (thn (hs pins s2 σ H2 x y v ov iv u _ I2 r1 r2 r q2) fun _ s3 ⟨H3, I3, q3⟩ => ?_))))
  exact wpAny_release ⟨σ, H3, I3, q3⟩
def tAsg (te : TE) (g : TG) : TS := fun D σ H => te σ H fun x H1 => g x σ H1 D.nx
theorem ps_asg {tg e : Expr} {te : TE} {g : TG} (he : PE X e te) (hg : PG X tg g) (hs : swapsWithSole [tg] e pos.line X.env = pure false := by rfl) (hw : swappedStores [tg] e X.env = pure none := by rfl)
    (h1 : (assignEach [tg] X.env).map (·.2) = [assign tg X.env] := by rfl) : PS X (.Assign [tg] e pos) (tAsg te g) := by
  intro pins s σ H D I h
  refine wpAny_Assign_stores (thn (he pins s σ H _ I h) fun v s1 ⟨x, H1, I1, r1, q1⟩ => ?_) hs hw
  rw [h1]
  exact thn (hg pins s1 σ H1 x v _ I1 r1 q1) fun _ s2 q => q
theorem ps_set {i : Nat} {x : Str} {e : Expr} {te : TE} {pos' : Pos} (hN : X.N.Nodup) (hi : X.N[i]? = some x) (hx : Loc X.env.scope x) (he : PE X e te) (hs : swapsWith e (some (.Name x pos')) pos.line X.env = pure false := by rfl) (hf : X.fn x = true ∨ X.env.scope.names.lookup x = some .local := by first | exact .inl rfl | exact .inr rfl | assumption) :
    PS X (.Assign [.Name x pos'] e pos) (tAsg te (gName i)) := by
  intro pins s σ H D I h
  refine wpAny_Assign_Name (thn (he pins s σ H _ I h) fun v s1 ⟨y, H1, I1, r1, q1⟩ => ?_) hs
  exact store_ok I1 hN hi hx r1 (fun s2 I2 => ⟨_, H1, I2, q1⟩) hf
end

/-! ### while -/

/-! ### what a loop or a comprehension walks -/
structure It where
  go : Nat → Hp → Prop
  yld : Nat → Hp → V → Hp → Prop
  stop : Nat → Hp → Prop
def FpOk (X : Cx) (pins : List (Addr × Obj)) (H : Hp) (b : Addr) : Prop :=
  H b = none ∧ b ≠ X.env.locals ∧ b ∉ X.fs ∧ (b ∈ X.ex ∨ X.s₀.heap.objs.size ≤ b) ∧ (∀ x c, X.env.cells.lookup x = some c → c ≠ b) ∧ ∀ p ∈ X.pn ++ pins, p.1 ≠ b
theorem Inv.fpOk {X : Cx} {pins : List (Addr × Obj)} {σ : St} {H H' : Hp} {s : Shared} {b : Addr} (I : Inv X pins σ H s) (hb : s.heap.objs.size ≤ b) (hn : H' b = none) : FpOk X pins H' b := by
  refine ⟨hn, Nat.ne_of_gt (Nat.lt_of_lt_of_le I.lt hb), I.nofs hb, .inr (Nat.le_trans I.sz hb), fun x c e z => ?_, fun p hp z => ?_⟩
  · obtain ⟨v, q⟩ := I.cell x c e
    exact absurd (Nat.lt_of_lt_of_le q.lt (by rw [z]; exact hb)) (Nat.lt_irrefl _)
  · exact absurd (Nat.lt_of_lt_of_le (Heap.lt_size (I.pin p hp).1) (by rw [z]; exact hb)) (Nat.lt_irrefl _)
structure Turn (P : Program) (w : World) (K : PySem.W.Frag) (tg : Expr) (J : It) (fp : List Addr) (it : Addr) (tn : Nat → Heap → Prop) : Prop where
  mem : it ∈ fp
  obj : ∀ i h, tn i h → ∀ b ∈ fp, ∃ o, h.get? b = some o ∧ ∀ v, o.data ≠ .cell v
  keep : ∀ i h h', tn i h → (∀ b ∈ fp, ∀ o, h.get? b = some o → h'.get? b = some o) → tn i h'
  item : ∀ (X : Cx), X.prog = P → X.w = w → X.K = K → X.calm = true → ∀ (i : Nat) (pins : List (Addr × Obj)) (s : Shared) (σ : St) (H : Hp) (E : Value → Shared → Prop), Inv X pins σ H s → (∀ b ∈ fp, FpOk X pins H b) → tn i s.heap → J.go i H →
    wpAny (model P w) X.A (pyNext (.ref it)) (fun r s1 => ∃ u, r = some u ∧
      wpAny (model P w) X.A (letOwnedTupleGo tg (.ref it) u) (fun _ s2 => ∃ x H', Inv X pins σ H' s2 ∧ RelV x u ∧ J.yld i H x H' ∧ tn (i + 1) s2.heap ∧ ∀ b ∈ fp, H' b = none) E s1) E s
  done : ∀ (X : Cx), X.prog = P → X.w = w → X.K = K → X.calm = true → ∀ (i : Nat) (pins : List (Addr × Obj)) (s : Shared) (σ : St) (H : Hp) (E : Value → Shared → Prop), Inv X pins σ H s → (∀ b ∈ fp, FpOk X pins H b) → tn i s.heap → J.stop i H →
    wpAny (model P w) X.A (pyNext (.ref it)) (fun r s1 => r = none ∧ Inv X pins σ H s1) E s
  self : ∀ (A : Around) (i : Nat) (s : Shared) (Q : Value → Shared → Prop) (E : Value → Shared → Prop), tn i s.heap → Q (.ref it) s → wpAny (model P w) A (pyIter (.ref it)) Q E s
abbrev TI := St → Hp → (It → Hp → Prop) → Prop
def PIE (X : Cx) (pins : List (Addr × Obj)) (σ : St) (tg : Expr) (R : It → Hp → Prop) (itv : Value) (s2 : Shared) : Prop :=
  ∃ (it : Addr) (fp : List Addr) (tn : Nat → Heap → Prop) (J : It) (H' : Hp), itv = .ref it ∧ Inv X pins σ H' s2 ∧ Turn X.prog X.w X.K tg J fp it tn ∧ tn 0 s2.heap ∧ (∀ b ∈ fp, FpOk X pins H' b) ∧ R J H'
def PI (X : Cx) (tg iter : Expr) (wi : TI) : Prop :=
  ∀ (pins : List (Addr × Obj)) (s : Shared) (σ : St) (H : Hp) (R : It → Hp → Prop), Inv X pins σ H s → wi σ H R →
    wpAny (model X.prog X.w) X.A (eval iter X.env) (fun v s1 => wpAny (model X.prog X.w) X.A (pyIter v) (PIE X pins σ tg R) X.xe s1) X.xe s

theorem go_of {M : Model} {A : Around} {E : Value → Shared → Prop} {s : Shared} {tg : Expr} {it : Addr} {u : Value} {o : Obj} {n : String} {vs : Array Value} {Q : Unit → Shared → Prop} (ho : s.heap.get? it = some o) (hc : o.cls = .type n) (hd : o.data = .fields vs)
    (hn : ["enumerate", "zip", "dict_itemiterator", "dict_reverseitemiterator", "odict_iterator", "itertools.zip_longest", "itertools.pairwise"].contains n = false) (hQ : Q () s) : wpAny M A (letOwnedTupleGo tg (.ref it) u) Q E s := by
  unfold letOwnedTupleGo
  cases tg <;> first
    | exact wpAny_pure hQ
    | (cases u <;> first
        | exact wpAny_pure hQ
        | (refine wpAny_bind (wpAny_load ho ?_)
           rw [hc, hd]
           show wpAny M A (if (["enumerate", "zip", "dict_itemiterator", "dict_reverseitemiterator", "odict_iterator", "itertools.zip_longest", "itertools.pairwise"].contains n && vs[0]? == some (rawInt _)) = true then _ else _) Q E s
           rw [if_neg (by intro h; rw [hn, Bool.false_and] at h; cases h)]
           exact wpAny_pure hQ))

def Itl (K : PySem.W.Frag) (a : Addr) : It :=
  ⟨fun i H => ∃ xs x, SqL K H a xs ∧ xs[i]? = some x, fun i H x H' => H' = H ∧ ∀ xs, SqL K H a xs → xs[i]? = some x, fun i H => ∃ xs, SqL K H a xs ∧ xs.length ≤ i⟩
def Itr (lo : Int) (n : Nat) : It := ⟨fun i _ => i < n, fun i H x H' => H' = H ∧ x = .int (lo + i), fun i _ => n ≤ i⟩
theorem turn_list {P : Program} {w : World} {K : PySem.W.Frag} {tg : Expr} (a it : Addr) : Turn P w K tg (Itl K a) [it] it (fun i h => h.IsListIter it a i) where
  mem := by simp
  obj := fun i h st b hb => by
    have e : b = it := by simpa using hb
    subst e
    obtain ⟨o, e, c, d⟩ := st
    exact ⟨o, e, fun v z => by rw [d] at z; cases z⟩
  keep := fun i h h' st k => st.at fun o e => k it (by simp) o e
  item := by
    intro X hP hw hK hc i pins s σ H E I hf st hg
    subst hP hw hK
    obtain ⟨xs, x, hq, hx⟩ := hg
    obtain ⟨its, rv, p, hz⟩ := I.list hq
    obtain ⟨u, hu, ru⟩ := rv.get hx
    obtain ⟨f0, f1, f2, f3, f4, f5⟩ := hf it (by simp)
    refine wpAny_pyNext_list_item st p.isList (x := u) (by simpa using hu) fun h' st' sb => ?_
    have I1 : Inv X pins σ H { s with heap := h' } := I.turned (t' := s.toks) (fun b o hb e => (sb.2 b hb).trans e) f0 f1 f3 f4 f5
    obtain ⟨o, e, c, d⟩ := id st'
    exact ⟨u, rfl, go_of (s := { s with heap := h' }) e c d (by decide) ⟨x, H, I1, ru, ⟨rfl, fun ys hy => by rw [I.list_inj hy hq]; exact hx⟩, st', fun b hb => (hf b hb).1⟩⟩
  done := by
    intro X hP hw hK hc i pins s σ H E I hf st hg
    subst hP hw hK
    obtain ⟨xs, hq, hx⟩ := hg
    obtain ⟨its, rv, p, hz⟩ := I.list hq
    obtain ⟨f0, f1, f2, f3, f4, f5⟩ := hf it (by simp)
    have hl := rv.length
    exact wpAny_pyNext_list_end (I.ok.hd hc) st p.isList (by simp; omega) fun h' eb => ⟨rfl, I.turned (t' := s.toks) (fun b o hb e => eb b o hb e) f0 f1 f3 f4 f5⟩
  self := fun _ _ _ _ _ st h => wpAny_pyIter_listiter st h
theorem turn_range {P : Program} {w : World} {K : PySem.W.Frag} {tg : Expr} (it : Addr) (lo : Int) (n : Nat) : Turn P w K tg (Itr lo n) [it] it (fun i h => IsRangeIter h it (lo + (i : Nat) * 1) ((n : Int) - (i : Nat)) 1) where
  mem := by simp
  obj := fun i h st b hb => by
    have e : b = it := by simpa using hb
    subst e
    exact ⟨_, st, fun v z => by
      have z' : Data.fields _ = Data.cell v := z
      cases z'⟩
  keep := fun i h h' st k => k it (by simp) _ st
  item := by
    intro X hP hw hK hc i pins s σ H E I hf st hg
    subst hP hw hK
    obtain ⟨f0, f1, f2, f3, f4, f5⟩ := hf it (by simp)
    have W := Walks.range (prog := X.prog) (w := X.w) (I.ok.hd hc) it lo 1 n
    refine W.item i s _ _ hg st fun v h' tk hv st' kk => ?_
    obtain ⟨t, rfl⟩ := hv
    have I1 : Inv X pins σ H { s with heap := h', toks := tk } := I.turned (fun b o hb e => kk b o (by simpa using hb) e) f0 f1 f3 f4 f5
    refine ⟨_, rfl, go_of (s := { s with heap := h', toks := tk }) (n := "range_iterator") st' rfl rfl (by decide) ⟨.int (lo + i), H, I1, ⟨t, ?_⟩, ⟨rfl, rfl⟩, st', fun b hb => (hf b hb).1⟩⟩
    rw [Int.mul_one]
  done := by
    intro X hP hw hK hc i pins s σ H E I hf st hg
    subst hP hw hK
    obtain ⟨f0, f1, f2, f3, f4, f5⟩ := hf it (by simp)
    exact wpAny_pyNext_range_end (I.ok.hd hc) st (by have : n ≤ i := hg; omega) fun h' eb => ⟨rfl, I.turned (t' := s.toks) (fun b o hb e => eb b o hb e) f0 f1 f3 f4 f5⟩
  self := fun _ _ _ _ _ st h => wpAny_pyIter_rangeiter st h
end L2

namespace L2
open PySem PySem.Spec PyProof.Rows
section
variable {X : Cx} {tg : Expr}
def iList (K : PySem.W.Frag) (tl : TE) : TI := fun σ H R => tl σ H fun x H1 => ∃ a, x = .ref a ∧ (∃ xs, SqL K H1 a xs) ∧ R (Itl K a) H1
theorem pi_list {l : Expr} {tl : TE} (hl : PE X l tl) : PI X tg l (iList X.K tl) := by
  intro pins s σ H R I h
  refine thn (hl pins s σ H _ I h) fun v s1 ⟨x, H1, I1, r1, q1⟩ => ?_
  obtain ⟨a, e, ⟨xs, hq⟩, q⟩ := q1
  subst e
  cases r1
  obtain ⟨its, rv, p, hz⟩ := I1.list hq
  refine wpAny_pyIter_list p.isList ?_
  refine ⟨s1.heap.objs.size, [s1.heap.objs.size], _, _, H1, rfl, I1.kept (t' := s1.toks) fun b o e => Heap.get?_push_of_some _ e, turn_list a _, ⟨_, Heap.get?_push_size _ rfl, rfl, rfl⟩, fun b hb => ?_, q⟩
  have e : b = s1.heap.objs.size := by simpa using hb
  subst e
  exact I1.fpOk (Nat.le_refl _) (I1.hok.fresh (Nat.le_refl _))
theorem range_it {pins : List (Addr × Obj)} {σ : St} {H : Hp} {s : Shared} {R : It → Hp → Prop} {E : Value → Shared → Prop} {lo hi : Int} {t u v : Tok} {tk : Nat} (I : Inv X pins σ H s) (h1 : -(2 ^ 62) ≤ lo) (h2 : lo < 2 ^ 62) (h3 : -(2 ^ 62) ≤ hi) (h4 : hi < 2 ^ 62)
    (q : R (Itr lo (hi - lo).toNat) H) : wpAny (model X.prog X.w) X.A (pyIter (.ref s.heap.objs.size)) (PIE X pins σ tg R) E { s with heap := s.heap.push { cls := .type "range", data := .fields #[.int lo t, .int hi u, .int 1 v] }, toks := tk } := by
  refine wpAny_pyIter_range (IsRange.new ..) (small_one h1 h2 h3 h4) ?_
  have I1 : Inv X pins σ H { s with heap := s.heap.push { cls := .type "range", data := .fields #[.int lo t, .int hi u, .int 1 v] }, toks := tk } := I.kept fun b o e => Heap.get?_push_of_some _ e
  refine ⟨(s.heap.push { cls := .type "range", data := .fields #[.int lo t, .int hi u, .int 1 v] }).objs.size, [(s.heap.push { cls := .type "range", data := .fields #[.int lo t, .int hi u, .int 1 v] }).objs.size], _, _, H, rfl,
    I1.kept (t' := tk) fun b o e => Heap.get?_push_of_some _ e, turn_range _ lo (hi - lo).toNat, ?_, fun b hb => ?_, q⟩
  · have e1 : lo + ((0 : Nat) : Int) * 1 = lo := by simp
    have e2 : (((hi - lo).toNat : Nat) : Int) - ((0 : Nat) : Int) = Builtin.Range.rangeSize lo hi 1 := by rw [rangeSize_one]; split <;> omega
    show IsRangeIter _ _ (lo + ((0 : Nat) : Int) * 1) ((((hi - lo).toNat : Nat) : Int) - ((0 : Nat) : Int)) 1
    rw [e1, e2]
    exact Heap.get?_push_size _ rfl
  · have e : b = (s.heap.push { cls := .type "range", data := .fields #[.int lo t, .int hi u, .int 1 v] }).objs.size := by simpa using hb
    subst e
    exact I1.fpOk (Nat.le_refl _) (I1.hok.fresh (Nat.le_refl _))
def iRng1 (ta : TA) : TI := fun σ H R => ta σ H fun vs H1 => ∃ j : Int, vs = [.int j] ∧ -(2 ^ 62) ≤ j ∧ j < 2 ^ 62 ∧ R (Itr 0 j.toNat) H1
theorem pi_range1 {a : Expr} {ta : TA} {p pos : Pos} (hg : Gl X "range") (hm : X.mg "range" = none) (ha : PA X [a] ta) (hs : starEach [a] X.env = [(false, eval a X.env)] := by rfl) : PI X tg (.Call (.Name "range" p) [a] [] pos) (iRng1 ta) := by
  intro pins s σ H R I h
  refine Call_ (ld_blt I hg hm boot_range (PyProof.Rows.callWith_type1 (thn (ha pos pins s σ H _ I h) fun us s1 ⟨vs, H1, I1, r1, q1⟩ => ?_) hs rfl))
  obtain ⟨j, e, q1, q2, q⟩ := q1
  subst e
  cases r1 with
  | cons r rr =>
    cases rr
    obtain ⟨t, rfl⟩ := r
    exact call_range_1 (range_it I1 (by omega) (by omega) q1 q2 (by simpa using q))
/-! ### for -/
def tFor (wi : TI) (g : TG) (tb : TS) : TS := fun D σ H => wi σ H fun J H1 => ∃ W : Nat → Nat → St → Hp → Prop, (∃ m, W 0 m σ H1) ∧ ∀ i m σ H, W i m σ H →
  (J.stop i H ∧ D.nx σ H) ∨ (J.go i H ∧ ∃ N : St → Hp → Prop, (∀ σ' H', N σ' H' → ∃ m', m' < m ∧ W (i + 1) m' σ' H') ∧ ∀ x H', J.yld i H x H' → g x σ H' fun σ2 H2 => tb { D with nx := N, ct := N, bk := D.nx } σ2 H2)
def pinsAt (fp : List Addr) (h : Heap) : List (Addr × Obj) := fp.filterMap fun b => (h.get? b).map fun o => (b, o)
theorem mem_pinsAt {fp : List Addr} {h : Heap} {b : Addr} {o : Obj} (hb : b ∈ fp) (e : h.get? b = some o) : (b, o) ∈ pinsAt fp h := List.mem_filterMap.mpr ⟨b, hb, by rw [e]; rfl⟩
theorem of_pinsAt {fp : List Addr} {h : Heap} {p : Addr × Obj} (hp : p ∈ pinsAt fp h) : p.1 ∈ fp ∧ h.get? p.1 = some p.2 := by
  obtain ⟨b, hb, e⟩ := List.mem_filterMap.mp hp
  cases q : h.get? b with
  | none => rw [q] at e; cases e
  | some o =>
    rw [q] at e
    have e' : (b, o) = p := Option.some.inj e
    subst e'
    exact ⟨hb, q⟩
theorem Inv.pinned {pins : List (Addr × Obj)} {σ : St} {H : Hp} {s : Shared} {fp : List Addr} (I : Inv X pins σ H s) (hf : ∀ b ∈ fp, FpOk X pins H b) (ho : ∀ b ∈ fp, ∃ o, s.heap.get? b = some o ∧ ∀ v, o.data ≠ .cell v) : Inv X (pins ++ pinsAt fp s.heap) σ H s :=
  I.pins_of fun p hp => (List.mem_append.mp hp).elim (fun z => I.pin p (List.mem_append_right _ z)) fun z => by
    obtain ⟨hb, e⟩ := of_pinsAt z
    obtain ⟨f0, f1, f2, _⟩ := hf p.1 hb
    obtain ⟨o, e', d⟩ := ho p.1 hb
    rw [e] at e'; cases e'
    exact ⟨e, f0, f1, f2, d⟩
theorem Inv.unpinned {pins pl : List (Addr × Obj)} {σ : St} {H : Hp} {s : Shared} (I : Inv X (pins ++ pl) σ H s) : Inv X pins σ H s := I.pins_of fun p hp => I.pin p (List.mem_append_right _ (List.mem_append_left _ hp))
theorem ps_for {iter : Expr} {body : List Stmt} {wi : TI} {g : TG} {tb : TS} {pos : Pos} (hp : PassesOwn (model X.prog X.w) X.A X.env X.xe) (hc : X.calm = true) (hi : PI X tg iter wi) (hg : PG X tg g) (hb : PSs X body tb)
    (hs : ∀ x, foldedSetIterable iter X.env x = pure x := by intro _; rfl) : PS X (.For tg iter body [] pos) (tFor wi g tb) := by
  intro pins s σ H D I h
  refine wpAny_For (thn (hi pins s σ H _ I h) fun v s1 h1 => thn h1 fun itv s2 h2 => ?_) hs
  obtain ⟨it, fp, tn, J, H2, e, I2, T, st2, f2, W, ⟨m0, w0⟩, turn⟩ := h2
  subst e
  -- what stays true of the iterator's objects through the loop
  have stat : ∀ {H' : Hp}, (∀ b ∈ fp, H' b = none) → ∀ b ∈ fp, FpOk X pins H' b := fun hn b hb => ⟨hn b hb, (f2 b hb).2⟩
  refine codeAny_forLoop_any (fun n s' => ∃ i σ' H', Inv X pins σ' H' s' ∧ tn i s'.heap ∧ (∀ b ∈ fp, H' b = none) ∧ W i n σ' H') ?_ m0 ⟨0, σ, H2, I2, st2, fun b hb => (f2 b hb).1, w0⟩
  rintro n s3 ⟨i, σ3, H3, I3, st3, fr3, w3⟩
  rcases turn i n σ3 H3 w3 with ⟨stop, qn⟩ | ⟨go, N, hN, step⟩
  · refine wpAny_passesOwn hp (thn (T.done X rfl rfl rfl hc i pins s3 σ3 H3 X.xe I3 (stat fr3) st3 stop) fun r s4 ⟨hr, I4⟩ => ?_)
    subst hr
    exact wpAny_execs_nil ⟨σ3, H3, I4, qn⟩
  · refine wpAny_passesOwn hp (thn (T.item X rfl rfl rfl hc i pins s3 σ3 H3 X.xe I3 (stat fr3) st3 go) fun r s4 ⟨u, hr, h4⟩ => ?_)
    subst hr
    refine wpAny_passesOwn hp (thn h4 fun _ s5 ⟨x, H5, I5, r5, y5, st5, fr5⟩ => ?_)
    have I5' := I5.pinned (stat fr5) (T.obj _ _ st5)
    refine wpAny_passesOwn hp (thn (hg _ s5 σ3 H5 x u _ I5' r5 (step x H5 y5)) fun _ s6 ⟨σ6, H6, I6, q6⟩ => ?_)
    refine wpAny_passesOwn hp (thn (hb _ s6 σ6 H6 _ I6 q6) fun f s7 q7 => ?_)
    have again : ∀ {σ7 : St} {H7 : Hp}, Inv X (pins ++ pinsAt fp s5.heap) σ7 H7 s7 → N σ7 H7 → ∃ m, m < n ∧ ∃ i σ' H', Inv X pins σ' H' s7 ∧ tn i s7.heap ∧ (∀ b ∈ fp, H' b = none) ∧ W i m σ' H' := fun {σ7 H7} I7 n7 => by
      obtain ⟨m', hm, w7⟩ := hN σ7 H7 n7
      refine ⟨m', hm, i + 1, σ7, H7, I7.unpinned, T.keep _ _ _ st5 fun b hb o e => (I7.pin (b, o) (List.mem_append_right _ (List.mem_append_right _ (mem_pinsAt hb e)))).1, fun b hb => ?_, w7⟩
      obtain ⟨o, e, d⟩ := T.obj _ _ st5 b hb
      exact (I7.pin (b, o) (List.mem_append_right _ (List.mem_append_right _ (mem_pinsAt hb e)))).2.1
    cases f with
    | next => obtain ⟨σ7, H7, I7, n7⟩ := q7; exact again I7 n7
    | cont => obtain ⟨σ7, H7, I7, n7⟩ := q7; exact again I7 n7
    | brk => obtain ⟨σ7, H7, I7, q7⟩ := q7; exact ⟨σ7, H7, I7.unpinned, q7⟩
    | ret v => obtain ⟨x7, σ7, H7, I7, r7, q7⟩ := q7; exact ⟨x7, σ7, H7, I7.unpinned, r7, q7⟩
end

/-! ### the forms one uses -/
theorem for_list {K : PySem.W.Frag} {a : Addr} {xs : List V} {g : TG} {tb : TS} {D : Ends} {σ : St} {H : Hp} (Pv : Nat → St → Hp → Prop) (h0 : Pv 0 σ H) (hl : ∀ i σ H, i ≤ xs.length → Pv i σ H → SqL K H a xs)
    (hs : ∀ i x σ H, xs[i]? = some x → Pv i σ H → g x σ H fun σ2 H2 => tb { D with nx := Pv (i + 1), ct := Pv (i + 1), bk := D.nx } σ2 H2) (hd : ∀ σ H, Pv xs.length σ H → D.nx σ H) :
    ∃ W : Nat → Nat → St → Hp → Prop, (∃ m, W 0 m σ H) ∧ ∀ i m σ H, W i m σ H →
      ((Itl K a).stop i H ∧ D.nx σ H) ∨ ((Itl K a).go i H ∧ ∃ N : St → Hp → Prop, (∀ σ' H', N σ' H' → ∃ m', m' < m ∧ W (i + 1) m' σ' H') ∧ ∀ x H', (Itl K a).yld i H x H' → g x σ H' fun σ2 H2 => tb { D with nx := N, ct := N, bk := D.nx } σ2 H2) := by
  refine ⟨fun i m σ H => m = xs.length - i ∧ i ≤ xs.length ∧ Pv i σ H, ⟨xs.length, by simp, Nat.zero_le _, h0⟩, ?_⟩
  rintro i m σ H ⟨rfl, hi, p⟩
  have q := hl i σ H hi p
  by_cases hlt : i < xs.length
  · refine .inr ⟨⟨xs, xs[i], q, by simp [hlt]⟩, Pv (i + 1), fun σ' H' p' => ⟨xs.length - (i + 1), by omega, rfl, hlt, p'⟩, fun x H' y => ?_⟩
    obtain ⟨e, y⟩ := y
    subst e
    exact hs i x σ _ (y xs q) p
  · have e : i = xs.length := by omega
    subst e
    exact .inl ⟨⟨xs, q, Nat.le_refl _⟩, hd σ H p⟩
theorem for_range {lo : Int} {n : Nat} {g : TG} {tb : TS} {D : Ends} {σ : St} {H : Hp} (Pv : Nat → St → Hp → Prop) (h0 : Pv 0 σ H)
    (hs : ∀ i σ H, i < n → Pv i σ H → g (.int (lo + i)) σ H fun σ2 H2 => tb { D with nx := Pv (i + 1), ct := Pv (i + 1), bk := D.nx } σ2 H2) (hd : ∀ σ H, Pv n σ H → D.nx σ H) :
    ∃ W : Nat → Nat → St → Hp → Prop, (∃ m, W 0 m σ H) ∧ ∀ i m σ H, W i m σ H →
      ((Itr lo n).stop i H ∧ D.nx σ H) ∨ ((Itr lo n).go i H ∧ ∃ N : St → Hp → Prop, (∀ σ' H', N σ' H' → ∃ m', m' < m ∧ W (i + 1) m' σ' H') ∧ ∀ x H', (Itr lo n).yld i H x H' → g x σ H' fun σ2 H2 => tb { D with nx := N, ct := N, bk := D.nx } σ2 H2) := by
  refine ⟨fun i m σ H => m = n - i ∧ i ≤ n ∧ Pv i σ H, ⟨n, by simp, Nat.zero_le _, h0⟩, ?_⟩
  rintro i m σ H ⟨rfl, hi, p⟩
  by_cases hlt : i < n
  · refine .inr ⟨hlt, Pv (i + 1), fun σ' H' p' => ⟨n - (i + 1), by omega, rfl, hlt, p'⟩, fun x H' y => ?_⟩
    obtain ⟨e, y⟩ := y
    subst e y
    exact hs i σ _ hlt p
  · have e : i = n := by omega
    subst e
    exact .inl ⟨Nat.le_refl _, hd σ H p⟩
end L2

namespace L2
open PySem PySem.Spec PyProof.Rows

abbrev R2 := V → V → Hp → VK → Prop
def OpR (X : Cx) (f : Value → Value → Sem Value) (r : R2) : Prop :=
  ∀ (pins : List (Addr × Obj)) (s : Shared) (σ : St) (H : Hp) (x y : V) (v u : Value) (Q : VK), Inv X pins σ H s → RelV x v → RelV y u → r x y H Q →
    wpAny (model X.prog X.w) X.A (f v u) (EP X pins σ Q) X.xe s
def UnR (X : Cx) (f : Value → Sem Value) (r : V → Hp → VK → Prop) : Prop :=
  ∀ (pins : List (Addr × Obj)) (s : Shared) (σ : St) (H : Hp) (x : V) (v : Value) (Q : VK), Inv X pins σ H s → RelV x v → r x H Q →
    wpAny (model X.prog X.w) X.A (f v) (EP X pins σ Q) X.xe s
def CallR (X : Cx) (f : Value) (r : List V → Hp → VK → Prop) : Prop :=
  ∀ (pins : List (Addr × Obj)) (s : Shared) (σ : St) (H : Hp) (xs : List V) (us : List Value) (Q : VK), Inv X pins σ H s → Vals xs us → r xs H Q →
    wpAny (model X.prog X.w) X.A (call f us) (EP X pins σ Q) X.xe s
def tOp (r : R2) (ta tb : TE) : TE := fun σ H Q => ta σ H fun x H1 => tb σ H1 fun y H2 => r x y H2 Q
def tUn (r : V → Hp → VK → Prop) (ta : TE) : TE := fun σ H Q => ta σ H fun x H1 => r x H1 Q
def rI (C : Int → Int → Prop) (g : Int → Int → V) : R2 := fun x y H Q => ∃ i j, x = .int i ∧ y = .int j ∧ C i j ∧ Q (g i j) H
def rI0 (g : Int → Int → V) : R2 := fun x y H Q => ∃ i j, x = .int i ∧ y = .int j ∧ Q (g i j) H
def rU (g : Int → V) : V → Hp → VK → Prop := fun x H Q => ∃ i, x = .int i ∧ Q (g i) H

section
variable {X : Cx} {a b c : Expr} {ta tb tc : TE} {pos : Pos}

theorem binT (ha : PE X a ta) (hb : PE X b tb) {pins : List (Addr × Obj)} {s : Shared} {σ : St} {H : Hp} {R : V → V → Hp → Prop} (I : Inv X pins σ H s)
    (h : ta σ H fun x H1 => tb σ H1 fun y H2 => R x y H2) {Q : Value → Shared → Prop} {f : Value → Value → Sem Value}
    (hf : ∀ v u s2 x y H2, Inv X pins σ H2 s2 → RelV x v → RelV y u → R x y H2 → wpAny (model X.prog X.w) X.A (f v u) Q X.xe s2) :
    wpAny (model X.prog X.w) X.A (eval a X.env) (fun v s₁ => wpAny (model X.prog X.w) X.A (eval b X.env) (fun u s₂ => wpAny (model X.prog X.w) X.A (f v u) Q X.xe s₂) X.xe s₁) X.xe s := by
  refine thn (ha pins s σ H _ I h) fun v s1 ⟨x, H1, I1, r1, q1⟩ => ?_
  refine thn (hb pins s1 σ H1 _ I1 q1) fun u s2 ⟨y, H2, I2, r2, q2⟩ => ?_
  exact hf v u s2 x y H2 I2 r1 r2 q2

theorem pe_op {op : Operator} {r : R2} (ho : OpR X (binaryOp op) r) (ha : PE X a ta) (hb : PE X b tb) : PE X (.BinOp a op b pos) (tOp r ta tb) := by
  intro pins s σ H Q I h
  exact wpAny_BinOp (binT ha hb I h fun v u s2 x y H2 I2 rx ry q => ho pins s2 σ H2 x y v u Q I2 rx ry q)
theorem pe_un {op : UnaryOp} {r : V → Hp → VK → Prop} (ho : UnR X (unaryOp op) r) (ha : PE X a ta) : PE X (.UnaryOp op a pos) (tUn r ta) := by
  intro pins s σ H Q I h
  exact UnaryOp_ (thn (ha pins s σ H _ I h) fun v s1 ⟨x, H1, I1, r1, q1⟩ => ho pins s1 σ H1 x v Q I1 r1 q1)
/-! ### ints -/
theorem opI {f : Value → Value → Sem Value} {C : Int → Int → Prop} {g : Int → Int → Int}
    (rule : ∀ (i j : Int) (t u : Tok) (s : Shared) (Q : Value → Shared → Prop) (E : Value → Shared → Prop), C i j → Q (.int (g i j) s.toks) { s with toks := s.toks + 1 } → wpAny (model X.prog X.w) X.A (f (.int i t) (.int j u)) Q E s) :
    OpR X f (rI C fun i j => .int (g i j)) := by
  intro pins s σ H x y v u Q I rx ry h
  obtain ⟨i, j, rfl, rfl, hc, q⟩ := h
  obtain ⟨t, rfl⟩ := rx
  obtain ⟨t', rfl⟩ := ry
  exact rule i j t t' s _ _ hc ⟨.int (g i j), H, I.tok _, ⟨_, rfl⟩, q⟩
theorem opI0 {f : Value → Value → Sem Value} {g : Int → Int → Int}
    (rule : ∀ (i j : Int) (t u : Tok) (s : Shared) (Q : Value → Shared → Prop) (E : Value → Shared → Prop), Q (.int (g i j) s.toks) { s with toks := s.toks + 1 } → wpAny (model X.prog X.w) X.A (f (.int i t) (.int j u)) Q E s) :
    OpR X f (rI0 fun i j => .int (g i j)) := by
  intro pins s σ H x y v u Q I rx ry h
  obtain ⟨i, j, rfl, rfl, q⟩ := h
  obtain ⟨t, rfl⟩ := rx
  obtain ⟨t', rfl⟩ := ry
  exact rule i j t t' s _ _ ⟨.int (g i j), H, I.tok _, ⟨_, rfl⟩, q⟩
theorem opB0 {f : Value → Value → Sem Value} {g : Int → Int → Bool}
    (rule : ∀ (i j : Int) (t u : Tok) (s : Shared) (Q : Value → Shared → Prop) (E : Value → Shared → Prop), Q (.bool (g i j)) s → wpAny (model X.prog X.w) X.A (f (.int i t) (.int j u)) Q E s) :
    OpR X f (rI0 fun i j => .bl (g i j)) := by
  intro pins s σ H x y v u Q I rx ry h
  obtain ⟨i, j, rfl, rfl, q⟩ := h
  obtain ⟨t, rfl⟩ := rx
  obtain ⟨t', rfl⟩ := ry
  exact rule i j t t' s _ _ ⟨.bl (g i j), H, I, rfl, q⟩

def CDiv (i j : Int) : Prop := 0 < j ∧ j < 1073741824
def CPow (i j : Int) : Prop := 0 ≤ j ∧ j ≤ 1000000 ∧ i.natAbs < 2 ^ 64
def CMul (i j : Int) : Prop := (-(2 ^ 64) < i ∧ i < 2 ^ 64) ∨ (-(2 ^ 64) < j ∧ j < 2 ^ 64)
theorem CMul.ok {i j : Int} (h : CMul i j) : IntMulOk i j := by
  rcases h with ⟨h1, h2⟩ | ⟨h1, h2⟩
  · exact .of_left (intBits_le_64 h1 h2)
  · exact .of_right (intBits_le_64 h1 h2)
theorem op_add : OpR X (binaryOp .Add) (rI0 fun i j => .int (i + j)) := opI0 fun _ _ _ _ _ _ _ q => add_int q
theorem op_sub : OpR X (binaryOp .Sub) (rI0 fun i j => .int (i - j)) := opI0 fun _ _ _ _ _ _ _ q => sub_int q
theorem op_mul : OpR X (binaryOp .Mult) (rI CMul fun i j => .int (i * j)) := opI fun _ _ _ _ _ _ _ hc q => mul_int q hc.ok
theorem op_fdiv : OpR X (binaryOp .FloorDiv) (rI CDiv fun i j => .int (i / j)) := opI fun i j _ _ _ _ _ hc q => by
  have h1 : (0 : Int) < j := hc.1
  have h2 : j < 1073741824 := hc.2
  exact floordiv_int (by omega) (by rw [Int.fdiv_eq_ediv_of_nonneg i (by omega)]; exact q) (.inl (PyProof.noPylong_small (by omega)))
theorem op_mod : OpR X (binaryOp .Mod) (rI (fun _ j => 0 < j) fun i j => .int (i % j)) := opI fun i j _ _ _ _ _ hc q => by
  have h1 : (0 : Int) < j := hc
  exact mod_int' (by omega) (by rw [Int.fmod_eq_emod_of_nonneg i (by omega)]; exact q)
theorem op_pow : OpR X (binaryOp .Pow) (rI CPow fun i j => .int (i ^ j.toNat)) := opI fun _ _ _ _ _ _ _ hc q => pow_int_small hc.1 hc.2.1 hc.2.2 q
theorem unI {f : Value → Sem Value} {g : Int → Int}
    (rule : ∀ (i : Int) (t : Tok) (s : Shared) (Q : Value → Shared → Prop) (E : Value → Shared → Prop), Q (.int (g i) s.toks) { s with toks := s.toks + 1 } → wpAny (model X.prog X.w) X.A (f (.int i t)) Q E s) :
    UnR X f (rU fun i => .int (g i)) := by
  intro pins s σ H x v Q I rx h
  obtain ⟨i, rfl, q⟩ := h
  obtain ⟨t, rfl⟩ := rx
  exact rule i t s _ _ ⟨.int (g i), H, I.tok _, ⟨_, rfl⟩, q⟩
theorem un_neg : UnR X (unaryOp .USub) (rU fun i => .int (-i)) := unI fun _ _ _ _ _ q => neg_int q
/-! ### bools among ints: n += (a < b) -/
end

/-! ### comparisons -/
def scal : V → V → Bool
  | .non, .non => true | .non, .int _ => true | .int _, .non => true | .non, .bl _ => true | .bl _, .non => true | .non, .str _ => true | .str _, .non => true
  | .int _, .int _ => true | .bl _, .bl _ => true | .str _, .str _ => true | .byt _, .byt _ => true
  | .int _, .str _ => true | .str _, .int _ => true | .bl _, .str _ => true | .str _, .bl _ => true
  | _, _ => false
def rEq : R2 := fun x y H Q => scal x y = true ∧ Q (.bl (decide (x = y))) H
def rNe : R2 := fun x y H Q => scal x y = true ∧ Q (.bl (!decide (x = y))) H

theorem dec_int {i j : Int} : decide (V.int i = V.int j) = (i == j) := by
  rw [Bool.eq_iff_iff]
  simp
theorem dec_bl {i j : Bool} : decide (V.bl i = V.bl j) = (i == j) := by
  rw [Bool.eq_iff_iff]
  simp
theorem dec_str {i j : Str} : decide (V.str i = V.str j) = (i == j) := by
  rw [Bool.eq_iff_iff]
  simp
theorem dec_byt {i j : Array UInt8} : decide (V.byt i = V.byt j) = (i.toList == j.toList) := by
  rw [Bool.eq_iff_iff]
  cases i
  cases j
  simp

section
variable {X : Cx} {a b c : Expr} {ta tb tc : TE} {pos : Pos}
theorem fin_bl {pins : List (Addr × Obj)} {σ : St} {H : Hp} {s : Shared} {Q : VK} {k k' : Bool} (I : Inv X pins σ H s) (q : Q (.bl k) H) (e : k = k') : EP X pins σ Q (.bool k') s := by
  subst e
  exact ⟨.bl k, H, I, rfl, q⟩
theorem op_eq : OpR X (compareOp .Eq) rEq := by
  intro pins s σ H x y v u Q I rx ry h
  obtain ⟨hs, q⟩ := h
  cases x with
  | non =>
    cases rx
    cases y with
    | non => cases ry; exact PySem.EqNone.eq_none_none (fin_bl I q (by simp))
    | bl j => cases ry; exact PySem.EqNone.eq_none_bool (fin_bl I q (by simp))
    | int j => obtain ⟨t', rfl⟩ := ry; exact PySem.EqNone.eq_none_int (fin_bl I q (by simp))
    | str j => obtain ⟨t', rfl⟩ := ry; exact PySem.EqNone.eq_none_str (fin_bl I q (by simp))
    | _ => exact absurd (show false = true from hs) Bool.false_ne_true
  | bl i =>
    cases rx
    cases y with
    | non => cases ry; exact PySem.EqNone.eq_bool_none (fin_bl I q (by simp))
    | bl j => cases ry; exact eq_bool (fin_bl I q dec_bl)
    | str j => obtain ⟨t', rfl⟩ := ry; exact PySem.EqMixed.eq_bool_str (fin_bl I q (by simp))
    | _ => exact absurd (show false = true from hs) Bool.false_ne_true
  | int i =>
    obtain ⟨t, rfl⟩ := rx
    cases y with
    | non => cases ry; exact PySem.EqNone.eq_int_none (fin_bl I q (by simp))
    | int j => obtain ⟨t', rfl⟩ := ry; exact eq_int (fin_bl I q dec_int)
    | str j => obtain ⟨t', rfl⟩ := ry; exact PySem.EqMixed.eq_int_str (fin_bl I q (by simp))
    | _ => exact absurd (show false = true from hs) Bool.false_ne_true
  | str i =>
    obtain ⟨t, rfl⟩ := rx
    cases y with
    | non => cases ry; exact PySem.EqNone.eq_str_none (fin_bl I q (by simp))
    | bl j => cases ry; exact PySem.EqMixed.eq_str_bool (fin_bl I q (by simp))
    | int j => obtain ⟨t', rfl⟩ := ry; exact PySem.EqMixed.eq_str_int (fin_bl I q (by simp))
    | str j => obtain ⟨t', rfl⟩ := ry; exact eq_str (fin_bl I q dec_str)
    | _ => exact absurd (show false = true from hs) Bool.false_ne_true
  | byt i =>
    obtain ⟨t, rfl⟩ := rx
    cases y with
    | byt j => obtain ⟨t', rfl⟩ := ry; exact PySem.W.eq_bytes (fin_bl I q dec_byt)
    | _ => exact absurd (show false = true from hs) Bool.false_ne_true
  | _ => cases y <;> exact absurd (show false = true from hs) Bool.false_ne_true
theorem op_ne : OpR X (compareOp .NotEq) rNe := by
  intro pins s σ H x y v u Q I rx ry h
  obtain ⟨hs, q⟩ := h
  cases x with
  | non =>
    cases rx
    cases y with
    | non => cases ry; exact PySem.EqNone.ne_none_none (fin_bl I q (by simp))
    | bl j => cases ry; exact PySem.EqNone.ne_none_bool (fin_bl I q (by simp))
    | int j => obtain ⟨t', rfl⟩ := ry; exact PySem.EqNone.ne_none_int (fin_bl I q (by simp))
    | str j => obtain ⟨t', rfl⟩ := ry; exact PySem.EqNone.ne_none_str (fin_bl I q (by simp))
    | _ => exact absurd (show false = true from hs) Bool.false_ne_true
  | bl i =>
    cases rx
    cases y with
    | non => cases ry; exact PySem.EqNone.ne_bool_none (fin_bl I q (by simp))
    | bl j => cases ry; exact ne_bool (fin_bl I q (congrArg not dec_bl))
    | str j => obtain ⟨t', rfl⟩ := ry; exact PySem.EqMixed.ne_bool_str (fin_bl I q (by simp))
    | _ => exact absurd (show false = true from hs) Bool.false_ne_true
  | int i =>
    obtain ⟨t, rfl⟩ := rx
    cases y with
    | non => cases ry; exact PySem.EqNone.ne_int_none (fin_bl I q (by simp))
    | int j => obtain ⟨t', rfl⟩ := ry; exact ne_int (fin_bl I q (congrArg not dec_int))
    | str j => obtain ⟨t', rfl⟩ := ry; exact PySem.EqMixed.ne_int_str (fin_bl I q (by simp))
    | _ => exact absurd (show false = true from hs) Bool.false_ne_true
  | str i =>
    obtain ⟨t, rfl⟩ := rx
    cases y with
    | non => cases ry; exact PySem.EqNone.ne_str_none (fin_bl I q (by simp))
    | bl j => cases ry; exact PySem.EqMixed.ne_str_bool (fin_bl I q (by simp))
    | int j => obtain ⟨t', rfl⟩ := ry; exact PySem.EqMixed.ne_str_int (fin_bl I q (by simp))
    | str j => obtain ⟨t', rfl⟩ := ry; exact ne_str (fin_bl I q (congrArg not dec_str))
    | _ => exact absurd (show false = true from hs) Bool.false_ne_true
  | byt i =>
    obtain ⟨t, rfl⟩ := rx
    cases y with
    | byt j => obtain ⟨t', rfl⟩ := ry; exact PySem.W.ne_bytes (fin_bl I q (congrArg not dec_byt))
    | _ => exact absurd (show false = true from hs) Bool.false_ne_true
  | _ => cases y <;> exact absurd (show false = true from hs) Bool.false_ne_true

theorem op_lt : OpR X (compareOp .Lt) (rI0 fun i j => .bl (decide (i < j))) := opB0 fun _ _ _ _ _ _ _ q => lt_int q
theorem op_gt : OpR X (compareOp .Gt) (rI0 fun i j => .bl (decide (j < i))) := opB0 fun _ _ _ _ _ _ _ q => gt_int q
theorem nomark (b : Expr) {op : CmpOp} (h : op ≠ .In := by decide) (h2 : op ≠ .NotIn := by decide) : behindInMarks op b = false := by
  have e1 : (op == CmpOp.In) = false := by cases op <;> first | rfl | exact absurd rfl h
  have e2 : (op == CmpOp.NotIn) = false := by cases op <;> first | rfl | exact absurd rfl h2
  cases b <;> simp [behindInMarks, e1, e2]
theorem pe_cmpR {op : CmpOp} {r : R2} (ho : OpR X (compareOp op) r) (ha : PE X a ta) (hb : PE X b tb) (hm : behindInMarks op b = false) : PE X (.Compare a [op] [b] pos) (tOp r ta tb) := by
  intro pins s σ H Q I h
  exact wpAny_Compare1 (binT ha hb I h fun v u s2 x y H2 I2 rx ry q => ho pins s2 σ H2 x y v u Q I2 rx ry q) hm
def tTest (t : TE) : TT := fun σ H Q => t σ H fun x H' => ∃ k, x = .bl k ∧ Q k H'
theorem pt_cmpR {op : CmpOp} {r : R2} (ho : OpR X (compareOp op) r) (ha : PE X a ta) (hb : PE X b tb) (hm : behindInMarks op b = false) : PT X (.Compare a [op] [b] pos) (tTest (tOp r ta tb)) := by
  intro pins s σ H Q I h
  refine wpAny_isTrue_Compare1 (thn (ha pins s σ H _ I h) fun v s1 ⟨x, H1, I1, r1, q1⟩ => thn (hb pins s1 σ H1 _ I1 q1) fun u s2 ⟨y, H2, I2, r2, q2⟩ =>
    thn (ho pins s2 σ H2 x y v u _ I2 r1 r2 q2) fun c s3 ⟨z, H3, I3, r3, k, e, q3⟩ => ?_) hm
  subst e
  cases r3
  exact wpAny_truthy_bool ⟨H3, I3, q3⟩
/-! ### truth -/
theorem line63 : (sizeLine : Nat) < 2 ^ 63 := by rw [sizeLine_eq]; decide
/-! ### strs and bytes -/
/-! ### scalar builtins, by CallR -/
theorem vals1 {x : V} {us : List Value} (r : Vals [x] us) : ∃ u, us = [u] ∧ RelV x u := by
  cases r with
  | cons r1 r2 => cases r2; exact ⟨_, rfl, r1⟩
theorem vals2 {x y : V} {us : List Value} (r : Vals [x, y] us) : ∃ u w', us = [u, w'] ∧ RelV x u ∧ RelV y w' := by
  cases r with
  | cons r1 r2 =>
    cases r2 with
    | cons r3 r4 => cases r4; exact ⟨_, _, rfl, r1, r3⟩
theorem call_max2 (hc : X.calm = true) : CallR X (.builtin "max") (fun xs H Q => ∃ i j, xs = [.int i, .int j] ∧ Q (.int (if j > i then j else i)) H) := by
  intro pins s σ H xs us Q I r h
  obtain ⟨i, j, rfl, q⟩ := h
  obtain ⟨u, w', rfl, ⟨t, rfl⟩, ⟨t', rfl⟩⟩ := vals2 r
  refine max_two_ints (I.ok.hd hc) fun h' tk k => ⟨_, H, I.kept k, ?_, q⟩
  by_cases hj : j > i
  · rw [if_pos hj, if_pos hj]; exact ⟨_, rfl⟩
  · rw [if_neg hj, if_neg hj]; exact ⟨_, rfl⟩
theorem call_int1 : CallR X (.type "int") (fun xs H Q => (∃ i, xs = [.int i] ∧ Q (.int i) H) ∨ ∃ k, xs = [.bl k] ∧ Q (.int (if k then 1 else 0)) H) := by
  intro pins s σ H xs us Q I r h
  rcases h with ⟨i, rfl, q⟩ | ⟨k, rfl, q⟩
  · obtain ⟨u, rfl, t, rfl⟩ := vals1 r
    exact call_int_int ⟨.int i, H, I, ⟨_, rfl⟩, q⟩
  · obtain ⟨u, rfl, r1⟩ := vals1 r
    cases r1
    exact call_int_bool ⟨.int (if k then 1 else 0), H, I.tok _, ⟨_, rfl⟩, q⟩
end
end L2

namespace L2
open PySem PySem.Spec PyProof.Rows

/-! ### an instance, its attributes a map -/
structure ObjM (h : Heap) (x dx C : Addr) (mA : Str → Option Value) : Prop where
  obj : h.get? x = some (PySem.W.instObj C dx)
  ns : h.Ns1 dx mA
  ne : dx ≠ x

theorem lookIn_ns {h : Heap} {dx : Addr} {mA : Str → Option Value} (n : h.Ns1 dx mA) : ∃ od, h.get? dx = some od ∧ ∀ name, PySem.W.lookIn name od = some (mA name) := by
  obtain ⟨o, es, ep, ho, hd, hk, _, hm⟩ := n
  refine ⟨o, ho, fun name => ?_⟩
  have e := hm name
  unfold nsFind findBy at e
  rw [← Array.find?_toList] at e
  unfold PySem.W.lookIn
  rw [hd]
  dsimp only
  split
  · rename_i y q
    rw [q] at e
    exact congrArg some e
  · rename_i q
    rw [q] at e
    have a : es.toList.any (·.refKey) = false := by
      rw [List.any_eq_false]
      intro y hy
      obtain ⟨z, t, hkey⟩ := hk y (Array.mem_toList_iff.mp hy)
      simp [DictEntry.refKey, hkey]
    have a' : ¬ es.toList.any (·.refKey) = true := by rw [a]; exact Bool.false_ne_true
    rw [if_neg a']
    exact congrArg some e

theorem ObjM.look {h : Heap} {x dx C : Addr} {mA : Str → Option Value} (I : ObjM h x dx C mA) : ∃ od, PySem.W.InstAt h x (PySem.W.instObj C dx) C (some od) ∧ ∀ name, PySem.W.lookIn name od = some (mA name) :=
  let ⟨od, ho, hl⟩ := lookIn_ns I.ns
  ⟨od, ⟨I.obj, rfl, rfl, ho⟩, hl⟩

section
variable {prog : Program} {w : World} {A : Around} {E : Value → Shared → Prop} {s : Shared} {K : PySem.W.Frag} {x dx C f : Addr} {mA : Str → Option Value} {name : Str} {v : Value}

theorem get_map {expr : Bool} {Q : Value → Shared → Prop} (X : K.In s.heap) (I : ObjM s.heap x dx C mA) (hg : PySem.W.plainGet K C name = true) (hh : PySem.W.hasDictIn K C = true)
    (ha : PySem.W.findIn K (.ref C) name = some none) (hv : mA name = some v) (hv' : PySem.W.handedIn v = true) (h : Q v { s with toks := s.toks + 1 }) :
    wpAny (model prog w) A (getAttr (.ref x) name expr) Q E s := by
  obtain ⟨od, J, hl⟩ := I.look
  exact PySem.W.get_value X J (PySem.W.plainGet_of hg).1 (PySem.W.findObj_own hh ha rfl (by rw [hl, hv])) hv' h

theorem get_meth {pl : Sem Bool} {Q : Value × List Value → Shared → Prop} (X : K.In s.heap) (I : ObjM s.heap x dx C mA) (hg : PySem.W.plainGet K C name = true)
    (hf : PySem.W.findIn K (.ref C) name = some (some (.ref f))) (ht : PySem.W.isFn K (.ref f) = true) (hv : mA name = none) (h : Q (.ref f, [.ref x]) s) :
    wpAny (model prog w) A (getMethod (.ref x) name pl) Q E s := by
  obtain ⟨od, J, hl⟩ := I.look
  exact PySem.W.method_fn X J (PySem.W.plainGet_of hg).1 (PySem.W.plainGet_of hg).2 hf (beq_iff_eq.mp ht) (by show (PySem.W.lookIn name od).map (·.isSome) = some false; rw [hl, hv]; rfl) h

theorem set_map {ns : List Str} {Q : Unit → Shared → Prop} (X : K.In s.heap) (I : ObjM s.heap x dx C mA)
    (hs : PySem.W.findIn K (.ref C) "__setattr__" = some (some (.builtin "object.__setattr__"))) (hp : PySem.W.plainOver K C = true) (ht : PySem.W.takerIn K C name = some none) (hh : PySem.W.hasDictIn K C = true)
    (hw : PySem.Within mA ns) (hsz : ns.length ≤ sizeLine)
    (h : ∀ h', ObjM h' x dx C (fun y => if y = name then some v else mA y) → Heap.SameBut dx s.heap h' → Q () { s with heap := h', toks := s.toks + 2 }) :
    wpAny (model prog w) A (setAttr (.ref x) name v) Q E s := by
  obtain ⟨od, J, hl⟩ := I.look
  refine PySem.W.set_plain X J hs (PySem.W.osa_open (s := { s with toks := s.toks + 1 }) (r := none) X J hp ht fun b => ?_)
  obtain ⟨cd, hc, hd'⟩ := PySem.W.any_some hh
  have hx : s.heap.get? x = some ⟨.ref C, some dx, .plain, #[]⟩ := I.obj
  refine wpAny_bind (wpAny_pure (wpAny_bind (wpAny_bind (wpAny_loadPart hx (wpAny_bind (PySem.W.Looks.here (s := { s with toks := s.toks + 1 }) (PySem.W.looks_clsIn X hc) ?_))))))
  rw [hd']
  refine wpAny_pure (a := some dx) (wpAny_bind (wpAny_pure (wpAny_bind ?_)))
  refine wpAny_nsSet1 (s := { s with toks := s.toks + 1 }) I.ns fun h' hn2 hs2 => ?_
  obtain ⟨oD, esD, epD, hoD, hdD, hcD⟩ := hn2.count (PySem.Within.cons name v hw)
  refine wpAny_bind (wpAny_lookBehind hoD (by rw [hdD]; exact pastItsLine_dict (Nat.le_trans hcD (by rw [List.length_cons]; omega))) ?_)
  exact wpAny_pure (h _ ⟨(hs2.2 _ (Ne.symm I.ne)).trans I.obj, hn2, I.ne⟩ hs2)

theorem make_map {R : Result → Shared → Prop} {vs : List Value} {kw : List (Str × Value)} (X : K.In s.heap) (hm : PySem.W.makesIn K C = true)
    (hi : PySem.W.findIn K (.ref C) "__init__" = some (some (.ref f))) (hf : PySem.W.typeIn K (.ref f) = some (.type "function"))
    (h : codeAny (model prog w) (A.under (.builtin "type.__call__" ⟨.ref C :: vs, kw⟩)) (.call (.ref f) ⟨.ref (s.heap.objs.size + 1) :: vs, kw⟩) (PySem.W.InitBack (s.heap.objs.size + 1) R)
      { s with heap := (s.heap.push PySem.W.emptyDict).push (PySem.W.instObj C s.heap.objs.size) }) :
    codeAny (model prog w) A (.call (.ref C) ⟨vs, kw⟩) R s := by
  obtain ⟨hh, g, d, t, os⟩ := s
  exact PySem.W.make_core (PySem.W.makes_of X hm) (PySem.W.looks_findIn X hi) (fun self => PySem.W.bind_fn X self hf) (.inl rfl) h
end

/-! ### the attributes as a list of pairs -/
def putF (f : Str) (v : V) : List (Str × V) → List (Str × V)
  | [] => [(f, v)]
  | (g, x) :: r => if g = f then (g, v) :: r else (g, x) :: putF f v r
theorem lookup_putF (f g : Str) (v : V) : ∀ fs : List (Str × V), (putF f v fs).lookup g = if g = f then some v else fs.lookup g
  | [] => by
    show List.lookup g [(f, v)] = _
    by_cases h : g = f
    · have hb : (g == f) = true := beq_iff_eq.mpr h
      simp only [List.lookup, hb, if_pos h]
    · have hb : (g == f) = false := beq_eq_false_iff_ne.mpr h
      simp only [List.lookup, hb, if_neg h]
  | (k, x) :: r => by
    have ih := lookup_putF f g v r
    rw [show putF f v ((k, x) :: r) = (if k = f then (k, v) :: r else (k, x) :: putF f v r) from rfl]
    by_cases hk : k = f
    · rw [if_pos hk]
      by_cases h : g = k
      · have hb : (g == k) = true := beq_iff_eq.mpr h
        simp only [List.lookup, hb, if_pos (h.trans hk)]
      · have hb : (g == k) = false := beq_eq_false_iff_ne.mpr h
        simp only [List.lookup, hb, if_neg (fun e : g = f => h (e.trans hk.symm))]
    · rw [if_neg hk]
      by_cases h : g = k
      · have hb : (g == k) = true := beq_iff_eq.mpr h
        simp only [List.lookup, hb, if_neg (fun e : g = f => hk (h.symm.trans e))]
      · have hb : (g == k) = false := beq_eq_false_iff_ne.mpr h
        simp only [List.lookup, hb]
        exact ih
theorem keys_putF (f : Str) (v : V) : ∀ fs : List (Str × V), f ∈ (putF f v fs).map (·.1) ∧ ∀ g, g ∈ fs.map (·.1) → g ∈ (putF f v fs).map (·.1)
  | [] => ⟨by simp [putF], fun g h => by simp at h⟩
  | (k, x) :: r => by
    obtain ⟨i1, i2⟩ := keys_putF f v r
    rw [show putF f v ((k, x) :: r) = (if k = f then (k, v) :: r else (k, x) :: putF f v r) from rfl]
    by_cases hk : k = f
    · rw [if_pos hk]
      subst hk
      exact ⟨by simp, fun g h => by simpa using h⟩
    · rw [if_neg hk]
      refine ⟨?_, fun g h => ?_⟩
      · rw [List.map_cons]
        exact List.mem_cons_of_mem _ i1
      · rw [List.map_cons] at h ⊢
        rcases List.mem_cons.mp h with e | e
        · exact List.mem_cons.mpr (.inl e)
        · exact List.mem_cons_of_mem _ (i2 g e)
theorem length_putF (f : Str) (v : V) : ∀ fs : List (Str × V), (putF f v fs).length ≤ fs.length + 1
  | [] => by simp [putF]
  | (k, x) :: r => by
    have ih := length_putF f v r
    rw [show putF f v ((k, x) :: r) = (if k = f then (k, v) :: r else (k, x) :: putF f v r) from rfl]
    by_cases hk : k = f
    · rw [if_pos hk, List.length_cons, List.length_cons]; omega
    · rw [if_neg hk, List.length_cons, List.length_cons]; omega

theorem RelO.some_of {v : V} {o : Option Value} (r : RelO (some v) o) : ∃ u, o = some u ∧ RelV v u := by
  cases o with
  | none => exact (show False from r).elim
  | some u => exact ⟨u, rfl, r⟩
theorem RelO.none_of {o : Option Value} (r : RelO none o) : o = none := by
  cases o with
  | none => rfl
  | some u => exact (show False from r).elim
theorem handed_of {v : V} {u : Value} (r : RelV v u) : PySem.W.handedIn u = true := by
  cases v with
  | non => cases (show u = Value.none from r); rfl
  | bl b => cases (show u = Value.bool b from r); rfl
  | int i => obtain ⟨t, e⟩ := (show ∃ t, u = Value.int i t from r); cases e; rfl
  | str x => obtain ⟨t, e⟩ := (show ∃ t, u = Value.str x t from r); cases e; rfl
  | byt b => obtain ⟨t, e⟩ := (show ∃ t, u = Value.bytes b t from r); cases e; rfl
  | flt b => obtain ⟨t, e⟩ := (show ∃ t, u = Value.float b t from r); cases e; rfl
  | ref a => cases (show u = Value.ref a from r); rfl
  | ty n => cases (show u = Value.type n from r); rfl

section
variable {P : Program} {w : World} {H H' : Hp} {h h' : Heap} {a C dx : Addr} {fs fs' : List (Str × V)}
theorem ins_get (hok : HOk P w H h) (e : H a = some (.ins C dx fs)) : ∃ mA, ObjM h a dx C mA ∧ (∀ f, RelO (fs.lookup f) (mA f)) ∧ PySem.Within mA (fs.map (·.1)) ∧ fs.length ≤ 1000 ∧ H dx = some (.own a) := by
  obtain ⟨d, z, ne, ob, mA, n, r, q⟩ := (show ObjOk P w H h a (.ins C dx fs) from hok a _ e)
  exact ⟨mA, ⟨ob, n, ne⟩, r, q, z, d⟩
end

/-! ### what of the text a class must have -/
structure Cls (K : PySem.W.Frag) (C : Addr) : Prop where
  pg : PySem.W.plainGet K C Str.empty = true
  hd : PySem.W.hasDictIn K C = true
  po : PySem.W.plainOver K C = true
  sa : PySem.W.findIn K (.ref C) "__setattr__" = some (some (.builtin "object.__setattr__"))
theorem Cls.get {K : PySem.W.Frag} {C : Addr} (c : Cls K C) (f : Str) : PySem.W.plainGet K C f = true := c.pg
def NoAttr (K : PySem.W.Frag) (C : Addr) (f : Str) : Prop := PySem.W.findIn K (.ref C) f = some none
theorem NoAttr.taker {K : PySem.W.Frag} {C : Addr} {f : Str} (n : NoAttr K C f) : PySem.W.takerIn K C f = some none := by
  unfold PySem.W.takerIn
  rw [show PySem.W.findIn K (.ref C) f = some none from n]
  rfl
structure Meth (K : PySem.W.Frag) (C : Addr) (m : Str) (f : Addr) : Prop where
  at_ : PySem.W.findIn K (.ref C) m = some (some (.ref f))
  fn : PySem.W.isFn K (.ref f) = true
  kp : PySem.W.keepIn K (.ref f) = true

section
variable {X : Cx} {pins : List (Addr × Obj)} {σ : St} {H : Hp} {s : Shared} {a C dx : Addr} {fs : List (Str × V)} {f : Str} {v : V} {A : Around} {E : Value → Shared → Prop}

theorem getattr_ok {b : Bool} {Q : Value → Shared → Prop} (I : Inv X pins σ H s) (e : H a = some (.ins C dx fs)) (c : Cls X.K C) (n : NoAttr X.K C f) (l : fs.lookup f = some v)
    (h : ∀ u s', Inv X pins σ H s' → RelV v u → Q u s') : wpAny (model X.prog X.w) A (getAttr (.ref a) f b) Q E s := by
  obtain ⟨mA, O, r, _, _, _⟩ := ins_get I.hok e
  obtain ⟨u, hu, ru⟩ := RelO.some_of (v := v) (o := mA f) (by rw [← l]; exact r f)
  exact get_map I.kIn O (c.get f) c.hd n hu (handed_of ru) (h u _ (I.tok _) ru)

theorem getmeth_ok {m : Str} {g : Addr} {pl : Sem Bool} {Q : Value × List Value → Shared → Prop} (I : Inv X pins σ H s) (e : H a = some (.ins C dx fs)) (c : Cls X.K C) (k : Meth X.K C m g) (l : fs.lookup m = none)
    (h : Q (.ref g, [.ref a]) s) : wpAny (model X.prog X.w) A (getMethod (.ref a) m pl) Q E s := by
  obtain ⟨mA, O, r, _, _, _⟩ := ins_get I.hok e
  have hn : mA m = none := RelO.none_of (by rw [← l]; exact r m)
  exact get_meth I.kIn O (c.get m) k.at_ k.fn hn h

theorem setattr_ok {y : V} {u : Value} {Q : Unit → Shared → Prop} (I : Inv X pins σ H s) (e : H a = some (.ins C dx fs)) (c : Cls X.K C) (n : NoAttr X.K C f) (hl : fs.length < 1000) (ry : RelV y u)
    (h : ∀ s', Inv X pins σ (upd H a (.ins C dx (putF f y fs))) s' → Q () s') : wpAny (model X.prog X.w) A (setAttr (.ref a) f u) Q E s := by
  obtain ⟨mA, O, r, wi, _, ho⟩ := ins_get I.hok e
  have hz : (fs.map (·.1)).length ≤ sizeLine := by rw [List.length_map, sizeLine_eq]; omega
  refine set_map I.kIn O c.sa c.po n.taker c.hd wi hz fun h' O' sb => h _ ?_
  have hd : ∃ o, h'.get? dx = some o := let ⟨o, _, _, e', _⟩ := O'.ns; ⟨o, e'⟩
  refine I.write (x := a) (e := dx) (by rw [e]; exact True.intro) (.inr ho) (fun b q hb z => (sb.2 b hb).trans z) hd ?_
  refine ⟨by rw [upd_ne O.ne]; exact ho, ?_, O.ne, O'.obj, _, O'.ns, fun g => ?_, fun g hg => ?_⟩
  · have := length_putF f y fs; omega
  · show RelO ((putF f y fs).lookup g) (if g = f then some u else mA g)
    rw [lookup_putF]
    by_cases q : g = f
    · rw [if_pos q, if_pos q]; exact ry
    · rw [if_neg q, if_neg q]; exact r g
  · by_cases q : g = f
    · rw [q]; exact (keys_putF f y fs).1
    · refine (keys_putF f y fs).2 g (wi g fun z => hg ?_)
      show (if g = f then some u else mA g) = none
      rw [if_neg q]; exact z

theorem Inv.made (I : Inv X pins σ H s) : Inv X pins σ (upd (upd H s.heap.objs.size (.own (s.heap.objs.size + 1))) (s.heap.objs.size + 1) (.ins C s.heap.objs.size []))
    { s with heap := (s.heap.push PySem.W.emptyDict).push (PySem.W.instObj C s.heap.objs.size) } := by
  have e1 : (s.heap.push PySem.W.emptyDict).get? s.heap.objs.size = some PySem.W.emptyDict := Heap.get?_push_size s.heap rfl
  have e2 : ((s.heap.push PySem.W.emptyDict).push (PySem.W.instObj C s.heap.objs.size)).get? (s.heap.objs.size + 1) = some (PySem.W.instObj C s.heap.objs.size) := by
    have := Heap.get?_push_size (s.heap.push PySem.W.emptyDict) (o := PySem.W.instObj C s.heap.objs.size) rfl
    rwa [Heap.size_push] at this
  have e3 : (s.heap.push PySem.W.emptyDict).Ns s.heap.objs.size (fun _ => none) := ⟨PySem.W.emptyDict, #[], _, e1, rfl, (fun e he => absurd he (by simp)), fun _ => rfl⟩
  have I1 := I.laid (a := s.heap.objs.size) (o := .own (s.heap.objs.size + 1)) (h' := s.heap.push PySem.W.emptyDict) (t' := s.toks) (fun b u q => Heap.get?_push_of_some _ q) (Nat.le_refl _) ⟨_, e1⟩
  refine I1.laid (a := s.heap.objs.size + 1) (o := .ins C s.heap.objs.size []) (t' := s.toks) (fun b u q => Heap.get?_push_of_some _ q) (Nat.le_of_eq (Heap.size_push _ _)) ?_
  have ne : s.heap.objs.size ≠ s.heap.objs.size + 1 := Nat.ne_of_lt (Nat.lt_succ_self _)
  refine ⟨by rw [upd_ne ne, upd_same], Nat.zero_le _, ne, e2, fun _ => none, (Heap.Ns1.of_empty e3).at fun o q => Heap.get?_push_of_some _ q, fun _ => True.intro, fun y hy => absurd rfl hy⟩

theorem attr_of {prog : Program} {w : World} {env : Env} {e : Expr} {f : Str} {pos : Pos} {s : Shared} {Q : Value → Shared → Prop} (hb : attributeBase e f env (eval e env) = eval e env)
    (h : wpAny (model prog w) A (eval e env) (fun o s₁ => wpAny (model prog w) A (getAttr o f true) Q E s₁) E s) : wpAny (model prog w) A (eval (.Attribute e f pos) env) Q E s :=
  Attribute_any_ h (by rw [arm_eval_Attribute, hb])
end

/-! ### readings and rules -/
def tFld (K : PySem.W.Frag) (ta : TE) (f : Str) : TE := fun σ H Q => ta σ H fun x H1 => ∃ a C dx fs v, x = .ref a ∧ H1 a = some (.ins C dx fs) ∧ Cls K C ∧ NoAttr K C f ∧ fs.lookup f = some v ∧ Q v H1
def sFld (K : PySem.W.Frag) (ta tv : TE) (f : Str) : TS := fun D σ H => tv σ H fun y H1 => ta σ H1 fun x H2 => ∃ a C dx fs, x = .ref a ∧ H2 a = some (.ins C dx fs) ∧ Cls K C ∧ NoAttr K C f ∧ fs.length < 1000 ∧
  D.nx σ (upd H2 a (.ins C dx (putF f y fs)))
section
variable {X : Cx} {o e value : Expr} {f : Str} {pos pos' tpos : Pos} {ta tv : TE}
theorem pe_fld (he : PE X e ta) (hb : attributeBase e f X.env (eval e X.env) = eval e X.env) : PE X (.Attribute e f pos) (tFld X.K ta f) := by
  intro pins s σ H Q I h
  refine attr_of hb (thn (he pins s σ H _ I h) fun u s1 ⟨x, H1, I1, rx, a, C, dx, fs, v, ex, ea, c, n, l, q⟩ => ?_)
  subst ex
  obtain rfl : u = Value.ref a := rx
  exact getattr_ok I1 ea c n l fun u' s2 I2 ru => ⟨v, H1, I2, ru, q⟩
theorem ps_fld (ha : PE X o ta) (hv : PE X value tv) (hs : swapsWith value (some (.Attribute o f pos')) pos.line X.env = pure false) : PS X (.Assign [.Attribute o f pos'] value pos) (sFld X.K ta tv f) := by
  intro pins s σ H D I h
  refine plainObj_wpAny_Assign_Attribute (thn (hv pins s σ H _ I h) fun u s1 ⟨y, H1, I1, ry, q⟩ => thn (ha pins s1 σ H1 _ I1 q) fun ov s2 ⟨x, H2, I2, rx, a, C, dx, fs, ex, ea, c, n, l, q2⟩ => ?_) hs
  subst ex
  obtain rfl : ov = Value.ref a := rx
  exact setattr_ok I2 ea c n l ry fun s3 I3 => ⟨σ, _, I3, q2⟩
end

/-! ### isinstance -/
section
variable {X : Cx} {pins : List (Addr × Obj)} {σ : St} {H : Hp} {s : Shared} {A : Around} {E : Value → Shared → Prop} {Q : Value → Shared → Prop} {c : Value} {b : Bool}
inductive TyOf (K : PySem.W.Frag) (H : Hp) : V → Value → Prop where
  | non : TyOf K H .non (.type "NoneType")
  | bl (x : Bool) : TyOf K H (.bl x) (.type "bool")
  | int (i : Int) : TyOf K H (.int i) (.type "int")
  | str (x : Str) : TyOf K H (.str x) (.type "str")
  | flt (x : UInt64) : TyOf K H (.flt x) (.type "float")
  | lst {a : Addr} {xs : List V} (e : H a = some (.lst xs)) : TyOf K H (.ref a) (.type "list")
  | frz {a : Addr} {o : Obj} {xs : List V} (e : H a = some (.frz o (.lst xs))) : TyOf K H (.ref a) (.type "list")
  | tup {a : Addr} {xs : List V} (e : H a = some (.tup xs)) : TyOf K H (.ref a) (.type "tuple")
  | dK {a : Addr} {kvs : List (Key × V)} (e : H a = some (.dK kvs)) : TyOf K H (.ref a) (.type "dict")
  | dT {a : Addr} {kvs : List (List Key × V)} (e : H a = some (.dT kvs)) : TyOf K H (.ref a) (.type "dict")
  | ins {a C dx : Addr} {fs : List (Str × V)} (e : H a = some (.ins C dx fs)) (cl : Cls K C) (ha : PySem.W.findIn K (.ref C) "__class__" = some (some (.builtin "object.__class__")))
      (hn : PySem.W.specialIn K (.builtin "object.__class__") "__get__" = some (some (.builtin "getset_descriptor.__get__"))) (htk : PySem.W.takesIn K (.builtin "object.__class__") = some true)
      (hm : PySem.W.mroIn K C (.type "object") = some true) : TyOf K H (.ref a) (.ref C)
theorem isinst_ok {x : V} {u t : Value} (I : Inv X pins σ H s) (rx : RelV x u) (ty : TyOf X.K H x t) (e : PySem.W.kitOne X.K t c = some b) (h : ∀ tk, Q (.bool b) { s with toks := tk }) :
    wpAny (model X.prog X.w) A (call (.builtin "isinstance") [u, c]) Q E s := by
  cases ty with
  | non => cases (show u = Value.none from rx); exact PySem.W.kia_one PySem.W.kitx_none I.kIn True.intro e (fun z => nomatch z) h
  | bl y => cases (show u = Value.bool y from rx); exact PySem.W.kia_one PySem.W.kitx_bool I.kIn True.intro e (fun z => nomatch z) h
  | int i => obtain ⟨t, q⟩ := (show ∃ t, u = Value.int i t from rx); cases q; exact PySem.W.kia_one PySem.W.kitx_int I.kIn True.intro e (fun z => nomatch z) h
  | str y => obtain ⟨t, q⟩ := (show ∃ t, u = Value.str y t from rx); cases q; exact PySem.W.kia_one PySem.W.kitx_str I.kIn True.intro e (fun z => nomatch z) h
  | flt y => obtain ⟨t, q⟩ := (show ∃ t, u = Value.float y t from rx); cases q; exact PySem.W.kia_one PySem.W.kitx_float I.kIn True.intro e (fun z => nomatch z) h
  | @lst a xs ea =>
    cases (show u = Value.ref a from rx)
    obtain ⟨_, _, n, _, h1⟩ := (show ObjOk X.prog X.w H s.heap a (.lst xs) from I.hok a _ ea)
    exact PySem.W.kia_one PySem.W.kitx_list I.kIn ⟨_, h1, rfl⟩ e (fun z => nomatch z) h
  | @frz a ob xs ea =>
    cases (show u = Value.ref a from rx)
    obtain ⟨_, _, _, n, _, h1⟩ := (show ObjOk X.prog X.w H s.heap a (.frz ob (.lst xs)) from I.hok a _ ea)
    exact PySem.W.kia_one PySem.W.kitx_list I.kIn ⟨_, h1, rfl⟩ e (fun z => nomatch z) h
  | @tup a xs ea =>
    cases (show u = Value.ref a from rx)
    obtain ⟨_, _, _, p⟩ := (show ObjOk X.prog X.w H s.heap a (.tup xs) from I.hok a _ ea)
    obtain ⟨o, h1, h2, _⟩ := p
    exact PySem.W.kia_one PySem.W.kitx_tuple I.kIn ⟨o, h1, h2⟩ e (fun z => nomatch z) h
  | @dK a kvs ea =>
    cases (show u = Value.ref a from rx)
    obtain ⟨_, _, vs, _, p⟩ := (show ObjOk X.prog X.w H s.heap a (.dK kvs) from I.hok a _ ea)
    obtain ⟨o, es, ep, h1, h2, _⟩ := p
    exact PySem.W.kia_one PySem.W.kitx_dict I.kIn ⟨o, h1, h2.1⟩ e (fun z => nomatch z) h
  | @dT a kvs ea =>
    cases (show u = Value.ref a from rx)
    obtain ⟨_, _, xs, _, o, es, ep, h1, h2, _⟩ := (show ObjOk X.prog X.w H s.heap a (.dT kvs) from I.hok a _ ea)
    exact PySem.W.kia_one PySem.W.kitx_dict I.kIn ⟨o, h1, h2.1⟩ e (fun z => nomatch z) h
  | @ins a C dx fs ea cl ha hn htk hm =>
    cases (show u = Value.ref a from rx)
    obtain ⟨mA, O, _⟩ := ins_get I.hok ea
    obtain ⟨od, J, _⟩ := O.look
    exact PySem.W.kia_one (PySem.W.kitx_own (cl.get _) cl.hd ha hn htk hm) I.kIn J e (fun z => nomatch z) h
end
end L2

namespace L2
open PySem PySem.Spec PyProof.Rows

/-! ### room -/
structure Room (k : Nat) (A : Around) : Prop where
  hd : A.handled = none
  dp : A.depth + 3 * k + 5 < recursionLimit
  un : A.units + 16 * k + 200 < cLine
theorem Room.mono {j k : Nat} {A : Around} (r : Room k A) (h : j ≤ k) : Room j A := ⟨r.hd, by have := r.dp; omega, by have := r.un; omega⟩
theorem Room.deeper {k : Nat} {A : Around} (r : Room (k + 1) A) (env : Env) : Room k (A.deeper env) :=
  ⟨r.hd, by have := r.dp; show A.depth + 1 + 3 * k + 5 < _; omega, by have := r.un; show A.units + 3 + 16 * k + 200 < _; omega⟩
theorem make_depth {A : Around} {C : Addr} {us : List Value} {kw : List (Str × Value)} : (A.under (.builtin "type.__call__" ⟨.ref C :: us, kw⟩)).depth = A.depth + 1 := by
  first | rfl | simp [Around.under, Code.weight, Code.isCreation, Code.isGuard, Code.isCaller, Code.frames, Code.isFrame, guardIds]
theorem make_units {A : Around} {C : Addr} {us : List Value} {kw : List (Str × Value)} : (A.under (.builtin "type.__call__" ⟨.ref C :: us, kw⟩)).units = A.units + 1 := by
  first | rfl | simp [Around.under, Code.cUnits, Code.frames, Code.isFrame]
theorem Room.make {k : Nat} {A : Around} (r : Room (k + 1) A) (C : Addr) (us : List Value) (kw : List (Str × Value)) : Room k (A.under (.builtin "type.__call__" ⟨.ref C :: us, kw⟩)) :=
  ⟨r.hd, by have := r.dp; rw [make_depth]; omega, by have := r.un; rw [make_units]; omega⟩
theorem Room.depth {k : Nat} {A : Around} (r : Room k A) : A.depth < recursionLimit := by have := r.dp; omega
theorem Room.units {k : Nat} {A : Around} (r : Room k A) : A.units + 64 < cLine := by have := r.un; omega
theorem Room.units0 {k : Nat} {A : Around} (r : Room k A) : A.units < cLine := by have := r.un; omega

/-! ### argument lists and displays -/
def tNil : TA := fun _ H Q => Q [] H
def tCons (ta : TE) (tr : TA) : TA := fun σ H Q => ta σ H fun x H1 => tr σ H1 fun xs H2 => Q (x :: xs) H2
section
variable {X : Cx} {e : Expr} {es : List Expr} {te : TE} {t : TA} {pos : Pos}
theorem pa_nil : PA X [] tNil := fun _ _ _ _ H Q I h => Calls.spliced_nil ⟨[], H, I, .nil, h⟩
theorem pa_cons (ha : PE X e te) (hr : PA X es t) (hs : starEach (e :: es) X.env = (false, eval e X.env) :: starEach es X.env := by rfl) : PA X (e :: es) (tCons te t) := by
  intro pos pins s σ H Q I h
  rw [hs]
  show wpAny _ _ (spliced ((false, eval e X.env) :: backTo pos (starEach es X.env))) _ _ s
  refine Calls.spliced_cons (thn (ha pins s σ H _ I h) fun u s1 ⟨x, H1, I1, r1, q1⟩ => ?_)
  exact thn (hr pos pins s1 σ H1 _ I1 q1) fun us s2 ⟨xs, H2, I2, r2, q2⟩ => ⟨x :: xs, H2, I2, .cons r1 r2, q2⟩

def tTup (t : TA) : TE := fun σ H Q => t σ H fun xs H1 => xs.length ≤ sizeLine ∧ ∀ p, H1 p = none → Q (.ref p) (upd H1 p (.tup xs))
def tLst (t : TA) : TE := fun σ H Q => t σ H fun xs H1 => xs.length ≤ sizeLine ∧ ∀ p, H1 p = none → Q (.ref p) (upd H1 p (.lst xs))
theorem pe_tup {x1} (h : PA X es t) : PE X (.Tuple es x1 pos) (tTup t) := by
  intro pins s σ H Q I hq
  refine wpAny_Tuple_spliced (thn (h pos pins s σ H _ I hq) fun us s1 ⟨xs, H1, I1, r, z, q⟩ => ⟨by rw [← r.length]; exact z, ?_⟩)
  have hf : H1 s1.heap.objs.size = none := I1.hok.fresh (Nat.le_refl _)
  refine ⟨.ref s1.heap.objs.size, upd H1 s1.heap.objs.size (.tup xs), I1.laid (t' := s1.toks) (fun b u e => Heap.get?_push_of_some _ e) (Nat.le_refl _) ?_, rfl, q _ hf⟩
  exact ⟨z, us, r, ⟨_, Heap.get?_push_size _ rfl, rfl, _, rfl⟩⟩
theorem pe_lst (h : PA X es t) : PE X (.List es pos) (tLst t) := by
  intro pins s σ H Q I hq
  refine wpAny_List_spliced (thn (h pos pins s σ H _ I hq) fun us s1 ⟨xs, H1, I1, r, z, q⟩ => ⟨by rw [← r.length]; exact z, ?_⟩)
  have hf : H1 s1.heap.objs.size = none := I1.hok.fresh (Nat.le_refl _)
  refine ⟨.ref s1.heap.objs.size, upd H1 s1.heap.objs.size (.lst xs), I1.laid (t' := s1.toks) (fun b u e => Heap.get?_push_of_some _ e) (Nat.le_refl _) ?_, rfl, q _ hf⟩
  exact ⟨z, us, 0, r, Heap.get?_push_size _ rfl⟩
end

/-! ### what a def promises -/
abbrev Sp := List V → Hp → VK → XK → Prop
abbrev CXT := List Env → Hp → Shared → XK → Value → Shared → Prop

structure Env0 (P : Program) (w : World) (K : PySem.W.Frag) (mg : Str → Option Value) (base : Heap) (A : Around) (outer : List Env) (s : Shared) (H : Hp) : Prop where
  frames : A.frames = some outer
  mod : Mod K mg base
  bs : ∀ b o, base.get? b = some o → s.heap.get? b = some o ∧ H b = none
  bsz : base.objs.size ≤ s.heap.objs.size
  funs : s.heap.FunFrames base outer
  frf : ∀ b ∈ frs outer, H b = none
  hok : HOk P w H s.heap
  bare : AllBare s.gens
def CE (outer : List Env) (P : Program) (w : World) (H : Hp) (s : Shared) (Q : VK) (u : Value) (s' : Shared) : Prop :=
  ∃ v H', s'.os = s.os ∧ AllBare s'.gens ∧ Un (frs outer) [] H H' s.heap s'.heap ∧ HOk P w H' s'.heap ∧ RelV v u ∧ Q v H'
def CR (CX : CXT) (outer : List Env) (P : Program) (w : World) (H : Hp) (s : Shared) (Q : VK) (E : XK) (r : Result) (s' : Shared) : Prop :=
  match r with
  | .ok (.ret u) => CE outer P w H s Q u s'
  | .ok _ => False
  | .error e => CX outer H s E e s'
structure FnOk (P : Program) (w : World) (K : PySem.W.Frag) (mg : Str → Option Value) (base : Heap) (CX : CXT) (k : Nat) (f : Addr) (fd : FuncData) (ps : List Str) (sp : Sp) : Prop where
  len : ∀ vs H Q E, sp vs H Q E → vs.length = ps.length
  run : ∀ (A : Around) (outer : List Env) (s : Shared) (H : Hp) (args : Args) (us : List Value) (vs : List V) (Q : VK) (E : XK), Room k A → Env0 P w K mg base A outer s H → BindsTo s fd args (ps.zip us) → Vals vs us → sp vs H Q E →
    codeAny (model P w) A (.call (.ref f) args) (CR CX outer P w H s Q E) s
theorem Env0.make {P : Program} {w : World} {K : PySem.W.Frag} {mg : Str → Option Value} {base : Heap} {A : Around} {outer : List Env} {s : Shared} {H : Hp} (e : Env0 P w K mg base A outer s H) (C : Addr) (us : List Value) (kw : List (Str × Value)) :
    Env0 P w K mg base (A.under (.builtin "type.__call__" ⟨.ref C :: us, kw⟩)) outer s H := ⟨by first | exact e.frames | (simpa [Around.under, Code.envs, Code.isFrame, pushEnvs] using e.frames), e.mod, e.bs, e.bsz, e.funs, e.frf, e.hok, e.bare⟩
section
variable {X : Cx} {pins : List (Addr × Obj)} {σ : St} {H : Hp} {s s' : Shared}
theorem Inv.env0 (I : Inv X pins σ H s) : Env0 X.prog X.w X.K X.mg X.base X.A X.stack s H :=
  ⟨I.ok.frames, I.ok.mod, I.bs, Nat.le_trans I.ok.bsz I.sz, I.stack, I.stkFree, I.hok, I.bare⟩
theorem Inv.after {Q : VK} {u : Value} (I : Inv X pins σ H s) (h : CE X.stack X.prog X.w H s Q u s') : EP X pins σ Q u s' := by
  obtain ⟨v, H', os, bare, un, hok, r, q⟩ := h
  obtain ⟨hh, g, d, t, os'⟩ := s'
  obtain rfl : os' = s.os := os
  exact ⟨v, H', I.call (h' := hh) (g' := g) (d' := d) (t' := t) (ch := []) un hok bare (fun b z => absurd z (by simp)), r, q⟩
end

/-! ### calls -/
def tCall (sp : Sp) (dvs : List V) (E : XK) (t : TA) : TE := fun σ H Q => t σ H fun vs H1 => sp (vs ++ dvs) H1 Q E
def tMeth (C : Addr) (m : Str) (sp : Sp) (dvs : List V) (E : XK) (ta : TE) (t : TA) : TE := fun σ H Q => ta σ H fun x H1 => ∃ a dx fs, x = .ref a ∧ H1 a = some (.ins C dx fs) ∧ fs.lookup m = none ∧
  t σ H1 fun vs H2 => sp (x :: (vs ++ dvs)) H2 Q E
def tMake (C : Addr) (sp : Sp) (dvs : List V) (E : XK) (t : TA) : TE := fun σ H Q => t σ H fun vs H1 => ∀ x dx, H1 x = none → H1 dx = none → dx ≠ x →
  sp (.ref x :: (vs ++ dvs)) (upd (upd H1 dx (.own x)) x (.ins C dx [])) (fun v H2 => v = .non ∧ Q (.ref x) H2) E

def Binds (K : PySem.W.Frag) (fd : FuncData) (ps : List Str) (ds : List Value) : Prop :=
  ∀ (s : Shared) (us : List Value), K.In s.heap → (us ++ ds).length = ps.length → BindsTo s fd ⟨us, []⟩ (ps.zip (us ++ ds))
theorem Binds.all {K : PySem.W.Frag} {fd : FuncData} {ps : List Str} (h : ∀ us : List Value, us.length = ps.length → bindArgs fd ⟨us, []⟩ = pure (ps.zip us)) : Binds K fd ps [] := fun s us _ hl => by
  rw [List.append_nil] at hl ⊢
  exact .of_eq (h us hl)

def Passes (CX : CXT) (X : Cx) (E : XK) : Prop := ∀ (pins : List (Addr × Obj)) (σ : St) (H : Hp) (s : Shared) (e : Value) (s' : Shared), Inv X pins σ H s → CX X.stack H s E e s' → X.xe e s'

section
variable {X : Cx} {CX : CXT} {k : Nat} {f C : Addr} {fd : FuncData} {ps : List Str} {sp : Sp} {dvs : List V} {ds : List Value} {E : XK} {x m : Str} {p pos apos : Pos} {e o : Expr} {es : List Expr} {ta : TE} {t : TA}

theorem run_fn {pins : List (Addr × Obj)} {σ : St} {H : Hp} {s : Shared} {Q : VK} {us : List Value} {vs : List V} (F : FnOk X.prog X.w X.K X.mg X.base CX k f fd ps sp) (hr : Room k X.A) (hb : Binds X.K fd ps ds) (hd : Vals dvs ds) (hx : Passes CX X E)
    (I : Inv X pins σ H s) (r : Vals vs us) (h : sp (vs ++ dvs) H Q E) : wpAny (model X.prog X.w) X.A (call (.ref f) us) (EP X pins σ Q) X.xe s := by
  have r2 : Vals (vs ++ dvs) (us ++ ds) := r.append hd
  have hl : (us ++ ds).length = ps.length := by rw [← r2.length]; exact F.len _ _ _ _ h
  refine wpAny_call (codeAny_mono (F.run X.A X.stack s H ⟨us, []⟩ (us ++ ds) (vs ++ dvs) Q E hr I.env0 (hb s us I.kIn hl) r2 h) fun r s' hq => ?_)
  cases r with
  | error e => exact hx pins σ H s e s' I hq
  | ok fl =>
    cases fl with
    | ret u => exact I.after hq
    | next => exact False.elim hq
    | brk => exact False.elim hq
    | cont => exact False.elim hq

theorem pe_call (F : FnOk X.prog X.w X.K X.mg X.base CX k f fd ps sp) (hr : Room k X.A) (hg : Gl X x) (hm : X.mg x = some (.ref f)) (hk : PySem.W.keepIn X.K (.ref f) = true) (hb : Binds X.K fd ps ds) (hd : Vals dvs ds) (hx : Passes CX X E)
    (ha : PA X (e :: es) t) (hdb : (x == ("__debug__" : Str)) = false := by decide) (he : starEach (e :: es) X.env = (false, eval e X.env) :: starEach es X.env := by rfl) (hpl : (backTo pos (starEach es X.env)).any (·.1) = false := by rfl) :
    PE X (.Call (.Name x p) (e :: es) [] pos) (tCall sp dvs E t) := by
  intro pins s σ H Q I h
  refine wpAny_Call_Name_kw (ld_glob I hg hm ?_ hdb)
  refine PySem.W.callWith_K (h₀ := X.base) I.ok.mod.kin hk (thn (ha pos pins s σ H _ I h) fun us s1 ⟨vs, H1, I1, r, q⟩ => ⟨I1.kIn, ?_⟩) he hpl
  exact run_fn F hr hb hd hx I1 r q
theorem pe_meth0 {pl : Sem Bool} (he : PE X o ta) (c : Cls X.K C) (hm : Meth X.K C m f) (F : FnOk X.prog X.w X.K X.mg X.base CX k f fd ps sp) (hr : Room k X.A) (hb : Binds X.K fd ps ds) (hd : Vals dvs ds) (hx : Passes CX X E)
    (ht : eval (.Call (.Attribute o m apos) [] [] pos) X.env = (do
      let ov ← eval o X.env
      standAt apos.atName
      let (f, first) ← holding [ov] (getMethod ov m pl)
      callWith pos f first (backTo pos (starEach [] X.env)) (backToKw pos (keywordEach [] X.env))) := by rfl) :
    PE X (.Call (.Attribute o m apos) [] [] pos) (tMeth C m sp dvs E ta tNil) := by
  intro pins s σ H Q I h
  refine PySem.W.methodCall_KW (pl := pl) (thn (he pins s σ H _ I h) fun u s1 ⟨x, H1, I1, rx, a, dx, fs, ex, ea, l, q⟩ => ?_) ht
  subst ex
  obtain rfl : u = Value.ref a := rx
  refine getmeth_ok I1 ea c hm l ?_
  exact PySem.W.callWith_K0 (first := [.ref a]) I1.kIn hm.kp (run_fn (us := [.ref a]) (vs := [.ref a]) F hr hb hd hx I1 (.cons rfl .nil) q)

structure Mk (K : PySem.W.Frag) (C f : Addr) : Prop where
  makes : PySem.W.makesIn K C = true
  init : PySem.W.findIn K (.ref C) "__init__" = some (some (.ref f))
  fn : PySem.W.isFn K (.ref f) = true
  kp : PySem.W.keepIn K (.ref C) = true

theorem run_make {pins : List (Addr × Obj)} {σ : St} {H : Hp} {s : Shared} {Q : VK} {us : List Value} {vs : List V} (M : Mk X.K C f) (F : FnOk X.prog X.w X.K X.mg X.base CX k f fd ps sp) (hr : Room (k + 1) X.A) (hb : Binds X.K fd ps ds) (hd : Vals dvs ds)
    (hx : Passes CX X E) (I : Inv X pins σ H s) (r : Vals vs us)
    (h : ∀ x dx, H x = none → H dx = none → dx ≠ x → sp (.ref x :: (vs ++ dvs)) (upd (upd H dx (.own x)) x (.ins C dx [])) (fun v H2 => v = .non ∧ Q (.ref x) H2) E) :
    wpAny (model X.prog X.w) X.A (call (.ref C) us) (EP X pins σ Q) X.xe s := by
  have hq := h (s.heap.objs.size + 1) s.heap.objs.size (I.hok.fresh (Nat.le_succ _)) (I.hok.fresh (Nat.le_refl _)) (Nat.ne_of_lt (Nat.lt_succ_self _))
  have I2 := Inv.made (C := C) I
  have r2 : Vals (V.ref (s.heap.objs.size + 1) :: (vs ++ dvs)) (Value.ref (s.heap.objs.size + 1) :: (us ++ ds)) := .cons rfl (r.append hd)
  have hl : (Value.ref (s.heap.objs.size + 1) :: us ++ ds).length = ps.length := by
    have e := r2.length
    rw [F.len _ _ _ _ hq] at e
    exact e.symm
  refine wpAny_call (make_map (f := f) I.kIn M.makes M.init (beq_iff_eq.mp M.fn) (codeAny_mono (F.run _ X.stack _ _ ⟨Value.ref (s.heap.objs.size + 1) :: us, []⟩ (Value.ref (s.heap.objs.size + 1) :: (us ++ ds)) _ _ E (hr.make C us [])
    (I2.env0.make C us []) (hb _ (Value.ref (s.heap.objs.size + 1) :: us) I2.kIn hl) r2 hq) fun r s' hq' => ?_))
  cases r with
  | error e => exact hx pins σ _ _ e s' I2 hq'
  | ok fl =>
    cases fl with
    | ret u =>
      obtain ⟨v, H', I3, rv, ev, q3⟩ := I2.after hq'
      subst ev
      exact ⟨rv, ⟨V.ref (s.heap.objs.size + 1), H', I3, rfl, q3⟩⟩
    | next => exact False.elim hq'
    | brk => exact False.elim hq'
    | cont => exact False.elim hq'
theorem pe_make (M : Mk X.K C f) (F : FnOk X.prog X.w X.K X.mg X.base CX k f fd ps sp) (hr : Room (k + 1) X.A) (hg : Gl X x) (hm : X.mg x = some (.ref C)) (hb : Binds X.K fd ps ds) (hd : Vals dvs ds) (hx : Passes CX X E)
    (ha : PA X (e :: es) t) (hdb : (x == ("__debug__" : Str)) = false := by decide) (he : starEach (e :: es) X.env = (false, eval e X.env) :: starEach es X.env := by rfl) (hpl : (backTo pos (starEach es X.env)).any (·.1) = false := by rfl) :
    PE X (.Call (.Name x p) (e :: es) [] pos) (tMake C sp dvs E t) := by
  intro pins s σ H Q I h
  refine wpAny_Call_Name_kw (ld_glob I hg hm ?_ hdb)
  refine PySem.W.callWith_K (h₀ := X.base) I.ok.mod.kin M.kp (thn (ha pos pins s σ H _ I h) fun us s1 ⟨vs, H1, I1, r, q⟩ => ⟨I1.kIn, ?_⟩) he hpl
  exact run_make M F hr hb hd hx I1 r q
end

/-! ### keywords -/

/-! ### a def's body keeps its promise -/
structure FnScope (N P : List Str) (sc : Scope) : Prop where
  kind : sc.kind = .function
  co : sc.isCoroutine = false
  gen : sc.isGenerator = false
  nd : N.Nodup
  pre : N.take P.length = P
  par : ∀ x ∈ P, sc.names.lookup x = some .local ∨ sc.names.lookup x = some .cell
  nofree : ∀ y ∈ sc.names, y.2 ≠ .free

theorem bindL_out {kindOf : Str → Option NameKind} {x : Str} : ∀ {binds : List (Str × Value)} {m : Str → Option Value}, (∀ v, (x, v) ∉ binds) → bindL kindOf binds m x = m x
  | [], _, _ => rfl
  | (n, v) :: r, m, h => by
    unfold bindL
    rw [bindL_out fun w hw => h w (List.mem_cons_of_mem _ hw)]
    split
    · have : x ≠ n := by rintro rfl; exact h v List.mem_cons_self
      simp [this]
    · rfl
theorem bindC_out {kindOf : Str → Option NameKind} {x : Str} : ∀ {binds : List (Str × Value)} {m : Str → Option Value}, (∀ v, (x, v) ∉ binds) → bindC kindOf binds m x = m x
  | [], _, _ => rfl
  | (n, v) :: r, m, h => by
    unfold bindC
    rw [bindC_out fun w hw => h w (List.mem_cons_of_mem _ hw)]
    split
    · rfl
    · have : x ≠ n := by rintro rfl; exact h v List.mem_cons_self
      simp [this]
theorem bindL_get {kindOf : Str → Option NameKind} {x : Str} {v : Value} : ∀ {P : List Str} {vs : List Value} {i : Nat} {m : Str → Option Value}, P.Nodup → P[i]? = some x → vs[i]? = some v → kindOf x = some .local →
    bindL kindOf (P.zip vs) m x = some v
  | [], _, _, _, _, h, _, _ => by simp at h
  | _ :: _, [], _, _, _, _, h, _ => by simp at h
  | p :: P, w :: vs, 0, m, nd, h1, h2, hk => by
    simp at h1 h2; subst h1; subst h2
    show bindL kindOf ((p, w) :: P.zip vs) m p = _
    unfold bindL
    rw [bindL_out fun v hv => (List.nodup_cons.mp nd).1 (List.of_mem_zip hv).1, if_pos hk]
    simp
  | p :: P, w :: vs, i + 1, m, nd, h1, h2, hk => by
    show bindL kindOf ((p, w) :: P.zip vs) m x = _
    unfold bindL
    exact bindL_get (i := i) (List.nodup_cons.mp nd).2 (by simpa using h1) (by simpa using h2) hk
theorem bindC_get {kindOf : Str → Option NameKind} {x : Str} {v : Value} : ∀ {P : List Str} {vs : List Value} {i : Nat} {m : Str → Option Value}, P.Nodup → P[i]? = some x → vs[i]? = some v → kindOf x ≠ some .local →
    bindC kindOf (P.zip vs) m x = some v
  | [], _, _, _, _, h, _, _ => by simp at h
  | _ :: _, [], _, _, _, _, h, _ => by simp at h
  | p :: P, w :: vs, 0, m, nd, h1, h2, hk => by
    simp at h1 h2; subst h1; subst h2
    show bindC kindOf ((p, w) :: P.zip vs) m p = _
    unfold bindC
    rw [bindC_out fun v hv => (List.nodup_cons.mp nd).1 (List.of_mem_zip hv).1, if_neg hk]
    simp
  | p :: P, w :: vs, i + 1, m, nd, h1, h2, hk => by
    show bindC kindOf ((p, w) :: P.zip vs) m x = _
    unfold bindC
    exact bindC_get (i := i) (List.nodup_cons.mp nd).2 (by simpa using h1) (by simpa using h2) hk

def start (N : List Str) (vs : List V) : St := vs.map some ++ List.replicate (N.length - vs.length) none

def cxOf (CX : CXT) (P : Program) (w : World) (K : PySem.W.Frag) (mg : Str → Option Value) (base : Heap) (N : List Str) (qual : Str) (scope : Scope) (f : Addr) (cd : Value) (A : Around) (outer : List Env) (s : Shared) (H : Hp) (E : XK) : Cx where
  prog := P
  w := w
  K := K
  mg := mg
  base := base
  A := A.deeper (envOfC qual scope s.heap.objs.size f cd)
  N := N
  s₀ := s
  H₀ := H
  env := envOfC qual scope s.heap.objs.size f cd
  outer := outer
  stack := envOfC qual scope s.heap.objs.size f cd :: outer
  ex := []
  calm := true
  fn := fun _ => true
  pn := []
  xe := fun e s' => wpAny (model P w) (A.deeper (envOfC qual scope s.heap.objs.size f cd)) (leaving (envOfC qual scope s.heap.objs.size f cd) e) (fun _ s'' => CX outer H s E e s'') (fun e' s'' => CX outer H s E e' s'') s'

theorem cell_has {sc : Scope} {n : Nat} {x : Str} (h : sc.names.lookup x = some .cell) : ∃ c, (cellsFrom n sc.names []).lookup x = some c := by
  have q := PySem.W.cellsFrom_some sc.names n [] (.inl h)
  exact Option.isSome_iff_exists.mp q

theorem inv_start {CX : CXT} {P : Program} {w : World} {K : PySem.W.Frag} {mg : Str → Option Value} {base : Heap} {N ps : List Str} {qual : Str} {scope : Scope} {f : Addr} {cd : Value} {A : Around} {outer : List Env} {s s1 : Shared} {H : Hp} {E : XK} {us : List Value} {vs : List V}
    (S : FnScope N ps scope) (hd : A.handled = none) (e0 : Env0 P w K mg base A outer s H) (hl : vs.length = ps.length) (r : Vals vs us)
    (x : InCallC s s.heap.objs.size (bindL (envOfC qual scope s.heap.objs.size f cd).kindOf (ps.zip us) fun _ => none) (cellsFrom (s.heap.objs.size + 1) scope.names []) (bindC (envOfC qual scope s.heap.objs.size f cd).kindOf (ps.zip us) fun _ => none) s1) :
    Inv (cxOf CX P w K mg base N qual scope f cd A outer s H E) [] (start N vs) H s1 := by
  have hpl : ps.length ≤ N.length := by have := congrArg List.length S.pre; rw [List.length_take] at this; omega
  obtain ⟨h1, tk, rfl, hk⟩ := x.done
  have noA : ∀ b : Addr, b ∉ (cxOf CX P w K mg base N qual scope f cd A outer s H E).ex := fun b z => absurd (show b ∈ ([] : List Addr) from z) (by simp)
  refine ⟨⟨e0.mod, S.kind, rfl, rfl, Nat.le_refl _, fun y z c h1 h2 => ?_, fun y hy => ?_, fun y c _ h => ?_, fun _ => hd, Around.frames_deeper e0.frames, .inr ⟨rfl, rfl⟩, fun b z => absurd z (noA b), e0.bs, e0.bsz, fun b _ _ => noA b, fun b z => absurd z (noA b), e0.funs, e0.frf⟩,
    rfl, e0.bare, Un.kept hk, ⟨_, x.toInCall.ns, fun i y v h1 h2 h3 => ?_⟩, fun y c h => ⟨_, x.cell y c h⟩, e0.hok.fresh (Nat.le_refl _), fun y c h => ?_, fun p hp => absurd (show p ∈ ([] : List (Addr × Obj)) from hp) (by simp), e0.hok.kept hk, ?_⟩
  · exact name_of_addr x.apart (PySem.mem_of_lookup h1) (PySem.mem_of_lookup h2)
  · have hy : scope.names.lookup y = some .cell ∨ scope.names.lookup y = some .free := hy
    rcases hy with hy | hy
    · exact cell_has hy
    · exact absurd rfl (S.nofree _ (PySem.mem_of_lookup hy))
  · exact Nat.le_of_lt (x.above y c (PySem.mem_of_lookup h))
  · have hi : i < vs.length := by
      unfold start at h2
      by_cases hi : i < vs.length
      · exact hi
      · rw [List.getElem?_append_right (by simpa using hi)] at h2
        rw [List.getElem?_replicate] at h2
        split at h2 <;> cases h2
    have ha : vs[i]? = some v := by
      unfold start at h2
      rw [List.getElem?_append_left (by simpa using hi), List.getElem?_map] at h2
      cases e : vs[i]? with
      | none => rw [e] at h2; cases h2
      | some a => rw [e] at h2; cases h2; rfl
    obtain ⟨u, hu, rv⟩ := r.get ha
    have hp : ps[i]? = some y := by
      rw [← S.pre, List.getElem?_take_of_lt (by omega)]; exact h1
    have ndP : ps.Nodup := by rw [← S.pre]; exact S.nd.sublist (List.take_sublist _ _)
    refine ⟨u, rv, ?_⟩
    rcases S.par y (List.mem_of_getElem? hp) with k | k
    · exact .inl ⟨k, bindL_get ndP hp hu k⟩
    · obtain ⟨c, e⟩ := cell_has (n := s.heap.objs.size + 1) k
      refine .inr ⟨.inl k, c, e, ?_⟩
      have q := x.cell y c e
      rw [bindC_get ndP hp hu (by show scope.names.lookup y ≠ _; rw [k]; decide)] at q
      exact q
  · exact e0.hok.fresh (Nat.le_of_lt (x.above y c (PySem.mem_of_lookup h)))
  · unfold start
    show _ = N.length
    rw [List.length_append, List.length_map, List.length_replicate]
    omega

theorem fn_of {CX : CXT} {P : Program} {w : World} {K : PySem.W.Frag} {mg : Str → Option Value} {base : Heap} {k : Nat} {f : Addr} {name qual : Str} {params : Arguments} {body : List Stmt} {scope : Scope} {dV kV doc pm cdv ct oc : Value} {an od : Option Addr}
    {osl : Array (Option Value)} {N ps : List Str} {sp : Sp} (lk : K.lookup f = some ⟨oc, od, .func (PySem.W.fnOf name qual params body scope dV kV doc pm an cdv ct), osl⟩) (hcd : PySem.W.codeIn K cdv qual = true) (S : FnScope N ps scope)
    (len : ∀ vs H Q E, sp vs H Q E → vs.length = ps.length)
    (hbody : ∀ (A : Around) (outer : List Env) (s : Shared) (H : Hp) (vs : List V) (Q : VK) (E : XK), Room k (A.deeper (envOfC qual scope s.heap.objs.size f cdv)) → sp vs H Q E →
      ∃ t, PSs (cxOf CX P w K mg base N qual scope f cdv A outer s H E) body t ∧ t { nx := fun _ H' => Q .non H', rt := Q } (start N vs) H) :
    FnOk P w K mg base CX (k + 1) f (PySem.W.fnOf name qual params body scope dV kV doc pm an cdv ct) ps sp := by
  refine ⟨len, fun A outer s H args us vs Q E hr e0 hb r hsp => ?_⟩
  have hl := len _ _ _ _ hsp
  have KX : K.In s.heap := e0.mod.kin.keeps fun b o e => (e0.bs b o e).1
  have lim : s.heap.NoLimit := e0.mod.nolimit.keeps fun b o e => (e0.bs b o e).1
  have hkind : ∀ y ∈ ps.zip us, scope.names.lookup y.1 = some .local ∨ (scope.names.lookup y.1 = some .cell ∧ ((cellsFrom (s.heap.objs.size + 1) scope.names []).lookup y.1).isSome = true) := fun ⟨n, v⟩ hy => by
    rcases S.par n (List.of_mem_zip hy).1 with q | q
    · exact .inl q
    · exact .inr ⟨q, PySem.W.cellsFrom_some _ _ _ (.inl q)⟩
  refine codeAny_call_function hr.depth (KX _ _ lk) rfl S.co S.gen rfl (PySem.W.codeRec_of KX hcd) (hb _ _ _ _ ?_)
  refine wpAny_newFunctionEnv_cells S.kind hkind fun env he s1 x => ?_
  subst he
  refine ⟨lim.keeps x.toInCall.keep, codeAny_func ?_⟩
  obtain ⟨t, ht, hq⟩ := hbody A outer s H vs Q E (hr.deeper _) hsp
  have I : Inv (cxOf CX P w K mg base N qual scope f cdv A outer s H E) [] (start N vs) H s1 := inv_start S hr.hd e0 hl r x
  refine wpAny_mono (ht [] s1 (start N vs) H _ I hq) (fun fl s' hs => ?_) fun e s' hs => hs
  have fin : ∀ {σ' : St} {H' : Hp} {v : V} {u : Value}, Inv (cxOf CX P w K mg base N qual scope f cdv A outer s H E) [] σ' H' s' → RelV v u → Q v H' → CE outer P w H s Q u s' :=
    fun {σ' H' v u} J rv q => ⟨v, H', J.os, J.bare, J.base, J.hok, rv, q⟩
  cases fl with
  | ret u =>
    obtain ⟨v, σ', H', J, rv, q⟩ := hs
    exact fin J rv q
  | next =>
    obtain ⟨σ', H', J, q⟩ := hs
    exact fin (v := V.non) (u := Value.none) J rfl q
  | brk =>
    obtain ⟨_, _, _, q⟩ := hs
    exact False.elim q
  | cont =>
    obtain ⟨_, _, _, q⟩ := hs
    exact False.elim q
end L2

namespace L2
open PySem PySem.Spec PyProof.Rows
section
variable {X : Cx} {x : Str} {p pos : Pos} {e : Expr} {es : List Expr} {t : TA} {id T : String} {r : List V → Hp → VK → Prop}

def tCB (r : List V → Hp → VK → Prop) (t : TA) : TE := fun σ H Q => t σ H fun vs H1 => r vs H1 Q
theorem pe_callB (hc : CallR X (.builtin id) r) (hg : Gl X x) (hm : X.mg x = none) (hv : bootBuiltins x = some (.builtin id)) (ha : PA X (e :: es) t) (hn : x ≠ "__name__" := by decide) (hdb : (x == ("__debug__" : Str)) = false := by decide)
    (he : starEach (e :: es) X.env = (false, eval e X.env) :: starEach es X.env := by rfl) (hpl : (backTo pos (starEach es X.env)).any (·.1) = false := by rfl) : PE X (.Call (.Name x p) (e :: es) [] pos) (tCB r t) := by
  intro pins s σ H Q I h
  refine wpAny_Call_Name_kw (ld_blt I hg hm hv ?_ hn hdb)
  exact PyProof.Rows.callWith_builtin1 (thn (ha pos pins s σ H _ I h) fun us s1 ⟨vs, H1, I1, r1, q1⟩ => hc pins s1 σ H1 vs us Q I1 r1 q1) he hpl
theorem pe_callTy (hc : CallR X (.type T) r) (hg : Gl X x) (hm : X.mg x = none) (hv : bootBuiltins x = some (.type T)) (ha : PA X (e :: es) t) (hn : x ≠ "__name__" := by decide) (hdb : (x == ("__debug__" : Str)) = false := by decide)
    (he : starEach (e :: es) X.env = (false, eval e X.env) :: starEach es X.env := by rfl) (hpl : (backTo pos (starEach es X.env)).any (·.1) = false := by rfl) : PE X (.Call (.Name x p) (e :: es) [] pos) (tCB r t) := by
  intro pins s σ H Q I h
  refine wpAny_Call_Name_kw (ld_blt I hg hm hv ?_ hn hdb)
  exact PyProof.Rows.callWith_type1 (thn (ha pos pins s σ H _ I h) fun us s1 ⟨vs, H1, I1, r1, q1⟩ => hc pins s1 σ H1 vs us Q I1 r1 q1) he hpl
end
end L2

namespace HT
open PySem PyProof.Rows


section
variable {prog : Program} {w : World} {A : Around} {E : Value → Shared → Prop} {s : Shared}

/-! ### t[a:b], not the whole -/
def sIx (n d : Nat) : Option Int → Nat
  | none => d
  | some v => if v < 0 then (v + (n : Int)).toNat else min v.toNat n
end
end HT

namespace L2
open PySem PySem.Spec PyProof.Rows

/-! ### the parts of a slice -/
abbrev TO := St → Hp → (Option Int → Hp → Prop) → Prop
def PO (X : Cx) (e : Option Expr) (t : TO) : Prop :=
  ∀ (pins : List (Addr × Obj)) (s : Shared) (σ : St) (H : Hp) (Q : Option Int → Hp → Prop), Inv X pins σ H s → t σ H Q →
    wpAny (model X.prog X.w) X.A (evalPart e X.env) (fun u s' => ∃ o H', Inv X pins σ H' s' ∧ IsPart u o ∧ Q o H') X.xe s
def tNoPart : TO := fun _ H Q => Q none H
def tPart (t : TE) : TO := fun σ H Q => t σ H fun x H1 => ∃ i, x = .int i ∧ Q (some i) H1

section
variable {X : Cx} {e : Expr} {te : TE} {lo hi : Option Expr} {tl th : TO} {pos p2 : Pos}

theorem po_none : PO X none tNoPart := by
  intro pins s σ H Q I h
  rw [evalPart_none]
  exact wpAny_pure ⟨none, H, I, .none, h⟩
theorem po_some (h : PE X e te) : PO X (some e) (tPart te) := by
  intro pins s σ H Q I hw
  rw [evalPart_some]
  refine thn (h pins s σ H _ I hw) fun u s1 ⟨x, H1, I1, r1, q1⟩ => ?_
  obtain ⟨i, rfl, q⟩ := q1
  obtain ⟨t, rfl⟩ := r1
  exact ⟨some i, H1, I1, .int i t, q⟩

def SlR (X : Cx) (r : V → Option Int → Option Int → Hp → VK → Prop) : Prop :=
  ∀ (pins : List (Addr × Obj)) (s : Shared) (σ : St) (H : Hp) (x : V) (v vl vu : Value) (lo hi : Option Int) (sl : Addr) (Q : VK), Inv X pins σ H s → RelV x v → s.heap.IsSliceOf sl vl vu .none → IsPart vl lo → IsPart vu hi → r x lo hi H Q →
    ∃ T id, typeLookup (.type T) "__getitem__" = pure (some (.builtin id)) ∧ s.TypeIs v T ∧ wpAny (model X.prog X.w) X.A (getItem v (.ref sl)) (EP X pins σ Q) X.xe s
def tSl (r : V → Option Int → Option Int → Hp → VK → Prop) (te : TE) (tl th : TO) : TE := fun σ H Q => te σ H fun x H1 => tl σ H1 fun l H2 => th σ H2 fun u H3 => r x l u H3 Q
theorem pe_slice {r : V → Option Int → Option Int → Hp → VK → Prop} (hr : SlR X r) (he : PE X e te) (hl : PO X lo tl) (hu : PO X hi th) : PE X (.Subscript e (.Slice lo hi none p2) pos) (tSl r te tl th) := by
  intro pins s σ H Q I h
  refine Subscript_ (thn (he pins s σ H _ I h) fun v s1 ⟨x, H1, I1, r1, q1⟩ => ?_)
  refine wpAny_Slice (thn (hl pins s1 σ H1 _ I1 q1) fun vl s2 ⟨l, H2, I2, pl, q2⟩ => thn (hu pins s2 σ H2 _ I2 q2) fun vu s3 ⟨u, H3, I3, pu, q3⟩ => ?_)
  rw [evalPart_none]
  refine wpAny_pure ?_
  have I4 : Inv X pins σ H3 { s3 with heap := s3.heap.push { cls := .type "slice", data := .fields #[vl, vu, .none] } } := I3.kept (t' := s3.toks) fun b ob q => Heap.get?_push_of_some _ q
  obtain ⟨T, id, hT, ht, hg⟩ := hr pins { s3 with heap := s3.heap.push { cls := .type "slice", data := .fields #[vl, vu, .none] } } σ H3 x v vl vu l u s3.heap.objs.size Q I4 r1 (Heap.IsSliceOf.new ..) pl pu q3
  show wpAny (model X.prog X.w) X.A (subscriptTail e (.Slice lo hi none p2) v (.ref s3.heap.objs.size)) (EP X pins σ Q) X.xe { s3 with heap := s3.heap.push { cls := .type "slice", data := .fields #[vl, vu, .none] } }
  exact tail_any (ops := [.ref s3.heap.objs.size, v]) ht hT hg (by with_unfolding_all rfl)

def cutV (xs : List V) (lo hi : Option Int) : List V := (xs.drop (HT.sIx xs.length 0 lo)).take (HT.sIx xs.length xs.length hi - HT.sIx xs.length 0 lo)
theorem cutV_length (xs : List V) (lo hi : Option Int) : (cutV xs lo hi).length ≤ xs.length := by
  unfold cutV
  rw [List.length_take, List.length_drop]
  omega
/-! ### t < u, t + u -/
end
end L2

namespace L2
open PySem PySem.Spec PyProof.Rows

/-! ### places -/
def ixN (n : Nat) (i : Int) : Option Nat := if 0 ≤ i then (if i < n then some i.toNat else none) else if -(n : Int) ≤ i then some (i + n).toNat else none
def atI {α : Type} (xs : List α) (i : Int) : Option α := (ixN xs.length i).bind fun j => xs[j]?
theorem ixN_seq {n : Nat} {i : Int} {j : Nat} (h : ixN n i = some j) : seqIndex? i n = some j ∧ j < n ∧ -(n : Int) ≤ i ∧ i < n := by
  unfold ixN at h
  by_cases h0 : 0 ≤ i
  · rw [if_pos h0] at h
    by_cases h1 : i < n
    · rw [if_pos h1] at h
      have e : i.toNat = j := Option.some.inj h
      exact ⟨by rw [seqIndex_of h0 h1, e], by omega, by omega, h1⟩
    · rw [if_neg h1] at h; cases h
  · rw [if_neg h0] at h
    by_cases h1 : -(n : Int) ≤ i
    · rw [if_pos h1] at h
      have e : (i + n).toNat = j := Option.some.inj h
      exact ⟨by rw [seqIndex_neg (by omega) h1, e], by omega, h1, by omega⟩
    · rw [if_neg h1] at h; cases h
theorem atI_get {α : Type} {xs : List α} {i : Int} {v : α} (h : atI xs i = some v) : ∃ j, seqIndex? i xs.length = some j ∧ xs[j]? = some v ∧ j < xs.length ∧ -(xs.length : Int) ≤ i ∧ i < xs.length := by
  unfold atI at h
  cases e : ixN xs.length i with
  | none => rw [e] at h; cases h
  | some j =>
    rw [e] at h
    obtain ⟨h1, h2, h3, h4⟩ := ixN_seq e
    exact ⟨j, h1, h, h2, h3, h4⟩
theorem atI_nat {α : Type} {xs : List α} {j : Nat} {v : α} (h : xs[j]? = some v) : atI xs (j : Int) = some v := by
  have hj : j < xs.length := (List.getElem?_eq_some_iff.mp h).1
  have e : ixN xs.length (j : Int) = some j := by
    unfold ixN
    rw [if_pos (by omega), if_pos (by omega)]; simp
  unfold atI; rw [e]; exact h
/-! ### what may be subscripted -/
def PlainIx (b : Expr) : Prop := ∀ o i, subscripted b false o i = operate [o, i] (getItem o i)
def IxR (X : Cx) (r : R2) : Prop :=
  ∀ (value slice : Expr) (pins : List (Addr × Obj)) (s : Shared) (σ : St) (H : Hp) (x y : V) (v u : Value) (Q : VK), Inv X pins σ H s → RelV x v → RelV y u → r x y H Q →
    subscripted slice false v u = operate [v, u] (getItem v u) → wpAny (model X.prog X.w) X.A (subscriptTail value slice v u) (EP X pins σ Q) X.xe s
def MtR (X : Cx) (id : String) (r : V → List V → Hp → VK → Prop) : Prop :=
  ∀ (pins : List (Addr × Obj)) (s : Shared) (σ : St) (H : Hp) (x : V) (xs : List V) (v : Value) (us : List Value) (Q : VK), Inv X pins σ H s → RelV x v → Vals xs us → r x xs H Q →
    wpAny (model X.prog X.w) X.A (call (.builtin id) (v :: us)) (EP X pins σ Q) X.xe s
section
variable {X : Cx} {a b : Expr} {ta tb : TE} {pos : Pos}
theorem pe_ix {r : R2} (hr : IxR X r) (ha : PE X a ta) (hb : PE X b tb) (hs : PlainIx b) : PE X (.Subscript a b pos) (tOp r ta tb) := by
  intro pins s σ H Q I h
  exact Subscript_ (binT ha hb I h fun v u s2 x y H2 I2 rx ry q => hr a b pins s2 σ H2 x y v u Q I2 rx ry q (hs _ _))

def rIxL (K : PySem.W.Frag) : R2 := fun x y H Q => ∃ p xs i v, x = .ref p ∧ y = .int i ∧ SqL K H p xs ∧ atI xs i = some v ∧ Q v H
theorem ix_list : IxR X (rIxL X.K) := by
  intro value slice pins s σ H x y v u Q I rx ry h hs
  obtain ⟨p, xs, i, z, rfl, rfl, hq, he, q⟩ := h
  cases rx
  obtain ⟨t, rfl⟩ := ry
  obtain ⟨its, r, pl, hz⟩ := I.list hq
  obtain ⟨j, h1, h2, h3, h4, h5⟩ := atI_get he
  obtain ⟨w, ew, rw'⟩ := r.get h2
  have hl := r.length
  have hn := line63
  have fin : EP X pins σ Q w s := ⟨z, H, I, rw', q⟩
  by_cases h0 : 0 ≤ i
  · have hj : i.toNat = j := by
      rw [seqIndex_of h0 h5] at h1
      exact Option.some.inj h1
    exact item_listR pl.isList h0 (by omega) (by rw [hj]; simpa using ew) fin hs
  · have hj : (i + (its.toArray.size : Int)).toNat = j := by
      rw [seqIndex_neg (by omega) h4] at h1
      rw [List.size_toArray, ← hl]
      exact Option.some.inj h1
    exact subscriptTail_builtinR (x := w) pl.isList.typeIs slot_list_getitem.lookup
      (wpAny_getItem_list_neg (Q := fun r s' => r = w ∧ EP X pins σ Q r s') pl.isList (by omega) (by rw [List.size_toArray] <;> omega) (by omega) (by rw [hj]; simpa using ew) ⟨rfl, fin⟩) hs
/-! ### xs[i] = v, any sign -/
theorem mapSeq_set (its : List Value) (n j : Nat) (u : Value) : Obj.mapSeq (·.setIfInBounds j u) { cls := .type "list", data := .seq its.toArray n } = { cls := .type "list", data := .seq (its.set j u).toArray n } := by
  simp [Obj.mapSeq]
theorem Inv.lst {pins : List (Addr × Obj)} {σ : St} {H : Hp} {s : Shared} {p : Addr} {xs : List V} (I : Inv X pins σ H s) (h : H p = some (.lst xs)) :
    ∃ (its : List Value) (n : Nat), Vals xs its ∧ s.heap.get? p = some { cls := .type "list", data := .seq its.toArray n } ∧ xs.length ≤ sizeLine := by
  obtain ⟨z, its, n, r, e⟩ := I.hok p _ h
  exact ⟨its, n, r, e, z⟩
theorem Inv.lstUpd {pins : List (Addr × Obj)} {σ : St} {H : Hp} {s : Shared} {p : Addr} {xs ys : List V} {its its' : List Value} {n n' : Nat} {f : Obj → Obj} (I : Inv X pins σ H s) (h : H p = some (.lst xs))
    (ho : s.heap.get? p = some { cls := .type "list", data := .seq its.toArray n }) (hf : f { cls := .type "list", data := .seq its.toArray n } = { cls := .type "list", data := .seq its'.toArray n' }) (r : Vals ys its') (hz : ys.length ≤ sizeLine) (t : Nat) :
    Inv X pins σ (upd H p (.lst ys)) { s with heap := s.heap.update p f, toks := t } := by
  have e : (s.heap.update p f).get? p = some { cls := .type "list", data := .seq its'.toArray n' } := by
    rw [Heap.get?_update_self f ho (by rw [hf] <;> rfl), hf]
  refine I.write (x := p) (e := p) (by rw [h]; trivial) (.inl rfl) (fun b u hb q => (Heap.get?_update_other _ _ (Ne.symm hb)).trans q) ⟨_, e⟩ ?_
  exact ⟨hz, its', n', r, e⟩
def rSetL : V → V → V → Hp → (Hp → Prop) → Prop := fun o i v H Q => ∃ p xs k j, o = .ref p ∧ i = .int k ∧ H p = some (.lst xs) ∧ ixN xs.length k = some j ∧ Q (upd H p (.lst (xs.set j v)))
theorem set_list : PSet X rSetL := by
  intro pins s σ H o i v ov iv u Q I ro ri rv h
  obtain ⟨p, xs, k, j, rfl, rfl, hp, hj, q⟩ := h
  cases ro
  obtain ⟨t, rfl⟩ := ri
  obtain ⟨its, n, r, ho, hz⟩ := I.lst hp
  obtain ⟨h1, h2, h3, h4⟩ := ixN_seq hj
  have hl := r.length
  have hn := line63
  have I' : Inv X pins σ (upd H p (.lst (xs.set j v))) { s with heap := s.heap.update p (Obj.mapSeq (·.setIfInBounds j u)) } :=
    I.lstUpd hp ho (mapSeq_set its n j u) (r.set rv j) (by rw [List.length_set]; exact hz) s.toks
  by_cases h0 : 0 ≤ k
  · have hk : k.toNat = j := by
      rw [seqIndex_of h0 h4] at h1
      exact Option.some.inj h1
    exact PySem.W.ki_setAt ho h0 (by omega) (by rw [List.size_toArray, ← hl]; exact h4) (by rw [hk]; exact ⟨_, I', q⟩)
  · have hk : (k + (its.toArray.size : Int)).toNat = j := by
      rw [seqIndex_neg (by omega) h3] at h1
      rw [List.size_toArray, ← hl]
      exact Option.some.inj h1
    exact PySem.W.ki_setBack ho (by omega) (by rw [List.size_toArray, ← hl]; exact h3) (by omega) (by rw [hk]; exact ⟨_, I', q⟩)

/-! ### slices -/
theorem slice_bounds (lo hi : Option Int) (n : Nat) : (sliceBounds lo hi none n).1 = ((HT.sIx n 0 lo : Nat) : Int) ∧ (sliceBounds lo hi none n).2.1 = ((HT.sIx n n hi : Nat) : Int) ∧ (sliceBounds lo hi none n).2.2 = 1 := by
  refine ⟨?_, ?_, rfl⟩
  · cases lo with
    | none => simp [sliceBounds, HT.sIx]
    | some i =>
      simp only [sliceBounds, HT.sIx, Option.getD_none, show (1 : Int) > 0 by decide, if_true]
      by_cases h : i < 0
      · simp only [h, if_true] <;> omega
      · simp only [h, if_false] <;> omega
  · cases hi with
    | none => simp [sliceBounds, HT.sIx]
    | some i =>
      simp only [sliceBounds, HT.sIx, Option.getD_none, show (1 : Int) > 0 by decide, if_true]
      by_cases h : i < 0
      · simp only [h, if_true] <;> omega
      · simp only [h, if_false] <;> omega
theorem slicePick_cut (its : List Value) (lo hi : Option Int) : slicePick its.toArray lo hi none = ((its.drop (HT.sIx its.length 0 lo)).take (HT.sIx its.length its.length hi - HT.sIx its.length 0 lo)).toArray := by
  obtain ⟨h1, h2, h3⟩ := slice_bounds lo hi its.toArray.size
  unfold slicePick
  rw [h1, h2, h3]
  simp only [sliceRange_one, pick_run, List.size_toArray] <;> rfl
def rSlL (K : PySem.W.Frag) : V → Option Int → Option Int → Hp → VK → Prop := fun x lo hi H Q => ∃ a xs, x = .ref a ∧ SqL K H a xs ∧ ∀ p, H p = none → Q (.ref p) (upd H p (.lst (cutV xs lo hi)))
theorem sl_list : SlR X (rSlL X.K) := by
  intro pins s σ H x v vl vu lo hi sl Q I rx hs pl pu h
  obtain ⟨a, xs, rfl, hx, q⟩ := h
  cases rx
  obtain ⟨its, r, ht, hz⟩ := I.list hx
  have hlen := r.length
  refine ⟨"list", _, slot_list_getitem.lookup, ht.isList.typeIs, ?_⟩
  refine wpAny_getItem_list_slice ht.isList hs pl pu .none (by simp) ?_ (by rw [List.size_toArray] <;> omega)
  rw [slicePick_cut, ← hlen]
  refine ⟨.ref s.heap.objs.size, _, I.laid (t' := s.toks) (o := .lst (cutV xs lo hi)) (fun b ob q => Heap.get?_push_of_some _ q) (Nat.le_refl _) ?_, rfl, q _ (I.hok.fresh (Nat.le_refl _))⟩
  exact ⟨Nat.le_trans (cutV_length xs lo hi) hz, _, 0, (r.drop (HT.sIx xs.length 0 lo)).take (HT.sIx xs.length xs.length hi - HT.sIx xs.length 0 lo), Heap.get?_push_size _ rfl⟩

/-! ### in, not in: flat items -/
def flatV : V → Bool
  | .non => true
  | .bl _ => true
  | .int _ => true
  | .str _ => true
  | _ => false
def eqV : V → V → Bool
  | .non, .non => true
  | .bl a, .bl b => a == b
  | .bl a, .int b => (if a then 1 else 0) == b
  | .int a, .bl b => a == (if b then 1 else 0)
  | .int a, .int b => a == b
  | .str a, .str b => a == b
  | _, _ => false
theorem eqAt_V {A : Around} {s : Shared} {y x : V} {u v : Value} (ry : RelV y u) (rx : RelV x v) (fy : flatV y = true) (fx : flatV x = true) : SeqAt.EqAt A s u v (eqV y x) := by
  cases y with
  | non =>
    cases ry
    cases x with
    | non => cases rx; exact SeqAt.EqAt.same _
    | bl b => cases rx; exact SeqAt.EqAt.none_bool b
    | int b => obtain ⟨t, rfl⟩ := rx; exact SeqAt.EqAt.none_int b t
    | str b => obtain ⟨t, rfl⟩ := rx; exact SeqAt.EqAt.none_str b t
    | _ => exact absurd (show false = true from fx) Bool.false_ne_true
  | bl a =>
    cases ry
    cases x with
    | non => cases rx; exact SeqAt.EqAt.bool_none a
    | bl b => cases rx; exact SeqAt.EqAt.bool_bool a b
    | int b => obtain ⟨t, rfl⟩ := rx; exact SeqAt.EqAt.bool_int a b t
    | str b => obtain ⟨t, rfl⟩ := rx; exact SeqAt.EqAt.bool_str a b t
    | _ => exact absurd (show false = true from fx) Bool.false_ne_true
  | int a =>
    obtain ⟨t', rfl⟩ := ry
    cases x with
    | non => cases rx; exact SeqAt.EqAt.int_none a t'
    | bl b => cases rx; exact SeqAt.EqAt.int_bool a t' b
    | int b => obtain ⟨t, rfl⟩ := rx; exact SeqAt.EqAt.int_int a t' b t
    | str b => obtain ⟨t, rfl⟩ := rx; exact SeqAt.EqAt.int_str a t' b t
    | _ => exact absurd (show false = true from fx) Bool.false_ne_true
  | str a =>
    obtain ⟨t', rfl⟩ := ry
    cases x with
    | non => cases rx; exact SeqAt.EqAt.str_none a t'
    | bl b => cases rx; exact SeqAt.EqAt.str_bool a t' b
    | int b => obtain ⟨t, rfl⟩ := rx; exact SeqAt.EqAt.str_int a t' b t
    | str b => obtain ⟨t, rfl⟩ := rx; exact SeqAt.EqAt.str_str a t' b t
    | _ => exact absurd (show false = true from fx) Bool.false_ne_true
  | _ => exact absurd (show false = true from fy) Bool.false_ne_true
def eqU (x : V) (u : Value) : Bool := match u with
  | .none => eqV .non x
  | .bool b => eqV (.bl b) x
  | .int i _ => eqV (.int i) x
  | .str z _ => eqV (.str z) x
  | _ => false
theorem eqU_of {x y : V} {u : Value} (r : RelV y u) (f : flatV y = true) : eqU x u = eqV y x := by
  cases y with
  | non => cases r; rfl
  | bl b => cases r; rfl
  | int i => obtain ⟨t, rfl⟩ := r; rfl
  | str z => obtain ⟨t, rfl⟩ := r; rfl
  | _ => exact absurd (show false = true from f) Bool.false_ne_true
theorem any_eqU {x : V} : ∀ {xs : List V} {us : List Value}, Vals xs us → xs.all flatV = true → us.any (eqU x) = xs.any fun y => eqV y x
  | _, _, .nil, _ => rfl
  | y :: xs, u :: us, .cons r t, f => by
    rw [List.all_cons, Bool.and_eq_true] at f
    rw [List.any_cons, List.any_cons, eqU_of r f.1, any_eqU t f.2]
theorem mem_eqAt {A : Around} {s : Shared} {x : V} {v : Value} (rx : RelV x v) (fx : flatV x = true) : ∀ {xs : List V} {us : List Value}, Vals xs us → xs.all flatV = true → ∀ u ∈ us, SeqAt.EqAt A s u v (eqU x u)
  | _, _, .nil, _ => fun u hu => by cases hu
  | y :: xs, u :: us, .cons r t, f => fun u' hu => by
    rw [List.all_cons, Bool.and_eq_true] at f
    rcases List.mem_cons.mp hu with rfl | hu
    · rw [eqU_of r f.1]; exact eqAt_V r rx f.1 fx
    · exact mem_eqAt rx fx t f.2 u' hu
def inV (x : V) (xs : List V) : Bool := xs.any fun y => eqV y x
def rIn (K : PySem.W.Frag) (neg : Bool) : R2 := fun x y H Q => ∃ p xs, y = .ref p ∧ (SqL K H p xs ∨ SqT K H p xs) ∧ flatV x = true ∧ xs.all flatV = true ∧ Q (.bl (if neg then !inV x xs else inV x xs)) H
theorem op_in_seq : OpR X (compareOp .In) (rIn X.K false) := by
  intro pins s σ H x y v u Q I rx ry h
  obtain ⟨p, xs, rfl, hq, fx, fs, q⟩ := h
  cases ry
  rcases hq with hq | hq
  · obtain ⟨its, r, pl, hz⟩ := I.list hq
    refine SeqAt.in_listAt (eqU x) pl.isList (fun w hw => mem_eqAt rx fx r fs w (by simpa using hw)) ⟨.bl _, H, I, rfl, ?_⟩
    rw [show its.toArray.any (eqU x) = its.any (eqU x) by simp, any_eqU r fs]
    exact q
  · obtain ⟨its, r, pl, hz⟩ := I.tuple hq
    refine SeqAt.in_tupleAt (eqU x) pl (fun w hw => mem_eqAt rx fx r fs w (by simpa using hw)) ⟨.bl _, H, I, rfl, ?_⟩
    rw [show its.toArray.any (eqU x) = its.any (eqU x) by simp, any_eqU r fs]
    exact q
/-! ### len, list(x), tuple(x) of any list or tuple that is read -/
theorem call_len_seq : CallR X (.builtin "len") (fun xs H Q => ∃ p ys, xs = [.ref p] ∧ (SqL X.K H p ys ∨ SqT X.K H p ys) ∧ Q (.int ys.length) H) := by
  intro pins s σ H xs us Q I r h
  obtain ⟨p, ys, rfl, hq, q⟩ := h
  obtain ⟨u, rfl, rx⟩ := vals1 r
  cases rx
  have hn := line63
  rcases hq with hq | hq
  · obtain ⟨its, r', pl, hz⟩ := I.list hq
    have hlen := r'.length
    exact Calls.call_len_list pl.isList (by simp only [List.size_toArray] <;> omega) ⟨.int ys.length, H, I.tok _, ⟨s.toks + 1, by rw [List.size_toArray, hlen]⟩, q⟩
  · obtain ⟨its, r', pl, hz⟩ := I.tuple hq
    have hlen := r'.length
    exact len_tuple pl (by simp only [List.size_toArray] <;> omega) ⟨.int ys.length, H, I.tok _, ⟨s.toks + 1, by rw [List.size_toArray, hlen]⟩, q⟩
theorem call_list_of : CallR X (.type "list") (fun xs H Q => ∃ p ys, xs = [.ref p] ∧ (SqL X.K H p ys ∨ SqT X.K H p ys) ∧ ∀ l, H l = none → Q (.ref l) (upd H l (.lst ys))) := by
  intro pins s σ H xs us Q I r h
  obtain ⟨p, ys, rfl, hq, q⟩ := h
  obtain ⟨u, rfl, rx⟩ := vals1 r
  cases rx
  have fin : ∀ (its : List Value), Vals ys its → ys.length ≤ sizeLine → ∀ (h' : Heap) (c' : Nat), (∀ b o', s.heap.get? b = some o' → h'.get? b = some o') →
      h'.get? s.heap.objs.size = some { cls := .type "list", dict := none, data := .seq its.toArray c', slots := #[] } → EP X pins σ Q (.ref s.heap.objs.size) { s with heap := h' } := fun its r' hz h' c' kp e =>
    ⟨.ref s.heap.objs.size, _, I.laid (t' := s.toks) kp (Nat.le_refl _) (show ObjOk X.prog X.w _ h' _ (.lst ys) from ⟨hz, its, c', r', e⟩), rfl, q _ (I.hok.fresh (Nat.le_refl _))⟩
  rcases hq with hq | hq
  · obtain ⟨its, r', pl, hz⟩ := I.list hq
    have hlen := r'.length
    obtain ⟨o, ho, hc, n, hd⟩ := pl.isList
    exact call_list_seq p (.inl rfl) ho hc hd (fun h' c' kp e => fin its r' hz h' c' kp e) (by simp only [List.size_toArray] <;> omega)
  · obtain ⟨its, r', pl, hz⟩ := I.tuple hq
    have hlen := r'.length
    obtain ⟨o, ho, hc, n, hd⟩ := pl
    exact call_list_seq p (.inr rfl) ho hc hd (fun h' c' kp e => fin its r' hz h' c' kp e) (by simp only [List.size_toArray] <;> omega)
/-! ### the call of a builtin's method: o.m(..) -/
def tyV (K : PySem.W.Frag) (T : String) (x : V) (H : Hp) : Prop := match x with
  | .str _ => T = "str"
  | .int _ => T = "int"
  | .ref p => (T = "list" ∧ ∃ xs, SqL K H p xs) ∨ (T = "tuple" ∧ ∃ o, K.lookup p = some o ∧ o.cls = .type "tuple" ∧ o.dict = none) ∨
      (T = "dict" ∧ ((∃ kvs, H p = some (.dK kvs)) ∨ ∃ kvs, H p = some (.dT kvs))) ∨ (T = "set" ∧ ∃ S n, H p = some (.set S n))
  | _ => False
theorem tyV_is {pins : List (Addr × Obj)} {σ : St} {H : Hp} {s : Shared} {T : String} {x : V} {v : Value} (I : Inv X pins σ H s) (r : RelV x v) (ty : tyV X.K T x H) :
    s.TypeIs v T ∧ ∀ a, v = .ref a → ∃ ob, s.heap.get? a = some ob ∧ ob.dict = none := by
  cases x with
  | str z =>
    obtain ⟨t, rfl⟩ := r
    cases (show T = "str" from ty)
    exact ⟨typeIs_str s z t, fun _ e => nomatch e⟩
  | int i =>
    obtain ⟨t, rfl⟩ := r
    cases (show T = "int" from ty)
    exact ⟨typeIs_int s i t, fun _ e => nomatch e⟩
  | ref p =>
    cases r
    rcases ty with ⟨rfl, xs, hq⟩ | ⟨rfl, o, hk, hc, hd⟩ | ⟨rfl, hk⟩ | ⟨rfl, S, n, hk⟩
    · obtain ⟨its, _, pl, _⟩ := I.list hq
      refine ⟨pl.isList.typeIs, fun a e => ?_⟩
      cases e
      obtain ⟨o, n, e, c, hd, _⟩ := pl
      exact ⟨o, e, hd⟩
    · refine ⟨⟨o, I.kIn p o hk, hc⟩, fun a e => ?_⟩
      cases e
      exact ⟨o, I.kIn _ o hk, hd⟩
    · have z : ∃ o, s.heap.get? p = some o ∧ o.ExactDict := by
        rcases hk with ⟨kvs, hk⟩ | ⟨kvs, hk⟩
        · obtain ⟨_, _, _, _, o, _, _, e, ex, _⟩ := I.hok p _ hk
          exact ⟨o, e, ex⟩
        · obtain ⟨_, _, _, _, o, _, _, e, ex, _⟩ := I.hok p _ hk
          exact ⟨o, e, ex⟩
      obtain ⟨o, e, ex⟩ := z
      refine ⟨⟨o, e, ex.1⟩, fun a e2 => ?_⟩
      cases e2
      exact ⟨o, e, ex.2.1⟩
    · obtain ⟨o, _, _, _, e, ex, _⟩ := I.hok p _ hk
      refine ⟨⟨o, e, ex.1⟩, fun a e2 => ?_⟩
      cases e2
      exact ⟨o, e, ex.2.1⟩
  | _ => exact False.elim ty
def tBM (K : PySem.W.Frag) (T : String) (r : V → List V → Hp → VK → Prop) (to : TE) (t : TA) : TE := fun σ H Q => to σ H fun x H1 => tyV K T x H1 ∧ t σ H1 fun xs H2 => r x xs H2 Q
variable {o e : Expr} {es : List Expr} {to : TE} {t : TA} {name : Str} {apos cpos : Pos} {T id : String} {r : V → List V → Hp → VK → Prop}
theorem pe_bm (pa : PlainAttrs T) (slot : Slot T name id) (hty : typeOf (.builtin id) = pure (.type "method_descriptor")) (hm : MtR X id r) (ho : PE X o to) (ha : PA X (e :: es) t)
    (hbase : attributeBase o name X.env (eval o X.env) = eval o X.env := by rfl)
    (hfew : ((backTo cpos (starEach (e :: es) X.env)).all (fun x => !x.1) && (backToKw cpos (keywordEach [] X.env)).all (fun x => x.1.isSome)
      && decide ((e :: es).length + ([] : List Keyword).length + (if ([] : List Keyword).isEmpty then 0 else 1) < 30)) = true := by rfl)
    (hline : (apos.endLine == cpos.line) = true := by rfl) (hs : starEach (e :: es) X.env = (false, eval e X.env) :: starEach es X.env := by rfl) (hplain : (backTo cpos (starEach es X.env)).any (·.1) = false := by rfl) :
    PE X (.Call (.Attribute o name apos) (e :: es) [] cpos) (tBM X.K T r to t) := by
  intro pins s σ H Q I h
  refine wpAny_Call_method_late hbase hfew hline rfl (thn (ho pins s σ H _ I h) fun v s1 ⟨x, H1, I1, r1, ty, q1⟩ => ?_)
  obtain ⟨h1, h2⟩ := tyV_is I1 r1 ty
  refine ⟨T, id, pa, slot, hty, h1, h2, ?_⟩
  have hA := ha cpos pins s1 σ H1 _ I1 q1
  rw [hs] at hA ⊢
  refine Calls.callWith_builtin (by show (false || (backTo cpos (starEach es X.env)).any (·.1)) = false; rw [hplain] <;> rfl) (Calls.evalArgs_plain ?_)
  exact thn hA fun us s2 ⟨vs, H2, I2, r2, q2⟩ => hm pins s2 σ H2 x vs v us Q I2 r1 r2 q2
/- xs.append(e), list.index on a module's tuple .. are MtR facts of 06m -/
end
end L2

namespace L2
open PySem PySem.Spec PyProof.Rows

def MtM (X : Cx) (id : String) (r : V → List V → Hp → VK → Prop) : Prop :=
  ∀ (pins : List (Addr × Obj)) (s : Shared) (σ : St) (H : Hp) (x : V) (xs : List V) (v : Value) (us : List Value) (Q : VK), Inv X pins σ H s → RelV x v → Vals xs us → r x xs H Q →
    wpAny (model X.prog X.w) X.A (call (.builtin id) (v :: us)) (EP X pins σ Q) X.xe s

/-! ### lists of values -/
theorem Vals.one : ∀ {x : V} {us : List Value}, Vals [x] us → ∃ u, us = [u] ∧ RelV x u
  | _, _, .cons r .nil => ⟨_, rfl, r⟩
theorem Vals.two : ∀ {x y : V} {us : List Value}, Vals [x, y] us → ∃ u v, us = [u, v] ∧ RelV x u ∧ RelV y v
  | _, _, _, .cons r (.cons q .nil) => ⟨_, _, rfl, r, q⟩
theorem Vals.rep {xs : List V} {us : List Value} (h : Vals xs us) : ∀ k : Nat, Vals (List.replicate k xs).flatten (List.replicate k us).flatten
  | 0 => .nil
  | k + 1 => by
    rw [List.replicate_succ, List.replicate_succ, List.flatten_cons, List.flatten_cons]
    exact Vals.append h (Vals.rep h k)
theorem foldl_rep (its : List Value) : ∀ (k : Nat) (acc : List Value),
    List.foldl (fun x1 x2 => x1 ++ x2) acc.toArray (List.replicate k its.toArray) = (acc ++ (List.replicate k its).flatten).toArray
  | 0, acc => by simp
  | k + 1, acc => by
    have e : acc.toArray ++ its.toArray = (acc ++ its).toArray := by simp
    have e2 : (acc ++ its) ++ (List.replicate k its).flatten = acc ++ (List.replicate (k + 1) its).flatten := by
      rw [List.replicate_succ, List.flatten_cons, List.append_assoc]
    rw [← e2, ← foldl_rep its k (acc ++ its), ← e, List.replicate_succ, List.foldl_cons]

section
variable {X : Cx} {pins : List (Addr × Obj)} {σ : St} {H : Hp} {s : Shared} {l b : Addr} {xs ys zs : List V}

/-! ### the two steps: a tracked list is rewritten, a new list is laid -/
theorem Inv.lset {its its' : List Value} {n : Nat} {f : Array Value → Array Value} {t' : Nat} (I : Inv X pins σ H s) (hH : H l = some (.lst xs))
    (e : s.heap.get? l = some { cls := .type "list", data := .seq its.toArray n }) (hf : f its.toArray = its'.toArray) (hv : Vals ys its') (hz : ys.length ≤ sizeLine) :
    Inv X pins σ (upd H l (.lst ys)) { s with heap := s.heap.update l (Obj.mapSeq f), toks := t' } := by
  have q := PySem.IsL.update e f
  rw [hf] at q
  refine I.write (x := l) (e := l) (by rw [hH]; exact trivial) (.inl rfl) (fun b' u hb hu => (Heap.get?_update_other s.heap (Obj.mapSeq f) (Ne.symm hb)).trans hu) ⟨_, q⟩ ?_
  exact ⟨hz, its', _, hv, q⟩
theorem Inv.lnew {its : List Value} {t' : Nat} (I : Inv X pins σ H s) (hv : Vals ys its) (hz : ys.length ≤ sizeLine) :
    Inv X pins σ (upd H s.heap.objs.size (.lst ys)) { s with heap := s.heap.push { cls := .type "list", data := .seq its.toArray }, toks := t' } :=
  I.laid (fun _ _ q => Heap.get?_push_of_some _ q) (Nat.le_refl _) ⟨hz, its, 0, hv, Heap.get?_push_size _ rfl⟩
theorem Inv.fresh (I : Inv X pins σ H s) : H s.heap.objs.size = none := I.hok.fresh (Nat.le_refl _)
theorem Inv.lstM (I : Inv X pins σ H s) (hH : H l = some (.lst xs)) : xs.length ≤ sizeLine ∧ ∃ (its : List Value) (n : Nat), Vals xs its ∧ xs.length = its.length ∧ s.heap.get? l = some { cls := .type "list", data := .seq its.toArray n } := by
  obtain ⟨z, its, n, r, e⟩ := I.hok l _ hH
  exact ⟨z, its, n, r, r.length, e⟩

theorem notLongL {n : Nat} (h : n ≤ sizeLine) : Builtin.List.listTooLong n = false := by
  unfold Builtin.List.listTooLong
  exact decide_eq_false (by omega)
end

section
variable {X : Cx}

/-! ### methods -/
def rAppend : V → List V → Hp → VK → Prop := fun x vs H Q => ∃ l xs y, x = .ref l ∧ vs = [y] ∧ H l = some (.lst xs) ∧ xs.length < sizeLine ∧ Q .non (upd H l (.lst (xs ++ [y])))
theorem mt_append : MtM X "list.append" rAppend := by
  intro pins s σ H x vs v us Q I rx rv h
  obtain ⟨l, xs, y, rfl, rfl, hH, hz, q⟩ := h
  cases rx
  obtain ⟨u, rfl, ru⟩ := rv.one
  obtain ⟨z, its, n, r, hl, e⟩ := I.lstM hH
  refine call_meets F.slot_list_append ⟨_, e, rfl⟩ F.entry_list_append (F.args_list_append_2 _ _) (PySem.list_append l its.toArray n u (by rw [List.size_toArray]; omega)) ⟨e, ?_⟩
  refine ⟨.non, _, I.lset (its' := its ++ [u]) hH e (by simp) (r.append (.cons ru .nil)) ?_, rfl, q⟩
  rw [List.length_append, List.length_singleton]
  omega

/-! ### list + list, list += list, list * int -/
def rCat : R2 := fun x y H Q => ∃ l b xs zs, x = .ref l ∧ y = .ref b ∧ H l = some (.lst xs) ∧ H b = some (.lst zs) ∧ xs.length + zs.length ≤ sizeLine ∧ ∀ p, H p = none → Q (.ref p) (upd H p (.lst (xs ++ zs)))
theorem op_cat : OpR X (binaryOp .Add) rCat := by
  intro pins s σ H x y v u Q I rx ry h
  obtain ⟨l, b, xs, zs, rfl, rfl, hH, hB, hz, q⟩ := h
  cases rx
  cases ry
  obtain ⟨z, its, n, r, hl, e⟩ := I.lstM hH
  obtain ⟨z2, its2, n2, r2, hl2, e2⟩ := I.lstM hB
  refine PySem.P.add_list e e2 ?_ (by rw [List.size_toArray, List.size_toArray]; omega)
  have ea : its.toArray ++ its2.toArray = (its ++ its2).toArray := by simp
  rw [ea]
  exact ⟨.ref _, _, I.lnew (t' := s.toks) (r.append r2) (by rw [List.length_append]; omega), rfl, q _ I.fresh⟩
def rRep : R2 := fun x y H Q => ∃ l k xs, x = .ref l ∧ y = .int k ∧ H l = some (.lst xs) ∧ -(2 ^ 63) ≤ k ∧ k < 2 ^ 63 ∧ xs.length * k.toNat ≤ sizeLine ∧
  ∀ p, H p = none → Q (.ref p) (upd H p (.lst (List.replicate k.toNat xs).flatten))
theorem len_rep {α : Type} (xs : List α) (k : Nat) : (List.replicate k xs).flatten.length = k * xs.length := by
  induction k with
  | zero => simp
  | succ k ih => rw [List.replicate_succ, List.flatten_cons, List.length_append, ih, Nat.succ_mul, Nat.add_comm]
theorem op_rep : OpR X (binaryOp .Mult) rRep := by
  intro pins s σ H x y v u Q I rx ry h
  obtain ⟨l, k, xs, rfl, rfl, hH, h1, h2, hz, q⟩ := h
  cases rx
  obtain ⟨t, rfl⟩ := ry
  obtain ⟨z, its, n, r, hl, e⟩ := I.lstM hH
  have hlen : its.toArray.size * k.toNat ≤ sizeLine := by rw [List.size_toArray, ← hl]; exact hz
  have hcap : ¬ its.toArray.size * k.toNat > (2 ^ 63 - 1) / 8 := by
    have : (sizeLine : Nat) ≤ (2 ^ 63 - 1) / 8 := by decide
    omega
  have hfit : ¬ (!Builtin.List.listFitsIndex k) = true := by
    rw [fitsIndex_both h1 h2]
    exact Bool.false_ne_true
  have hlong : ¬ Builtin.List.listTooLong (its.toArray.size * k.toNat) = true := by
    rw [notLongL hlen]
    exact Bool.false_ne_true
  have hnew : List.foldl (fun x1 x2 => x1 ++ x2) #[] (List.replicate (if its.toArray.isEmpty = true then 0 else k.toNat) its.toArray) = (List.replicate k.toNat its).flatten.toArray := by
    have f0 : ∀ m : Nat, List.foldl (fun x1 x2 => x1 ++ x2) #[] (List.replicate m its.toArray) = (List.replicate m its).flatten.toArray := fun m => by
      have := foldl_rep its m []
      rw [List.nil_append] at this
      exact this
    rw [f0]
    cases its with
    | nil => simp
    | cons a r' => rw [if_neg (by simp)]
  refine wpAny_binaryOp_repeat_ref (T := "list") (U := "int") (by decide) ⟨_, e, rfl⟩ (fun s' => typeIs_int s' k t) noFill_list_mul F.fills_int_mul F.slot_int_rmul repeat_list F.slot_int_index.lookup
    (call_meets F.slot_int_rmul (typeIs_int s k t) F.entry_int_rmul (F.args_int_rmul_2 _ _) (int___rmul___int_list k t l its.toArray n)
      ⟨e, rfl, ⟨_, e, rfl⟩, call_meets F.slot_list_mul ⟨_, e, rfl⟩ F.entry_list_mul (F.args_list_mul_2 _ _) (AutoListH.list___mul___list_int_3 l its.toArray n k t hfit hcap hlong) ⟨e, ?_⟩⟩)
  rw [hnew]
  exact ⟨.ref _, _, I.lnew (t' := s.toks) (r.rep k.toNat) (by rw [len_rep, Nat.mul_comm]; exact hz), rfl, q _ I.fresh⟩

/-! ### del xs[i] -/
end

/-! ### xs[a:b] = ys -/
section
variable {prog : Program} {w : World} {A : Around} {E : Value → Shared → Prop} {s : Shared}
set_option maxRecDepth 100000 in
end

end L2

namespace Att
open PySem PySem.W PySem.Calls PyProof.Rows

/-! ### the script -/
theorem ints_of_wellAll {P : Params} {h : Heap} : ∀ (ns : List Int) (vs : List Value), WellAll P h vs (ns.map WData.int) → IntsAre vs ns := by
  intro ns
  induction ns with
  | nil =>
    intro vs w
    rw [List.map_nil] at w
    cases w
    exact .nil
  | cons n ns ih =>
    intro vs w
    rw [List.map_cons] at w
    cases w with
    | cons a b =>
      cases a
      exact .cons _ _ (ih _ b)

theorem script_of {l : OpenLaw} {n : Nat} (hn : l.most = some n) {P : Params} {h : Heap} {args : List WData} {vals : List Value}
    (hpre : l.row.toRowW.claim.pre args = true) (hwl : WellAll P h vals args) :
    ∃ a vs ns, vals = [Value.ref a] ∧ args = [WData.list (ns.map WData.int)] ∧ h.get? a = some { cls := .type "list", data := .seq vs.toArray } ∧ IntsAre vs ns ∧ ns.length ≤ n := by
  have hsh : WShape.hasAll [] args [.list .int] = true := (pre_splitW hpre).1
  have hc : l.pre.holds [] { args := args } = true := (pre_splitW hpre).2
  obtain ⟨d, r, rfl, h1, h2⟩ := hasAllW_cons hsh
  obtain rfl := hasAllW_nil h2
  obtain ⟨xs, rfl, h3⟩ := hasW_list h1
  obtain ⟨ns, rfl⟩ := items_int h3
  have hlen : ns.length ≤ n := by
    unfold OpenLaw.pre at hc
    have h4 : (WTm.not (.lt (.lit (.int (n : Int))) (.len (.arg 0)))).holds [] { args := [.list (ns.map .int)] } = true := by
      have h4 := (holds_andW hc).1
      rw [hn] at h4
      exact h4
    have h5 := condW_of h4 (w_not (w_lt w_lit (w_len_list (w_arg rfl))))
    rw [List.length_map] at h5
    refine Nat.le_of_not_lt fun q => ?_
    have q' : (n : Int) < ((ns.length : Nat) : Int) := by omega
    first
      | (rw [decide_eq_true q'] at h5; exact absurd h5 (by decide))
      | (simp at h5; omega)
  cases hwl with
  | cons w1 w2 =>
    cases w2
    cases w1 with
    | list ho hall => exact ⟨_, _, ns, rfl, rfl, ho, ints_of_wellAll ns _ hall, hlen⟩

theorem post_true (l : OpenLaw) (args : List WData) : l.row.toRowW.claim.post args (.bool true) args = true :=
  postW_of (r := l.row.toRowW) (X := (true == true))
    (show WShape.has [] (.bool true) .bool = true by first | rfl | decide | simp [WShape.has, WShape.arms, WShape.armsAll])
    (show (WTm.eq .res (.lit (.bool true))).value [] { args := args, res := some (.bool true), after := args } = some (.bool (true == true)) from w_eq_bool (w_res rfl) w_lit) rfl

/-! ### the attachment: holds_open's last premise (the goal 'hc' behind k_head) from a wpAny of the law's body -/
theorem attach_call {l : OpenLaw} {n : Nat} {q : Program} {loose : List Str} {XP : (Str → Option Value) → Heap → Prop} {YP : World → Heap → Prop} {d : DefRec}
    (hn : l.most = some n) (hdf : d.params.defaults = [])
    (call : ∀ (w : World) (s₀ s₁ : Shared) (mg mb : Str → Option Value) (fa : Addr) (o : Obj) (pm cd doc : Value) (a : Addr) (vs : List Value) (ns : List Int),
      Ground q loose [] XP w s₀ mg mb s₁.heap → YP w s₁.heap →
      s₁.heap.get? fa = some o → o.data = .func (docDef d.name d.params d.body d.scope pm cd doc) → s₁.heap.CodeRec cd d.name → mg d.name = some (.ref fa) →
      s₁.heap.get? a = some { cls := .type "list", data := .seq vs.toArray } → IntsAre vs ns → ns.length ≤ n → s₁.gens = #[] →
      codeAny (model l.prog w) callerA (.call (.ref fa) ⟨[.ref a], []⟩) (fun r s' => r = .ok (.ret (.bool true)) ∧ OldK s₁.heap s'.heap ∧ s'.os = s₁.os ∧ AllBare s'.gens) s₁) :
    WalkO q loose XP YP l.row.toRowW d [] (fun f vs => PySem.call f vs) := by
  intro w s₀ s₁ mg mb G Y fa o pm cd doc dV kV ho hd hcd hD hmg hg args vals as hpre hlay hrd hwl hlo
  obtain rfl : dV = .none := Dflts.none hD hdf
  obtain rfl : kV = .none := Dflts.noKw hD
  obtain ⟨a, vs, ns, rfl, rfl, hobj, hints, hlen⟩ := script_of hn hpre hwl
  refine enter_call (codeAny_mono (call w s₀ s₁ mg mb fa o pm cd doc a vs ns G Y ho (fd_plain hd) hcd hmg hobj hints hlen hg) fun r s' hq => ?_)
  obtain ⟨rfl, h2, h3, h4⟩ := hq
  exact ⟨.inl ⟨.bool true, .bool true, [], rfl, fun _ => rfl, .bool true, post_true l _, fun _ => ⟨List.Pairwise.nil, fun _ hm => (nomatch hm)⟩⟩, h2, h3, h4⟩

/-! ### rules over ANY heap (no ledger) from facts about the written part K: the library's own take a ledger (News) for what they write -/
section
variable {prog : Program} {w : World} {A : Around} {E : Value → Shared → Prop} {s : Shared} {K : Frag}

/-! the whole heap as the ledger: makes every rule that writes through a ledger a rule over any heap -/
end
end Att

namespace L2
open PySem PySem.Spec PyProof.Rows

theorem vals_ints : ∀ {vs : List Value} {ns : List Int}, IntsAre vs ns → Vals (ns.map V.int) vs
  | _, _, .nil => .nil
  | _, _, .cons n t h => .cons ⟨t, rfl⟩ (vals_ints h)

end L2


/- THE LAST THEOREM (shape; LID, My.* are yours):
   My.Adr: a structure of the addresses that your layer names (classes, functions); My.Txt K t: a structure (Prop) of the equations over K;
   My.txt_mk : {K} {implicit addresses ..} (e1 : nsIn K mainGlobals "law" = some (some (.ref f))) (e2 : K.lookup f = some ⟨oc, od, .func (fnOf "law" "law" params body scope dV kV doc pm an cdv ct), sl⟩) (e3 : codeIn K cdv "law" = true) .. : ∃ t, My.Txt K t

set_option maxRecDepth 100000 in
set_option maxHeartbeats 0 in
theorem PySem.Challenge.cw_LID_holds : PySem.Challenge.rw_LID.Holds := by
  w_on; o_law; k_head; (case hw => w_witness2)
  k_fill
  refine L2.walk_of (l := PySem.Challenge.rw_LID) (n := 63) (k := 40) (x := "script") (CX := fun w => ..) (sp := fun _ => My.sp_law) rfl (by decide) rfl ⟨rfl, by decide, by decide⟩ (fun w h Y => PySem.W.kIn_of Y) ?F ?S ?C
  case F =>
    intro w mg fa h KX G hmg
    have T : ∃ t, My.Txt (L2.KOf KX) t := by
      dsimp only [L2.KOf]                          -- K must stand as «<heap const> w.params» for k_is
      refine' My.txt_mk ?e1 ?e2 ?e3 ..
      (case e1 => PySem.W.k_is)                    -- in the order: a name -> its address -> its object -> its parts
      (case e2 => PySem.W.k_is)
      ..
    obtain ⟨t, T⟩ := T
    have e0 := hmg.symm.trans (PySem.W.mg_of KX G T.law)
    cases e0                                       -- fa is the law's own address
    exact ⟨_, fun s u => .of_eq rfl, fun base kb nb => My.law_fn T kb nb⟩     -- if «.of_eq rfl» comes too early: refine' ⟨_, ?b, fun base kb nb => My.law_fn T kb nb⟩; exact fun s u => .of_eq rfl
  case S => exact fun w H a ns hl hO hS => ..
  case C => exact ..
(the tactic k_is has no namespace: write k_is) -/

/-! SHORT WORDS over the layer: a def of the text, its body, what a loop and a test want. -/
namespace L2
open PySem PySem.Spec PyProof.Rows

/-! ### the text by places -/
def inClass (s : Stmt) (j : Nat) : Stmt := match s with
  | .ClassDef _ _ _ body _ _ _ _ _ _ _ => body.getD j (.Pass ⟨0, 0, 0, 0⟩)
  | _ => .Pass ⟨0, 0, 0, 0⟩
def defArgs (s : Stmt) : Arguments := match s with
  | .FunctionDef _ a _ _ _ _ _ _ _ _ => a
  | _ => { posonlyargs := [], args := [], vararg := none, kwonlyargs := [], kw_defaults := [], kwarg := none, defaults := [] }
def defBody (s : Stmt) : List Stmt := match s with
  | .FunctionDef _ _ b _ _ _ _ _ _ _ => b
  | _ => []
def defScope (s : Stmt) : Scope := match s with
  | .FunctionDef _ _ _ _ _ _ sc _ _ _ => sc
  | _ => { kind := .function, names := [], isGenerator := false, isCoroutine := false }

/-! ### no exception leaves a def -/
abbrev CX0 : CXT := fun _ _ _ _ _ _ => False
abbrev E0 : XK := fun _ _ _ => False
theorem pass0 {X : Cx} : Passes CX0 X E0 := fun _ _ _ _ _ _ _ h => h.elim

/-! ### a def (or method) of the text as it stands behind the top -/
structure Fun (K : PySem.W.Frag) (x qual : Str) (st : Stmt) (f : Addr) (fd : FuncData) : Prop where
  ex : ∃ (oc : Value) (od : Option Addr) (kV doc pm : Value) (an : Option Addr) (cdv ct : Value) (osl : Array (Option Value)),
    fd = PySem.W.fnOf x qual (defArgs st) (defBody st) (defScope st) .none kV doc pm an cdv ct ∧ K.lookup f = some ⟨oc, od, .func fd, osl⟩ ∧ PySem.W.codeIn K cdv qual = true
  kp : PySem.W.keepIn K (.ref f) = true
section
variable {P : Program} {w : World} {K : PySem.W.Frag} {mg : Str → Option Value} {base : Heap}
theorem Fun.ok {x qual : Str} {st : Stmt} {f : Addr} {fd : FuncData} {N ps : List Str} {k : Nat} {sp : Sp} (F : Fun K x qual st f fd) (S : FnScope N ps (defScope st)) (len : ∀ vs H Q E, sp vs H Q E → vs.length = ps.length)
    (hbody : ∀ (cdv : Value) (A : Around) (outer : List Env) (s : Shared) (H : Hp) (vs : List V) (Q : VK) (E : XK), Room k (A.deeper (envOfC qual (defScope st) s.heap.objs.size f cdv)) → sp vs H Q E →
      ∃ t, PSs (cxOf CX0 P w K mg base N qual (defScope st) f cdv A outer s H E).nox (defBody st) t ∧ t { nx := fun _ H' => Q .non H', rt := Q } (start N vs) H) : FnOk P w K mg base CX0 (k + 1) f fd ps sp := by
  obtain ⟨oc, od, kV, doc, pm, an, cdv, ct, osl, rfl, lk, hcd⟩ := F.ex
  refine fn_of lk hcd S len fun A outer s H vs Q E hr hsp => ?_
  obtain ⟨t, h, q⟩ := hbody cdv A outer s H vs Q E hr hsp
  exact ⟨t, h.nox, q⟩
theorem Fun.binds {x qual : Str} {st : Stmt} {f : Addr} {fd : FuncData} {ps : List Str} (F : Fun K x qual st f fd)
    (h : ∀ (kV doc pm : Value) (an : Option Addr) (cdv ct : Value) (us : List Value), us.length = ps.length → bindArgs (PySem.W.fnOf x qual (defArgs st) (defBody st) (defScope st) .none kV doc pm an cdv ct) ⟨us, []⟩ = pure (ps.zip us)) : Binds K fd ps [] := by
  obtain ⟨oc, od, kV, doc, pm, an, cdv, ct, osl, rfl, lk, hcd⟩ := F.ex
  exact .all (h kV doc pm an cdv ct)
theorem fun_mk {x qual : Str} {st : Stmt} {f : Addr} {oc : Value} {od an : Option Addr} {osl : Array (Option Value)} {kV doc pm cdv ct : Value} (l : K.lookup f = some ⟨oc, od, .func (PySem.W.fnOf x qual (defArgs st) (defBody st) (defScope st) .none kV doc pm an cdv ct), osl⟩)
    (c : PySem.W.codeIn K cdv qual = true) (k : PySem.W.keepIn K (.ref f) = true) : Fun K x qual st f (PySem.W.fnOf x qual (defArgs st) (defBody st) (defScope st) .none kV doc pm an cdv ct) := ⟨⟨oc, od, kV, doc, pm, an, cdv, ct, osl, rfl, l, c⟩, k⟩
end
theorem hu_of {A : Around} {k : Nat} (hr : Room k A) : A.units + 1 < cLine := Nat.lt_of_le_of_lt (Nat.add_le_add_left (by decide : 1 ≤ 64) _) hr.units
/-! ### expressions in short: the name that stands in the i-th slot -/
section
variable {X : Cx}
theorem pv (i : Nat) {x : Str} {pos : Pos} (hN : X.N[i]? = some x := by rfl) (hv : Vis X.env.scope x := by first | exact Or.inl rfl | exact Or.inr (Or.inl rfl) | exact Or.inr (Or.inr rfl)) (hd : (x == ("__debug__" : Str)) = false := by decide)
    (hcd : (x == ("__classdict__" : Str)) = false := by decide) : PE X (.Name x pos) (tVar i) := pe_var hN hv hd hcd
end

/-! ### tests -/
theorem iteF {A B : Prop} (h : B) : if false = true then A else B := by
  rw [if_neg Bool.false_ne_true]
  exact h
theorem iteT {A B : Prop} (h : A) : if true = true then A else B := by
  rw [if_pos rfl]
  exact h
theorem ite2 {c A B : Prop} [Decidable c] (h1 : c → A) (h2 : ¬ c → B) : if c then A else B := by
  by_cases h : c
  · rw [if_pos h]
    exact h1 h
  · rw [if_neg h]
    exact h2 h
theorem iteNS {c A B : Prop} [Decidable c] (hc : c) (h : B) : if (!decide c) = true then A else B := by
  rw [decide_eq_true hc]
  exact iteF h

/-! ### heaps -/
def Same (H H' : Hp) : Prop := ∀ b o, H b = some o → H' b = some o
theorem Same.refl (H : Hp) : Same H H := fun _ _ h => h
theorem Same.trans {H H1 H2 : Hp} (a : Same H H1) (b : Same H1 H2) : Same H H2 := fun c o h => b c o (a c o h)
theorem Same.free {H H' : Hp} (e : Same H H') {l : Addr} (h : H' l = Option.none) : H l = Option.none := by
  cases q : H l with
  | none => rfl
  | some o =>
    rw [e l o q] at h
    cases h
theorem Same.seq {K : PySem.W.Frag} {H H' : Hp} {a : Addr} {xs : List V} (e : Same H H') (h : SqL K H a xs) : SqL K H' a xs := by
  rcases h with (h | ⟨o, h⟩) | h
  · exact .inl (.inl (e _ _ h))
  · exact .inl (.inr ⟨o, e _ _ h⟩)
  · exact .inr h

end L2

/-! COMPREHENSIONS over the hand layer: one clause, any target, at most one test; no exception leaves the block. -/
namespace L2
open PySem PySem.Spec PyProof.Rows

abbrev NoX : Value → Shared → Prop := fun _ _ => False
abbrev ifsRun (ifs : List Expr) (env : Env) : Sem Bool :=
  forIn ifs true fun c r => if r = true then do let ok ← isTrue c env (eval c env); pure (ForInStep.yield ok) else pure (ForInStep.yield r)

theorem compLoop_any {prog : Program} {w : World} {A : Around} {R : Result → Shared → Prop} {s : Shared} {elt target iter : Expr} {ifs : List Expr} {scope : Scope} {pos : Pos} {it acc : Value} {env : Env} (I : Nat → Shared → Prop)
    (turn : ∀ n s, I n s → wpAny (model prog w) A (pyNext it) (fun r s₁ => match r with
      | none => R (.ok .next) s₁
      | some v => wpAny (model prog w) A (letOwnedTupleGo target it v) (fun _ s₁' => wpAny (model prog w) A (assign target env v) (fun _ s₂ =>
          wpAny (model prog w) A (ifsRun ifs env) (fun ok s₃ =>
            if ok = true then wpAny (model prog w) A (eval elt env) (fun x s₄ =>
              wpAny (model prog w) A (call (.builtin "list.append") [acc, x]) (fun _ s₅ => ∃ m, m < n ∧ I m s₅) NoX s₄) NoX s₃
            else ∃ m, m < n ∧ I m s₃) NoX s₂) NoX s₁') NoX s₁) NoX s)
    (n : Nat) (h : I n s) : codeAny (model prog w) A (.compLoop (.ListComp elt [⟨target, iter, ifs, 0⟩] scope pos) 0 it acc env) R s := by
  refine codeAny_loop rfl I (fun n s hI => ?_) n h
  show wpAny _ A ((compTurn (.ListComp elt [⟨target, iter, ifs, 0⟩] scope pos) 0 it acc env).onRaise (fun x => do noteFrame x env; theTreesLotGoes x)) _ _ s
  refine wpAny_noted ?_
  rw [compTurn_list]
  refine wpAny_bind (wpAny_standAt (wpAny_bind (wpAny_mono (turn n s hI) (fun r s₁ h₁ => ?_) fun _ _ h' => h'.elim)))
  cases r with
  | none => exact wpAny_pure h₁
  | some v =>
    refine wpAny_bind (wpAny_mono h₁ (fun _ s₁' h₁' => ?_) fun _ _ h' => h'.elim)
    refine wpAny_bind (wpAny_mono h₁' (fun _ s₂ h₂ => wpAny_bind (wpAny_mono h₂ (fun ok s₃ h₃ => ?_) fun _ _ h' => h'.elim)) fun _ _ h' => h'.elim)
    cases ok with
    | false => exact wpAny_pure ⟨rfl, h₃⟩
    | true =>
      exact wpAny_bind (wpAny_bind (wpAny_mono h₃ (fun x s₄ h₄ => wpAny_bind (wpAny_mono h₄ (fun _ s₅ h₅ => wpAny_pure (wpAny_pure ⟨rfl, h₅⟩)) fun _ _ h' => h'.elim)) fun _ _ h' => h'.elim))

def clos (names : List (Str × NameKind)) (cells : List (Str × Addr)) : List (Str × Addr) :=
  names.foldl (fun cs y => if y.2 == .free then (y.1, (cells.lookup y.1).getD 0) :: cs else cs) []
theorem closureFor_of {scope : Scope} {env : Env} (h : ∀ y ∈ scope.names, y.2 = .free → ∃ c, env.cells.lookup y.1 = some c) : closureFor scope env = pure (clos scope.names env.cells) := by
  have all : ∀ (names : List (Str × NameKind)) (cs : List (Str × Addr)), (∀ y ∈ names, y.2 = .free → ∃ c, env.cells.lookup y.1 = some c) →
      (forIn (m := Sem) names cs fun (y : Str × NameKind) (r : List (Str × Addr)) => if (y.2 == NameKind.free) = true then do let c ← cellOf env y.1; pure (ForInStep.yield ((y.1, c) :: r)) else pure (ForInStep.yield r)) =
        pure (names.foldl (fun cs y => if y.2 == .free then (y.1, (env.cells.lookup y.1).getD 0) :: cs else cs) cs) := by
    intro names
    induction names with
    | nil => intro cs _; rfl
    | cons y r ih =>
      intro cs hy
      rw [List.forIn_cons]
      by_cases hk : y.2 = .free
      · obtain ⟨c, hc⟩ := hy y List.mem_cons_self hk
        have hb : (y.2 == NameKind.free) = true := by simp [hk]
        rw [if_pos hb, List.foldl_cons, if_pos hb, hc]
        have e : cellOf env y.1 = pure c := by unfold cellOf; rw [hc]
        rw [e]
        exact ih _ fun z hz => hy z (List.mem_cons_of_mem _ hz)
      · have hb : ¬ (y.2 == NameKind.free) = true := by simpa using hk
        rw [if_neg hb, List.foldl_cons, if_neg hb]
        exact ih _ fun z hz => hy z (List.mem_cons_of_mem _ hz)
  unfold closureFor
  have e := all scope.names [] h
  exact (congrArg (fun z => z >>= fun cs => pure cs) e).trans rfl
theorem clos_mem {cells : List (Str × Addr)} : ∀ (names : List (Str × NameKind)) (cs : List (Str × Addr)) {p : Str × Addr},
    p ∈ names.foldl (fun cs y => if y.2 == .free then (y.1, (cells.lookup y.1).getD 0) :: cs else cs) cs → p ∈ cs ∨ (p.2 = (cells.lookup p.1).getD 0 ∧ (p.1, NameKind.free) ∈ names)
  | [], cs, p, h => .inl h
  | (n, k) :: r, cs, p, h => by
    rw [List.foldl_cons] at h
    rcases clos_mem r _ h with h | ⟨h1, h2⟩
    · by_cases hk : k = .free
      · subst hk
        rw [if_pos (by rfl)] at h
        rcases List.mem_cons.mp h with e | h
        · subst e
          exact .inr ⟨rfl, List.mem_cons_self⟩
        · exact .inl h
      · rw [if_neg (by simpa using hk)] at h
        exact .inl h
    · exact .inr ⟨h1, List.mem_cons_of_mem _ h2⟩
theorem clos_keep {cells : List (Str × Addr)} {x : Str} : ∀ (names : List (Str × NameKind)) (cs : List (Str × Addr)), ((∃ p ∈ cs, p.1 = x) ∨ (x, NameKind.free) ∈ names) →
    ∃ p ∈ names.foldl (fun cs y => if y.2 == .free then (y.1, (cells.lookup y.1).getD 0) :: cs else cs) cs, p.1 = x
  | [], cs, h => by
    rcases h with h | h
    · exact h
    · simp at h
  | (n, k) :: r, cs, h => by
    rw [List.foldl_cons]
    refine clos_keep r _ ?_
    rcases h with ⟨p, hp, e⟩ | h
    · refine .inl ⟨p, ?_, e⟩
      split
      · exact List.mem_cons_of_mem _ hp
      · exact hp
    · rcases List.mem_cons.mp h with e | h
      · cases e
        exact .inl ⟨_, by rw [if_pos (by rfl)]; exact List.mem_cons_self, rfl⟩
      · exact .inr h
theorem lookup_some_of {β : Type} {x : Str} : ∀ {l : List (Str × β)}, (∃ p ∈ l, p.1 = x) → ∃ c, l.lookup x = some c
  | [], h => by obtain ⟨p, hp, _⟩ := h; simp at hp
  | (n, b) :: r, h => by
    rw [List.lookup_cons]
    by_cases hx : x = n
    · subst hx
      exact ⟨b, by simp⟩
    · have hb : (x == n) = false := by simpa using hx
      rw [hb]
      refine lookup_some_of ?_
      obtain ⟨p, hp, e⟩ := h
      rcases List.mem_cons.mp hp with z | z
      · subst z; exact absurd e.symm hx
      · exact ⟨p, z, e⟩
theorem clos_lookup {names : List (Str × NameKind)} {cells : List (Str × Addr)} {x : Str} {c : Addr} (h : (clos names cells).lookup x = some c) : c = (cells.lookup x).getD 0 ∧ (x, NameKind.free) ∈ names := by
  have hm := PySem.mem_of_lookup h
  rcases clos_mem names [] hm with z | z
  · simp at z
  · exact z
theorem clos_has {names : List (Str × NameKind)} {cells : List (Str × Addr)} {x : Str} (h : (x, NameKind.free) ∈ names) : ∃ c, (clos names cells).lookup x = some c :=
  lookup_some_of (clos_keep names [] (.inr h))
theorem relabel_lookup {env : Env} {x : Str} {k : NameKind} : ∀ {names : List (Str × NameKind)},
    (names.map fun (n, k) => if (k == NameKind.free && env.scope.kind == .function && env.kindOf n == some .cell) then (n, NameKind.cell) else (n, k)).lookup x = some k → ∃ k', (x, k') ∈ names ∧ (k' = k ∨ k' = .free)
  | [], h => by simp at h
  | (n, k0) :: r, h => by
    have h : List.lookup x ((if (k0 == NameKind.free && env.scope.kind == .function && env.kindOf n == some .cell) = true then (n, NameKind.cell) else (n, k0)) :: _) = _ := h
    by_cases hx : x = n
    · subst hx
      by_cases hc : (k0 == NameKind.free && env.scope.kind == .function && env.kindOf x == some .cell) = true
      · have : k0 = .free := by
          simp only [Bool.and_eq_true, beq_iff_eq] at hc
          exact hc.1.1
        exact ⟨k0, List.mem_cons_self, .inr this⟩
      · rw [if_neg hc] at h
        simp only [List.lookup_cons, beq_self_eq_true] at h
        exact ⟨k0, List.mem_cons_self, .inl (Option.some.inj h)⟩
    · have hb : (x == n) = false := by simpa using hx
      have ih := @relabel_lookup env x k r
      by_cases hc : (k0 == NameKind.free && env.scope.kind == .function && env.kindOf n == some .cell) = true
      · rw [if_pos hc] at h
        simp only [List.lookup_cons, hb] at h
        obtain ⟨k', h1, h2⟩ := ih h
        exact ⟨k', List.mem_cons_of_mem _ h1, h2⟩
      · rw [if_neg hc] at h
        simp only [List.lookup_cons, hb] at h
        obtain ⟨k', h1, h2⟩ := ih h
        exact ⟨k', List.mem_cons_of_mem _ h1, h2⟩

abbrev compN (X : Cx) (T : List Str) (js : List Nat) : List Str := T ++ js.map fun j => X.N.getD j ""
abbrev compSt (T : List Str) (js : List Nat) (σ : St) : St := T.map (fun _ => none) ++ js.map fun j => σ.getD j none
abbrev cxComp (X : Cx) (T : List Str) (js : List Nat) (scope : Scope) (fp : List Addr) (pl : List (Addr × Obj)) (s : Shared) (H : Hp) : Cx :=
  { X with N := compN X T js, s₀ := s, H₀ := H, env := compEnvC scope (clos scope.names X.env.cells) s.heap.objs.size X.env, outer := X.stack, stack := X.stack, ex := fp, fn := fun _ => false, pn := X.pn ++ pl, xe := NoX }
structure CompScope (X : Cx) (T : List Str) (js : List Nat) (scope : Scope) : Prop where
  kind : scope.kind = .function
  nocell : ∀ y ∈ scope.names, y.2 ≠ .cell
  loc : ∀ y ∈ scope.names, y.2 = .local → scope.names.lookup y.1 = some .local
  free : ∀ y ∈ scope.names, y.2 = .free → X.env.kindOf y.1 = some .cell ∨ X.env.kindOf y.1 = some .free
  caps : ∀ j ∈ js, (X.N.getD j "", NameKind.free) ∈ scope.names
  capk : ∀ j ∈ js, (compEnvC scope (clos scope.names X.env.cells) 0 X.env).kindOf (X.N.getD j "") = some .cell ∨ (compEnvC scope (clos scope.names X.env.cells) 0 X.env).kindOf (X.N.getD j "") = some .free

section
variable {X : Cx} {T : List Str} {js : List Nat} {scope : Scope}
theorem CompScope.cells (S : CompScope X T js scope) (ok : X.Ok) {x : Str} {c : Addr} (h : (clos scope.names X.env.cells).lookup x = some c) : X.env.cells.lookup x = some c := by
  obtain ⟨h1, h2⟩ := clos_lookup h
  obtain ⟨c', hc⟩ := ok.has x (S.free _ h2 rfl)
  rw [hc] at h1
  rw [hc, h1]; rfl
theorem CompScope.ok (S : CompScope X T js scope) {pins : List (Addr × Obj)} {σ : St} {H : Hp} {s : Shared} {fp : List Addr} (I : Inv X pins σ H s) (hf : ∀ b ∈ fp, FpOk X pins H b) (ho : ∀ b ∈ fp, b < s.heap.objs.size) :
    (cxComp X T js scope fp pins s H).Ok := by
  have ok := I.ok
  refine ⟨ok.mod, S.kind, ok.glob, ok.blt, Nat.le_refl _, fun x y c h1 h2 => ok.inj x y c (S.cells ok h1) (S.cells ok h2), fun x hx => ?_, fun x c h => (nomatch h), ok.hd, ok.frames, .inl rfl, fun b hb => ⟨Nat.ne_of_lt (ho b hb), fun x c h => (hf b hb).2.2.2.2.1 x c (S.cells ok h)⟩,
    I.bs, Nat.le_trans ok.bsz I.sz, fun b o e hb => ?_, fun b hb hs => ?_, I.stack, I.stkFree⟩
  · have hx' : (relabel scope X.env).names.lookup x = some .cell ∨ (relabel scope X.env).names.lookup x = some .free := hx
    have go : ∀ k, (relabel scope X.env).names.lookup x = some k → (k = .cell ∨ k = .free) → ∃ c, (clos scope.names X.env.cells).lookup x = some c := fun k e hk => by
      obtain ⟨k', h1, h2⟩ := relabel_lookup e
      refine clos_has ?_
      rcases h2 with z | z
      · rcases hk with q | q
        · exact absurd (z.trans q) (S.nocell _ h1)
        · rw [z, q] at h1; exact h1
      · rw [z] at h1; exact h1
    rcases hx' with e | e
    · exact go _ e (.inl rfl)
    · exact go _ e (.inr rfl)
  · rcases (hf b hb).2.2.2.1 with z | z
    · exact ok.noex b o e z
    · exact absurd (Nat.lt_of_lt_of_le (Heap.lt_size e) (Nat.le_trans ok.bsz z)) (Nat.lt_irrefl _)
  · have f := hf b hb
    rcases List.mem_cons.mp (I.stkSub b hs) with z | z
    · exact f.2.1 z
    · exact f.2.2.1 z
theorem CompScope.inv (S : CompScope X T js scope) {pins : List (Addr × Obj)} {σ : St} {H : Hp} {s : Shared} {fp : List Addr} {h' : Heap} {m : Str → Option Value} {tk : Nat} (I : Inv X pins σ H s) (hf : ∀ b ∈ fp, FpOk X pins H b) (ho : ∀ b ∈ fp, b < s.heap.objs.size)
    (hn : h'.Ns s.heap.objs.size m) (hk : ∀ b o, s.heap.get? b = some o → h'.get? b = some o) :
    Inv (cxComp X T js scope fp pins s H) [] (compSt T js σ) H { s with heap := h', toks := tk } := by
  have ok := I.ok
  refine ⟨S.ok I hf ho, rfl, I.bare, Un.kept hk, ⟨m, hn, fun i x v h1 h2 h3 => ?_⟩, fun x c h => ?_, I.hok.fresh (Nat.le_refl _), fun x c h => I.freeC x c (S.cells ok h), fun p hp => ?_, I.hok.kept hk, ?_⟩
  · have hi : T.length ≤ i := by
      by_cases hi : i < T.length
      · have h2 : (T.map (fun _ => (none : Option V)) ++ js.map fun j => σ.getD j none)[i]? = some (some v) := h2
        rw [List.getElem?_append_left (by simpa using hi), List.getElem?_map] at h2
        cases e : T[i]? with
        | none => rw [e] at h2; cases h2
        | some z => rw [e] at h2; cases h2
      · omega
    have h2 : (T.map (fun _ => (none : Option V)) ++ js.map fun j => σ.getD j none)[i]? = some (some v) := h2
    rw [List.getElem?_append_right (by simpa using hi), List.getElem?_map] at h2
    have h1 : (T ++ js.map fun j => X.N.getD j "")[i]? = some x := h1
    rw [List.getElem?_append_right hi, List.getElem?_map] at h1
    rw [List.length_map] at h2
    cases e : js[i - T.length]? with
    | none => rw [e] at h2; cases h2
    | some j =>
      rw [e] at h1 h2
      have h1 : X.N.getD j "" = x := Option.some.inj h1
      have h2 : σ.getD j none = some v := Option.some.inj h2
      have hj : j ∈ js := List.mem_of_getElem? e
      have hσ : σ[j]? = some (some v) := by
        rw [List.getD_eq_getElem?_getD] at h2
        cases q : σ[j]? with
        | none => rw [q] at h2; cases h2
        | some z => rw [q] at h2; exact congrArg some h2
      have hjN : j < X.N.length := by
        rw [← I.len]
        exact (List.getElem?_eq_some_iff.mp hσ).1
      have hN : X.N[j]? = some x := by
        rw [← h1, List.getD_eq_getElem?_getD, List.getElem?_eq_getElem hjN]; rfl
      have hkx : X.env.kindOf x = some .cell ∨ X.env.kindOf x = some .free := by
        have := S.free _ (S.caps j hj) rfl
        rw [h1] at this
        exact this
      obtain ⟨m0, _, hl⟩ := I.loc
      have vis : Vis X.env.scope x := by
        rcases hkx with q | q
        · exact .inr (.inl q)
        · exact .inr (.inr q)
      obtain ⟨u, r, l⟩ := hl j x v hN hσ vis
      refine ⟨u, r, .inr ⟨?_, ?_⟩⟩
      · have := S.capk j hj
        rw [h1] at this
        exact this
      · rcases l with ⟨q, _⟩ | ⟨_, c, hc, z⟩
        · rcases hkx with z | z
          · rw [z] at q; cases q
          · rw [z] at q; cases q
        · obtain ⟨c', hc'⟩ := clos_has (cells := X.env.cells) (S.caps j hj)
          rw [h1] at hc'
          have e1 := S.cells ok hc'
          rw [hc] at e1
          cases e1
          obtain ⟨oc, hoc, hd⟩ := z
          exact ⟨c, hc', oc, hk _ _ hoc, hd⟩
  · obtain ⟨v, oc, hoc, hd⟩ := I.cell x c (S.cells ok h)
    exact ⟨v, oc, hk _ _ hoc, hd⟩
  · have hp : p ∈ (X.pn ++ pins) ++ [] := hp
    rw [List.append_nil] at hp
    obtain ⟨e, n, ne, nf, d⟩ := I.pin p hp
    refine ⟨hk _ _ e, n, Nat.ne_of_lt (Heap.lt_size e), fun hs => ?_, d⟩
    rcases List.mem_cons.mp (I.stkSub _ hs) with z | z
    · exact ne z
    · exact nf z
  · simp
end

/-! ### the tests of a clause -/
def PIf (X : Cx) (ifs : List Expr) (t : TT) : Prop :=
  ∀ (pins : List (Addr × Obj)) (s : Shared) (σ : St) (H : Hp) (Q : Bool → Hp → Prop), Inv X pins σ H s → t σ H Q → wpAny (model X.prog X.w) X.A (ifsRun ifs X.env) (TP X pins σ Q) X.xe s
def tNoIf : TT := fun _ H Q => Q true H
theorem pif_nil {X : Cx} : PIf X [] tNoIf := fun pins s σ H Q I h => wpAny_tests_nil ⟨H, I, h⟩
theorem pif_one {X : Cx} {c : Expr} {t : TT} (hc : PT X c t) : PIf X [c] t := fun pins s σ H Q I h => wpAny_tests_one (hc pins s σ H Q I h)

/-! ### the reading: W by the turn and a measure over the block's own names and the heap; the list grows at p -/
def CompR (J : It) (p : Addr) (Q : VK) (g : TG) (ti : TT) (te : TE) (σ0 : St) (H0 : Hp) : Prop :=
  ∃ W : Nat → Nat → St → Hp → Prop, (∃ m, W 0 m σ0 H0) ∧
  ∀ i m σ H, W i m σ H → (J.stop i H ∧ Q (.ref p) H) ∨ (J.go i H ∧ ∃ N : St → Hp → Prop, (∀ σ' H', N σ' H' → ∃ m', m' < m ∧ W (i + 1) m' σ' H') ∧ ∀ x H', J.yld i H x H' → g x σ H' fun σ2 H2 =>
    ti σ2 H2 fun b H3 => if b = true then te σ2 H3 fun v H4 => ∃ xs, H4 p = some (.lst xs) ∧ xs.length < sizeLine ∧ N σ2 (upd H4 p (.lst (xs ++ [v]))) else N σ2 H3)
def tComp (T : List Str) (js : List Nat) (wi : TI) (g : TG) (ti : TT) (te : TE) : TE := fun σ H Q => wi σ H fun J H1 => ∀ p, H1 p = none → CompR J p Q g ti te (compSt T js σ) (upd H1 p (.lst []))

section
variable {X : Cx} {T : List Str} {js : List Nat} {scope : Scope} {elt tg iter : Expr} {ifs : List Expr} {wi : TI} {g : TG} {ti : TT} {te : TE} {pos : Pos}
theorem comp_core {pins : List (Addr × Obj)} {σ : St} {H1 : Hp} {s2 : Shared} {Q : VK} {it : Addr} {fp : List Addr} {tn : Nat → Heap → Prop} {J : It} {E : Value → Shared → Prop} {RR : Value → Addr → Result → Shared → Prop}
    (hc : X.calm = true) (S : CompScope X T js scope)
    (hb : ∀ fp pl s H, PG (cxComp X T js scope fp pl s H) tg g ∧ PIf (cxComp X T js scope fp pl s H) ifs ti ∧ PE (cxComp X T js scope fp pl s H) elt te)
    (I : Inv X pins σ H1 s2) (Tn : Turn X.prog X.w X.K tg J fp it tn) (st0 : tn 0 s2.heap) (hf : ∀ b ∈ fp, FpOk X pins H1 b)
    (hq : ∀ p, H1 p = none → CompR J p Q g ti te (compSt T js σ) (upd H1 p (.lst [])))
    (hR : ∀ (D C : Addr) (s' : Shared) (H' : Hp) (m : Str → Option Value), Inv X pins σ H' s' → Q (.ref D) H' → s'.heap.Ns C m → H' C = none → C ≠ X.env.locals → X.s₀.heap.objs.size ≤ C → (∀ x c, X.env.cells.lookup x = some c → c ≠ C) → (∀ p ∈ X.pn ++ pins, p.1 ≠ C) →
      RR (.ref D) C (.ok .next) s') :
    wpAny (model X.prog X.w) X.A (newList []) (fun acc s₃ => wpAny (model X.prog X.w) X.A (newFunctionEnv scope X.env.globals (clos scope.names X.env.cells) [] X.env.qual none .none (some X.env)) (fun cenv s₄ =>
      codeAny (model X.prog X.w) X.A (.compStart (.ListComp elt [⟨tg, iter, ifs, 0⟩] scope pos) 0 (.ref it) acc { cenv with scope := relabel scope X.env }) (RR acc cenv.locals) s₄) E s₃) E s2 := by
  refine wpAny_newObj_type (wpAny_newFunctionEnv S.nocell (by intro y hy; simp at hy) (fun h₁ hns₁ hsb₁ => ?_) S.kind)
  dsimp only at hns₁ hsb₁ ⊢
  have I2 := I.lnew (its := []) (ys := []) (t' := s2.toks) .nil (Nat.zero_le _)
  have hD : H1 s2.heap.objs.size = none := I.fresh
  obtain ⟨W, ⟨m0, w0⟩, turn⟩ := hq s2.heap.objs.size hD
  generalize hs3 : ({ s2 with heap := s2.heap.push { cls := .type "list", data := .seq ([] : List Value).toArray }, toks := s2.toks } : Shared) = s3 at I2
  have hh3 : s3.heap = s2.heap.push { cls := .type "list", data := .seq ([] : List Value).toArray } := by rw [← hs3]
  generalize hDD : s2.heap.objs.size = D at *
  have hC : s3.heap.objs.size = D + 1 := by rw [hh3, Heap.size_push, hDD]
  have ho : ∀ b ∈ fp, b < D := fun b hb => by
    obtain ⟨o, e, _⟩ := Tn.obj _ _ st0 b hb
    rw [← hDD]
    exact Heap.lt_size e
  have hf3 : ∀ b ∈ fp, FpOk X pins (upd H1 D (.lst [])) b := fun b hb => ⟨by rw [upd_ne (Nat.ne_of_lt (ho b hb))]; exact (hf b hb).1, (hf b hb).2⟩
  have ho3 : ∀ b ∈ fp, b < s3.heap.objs.size := fun b hb => by rw [hC]; exact Nat.lt_succ_of_lt (ho b hb)
  have kk : ∀ b o, s3.heap.get? b = some o → h₁.get? b = some o := fun b o e => hsb₁.extBut b o (by rw [← hh3]; exact Nat.ne_of_lt (Heap.lt_size e)) (Heap.get?_push_of_some _ (by rw [← hh3]; exact e))
  obtain ⟨mC, hns⟩ : ∃ m, h₁.Ns s3.heap.objs.size m := ⟨_, by rw [hh3]; exact hns₁⟩
  have I3 := S.inv (tk := s2.toks + ([] : List (Str × Value)).length) I2 hf3 ho3 hns kk
  have Xc : ∀ fp pl s H, (cxComp X T js scope fp pl s H).calm = true := fun _ _ _ _ => hc
  obtain ⟨bG, bI, bE⟩ := hb fp pins s3 (upd H1 D (.lst []))
  have fpOk : ∀ {H' : Hp}, (∀ b ∈ fp, H' b = none) → ∀ b ∈ fp, FpOk (cxComp X T js scope fp pins s3 (upd H1 D (.lst []))) [] H' b := fun hn b hb => by
    obtain ⟨f0, f1, f2, f3, f4, f5⟩ := hf3 b hb
    refine ⟨hn b hb, Nat.ne_of_lt (ho3 b hb), fun hs => ?_, .inl hb, fun x c h => f4 x c (S.cells I.ok h), fun p hp => ?_⟩
    · rcases List.mem_cons.mp (I2.stkSub _ hs) with z | z
      · exact f1 z
      · exact f2 z
    · have hp : p ∈ (X.pn ++ pins) ++ [] := hp
      rw [List.append_nil] at hp
      exact f5 p hp
  have st3 : tn 0 h₁ := Tn.keep _ _ _ st0 fun b hb o e => kk b o (by rw [hh3]; exact Heap.get?_push_of_some _ e)
  have eEnv : ({ newEnv scope (s2.heap.push { cls := .type "list", data := .seq ([] : List Value).toArray }).objs.size X.env.globals (clos scope.names X.env.cells) X.env.qual none .none (some X.env) builtinsNs with scope := relabel scope X.env } : Env) = compEnvC scope (clos scope.names X.env.cells) s3.heap.objs.size X.env := by
    rw [hh3]; rfl
  have eC : (newEnv scope (s2.heap.push { cls := .type "list", data := .seq ([] : List Value).toArray }).objs.size X.env.globals (clos scope.names X.env.cells) X.env.qual none .none (some X.env) builtinsNs).locals = s3.heap.objs.size := by
    rw [hh3]; rfl
  have nfin : ∀ {s' : Shared} {σ' : St} {H' : Hp}, Inv (cxComp X T js scope fp pins s3 (upd H1 D (.lst []))) [] σ' H' s' → Q (.ref D) H' → RR (.ref D) s3.heap.objs.size (.ok .next) s' := fun {s' σ' H'} J' q => by
    have I4 : Inv X pins σ H' s' := I2.call' (ch := fp) J'.os J'.base J'.hok J'.bare fun b hb => ⟨(hf3 b hb).2.2.2.1, (hf3 b hb).2.1, (hf3 b hb).2.2.2.2.1, (hf3 b hb).2.2.2.2.2⟩
    obtain ⟨m', hn', _⟩ := J'.loc
    refine hR D s3.heap.objs.size s' H' m' I4 q hn' J'.free (Nat.ne_of_gt I2.lt) I2.sz (fun x c h => ?_) (fun p hp => ?_)
    · obtain ⟨v, z⟩ := I2.cell x c h
      exact Nat.ne_of_lt z.lt
    · exact Nat.ne_of_lt (Heap.lt_size (I2.pin p hp).1)
  have loop : codeAny (model X.prog X.w) X.A (.compLoop (.ListComp elt [⟨tg, iter, ifs, 0⟩] scope pos) 0 (.ref it) (.ref D) (compEnvC scope (clos scope.names X.env.cells) s3.heap.objs.size X.env)) (RR (.ref D) s3.heap.objs.size)
      { s3 with heap := h₁, toks := s2.toks + ([] : List (Str × Value)).length } := by
    refine compLoop_any (fun n s' => ∃ i σ' H', Inv (cxComp X T js scope fp pins s3 (upd H1 D (.lst []))) [] σ' H' s' ∧ tn i s'.heap ∧ (∀ b ∈ fp, H' b = none) ∧ W i n σ' H') ?_ m0 ⟨0, _, _, I3, st3, fun b hb => (hf3 b hb).1, w0⟩
    rintro n s4 ⟨i, σ4, H4, I4, st4, fr4, w4⟩
    rcases turn i n σ4 H4 w4 with ⟨stop, qn⟩ | ⟨go, N, hN, step⟩
    · refine thn (Tn.done (cxComp X T js scope fp pins s3 (upd H1 D (.lst []))) rfl rfl rfl hc i [] s4 σ4 H4 NoX I4 (fpOk fr4) st4 stop) fun r s5 ⟨hr, I5⟩ => ?_
      subst hr
      exact nfin I5 qn
    · refine thn (Tn.item (cxComp X T js scope fp pins s3 (upd H1 D (.lst []))) rfl rfl rfl hc i [] s4 σ4 H4 NoX I4 (fpOk fr4) st4 go) fun r s5 ⟨u, hr, h5⟩ => ?_
      subst hr
      refine thn h5 fun _ s6 ⟨x, H6, I6, r6, y6, st6, fr6⟩ => ?_
      have I6' := I6.pinned (fpOk fr6) (Tn.obj _ _ st6)
      refine thn (bG _ s6 σ4 H6 x u _ I6' r6 (step x H6 y6)) fun _ s7 ⟨σ7, H7, I7, q7⟩ => ?_
      refine thn (bI _ s7 σ7 H7 _ I7 q7) fun ok s8 ⟨H8, I8, q8⟩ => ?_
      have again : ∀ {s9 : Shared} {σ9 : St} {H9 : Hp}, Inv (cxComp X T js scope fp pins s3 (upd H1 D (.lst []))) ([] ++ pinsAt fp s6.heap) σ9 H9 s9 → N σ9 H9 →
          ∃ m, m < n ∧ ∃ i σ' H', Inv (cxComp X T js scope fp pins s3 (upd H1 D (.lst []))) [] σ' H' s9 ∧ tn i s9.heap ∧ (∀ b ∈ fp, H' b = none) ∧ W i m σ' H' := fun {s9 σ9 H9} I9 n9 => by
        obtain ⟨m', hm, w9⟩ := hN σ9 H9 n9
        refine ⟨m', hm, i + 1, σ9, H9, I9.unpinned, Tn.keep _ _ _ st6 fun b hb o e => (I9.pin (b, o) (List.mem_append_right _ (List.mem_append_right _ (mem_pinsAt hb e)))).1, fun b hb => ?_, w9⟩
        obtain ⟨o, e, d⟩ := Tn.obj _ _ st6 b hb
        exact (I9.pin (b, o) (List.mem_append_right _ (List.mem_append_right _ (mem_pinsAt hb e)))).2.1
      cases ok with
      | false =>
        rw [if_neg Bool.false_ne_true] at q8 ⊢
        exact again I8 q8
      | true =>
        rw [if_pos rfl] at q8 ⊢
        refine thn (bE _ s8 σ7 H8 _ I8 q8) fun v s9 ⟨y, H9, I9, r9, q9⟩ => ?_
        obtain ⟨xs, hx, hz, q9⟩ := q9
        refine thn (mt_append _ s9 σ7 H9 (.ref D) [y] (.ref D) [v] (fun _ H10 => N σ7 H10) I9 rfl (.cons r9 .nil) ⟨D, xs, y, rfl, rfl, hx, hz, q9⟩) fun _ s10 ⟨_, H10, I10, _, n10⟩ => ?_
        exact again I10 n10
  have es : ({ s2 with heap := h₁, toks := s2.toks + ([] : List (Str × Value)).length } : Shared) = { s3 with heap := h₁, toks := s2.toks + ([] : List (Str × Value)).length } := by rw [← hs3]
  rw [eEnv, eC, es]
  exact codeAny_compStart_list loop (Tn.self X.A 0 _ _ _ st3 loop)

theorem pe_comp (hc : X.calm = true) (S : CompScope X T js scope) (hi : PI X tg iter wi)
    (hb : ∀ fp pl s H, PG (cxComp X T js scope fp pl s H) tg g ∧ PIf (cxComp X T js scope fp pl s H) ifs ti ∧ PE (cxComp X T js scope fp pl s H) elt te)
    (hs : ∀ x, foldedSetIterable iter X.env x = pure x := by intro _; rfl) : PE X (.ListComp elt [⟨tg, iter, ifs, 0⟩] scope pos) (tComp T js wi g ti te) := by
  intro pins s σ H Q I h
  rw [eval_ListComp]
  refine wpAny_comprehension_free (use := none) (cl := clos scope.names X.env.cells) rfl hs (closureFor_of fun y hy hk => I.ok.has y.1 (S.free y hy hk)) S.kind S.loc ?_
  show wpAny (model X.prog X.w) X.A (eval iter X.env) _ _ s
  refine thn (hi pins s σ H _ I h) fun v s1 h1 => thn h1 fun itv s2 h2 => ?_
  obtain ⟨it, fp, tn, J, H2, e, I2, Tn, st2, f2, hq⟩ := h2
  subst e
  refine comp_core (E := X.xe) (RR := fun acc C => compPost (model X.prog X.w) X.A X.xe none (EP X pins σ Q) acc C) hc S hb I2 Tn st2 f2 hq ?_
  intro D C s' H' m I' q hn hC hCL hCs hCc hCp
  refine ⟨m, hn, fun h' hs' => ?_⟩
  exact ⟨.ref D, H', I'.turned (t' := s'.toks) (fun b o hb e => hs'.extBut b o hb e) hC hCL (.inr hCs) hCc hCp, rfl, q⟩
theorem ps_setC {i : Nat} {y : Str} {py spos : Pos} (hc : X.calm = true) (hN : X.N.Nodup) (hyi : X.N[i]? = some y) (hy : X.env.scope.names.lookup y = some .local) (S : CompScope X T js scope) (hi : PI X tg iter wi)
    (hb : ∀ fp pl s H, PG (cxComp X T js scope fp pl s H) tg g ∧ PIf (cxComp X T js scope fp pl s H) ifs ti ∧ PE (cxComp X T js scope fp pl s H) elt te)
    (hsw : swapsWith (.ListComp elt [⟨tg, iter, ifs, 0⟩] scope pos) (some (.Name y py)) spos.line X.env = pure true := by rfl)
    (hs : ∀ x, foldedSetIterable iter X.env x = pure x := by intro _; rfl) : PS X (.Assign [.Name y py] (.ListComp elt [⟨tg, iter, ifs, 0⟩] scope pos) spos) (tAsg (tComp T js wi g ti te) (gName i)) := by
  intro pins s σ H D I h
  rw [exec_Assign_Name_used _ _ _ _ hsw]
  refine wpAny_bind (wpAny_standAt (wpAny_bind ?_))
  show wpAny _ X.A (do let _ ← comprehension (.ListComp elt [⟨tg, iter, ifs, 0⟩] scope pos) scope X.env _ (newList []) false (eval iter X.env) (some (assign (.Name y py) X.env))) _ _ s
  refine wpAny_bind (wpAny_mono (wpAny_comprehension_free (use := some (assign (.Name y py) X.env)) (cl := clos scope.names X.env.cells) (Q := fun _ s' => SP X pins D .next s') (E := X.xe) rfl hs (closureFor_of fun y hy hk => I.ok.has y.1 (S.free y hy hk)) S.kind S.loc
    ?_) (fun _ s' hq => wpAny_pure (wpAny_pure hq)) fun _ _ e => e)
  refine thn (hi pins s σ H _ I h) fun v s1 h1 => thn h1 fun itv s2 h2 => ?_
  obtain ⟨it, fp, tn, J, H2, e, I2, Tn, st2, f2, hq⟩ := h2
  subst e
  refine comp_core (E := X.xe) (Q := fun x H1 => gName i x σ H1 D.nx) (RR := fun acc C => compPost (model X.prog X.w) X.A X.xe (some (assign (.Name y py) X.env)) (fun _ s' => SP X pins D .next s') acc C) hc S hb I2 Tn st2 f2 hq ?_
  intro Da C s' H' m I' q hn hC hCL hCs hCc hCp
  show wpAny _ X.A (assign (.Name y py) X.env (.ref Da)) _ _ _
  refine wpAny_assign_Name (store_ok2 I' hN hyi (.inl hy) (v := .ref Da) rfl (fun s3 I3 hsb => ?_) (.inr hy))
  obtain ⟨a, hsb, ha⟩ := hsb
  have haC : a ≠ C := by
    rcases ha with z | z
    · rw [z]; exact Ne.symm hCL
    · exact hCc _ _ z
  refine ⟨m, hn.sameBut hsb (Ne.symm haC), fun h' hs' => ?_⟩
  exact ⟨_, H', I3.turned (t' := s3.toks) (fun b o hb e => hs'.extBut b o hb e) hC hCL (.inr hCs) hCc hCp, q⟩
end
end L2

namespace L2
open PySem PySem.Spec PyProof.Rows
/-! ### a range that goes down by ones -/
/-! ### zip of two lists, unpacked -/
def Itz (K : PySem.W.Frag) (a b : Addr) : It :=
  ⟨fun i H => ∃ xs ys x y, SqL K H a xs ∧ SqL K H b ys ∧ xs[i]? = some x ∧ ys[i]? = some y,
   fun i H v H' => ∃ t x y, v = .ref t ∧ H t = none ∧ H' = upd H t (.tup [x, y]) ∧ (∀ xs, SqL K H a xs → xs[i]? = some x) ∧ ∀ ys, SqL K H b ys → ys[i]? = some y,
   fun i H => ∃ xs ys, SqL K H a xs ∧ SqL K H b ys ∧ (xs.length ≤ i ∨ ys.length ≤ i)⟩
theorem Inv.turnedL {X : Cx} {pins : List (Addr × Obj)} {σ : St} {H : Hp} {s : Shared} {h' : Heap} {t' : Nat} {ch : List Addr} (I : Inv X pins σ H s) (hch : ∀ b ∈ ch, FpOk X pins H b)
    (k : ∀ b o, b ∉ ch → s.heap.get? b = some o → h'.get? b = some o) : Inv X pins σ H { s with heap := h', toks := t' } := by
  have nit : ∀ b u, H b = some u → b ∉ ch := fun b u e z => by rw [(hch b z).1] at e; cases e
  refine I.step (g' := s.gens) (d' := s.drawn) (ch := ch) (fun b hb => ?_) (fun b o _ _ hc e _ => k b o hc e) (fun b o _ _ hc e _ => ⟨o.slots, k b o hc e⟩) (fun _ _ _ _ n => n)
    (fun b o hc e => ⟨o, k b o hc e⟩) (fun _ _ e => e) (fun _ _ _ e => e) (fun b ps e => ⟨#[], by rw [e]; simp⟩) (fun m hm => ?_) (fun b u e => ?_) I.bare
  · obtain ⟨f0, f1, f2, f3, f4, f5⟩ := hch b hb
    exact ⟨f3, f1, f4, f5⟩
  · obtain ⟨o, es, ep, ho, r⟩ := hm
    exact ⟨o, es, ep, k _ o (fun z => (hch _ z).2.1 rfl) ho, r⟩
  · refine (I.hok b u e).stay (fun c v hc q => k c v ?_ q) (fun _ q => q) fun _ _ q => q
    rcases hc with z | z
    · rw [z]; exact nit b u e
    · exact nit c _ z
theorem SqL.ne {X : Cx} {pins : List (Addr × Obj)} {σ : St} {H : Hp} {s : Shared} {a b : Addr} {xs : List V} {o : Obj} {n : String} (I : Inv X pins σ H s) (h : SqL X.K H a xs) (e : s.heap.get? b = some o) (hc : o.cls = .type n) (hn : n ≠ "list") : a ≠ b := by
  rintro rfl
  obtain ⟨its, r, ⟨o', n', e', c', _, _⟩, _⟩ := I.list h
  rw [e] at e'
  cases e'
  rw [hc] at c'
  cases c'
  exact hn rfl
structure ZipSt (z TI TO i1 i2 a b : Addr) (i : Nat) (h : Heap) : Prop where
  hz : IsZip h z TI TO .none
  hTI : IsPair h TI (.ref i1) (.ref i2)
  hTO : ∃ x y, IsPair h TO x y
  h1 : h.IsListIter i1 a i
  h2 : h.IsListIter i2 b i
structure ZipNe (z TI TO i1 i2 : Addr) : Prop where
  TIz : TI ≠ z
  TOz : TO ≠ z
  i1z : i1 ≠ z
  i2z : i2 ≠ z
  TITO : TI ≠ TO
  TIi1 : TI ≠ i1
  TIi2 : TI ≠ i2
  TOi1 : TO ≠ i1
  TOi2 : TO ≠ i2
  i12 : i1 ≠ i2
theorem turn_zip {P : Program} {w : World} {K : PySem.W.Frag} {es : List Expr} {k : Nat} {tp : Pos} (z TI TO i1 i2 a b : Addr) (N : ZipNe z TI TO i1 i2) :
    Turn P w K (.Tuple es k tp) (Itz K a b) [z, TI, TO, i1, i2] z (ZipSt z TI TO i1 i2 a b) where
  mem := by simp
  obj := fun i h st c hc => by
    obtain ⟨x, y, hTO⟩ := st.hTO
    obtain ⟨o1, e1, c1, d1⟩ := st.h1
    obtain ⟨o2, e2, c2, d2⟩ := st.h2
    have hc : c = z ∨ c = TI ∨ c = TO ∨ c = i1 ∨ c = i2 := by simpa using hc
    rcases hc with rfl | rfl | rfl | rfl | rfl
    · exact ⟨_, st.hz, fun v q => by have q' : Data.fields _ = Data.cell v := q; cases q'⟩
    · exact ⟨_, st.hTI, fun v q => by have q' : Data.seq _ _ = Data.cell v := q; cases q'⟩
    · exact ⟨_, hTO, fun v q => by have q' : Data.seq _ _ = Data.cell v := q; cases q'⟩
    · exact ⟨_, e1, fun v q => by rw [d1] at q; cases q⟩
    · exact ⟨_, e2, fun v q => by rw [d2] at q; cases q⟩
  keep := fun i h h' st k => by
    obtain ⟨x, y, hTO⟩ := st.hTO
    exact ⟨k z (by simp) _ st.hz, k TI (by simp) _ st.hTI, ⟨x, y, k TO (by simp) _ hTO⟩, st.h1.at fun o e => k i1 (by simp) o e, st.h2.at fun o e => k i2 (by simp) o e⟩
  item := by
    intro X hP hw hK hc i pins s σ H E I hf st hg
    subst hP hw hK
    obtain ⟨xs, ys, x, y, hqa, hqb, hx, hy⟩ := hg
    obtain ⟨its, rv, p, hz⟩ := I.list hqa
    obtain ⟨jts, rw', q, hz'⟩ := I.list hqb
    obtain ⟨u, hu, ru⟩ := rv.get hx
    obtain ⟨v, hv, rv'⟩ := rw'.get hy
    obtain ⟨x0, y0, hTO⟩ := st.hTO
    obtain ⟨o1, e1, c1, d1⟩ := id st.h1
    obtain ⟨o2, e2, c2, d2⟩ := id st.h2
    have D : ZipApart z TI TO i1 i2 a b := ⟨N.TIz, N.TOz, N.i1z, N.i2z, N.TITO, N.TIi1, N.TIi2, N.TOi1, N.TOi2, N.i12, SqL.ne I hqa st.hz rfl (by decide), SqL.ne I hqa hTO rfl (by decide), SqL.ne I hqa e1 c1 (by decide), SqL.ne I hqa e2 c2 (by decide),
      SqL.ne I hqb st.hz rfl (by decide), SqL.ne I hqb hTO rfl (by decide), SqL.ne I hqb e1 c1 (by decide), SqL.ne I hqb e2 c2 (by decide)⟩
    refine wpAny_pyNext_zip_item D st.hz st.hTI hTO st.h1 st.h2 p.isList q.isList (x := u) (y := v) (by simpa using hu) (by simpa using hv) fun h' a1 a2 a3 a4 a5 a6 kk => ?_
    have lt : ∀ {c : Addr} {o : Obj}, s.heap.get? c = some o → c ≠ s.heap.objs.size := fun e => Nat.ne_of_lt (Heap.lt_size e)
    refine ⟨_, rfl, wpAny_letOwnedTupleGo_zip a1 fun h'' hz'' hs'' => ?_⟩
    have hfr : H s.heap.objs.size = none := I.fresh
    have I1 : Inv X pins σ H { s with heap := h'', toks := s.toks } := I.turnedL (t' := s.toks) (ch := [z, TI, TO, i1, i2]) hf fun c o hc e => by
      simp only [List.mem_cons, List.not_mem_nil, or_false, not_or] at hc
      exact hs''.extBut c o hc.1 (kk c o hc.1 hc.2.2.1 hc.2.2.2.1 hc.2.2.2.2 e)
    have hT : h''.get? s.heap.objs.size = some { cls := .type "tuple", data := .seq #[u, v] } := hs''.extBut _ _ (Ne.symm (lt st.hz)) a5
    have hsz : h''.objs.size = s.heap.objs.size + 1 := by rw [hs''.1, a6]
    -- the pair is tracked
    have I2 : Inv X pins σ (upd H s.heap.objs.size (.tup [x, y])) { s with heap := h'', toks := s.toks } := by
      refine I.step (g' := s.gens) (d' := s.drawn) (ch := [z, TI, TO, i1, i2]) (fun c hc => ⟨(hf c hc).2.2.2.1, (hf c hc).2.1, (hf c hc).2.2.2.2.1, (hf c hc).2.2.2.2.2⟩) (fun c o _ _ hc e _ => ?_) (fun c o _ _ hc e _ => ⟨o.slots, ?_⟩) (fun c o _ e n => by rw [upd_ne (lt e)]; exact n)
        (fun c o hc e => ⟨o, ?_⟩) (fun c ts e => by rw [upd_ne (ne_of_none e hfr)]; exact e) (fun c o ts e => by rw [upd_ne (ne_of_none e hfr)]; exact e) (fun c ps e => ⟨#[], by rw [upd_ne (ne_of_none e hfr), e]; simp⟩) (fun m hm => ?_) (fun c o e => ?_) I.bare
      · simp only [List.mem_cons, List.not_mem_nil, or_false, not_or] at hc
        exact hs''.extBut c o hc.1 (kk c o hc.1 hc.2.2.1 hc.2.2.2.1 hc.2.2.2.2 e)
      · simp only [List.mem_cons, List.not_mem_nil, or_false, not_or] at hc
        exact hs''.extBut c o hc.1 (kk c o hc.1 hc.2.2.1 hc.2.2.2.1 hc.2.2.2.2 e)
      · simp only [List.mem_cons, List.not_mem_nil, or_false, not_or] at hc
        exact hs''.extBut c o hc.1 (kk c o hc.1 hc.2.2.1 hc.2.2.2.1 hc.2.2.2.2 e)
      · obtain ⟨o, es', ep, ho, r⟩ := hm
        have nl := fun c (hc : c ∈ [z, TI, TO, i1, i2]) => (hf c hc).2.1
        exact ⟨o, es', ep, hs''.extBut _ _ (Ne.symm (nl z (by simp))) (kk _ o (Ne.symm (nl z (by simp))) (Ne.symm (nl TO (by simp))) (Ne.symm (nl i1 (by simp))) (Ne.symm (nl i2 (by simp))) ho), r⟩
      · by_cases hc : c = s.heap.objs.size
        · subst hc
          rw [upd_same] at e
          cases e
          exact ⟨by show 2 ≤ sizeLine; decide, [u, v], .cons ru (.cons rv' .nil), ⟨_, hT, rfl, _, rfl⟩⟩
        · rw [upd_ne hc] at e
          have := I1.hok c o e
          exact this.stay (fun d o' _ q => q) (fun d q => by rw [upd_ne (ne_of_none q hfr)]; exact q) fun d ts q => by rw [upd_ne (ne_of_none q hfr)]; exact q
    refine ⟨.ref s.heap.objs.size, upd H s.heap.objs.size (.tup [x, y]), I2, rfl, ⟨_, x, y, rfl, hfr, rfl, fun xs' hx' => ?_, fun ys' hy' => ?_⟩, ?_, fun c hc => ?_⟩
    · rw [I.list_inj hx' hqa]; exact hx
    · rw [I.list_inj hy' hqb]; exact hy
    · exact ⟨hz'', hs''.extBut _ _ N.TIz (kk _ _ N.TIz N.TITO N.TIi1 N.TIi2 st.hTI), ⟨_, _, hs''.extBut _ _ N.TOz a2⟩, a3.extBut hs''.extBut N.i1z, a4.extBut hs''.extBut N.i2z⟩
    · have hne : c ≠ s.heap.objs.size := by
        have hc : c = z ∨ c = TI ∨ c = TO ∨ c = i1 ∨ c = i2 := by simpa using hc
        rcases hc with rfl | rfl | rfl | rfl | rfl
        · exact lt st.hz
        · exact lt st.hTI
        · exact lt hTO
        · exact lt e1
        · exact lt e2
      rw [upd_ne hne]
      exact (hf c hc).1
  done := by
    intro X hP hw hK hc i pins s σ H E I hf st hg
    subst hP hw hK
    obtain ⟨xs, ys, hqa, hqb, hx⟩ := hg
    obtain ⟨its, rv, p, hz⟩ := I.list hqa
    obtain ⟨jts, rw', q, hz'⟩ := I.list hqb
    obtain ⟨x0, y0, hTO⟩ := st.hTO
    obtain ⟨o1, e1, c1, d1⟩ := id st.h1
    obtain ⟨o2, e2, c2, d2⟩ := id st.h2
    have D : ZipApart z TI TO i1 i2 a b := ⟨N.TIz, N.TOz, N.i1z, N.i2z, N.TITO, N.TIi1, N.TIi2, N.TOi1, N.TOi2, N.i12, SqL.ne I hqa st.hz rfl (by decide), SqL.ne I hqa hTO rfl (by decide), SqL.ne I hqa e1 c1 (by decide), SqL.ne I hqa e2 c2 (by decide),
      SqL.ne I hqb st.hz rfl (by decide), SqL.ne I hqb hTO rfl (by decide), SqL.ne I hqb e1 c1 (by decide), SqL.ne I hqb e2 c2 (by decide)⟩
    have l1 := rv.length
    have l2 := rw'.length
    refine wpAny_pyNext_zip_end (I.ok.hd hc) D st.hz st.hTI hTO st.h1 st.h2 p.isList q.isList (by
      rcases hx with hx | hx
      · exact .inl (by simp; omega)
      · exact .inr (by simp; omega)) fun h' kk => ⟨rfl, I.turnedL (t' := s.toks) (ch := [z, TI, TO, i1, i2]) hf fun c o hc e => ?_⟩
    simp only [List.mem_cons, List.not_mem_nil, or_false, not_or] at hc
    exact kk c o hc.1 hc.2.2.1 hc.2.2.2.1 hc.2.2.2.2 e
  self := fun _ _ _ _ _ st h => wpAny_pyIter_zip st.hz h
section
variable {X : Cx} {es : List Expr} {k : Nat} {tp : Pos}
def iZip (K : PySem.W.Frag) (ta : TA) : TI := fun σ H R => ta σ H fun vs H1 => ∃ a b, vs = [.ref a, .ref b] ∧ (∃ xs, SqL K H1 a xs) ∧ (∃ ys, SqL K H1 b ys) ∧ R (Itz K a b) H1
theorem pi_zip {a b : Expr} {ta : TA} {p pos : Pos} (hg : Gl X "zip") (hm : X.mg "zip" = none) (ha : PA X [a, b] ta) (hs : starEach [a, b] X.env = [(false, eval a X.env), (false, eval b X.env)] := by rfl) (hs2 : starEach [b] X.env = [(false, eval b X.env)] := by rfl)
    (hv : bootBuiltins "zip" = some (.type "zip") := by first | rfl | decide +kernel) :
    PI X (.Tuple es k tp) (.Call (.Name "zip" p) [a, b] [] pos) (iZip X.K ta) := by
  intro pins s σ H R I h
  refine Call_ (ld_blt I hg hm hv (PyProof.Rows.callWith_type1 (thn (ha pos pins s σ H _ I h) fun us s1 ⟨vs, H1, I1, r1, q1⟩ => ?_) (by rw [hs, hs2]) (by rw [hs2]; rfl)))
  obtain ⟨a, b, e, ⟨xs, hqa⟩, ⟨ys, hqb⟩, q⟩ := q1
  subst e
  obtain ⟨u, v, rfl, ru, rv⟩ := r1.two
  obtain rfl : u = Value.ref a := ru
  obtain rfl : v = Value.ref b := rv
  obtain ⟨its, rvx, p1, hz⟩ := I1.list hqa
  obtain ⟨jts, rwx, p2, hz'⟩ := I1.list hqb
  refine call_zip_2 p1.isList p2.isList fun h' a1 a2 a3 a4 a5 a6 kk => ?_
  refine wpAny_pyIter_zip (s := { s1 with heap := h' }) a1 ?_
  have I2 : Inv X pins σ H1 { s1 with heap := h' } := I1.kept (t' := s1.toks) kk
  refine ⟨s1.heap.objs.size + 4, [s1.heap.objs.size + 4, s1.heap.objs.size + 2, s1.heap.objs.size + 3, s1.heap.objs.size, s1.heap.objs.size + 1], _, _, H1, rfl, I2, turn_zip (s1.heap.objs.size + 4) (s1.heap.objs.size + 2) (s1.heap.objs.size + 3) s1.heap.objs.size (s1.heap.objs.size + 1) a b ?_, ⟨a1, a2, ⟨_, _, a3⟩, a4, a5⟩, fun c hc => ?_, q⟩
  · refine ⟨?_, ?_, ?_, ?_, ?_, ?_, ?_, ?_, ?_, ?_⟩ <;> (show (_ : Nat) ≠ _; omega)
  · have hge : s1.heap.objs.size ≤ c := by
      simp only [List.mem_cons, List.not_mem_nil, or_false] at hc
      rcases hc with rfl | rfl | rfl | rfl | rfl
      · exact Nat.le_add_right _ _
      · exact Nat.le_add_right _ _
      · exact Nat.le_add_right _ _
      · exact Nat.le_refl _
      · exact Nat.le_add_right _ _
    exact I1.fpOk hge (I1.hok.fresh hge)
end
end L2

namespace L2
open PySem PySem.Spec PyProof.Rows
/-! ### a, b = a list -/
/-! ### isinstance -/
section
variable {X : Cx}
theorem call_isinst : CallR X (.builtin "isinstance") (fun xs H Q => ∃ x c t b, xs = [x, c] ∧ TyOf X.K H x t ∧ ((∃ T, c = .ty T ∧ PySem.W.kitOne X.K t (.type T) = some b) ∨ ∃ C, c = .ref C ∧ PySem.W.kitOne X.K t (.ref C) = some b) ∧ Q (.bl b) H) := by
  intro pins s σ H xs us Q I r h
  obtain ⟨x, c, t, b, rfl, ty, hk, q⟩ := h
  obtain ⟨u, v, rfl, ru, rv⟩ := r.two
  rcases hk with ⟨T, rfl, hk⟩ | ⟨C, rfl, hk⟩
  · cases (show v = Value.type T from rv)
    exact isinst_ok I ru ty hk fun tk => ⟨.bl b, H, I.tok tk, rfl, q⟩
  · cases (show v = Value.ref C from rv)
    exact isinst_ok I ru ty hk fun tk => ⟨.bl b, H, I.tok tk, rfl, q⟩
end
theorem kit_ii (K : PySem.W.Frag) : PySem.W.kitOne K (.type "int") (.type "int") = some true := by
  unfold PySem.W.kitOne; rw [if_pos (by decide +kernel)]
theorem kit_ll (K : PySem.W.Frag) : PySem.W.kitOne K (.type "list") (.type "list") = some true := by
  unfold PySem.W.kitOne; rw [if_pos (by decide +kernel)]
theorem kit_ib (K : PySem.W.Frag) : PySem.W.kitOne K (.type "int") (.type "bool") = some false := by
  unfold PySem.W.kitOne PySem.W.kitCls
  rw [if_neg (by decide +kernel)]
  show (if PySem.W.kitMeta "bool" = true then PySem.W.subIn K (.type "int") (.type "bool") else none) = some false
  rw [if_pos (by decide +kernel)]
  first | rfl | decide +kernel
end L2

namespace L2
open PySem PySem.Spec PyProof.Rows
/-! ### a comprehension's names, decided over the written scopes -/
abbrev CompOkP (outer : List (Str × NameKind)) (N : List Str) (js : List Nat) (scope : Scope) : Prop :=
  scope.kind = .function ∧ (∀ y ∈ scope.names, y.2 ≠ .cell) ∧ (∀ y ∈ scope.names, y.2 = .local → scope.names.lookup y.1 = some .local) ∧
  (∀ y ∈ scope.names, y.2 = .free → outer.lookup y.1 = some .cell ∨ outer.lookup y.1 = some .free) ∧
  (∀ j ∈ js, (N.getD j "", NameKind.free) ∈ scope.names) ∧
  ∀ j ∈ js, (scope.names.map fun (y : Str × NameKind) => if (y.2 == NameKind.free && outer.lookup y.1 == some .cell) = true then (y.1, NameKind.cell) else (y.1, y.2)).lookup (N.getD j "") = some .cell ∨
    (scope.names.map fun (y : Str × NameKind) => if (y.2 == NameKind.free && outer.lookup y.1 == some .cell) = true then (y.1, NameKind.cell) else (y.1, y.2)).lookup (N.getD j "") = some .free
theorem CompScope.of {X : Cx} {T : List Str} {js : List Nat} {scope : Scope} (outer : List (Str × NameKind)) (N : List Str) (h1 : X.env.scope.names = outer) (hk : X.env.scope.kind = .function) (h2 : X.N = N) (h : CompOkP outer N js scope) : CompScope X T js scope := by
  obtain ⟨a, b, c, d, e, f⟩ := h
  subst h1 h2
  refine ⟨a, b, c, d, e, fun j hj => ?_⟩
  have z : (compEnvC scope (clos scope.names X.env.cells) 0 X.env).kindOf (X.N.getD j "") = (scope.names.map fun (y : Str × NameKind) => if (y.2 == NameKind.free && X.env.scope.names.lookup y.1 == some .cell) = true then (y.1, NameKind.cell) else (y.1, y.2)).lookup (X.N.getD j "") := by
    show (scope.names.map fun (n, k) => if (k == NameKind.free && X.env.scope.kind == .function && X.env.kindOf n == some .cell) then (n, NameKind.cell) else (n, k)).lookup (X.N.getD j "") = _
    rw [hk]
    congr 1
    refine List.map_congr_left fun y _ => ?_
    obtain ⟨n, k⟩ := y
    show (if (k == NameKind.free && (ScopeKind.function == ScopeKind.function) && X.env.kindOf n == some NameKind.cell) = true then _ else _) = _
    rw [show (ScopeKind.function == ScopeKind.function) = true from rfl, Bool.and_true]
    rfl
  rw [z]
  exact f j hj
/-! ### a def of the text with its promise, to be called -/
structure Ok (P : Program) (w : World) (K : PySem.W.Frag) (mg : Str → Option Value) (base : Heap) (x : Str) (ps : List Str) (k : Nat) (sp : Sp) : Prop where
  ex : ∃ f fd, FnOk P w K mg base CX0 k f fd ps sp ∧ Binds K fd ps [] ∧ mg x = some (.ref f) ∧ PySem.W.keepIn K (.ref f) = true
section
variable {X : Cx} {k j : Nat} {ps : List Str} {sp : Sp} {x : Str} {p pos : Pos} {e : Expr} {es : List Expr} {t : TA}
theorem pe_callO (O : Ok X.prog X.w X.K X.mg X.base x ps k sp) (hr : Room j X.A) (ha : PA X (e :: es) t) (hg : Gl X x := by rfl) (hj : k ≤ j := by decide) (hdb : (x == ("__debug__" : Str)) = false := by decide) (he : starEach (e :: es) X.env = (false, eval e X.env) :: starEach es X.env := by rfl) (hpl : (backTo pos (starEach es X.env)).any (·.1) = false := by rfl) :
    PE X (.Call (.Name x p) (e :: es) [] pos) (tCall sp [] E0 t) := by
  obtain ⟨f, fd, F, b, m, kp⟩ := O.ex
  exact pe_call F (hr.mono hj) hg m kp b .nil pass0 ha hdb he hpl
end
/-! ### built-in names in short -/
section
variable {X : Cx} {p pos : Pos} {a b : Expr} {ta tb : TE} {t : TA}
theorem pe_len (hm : X.mg "len" = none) (ha : PE X a ta) (hg : Gl X "len" := by rfl) (hs : starEach [a] X.env = (false, eval a X.env) :: starEach [] X.env := by rfl) : PE X (.Call (.Name "len" p) [a] [] pos) (tCB (fun xs H Q => ∃ p ys, xs = [.ref p] ∧ (SqL X.K H p ys ∨ SqT X.K H p ys) ∧ Q (.int ys.length) H) (tCons ta tNil)) :=
  pe_callB call_len_seq hg hm (by decide +kernel) (pa_cons ha pa_nil hs) (by decide) (by decide) hs rfl
theorem pe_isinst (hm : X.mg "isinstance" = none) (ha : PE X a ta) (hb : PE X b tb) (hg : Gl X "isinstance" := by rfl) (hs : starEach [a, b] X.env = (false, eval a X.env) :: starEach [b] X.env := by rfl) (hs2 : starEach [b] X.env = (false, eval b X.env) :: starEach [] X.env := by rfl) :
    PE X (.Call (.Name "isinstance" p) [a, b] [] pos) (tCB (fun xs H Q => ∃ x c t b, xs = [x, c] ∧ TyOf X.K H x t ∧ ((∃ T, c = .ty T ∧ PySem.W.kitOne X.K t (.type T) = some b) ∨ ∃ C, c = .ref C ∧ PySem.W.kitOne X.K t (.ref C) = some b) ∧ Q (.bl b) H) (tCons ta (tCons tb tNil))) :=
  pe_callB call_isinst hg hm (by decide +kernel) (pa_cons ha (pa_cons hb pa_nil hs2) hs) (by decide) (by decide) hs (by rw [hs2]; rfl)
theorem pe_max (hc : X.calm = true) (hm : X.mg "max" = none) (ha : PE X a ta) (hb : PE X b tb) (hg : Gl X "max" := by rfl) (hs : starEach [a, b] X.env = (false, eval a X.env) :: starEach [b] X.env := by rfl) (hs2 : starEach [b] X.env = (false, eval b X.env) :: starEach [] X.env := by rfl) :
    PE X (.Call (.Name "max" p) [a, b] [] pos) (tCB (fun xs H Q => ∃ i j, xs = [.int i, .int j] ∧ Q (.int (if i < j then j else i)) H) (tCons ta (tCons tb tNil))) :=
  pe_callB (call_max2 hc) hg hm (by decide +kernel) (pa_cons ha (pa_cons hb pa_nil hs2) hs) (by decide) (by decide) hs (by rw [hs2]; rfl)
theorem pe_list (hm : X.mg "list" = none) (ha : PE X a ta) (hg : Gl X "list" := by rfl) (hs : starEach [a] X.env = (false, eval a X.env) :: starEach [] X.env := by rfl) : PE X (.Call (.Name "list" p) [a] [] pos) (tCB (fun xs H Q => ∃ p ys, xs = [.ref p] ∧ (SqL X.K H p ys ∨ SqT X.K H p ys) ∧ ∀ l, H l = none → Q (.ref l) (upd H l (.lst ys))) (tCons ta tNil)) :=
  pe_callTy call_list_of hg hm (by decide +kernel) (pa_cons ha pa_nil hs) (by decide) (by decide) hs rfl
theorem pe_ty {T : String} {x : Str} (hm : X.mg x = none) (hg : Gl X x := by rfl) (hv : bootBuiltins x = some (.type T) := by first | rfl | decide +kernel) (hn : x ≠ "__name__" := by decide) (hd : (x == ("__debug__" : Str)) = false := by decide) : PE X (.Name x pos) (tC (.ty T)) := pe_bltn hg hm hv rfl hn hd
end
/-! ### the same with the written part by its name (within a comprehension's block) -/
section
variable {X : Cx} {p pos : Pos} {a b : Expr} {ta tb : TE} {t : TA}
theorem ix_listK (K : PySem.W.Frag) (h : X.K = K := by rfl) : IxR X (rIxL K) := h ▸ ix_list
theorem op_in_seqK (K : PySem.W.Frag) (h : X.K = K := by rfl) : OpR X (compareOp .In) (rIn K false) := h ▸ op_in_seq
end
end L2

namespace L2
open PySem PySem.Spec PyProof.Rows
/-! ### a comprehension's reading, by a word over the turn -/
abbrev CompT (p : Addr) (g : TG) (ti : TT) (te : TE) (x : V) (N : St → Hp → Prop) (σ : St) (H : Hp) : Prop :=
  g x σ H fun σ2 H2 => ti σ2 H2 fun b H3 => if b = true then te σ2 H3 fun v H4 => ∃ xs, H4 p = some (.lst xs) ∧ xs.length < sizeLine ∧ N σ2 (upd H4 p (.lst (xs ++ [v]))) else N σ2 H3
section
variable {p : Addr} {Q : VK} {g : TG} {ti : TT} {te : TE} {σ0 : St} {H0 : Hp}
theorem comp_range {lo : Int} {n : Nat} (Pv : Nat → St → Hp → Prop) (h0 : Pv 0 σ0 H0) (hs : ∀ i σ H, i < n → Pv i σ H → CompT p g ti te (.int (lo + i)) (Pv (i + 1)) σ H) (hd : ∀ σ H, Pv n σ H → Q (.ref p) H) : CompR (Itr lo n) p Q g ti te σ0 H0 := by
  unfold CompR
  refine ⟨fun i m σ H => m = n - i ∧ i ≤ n ∧ Pv i σ H, ⟨n, by simp, Nat.zero_le _, h0⟩, ?_⟩
  rintro i m σ H ⟨rfl, hi', q⟩
  by_cases hlt : i < n
  · refine .inr ⟨hlt, Pv (i + 1), fun σ' H' p' => ⟨n - (i + 1), by omega, rfl, hlt, p'⟩, fun x H' y => ?_⟩
    obtain ⟨e, y⟩ := y
    subst e y
    exact hs i σ _ hlt q
  · have e : i = n := by omega
    subst e
    exact .inl ⟨Nat.le_refl _, hd σ H q⟩
theorem comp_list {K : PySem.W.Frag} {a : Addr} {xs : List V} (Pv : Nat → St → Hp → Prop) (h0 : Pv 0 σ0 H0) (hl : ∀ i σ H, i ≤ xs.length → Pv i σ H → SqL K H a xs)
    (hs : ∀ i x σ H, xs[i]? = some x → Pv i σ H → CompT p g ti te x (Pv (i + 1)) σ H) (hd : ∀ σ H, Pv xs.length σ H → Q (.ref p) H) : CompR (Itl K a) p Q g ti te σ0 H0 := by
  unfold CompR
  refine ⟨fun i m σ H => m = xs.length - i ∧ i ≤ xs.length ∧ Pv i σ H, ⟨xs.length, by simp, Nat.zero_le _, h0⟩, ?_⟩
  rintro i m σ H ⟨rfl, hi, q⟩
  have q' := hl i σ H hi q
  by_cases hlt : i < xs.length
  · refine .inr ⟨⟨xs, xs[i], q', by simp [hlt]⟩, Pv (i + 1), fun σ' H' p' => ⟨xs.length - (i + 1), by omega, rfl, hlt, p'⟩, fun x H' y => ?_⟩
    obtain ⟨e, y⟩ := y
    subst e
    exact hs i x σ _ (y xs q') q
  · have e : i = xs.length := by omega
    subst e
    exact .inl ⟨⟨xs, q', Nat.le_refl _⟩, hd σ H q⟩
end
theorem compT_one {p : Addr} {te : TE} {x : V} {N : St → Hp → Prop} {σ : St} {H : Hp} {i : Nat} (h : te (σ.set i (some x)) H fun v H4 => ∃ xs, H4 p = some (.lst xs) ∧ xs.length < sizeLine ∧ N (σ.set i (some x)) (upd H4 p (.lst (xs ++ [v])))) : CompT p (gName i) tNoIf te x N σ H := by
  show (if true = true then (te (σ.set i (some x)) H fun v H4 => ∃ xs, H4 p = some (.lst xs) ∧ xs.length < sizeLine ∧ N (σ.set i (some x)) (upd H4 p (.lst (xs ++ [v])))) else N (σ.set i (some x)) H)
  rw [if_pos rfl]
  exact h
theorem seq_cut {t r : TS} {D : Ends} {σ : St} {H : Hp} (M : St → Hp → Prop) (h : ∀ nx : St → Hp → Prop, (∀ σ' H', M σ' H' → nx σ' H') → t { D with nx := nx } σ H) (hr : ∀ σ' H', M σ' H' → r D σ' H') : tSeq t r D σ H := h _ hr
/-! ### heaps that only grow -/
theorem Same.upd {H : Hp} {p : Addr} {o : HO} (h : H p = none) : Same H (upd H p o) := fun b u e => by rw [upd_ne (ne_of_none e h)]; exact e
theorem getI {ns : List Int} {i : Nat} (h : i < ns.length) : (ns.map V.int)[i]? = some (.int (ns.getD i 0)) := by
  rw [List.getElem?_map, List.getElem?_eq_getElem h, List.getD_eq_getElem?_getD, List.getElem?_eq_getElem h]; rfl
theorem atI_int {ns : List Int} {i : Nat} (h : i < ns.length) : atI (ns.map V.int) (i : Int) = some (.int (ns.getD i 0)) := atI_nat (getI h)
theorem getI_some {ns : List Int} {i : Nat} {x : V} (h : (ns.map V.int)[i]? = some x) : i < ns.length ∧ x = .int (ns.getD i 0) := by
  have hi : i < ns.length := by simpa using (List.getElem?_eq_some_iff.mp h).1
  rw [getI hi] at h
  exact ⟨hi, (Option.some.inj h).symm⟩
theorem sz1000 {n : Nat} (h : n ≤ 100000) : n < sizeLine := Nat.lt_of_le_of_lt h (by decide)
theorem sz1000' {n : Nat} (h : n ≤ 100000) : n ≤ sizeLine := Nat.le_of_lt (sz1000 h)
end L2

/-! the mathematics, in plain Lean -/
namespace Tf
open PySem L2
structure Beds (needs heats : List Int) : Prop where
  len : heats.length = needs.length
  lo : 1 ≤ needs.length
  hi : needs.length ≤ 50
  need : ∀ i, i < needs.length → 1 ≤ needs.getD i 0 ∧ needs.getD i 0 ≤ 200
  heat : ∀ i, i < needs.length → 0 ≤ heats.getD i 0 ∧ heats.getD i 0 ≤ needs.getD i 0
theorem range_map_succ {β : Type} {f : Nat → β} {i : Nat} : (List.range (i + 1)).map f = (List.range i).map f ++ [f i] := by
  rw [List.range_succ, List.map_append]; rfl
theorem getD_mem {fs : List Int} {i : Nat} (h : i < fs.length) : fs.getD i 0 ∈ fs := by
  rw [List.getD_eq_getElem?_getD, List.getElem?_eq_getElem h]; exact List.getElem_mem h
end Tf
namespace Tf
open PySem L2
/-! ### slices -/
theorem sIx_lo {n : Nat} {i : Int} (h0 : 0 ≤ i) (h1 : i ≤ n) (d : Nat) : HT.sIx n d (some i) = i.toNat := by
  simp only [HT.sIx]
  rw [if_neg (by omega)]
  omega
theorem cut_take {xs : List V} {k : Nat} (h : k ≤ xs.length) : cutV xs none (some (k : Int)) = xs.take k := by
  unfold cutV
  rw [sIx_lo (by omega) (by omega)]
  simp [HT.sIx]
/-! ### thawed beds, the front -/
end Tf

namespace L2
open PySem PySem.Spec PyProof.Rows
section
variable {X : Cx} {p pos : Pos} {a b : Expr} {ta tb : TE}
theorem pe_gint {x : Str} {i : Int} (h : ∃ t, X.mg x = some (.int i t)) (hg : Gl X x := by rfl) (hd : (x == ("__debug__" : Str)) = false := by decide) : PE X (.Name x pos) (tC (.int i)) := by
  obtain ⟨t, h⟩ := h
  exact pe_glob hg h ⟨t, rfl⟩ hd
end
theorem Same.set {H H2 : Hp} {p : Addr} {o : HO} (s : Same H H2) (hp : H p = none) : Same H (L2.upd H2 p o) := fun b u e => by rw [upd_ne (ne_of_none e hp)]; exact s b u e
end L2
namespace Tf
open PySem L2
/-! ### a season's units shared out from the top -/
theorem setI {xs : List Int} {k : Nat} {v : Int} : (xs.map V.int).set k (.int v) = (xs.set k v).map V.int := by rw [List.map_set]
end Tf
namespace L2
open PySem
theorem ixN_nat {n k : Nat} (h : k < n) : ixN n (k : Int) = some k := by
  unfold ixN
  rw [if_pos (by omega), if_pos (by omega), Int.toNat_natCast]
end L2

namespace L2
open PySem PySem.Spec PyProof.Rows
/-! ### two lists of the same values are equal -/
def eqOk : V → Bool
  | .non => true
  | .bl _ => true
  | .int _ => true
  | .str _ => true
  | .ref _ => true
  | _ => false
theorem eq_sameV {A : Around} {s : Shared} {x : V} {u v : Value} (h : eqOk x = true) (ru : RelV x u) (rv : RelV x v) : SeqAt.EqAt A s u v true := by
  cases x with
  | non => cases ru; cases rv; exact SeqAt.EqAt.same _
  | bl b => cases ru; cases rv; exact SeqAt.EqAt.same _
  | int i =>
    obtain ⟨t, rfl⟩ := ru
    obtain ⟨t', rfl⟩ := rv
    have := SeqAt.EqAt.int_int (A := A) (s := s) i t i t'
    rw [beq_self_eq_true] at this
    exact this
  | str z =>
    obtain ⟨t, rfl⟩ := ru
    obtain ⟨t', rfl⟩ := rv
    have := SeqAt.EqAt.str_str (A := A) (s := s) z t z t'
    rw [beq_self_eq_true] at this
    exact this
  | ref a => cases ru; cases rv; exact SeqAt.EqAt.same _
  | byt _ => cases h
  | flt _ => cases h
  | ty _ => cases h
theorem Vals.at {xs : List V} {us : List Value} (r : Vals xs us) {j : Nat} (h : j < us.length) : ∃ x, xs[j]? = some x ∧ RelV x us[j] := by
  have hx : j < xs.length := by rw [r.length]; exact h
  obtain ⟨u, e, ru⟩ := r.get (List.getElem?_eq_getElem hx)
  rw [List.getElem?_eq_getElem h] at e
  exact ⟨_, List.getElem?_eq_getElem hx, by rw [Option.some.inj e]; exact ru⟩
end L2
namespace Tf
open PySem L2
/-! ### seasons -/
structure HeatsOk (needs heats : List Int) : Prop where
  len : heats.length = needs.length
  lo : ∀ i, i < needs.length → 0 ≤ heats.getD i 0
  hi : ∀ i, i < needs.length → heats.getD i 0 ≤ needs.getD i 0
theorem Beds.ok {needs heats : List Int} (B : Beds needs heats) : HeatsOk needs heats := ⟨B.len, fun i h => (B.heat i h).1, fun i h => (B.heat i h).2⟩
end Tf


namespace Tf
open PySem L2
/-! ### rules of three numbers -/
end Tf
namespace Tf
open PySem L2
/-! ### seasons as rules of a depth -/
end Tf

namespace Tf
open PySem L2
/-! ### the heat down to a place -/
end Tf

namespace Tf
open PySem L2
theorem cut_takeG {xs : List V} {k : Nat} : cutV xs none (some (k : Int)) = xs.take k := by
  by_cases h : k ≤ xs.length
  · exact cut_take h
  · rw [List.take_of_length_le (by omega)]
    have e : HT.sIx xs.length xs.length (some (k : Int)) = xs.length := by
      simp only [HT.sIx]
      rw [if_neg (by omega)]
      omega
    unfold cutV
    rw [e]
    simp [HT.sIx]
end Tf

namespace Tf
open PySem L2
/-! ### years that come again, over the beds -/
end Tf

namespace Tf
open PySem L2
/-! ### the resting year -/
end Tf

namespace L2
open PySem PySem.Spec PyProof.Rows
/-! ### reversed, over a list of n things -/
theorem for_zip {K : PySem.W.Frag} {a b : Addr} {xs ys : List V} (hxy : xs.length = ys.length) {g : TG} {tb : TS} {D : Ends} {σ : St} {H : Hp} (Pv : Nat → St → Hp → Prop) (h0 : Pv 0 σ H) (hl : ∀ i σ H, i ≤ xs.length → Pv i σ H → SqL K H a xs ∧ SqL K H b ys)
    (hs : ∀ i x y t σ H, xs[i]? = some x → ys[i]? = some y → Pv i σ H → H t = none → g (.ref t) σ (upd H t (.tup [x, y])) fun σ2 H2 => tb { D with nx := Pv (i + 1), ct := Pv (i + 1), bk := D.nx } σ2 H2) (hd : ∀ σ H, Pv xs.length σ H → D.nx σ H) :
    ∃ W : Nat → Nat → St → Hp → Prop, (∃ m, W 0 m σ H) ∧ ∀ i m σ H, W i m σ H →
      ((Itz K a b).stop i H ∧ D.nx σ H) ∨ ((Itz K a b).go i H ∧ ∃ N : St → Hp → Prop, (∀ σ' H', N σ' H' → ∃ m', m' < m ∧ W (i + 1) m' σ' H') ∧ ∀ x H', (Itz K a b).yld i H x H' → g x σ H' fun σ2 H2 => tb { D with nx := N, ct := N, bk := D.nx } σ2 H2) := by
  refine ⟨fun i m σ H => m = xs.length - i ∧ i ≤ xs.length ∧ Pv i σ H, ⟨xs.length, by simp, Nat.zero_le _, h0⟩, ?_⟩
  rintro i m σ H ⟨rfl, hi, p⟩
  obtain ⟨q1, q2⟩ := hl i σ H hi p
  by_cases hlt : i < xs.length
  · refine .inr ⟨⟨xs, ys, xs[i], ys[i]'(by omega), q1, q2, by simp [hlt], by simp [show i < ys.length by omega]⟩, Pv (i + 1), fun σ' H' p' => ⟨xs.length - (i + 1), by omega, rfl, hlt, p'⟩, fun x H' y => ?_⟩
    obtain ⟨t, u, v, rfl, ht, rfl, y1, y2⟩ := y
    exact hs i u v t σ H (y1 xs q1) (y2 ys q2) p ht
  · have e : i = xs.length := by omega
    subst e
    exact .inl ⟨⟨xs, ys, q1, q2, .inl (Nat.le_refl _)⟩, hd σ H p⟩
end L2

namespace Tf
open PySem L2
/-! ### the sums from each place on -/
end Tf

namespace Tf
open PySem L2
/-! ### what finds no room and no heat, by the heat of all beds alone -/
end Tf

namespace Tf
open PySem L2
/-! ### rest at one depth -/
end Tf

namespace Tf
open PySem L2
/-! ### a season bed by bed -/
end Tf

namespace Tf
open PySem L2
/-! ### the first thawed season of a bed -/
end Tf

namespace Tf
open PySem L2
/-! ### a year of a warm and a cold season, from frozen ground -/
end Tf

namespace Tf
open PySem L2
/-! ### what slow years lose, from frozen ground -/
end Tf

/-! EXCEPTIONS over the hand layer: one that is raised in a def, passes the defs' frames, and lies behind a call. -/
namespace L2
open PySem PySem.Spec PyProof.Rows

theorem ObjOk.there {P : Program} {w : World} {H : Hp} {h : Heap} {a : Addr} {o : HO} (x : ObjOk P w H h a o) : ∃ u, h.get? a = some u := by
  cases o with
  | lst xs => obtain ⟨_, _, _, _, e⟩ := x; exact ⟨_, e⟩
  | tup xs => obtain ⟨_, _, _, o, e, _⟩ := x; exact ⟨_, e⟩
  | dK kvs => obtain ⟨_, _, _, _, o, _, _, e, _⟩ := x; exact ⟨_, e⟩
  | dT kvs => obtain ⟨_, _, _, _, o, _, _, e, _⟩ := x; exact ⟨_, e⟩
  | set S n => obtain ⟨o, _, _, _, e, _⟩ := x; exact ⟨_, e⟩
  | ins C dx fs => obtain ⟨_, _, _, e, _⟩ := x; exact ⟨_, e⟩
  | own y => obtain ⟨_, e⟩ := x; exact ⟨_, e⟩
  | xd fs => obtain ⟨_, ⟨_, _, _, e, _⟩, _⟩ := x; exact ⟨_, e⟩
  | rng lo hi => obtain ⟨_, _, _, e⟩ := x; exact ⟨_, e⟩
  | frz ob u => obtain ⟨e, _⟩ := x; exact ⟨_, e⟩
  | tbl ps => exact ⟨_, (show h.get? a = some _ from x)⟩
  | met f y => exact ⟨_, (show h.get? a = some _ from x)⟩
  | ext φ => obtain ⟨_, ⟨_, e⟩, _⟩ := x; exact ⟨_, e⟩
theorem HOk.gone {P : Program} {w : World} {H : Hp} {h : Heap} {a : Addr} (ok : HOk P w H h) (e : h.get? a = none) : H a = none := by
  cases q : H a with
  | none => rfl
  | some u =>
    obtain ⟨v, z⟩ := (ok a u q).there
    rw [e] at z; cases z

structure Fly (h0 : Heap) (x : Addr) (cls : Value) (H : Hp) (h : Heap) : Prop where
  new : h0.get? x = none
  un : H x = none
  tr : ∃ oe vs T oT ts, h.get? x = some oe ∧ oe.cls = cls ∧ oe.data = .fields vs ∧ vs[1]? = some (.ref T) ∧ h0.get? T = none ∧ H T = none ∧ T ≠ x ∧ h.get? T = some oT ∧ oT.data = .fields ts ∧ ts[3]? = some .none
def CX1 (P : Program) (w : World) : CXT := fun outer H s E e s' => ∃ x cls H', e = .ref x ∧ s'.os = s.os ∧ AllBare s'.gens ∧ Un (frs outer) [] H H' s.heap s'.heap ∧ HOk P w H' s'.heap ∧ Fly s.heap x cls H' s'.heap ∧ E cls (some x) H'

section
variable {fs fr ds : List Addr} {H₀ H : Hp} {h₀ h h' : Heap} {P : Program} {w : World}
theorem un_left (u : Un fs [] H₀ H h₀ h) (k1 : ∀ b o, b ∉ ds → b ∉ fr → h.get? b = some o → h'.get? b = some o) (k2 : ∀ b o, b ∈ fr → h.get? b = some o → ∃ sl, h'.get? b = some { o with slots := sl })
    (hds : ∀ d ∈ ds, h₀.get? d = none) (hfr : ∀ b ∈ fr, b ∈ fs ∨ h₀.get? b = none) (hfs : ∀ b ∈ fs, b ∈ fr) : Un fs [] H₀ H h₀ h' where
  keep := fun b o e n hb hx => k1 b o (fun z => by rw [hds b z] at e; cases e) (fun z => (hfr b z).elim hb fun q => by rw [q] at e; cases e) (u.keep b o e n hb hx)
  slot := fun b o e n hb hx => by
    obtain ⟨sl, e1⟩ := u.slot b o e n hb hx
    obtain ⟨sl', e2⟩ := k2 b _ (hfs b hb) e1
    exact ⟨sl', e2⟩
  free := u.free
  there := fun b o e hx => by
    obtain ⟨o', e1⟩ := u.there b o e hx
    by_cases hb : b ∈ fr
    · obtain ⟨sl, e2⟩ := k2 b _ hb e1
      exact ⟨_, e2⟩
    · exact ⟨o', k1 b o' (fun z => by rw [hds b z] at e; cases e) hb e1⟩
  tups := u.tups
  frzs := u.frzs
  tbls := u.tbls
theorem hok_left (ok : HOk P w H h) (k1 : ∀ b o, b ∉ ds → b ∉ fr → h.get? b = some o → h'.get? b = some o) (hds : ∀ d ∈ ds, H d = none) (hfr : ∀ b ∈ fr, H b = none) : HOk P w H h' := fun b u e => by
  have ok' : ∀ c v, H c = some v → c ∉ ds ∧ c ∉ fr := fun c v q => ⟨fun z => (by rw [hds c z] at q; cases q), fun z => (by rw [hfr c z] at q; cases q)⟩
  refine (ok b u e).stay (fun c v hc q => ?_) (fun _ q => q) fun _ _ q => q
  rcases hc with z | z
  · subst z
    exact k1 c v (ok' c u e).1 (ok' c u e).2 q
  · exact k1 c v (ok' c _ z).1 (ok' c _ z).2 q
theorem left_kept {l : List Env} {x : Addr} {cls : Value} (hL : Heap.Left (PySem.W.hideAll h (ds ++ frs l)) l x cls h h') :
    ∀ b o, b ∉ ds → b ∉ frs l → h.get? b = some o → h'.get? b = some o := fun b o h1 h2 e =>
  hL.1 b o (PySem.W.hideAll_get _ e fun z => (List.mem_append.mp z).elim h1 h2)
end

def cxAt (CX : CXT) (P : Program) (w : World) (K : PySem.W.Frag) (mg : Str → Option Value) (base : Heap) (N : List Str) (env : Env) (fn : Str → Bool) (A : Around) (outer : List Env) (s : Shared) (H : Hp) (E : XK) : Cx where
  prog := P
  w := w
  K := K
  mg := mg
  base := base
  A := A.deeper env
  N := N
  s₀ := s
  H₀ := H
  env := env
  outer := outer
  stack := env :: outer
  ex := []
  calm := true
  fn := fn
  pn := []
  xe := fun e s' => wpAny (model P w) (A.deeper env) (leaving env e) (fun _ s'' => CX outer H s E e s'') (fun e' s'' => CX outer H s E e' s'') s'
section
variable {P : Program} {w : World} {K : PySem.W.Frag} {mg : Str → Option Value} {base : Heap} {N : List Str} {env : Env} {fn : Str → Bool} {A : Around} {outer : List Env} {s : Shared} {H : Hp} {E : XK}
theorem thrown_at {pins : List (Addr × Obj)} {σ : St} {H1 : Hp} {s1 : Shared} {h1 : Heap} {e : Addr} {cls : Value} {vs : List Value} (hf : env.frame = some env.locals) (hL0 : s.heap.get? env.locals = none) (I : Inv (cxAt (CX1 P w) P w K mg base N env fn A outer s H E) pins σ H1 s1)
    (hx : Heap.MadeExcOf s1.heap h1 e cls vs) (hE : E cls (some e) H1) : (cxAt (CX1 P w) P w K mg base N env fn A outer s H E).xe (.ref e) { s1 with heap := h1 } := by
  have st : s1.heap.FunFrames base (env :: outer) := I.stack
  have hsubF : ∀ b ∈ frs outer, b ∈ frs (env :: outer) := fun b hb => by unfold frs; rw [List.filterMap_cons, hf]; exact List.mem_cons_of_mem _ hb
  have free : ∀ b ∈ frs (env :: outer), H1 b = none := I.stkFree
  have sub : ∀ b ∈ frs (env :: outer), b = env.locals ∨ b ∈ frs outer := fun b hb => List.mem_cons.mp (I.stkSub b hb)
  obtain ⟨t, he, ht, _⟩ := hx.there
  have st1 : h1.FunFrames base (env :: outer) := st.of_keeps fun b o q _ => ⟨o, hx.keeps b o q, rfl⟩
  have hH1 : ∀ d, s1.heap.get? d = none → H1 d = none := fun d q => I.hok.gone q
  have hs0 : ∀ d, s1.heap.get? d = none → s.heap.get? d = none := fun d q => by
    cases z : s.heap.get? d with
    | none => rfl
    | some o =>
      obtain ⟨o', y⟩ := I.base.there d o z (by intro q; exact absurd (show d ∈ ([] : List Addr) from q) (by simp))
      rw [q] at y; cases y
  show wpAny (model P w) (A.deeper env) (leaving env (.ref e)) _ _ _
  refine wpAny_leaving_first (base := PySem.W.hideAll h1 ([e] ++ frs (env :: outer))) (s := { s1 with heap := h1 }) I.ok.frames (PySem.W.funFrames_hide st1 fun en henv a ha => List.mem_append_right _ (List.mem_filterMap.mpr ⟨en, henv, ha⟩)) hf he
    (fun b o q => PySem.W.of_hideAll _ q) (PySem.W.hideAll_none _ (by simp)) rfl rfl fun h2 hL => ?_
  have k1 := left_kept hL
  have k2 : ∀ b o, b ∈ frs (env :: outer) → h1.get? b = some o → ∃ sl, h2.get? b = some { o with slots := sl } := fun b o hb q => by
    obtain ⟨_, o', e', nr⟩ := st1.mem hb
    rw [q] at e'; cases e'
    exact hL.2.2.2 b o q nr
  have u1 : Un (frs outer) [] H H1 s.heap h1 := I.base.trans (Un.kept hx.keeps)
  have hd0 : ∀ d ∈ [e], s.heap.get? d = none := fun d hd => by
    have : d = e := by simpa using hd
    subst this
    exact hs0 d hx.new
  have hd1 : ∀ d ∈ [e], H1 d = none := fun d hd => by
    have : d = e := by simpa using hd
    subst this
    exact hH1 d hx.new
  have hf0 : ∀ b ∈ frs (env :: outer), b ∈ frs outer ∨ s.heap.get? b = none := fun b hb => (sub b hb).elim (fun z => .inr (by rw [z]; exact hL0)) .inl
  refine ⟨e, cls, H1, rfl, I.os, I.bare, un_left u1 k1 k2 hd0 hf0 hsubF, hok_left (I.hok.kept hx.keeps) k1 hd1 free, ⟨hd0 e (by simp), hd1 e (by simp), ?_⟩, hE⟩
  obtain ⟨oe, ws, T, oT, ts, a1, a2, a3, a4, a5, a6, a7, a8, a9⟩ := hL.2.2.1
  have hT : s1.heap.get? T = none := by
    cases z : s1.heap.get? T with
    | none => rfl
    | some o =>
      have z1 := hx.keeps _ _ z
      by_cases hT : T ∈ frs (env :: outer)
      · obtain ⟨_, o', e', nr⟩ := st1.mem hT
        obtain ⟨sl, y⟩ := k2 T o' hT e'
        rw [a7] at y; cases y
        exact absurd a8 (nr ts)
      · have := PySem.W.hideAll_get ([e] ++ frs (env :: outer)) z1 (fun q => by
          rcases List.mem_append.mp q with q | q
          · have : T = e := by simpa using q
            exact a6 this
          · exact hT q)
        rw [a5] at this; cases this
  exact ⟨oe, ws, T, oT, ts, a1, a2, a3, a4, hs0 T hT, hH1 T hT, a6, a7, a8, a9⟩
theorem pass_at (hf : env.frame = some env.locals) (hL0 : s.heap.get? env.locals = none) : Passes (CX1 P w) (cxAt (CX1 P w) P w K mg base N env fn A outer s H E) E := by
  intro pins σ H1 s1 e s' I hc
  obtain ⟨x, cls, H2, rfl, os, bare, u, ok, F, hE⟩ := hc
  have st : s1.heap.FunFrames base (env :: outer) := I.stack
  have hsubF : ∀ b ∈ frs outer, b ∈ frs (env :: outer) := fun b hb => by unfold frs; rw [List.filterMap_cons, hf]; exact List.mem_cons_of_mem _ hb
  have free1 : ∀ b ∈ frs (env :: outer), H1 b = none := I.stkFree
  have sub : ∀ b ∈ frs (env :: outer), b = env.locals ∨ b ∈ frs outer := fun b hb => List.mem_cons.mp (I.stkSub b hb)
  have u : Un (frs (env :: outer)) [] H1 H2 s1.heap s'.heap := u
  have free : ∀ b ∈ frs (env :: outer), H2 b = none := fun b hb => by
    obtain ⟨_, o, ho, _⟩ := st.mem hb
    exact u.free b o ho (free1 b hb) (by simp)
  have st1 : s'.heap.FunFrames base (env :: outer) := by
    have all : ∀ (l : List Env), (∀ b ∈ frs l, b ∈ frs (env :: outer)) → s1.heap.FunFrames base l → s'.heap.FunFrames base l := by
      intro l
      induction l with
      | nil => intro _ _; trivial
      | cons en r ih =>
        intro hs hl
        obtain ⟨hk, ⟨L, o, hf', hn, ho, hd⟩, hr⟩ := hl
        have hL : L ∈ frs (env :: outer) := hs L (by unfold frs; rw [List.filterMap_cons, hf']; exact List.mem_cons_self)
        obtain ⟨sl, e⟩ := u.slot L o ho (free1 L hL) hL (by simp)
        exact ⟨hk, ⟨L, _, hf', hn, e, hd⟩, ih (fun b hb => hs b (by unfold frs; rw [List.filterMap_cons, hf']; exact List.mem_cons_of_mem _ hb)) hr⟩
    exact all _ (fun _ hb => hb) st
  obtain ⟨oe, ws, T, oT, ts, a1, a2, a3, a4, a5, a6, a7, a8, a9, a10⟩ := F.tr
  have hs0 : ∀ d, s1.heap.get? d = none → s.heap.get? d = none := fun d q => by
    cases z : s.heap.get? d with
    | none => rfl
    | some o =>
      obtain ⟨o', y⟩ := I.base.there d o z (by intro q; exact absurd (show d ∈ ([] : List Addr) from q) (by simp))
      rw [q] at y; cases y
  have hs1 : ∀ d, s'.heap.get? d = none → s1.heap.get? d = none := fun d q => by
    cases z : s1.heap.get? d with
    | none => rfl
    | some o =>
      obtain ⟨o', y⟩ := u.there d o z (by simp)
      rw [q] at y; cases y
  show wpAny (model P w) (A.deeper env) (leaving env (.ref x)) _ _ _
  refine wpAny_leaving_next (base := PySem.W.hideAll s'.heap ([x, T] ++ frs (env :: outer))) (cls := cls) I.ok.frames (PySem.W.funFrames_hide st1 fun en henv a ha => List.mem_append_right _ (List.mem_filterMap.mpr ⟨en, henv, ha⟩)) hf
    ⟨oe, ws, T, oT, ts, a1, a2, a3, a4, PySem.W.hideAll_none _ (by simp), a7, a8, a9, a10⟩ (fun b o q => PySem.W.of_hideAll _ q) (PySem.W.hideAll_none _ (by simp)) fun h2 hL => ?_
  have k1 := left_kept hL
  have k2 : ∀ b o, b ∈ frs (env :: outer) → s'.heap.get? b = some o → ∃ sl, h2.get? b = some { o with slots := sl } := fun b o hb q => by
    obtain ⟨_, o', e', nr⟩ := st1.mem hb
    rw [q] at e'; cases e'
    exact hL.2.2.2 b o q nr
  have u1 : Un (frs outer) [] H H2 s.heap s'.heap := by
    have u0 : Un (frs outer) [] H H1 s.heap s1.heap := I.base
    refine ⟨fun b o q n hb hx => ?_, fun b o q n hb hx => ?_, fun b o q n hx => ?_, fun b o q hx => ?_, fun b xs q => u.tups b xs (u0.tups b xs q), fun b o xs q => u.frzs b o xs (u0.frzs b o xs q), fun b ps q => ?_⟩
    · exact u.keep b o (u0.keep b o q n hb hx) (u0.free b o q n hx) (fun z => (sub b z).elim (fun y => by rw [y, hL0] at q; cases q) hb) hx
    · obtain ⟨sl, e1⟩ := u0.slot b o q n hb hx
      obtain ⟨sl', e2⟩ := u.slot b _ e1 (u0.free b o q n hx) (hsubF b hb) hx
      exact ⟨sl', e2⟩
    · obtain ⟨o', e1⟩ := u0.there b o q hx
      exact u.free b o' e1 (u0.free b o q n hx) hx
    · obtain ⟨o', e1⟩ := u0.there b o q hx
      exact u.there b o' e1 hx
    · obtain ⟨m1, e1⟩ := u0.tbls b ps q
      obtain ⟨m2, e2⟩ := u.tbls b _ e1
      exact ⟨m1 ++ m2, by rw [e2, Array.append_assoc]⟩
  have two : ∀ d ∈ [x, T], d = x ∨ d = T := fun d hd => by simpa using hd
  have hd0 : ∀ d ∈ [x, T], s.heap.get? d = none := fun d hd => hs0 d ((two d hd).elim (fun z => by rw [z]; exact F.new) fun z => by rw [z]; exact a5)
  have hd1 : ∀ d ∈ [x, T], H2 d = none := fun d hd => (two d hd).elim (fun z => by rw [z]; exact F.un) fun z => by rw [z]; exact a6
  have hf0 : ∀ b ∈ frs (env :: outer), b ∈ frs outer ∨ s.heap.get? b = none := fun b hb => (sub b hb).elim (fun z => .inr (by rw [z]; exact hL0)) .inl
  refine ⟨x, cls, H2, rfl, os.trans I.os, bare, un_left u1 k1 k2 hd0 hf0 hsubF, hok_left ok k1 hd1 free, ⟨hd0 x (by simp), F.un, ?_⟩, hE⟩
  obtain ⟨oe', ws', T', oT', ts', c1, c2, c3, c4, c5, c6, c7, c8, c9⟩ := hL.2.2.1
  have hT : T' = T ∨ s'.heap.get? T' = none := by
    by_cases hTT : T' = T
    · exact .inl hTT
    · refine .inr ?_
      cases z : s'.heap.get? T' with
      | none => rfl
      | some o =>
        by_cases hT : T' ∈ frs (env :: outer)
        · obtain ⟨_, o', e', nr⟩ := st1.mem hT
          obtain ⟨sl, y⟩ := k2 T' o' hT e'
          rw [c7] at y; cases y
          exact absurd c8 (nr ts')
        · have := PySem.W.hideAll_get ([x, T] ++ frs (env :: outer)) z (fun q => by
            rcases List.mem_append.mp q with q | q
            · exact (two T' q).elim c6 hTT
            · exact hT q)
          rw [c5] at this; cases this
  have hT0 : s.heap.get? T' = none ∧ H2 T' = none := by
    rcases hT with z | z
    · rw [z]; exact ⟨hd0 T (by simp), a6⟩
    · exact ⟨hs0 T' (hs1 T' z), ok.gone z⟩
  exact ⟨oe', ws', T', oT', ts', c1, c2, c3, c4, hT0.1, hT0.2, c6, c7, c8, c9⟩
end
section
variable {P : Program} {w : World} {K : PySem.W.Frag} {mg : Str → Option Value} {base : Heap} {N : List Str} {qual : Str} {scope : Scope} {f : Addr} {cd : Value} {A : Around} {outer : List Env} {s : Shared} {H : Hp} {E : XK}
theorem pass_fn : Passes (CX1 P w) (cxOf (CX1 P w) P w K mg base N qual scope f cd A outer s H E) E :=
  pass_at (env := envOfC qual scope s.heap.objs.size f cd) (fn := fun _ => true) rfl (Heap.get?_none_of_le (Nat.le_refl _))
end
end L2

namespace L2
open PySem PySem.Spec PyProof.Rows
/-! ### an f-string of written texts and ints: some text -/
abbrev TJ := St → Hp → (Hp → Prop) → Prop
def PJ (X : Cx) (es : List Expr) (t : TJ) : Prop :=
  ∀ (pins : List (Addr × Obj)) (s : Shared) (σ : St) (H : Hp) (acc : Str) (Q : VK), Inv X pins σ H s → acc.length + 2000 * es.length ≤ 100000 → t σ H (fun H' => ∀ z, Q (.str z) H') →
    wpAny (model X.prog X.w) X.A (joinParts acc (evalEach es X.env)) (EP X pins σ Q) X.xe s
def jNil : TJ := fun _ H Q => Q H
def jStr (t : TJ) : TJ := t
def jInt (te : TE) (t : TJ) : TJ := fun σ H Q => te σ H fun x H1 => ∃ i : Int, x = .int i ∧ i.natAbs.log2 < 1920 ∧ t σ H1 Q
section
variable {X : Cx} {e : Expr} {es : List Expr} {te : TE} {t : TJ} {pos p2 : Pos}
theorem pj_nil : PJ X [] jNil := by
  intro pins s σ H acc Q I hl h
  exact wpAny_mkStr ⟨.str acc, H, I.tok _, ⟨_, rfl⟩, h acc⟩ (sz1000' (by simpa using hl))
theorem pj_str {y : Str} {k : Nat} (hr : PJ X es t) (hy : y.length ≤ 2000 := by decide +kernel) : PJ X (.Constant (.str y) k pos :: es) (jStr t) := by
  intro pins s σ H acc Q I hl h
  have hl : acc.length + 2000 * (es.length + 1) ≤ 100000 := hl
  refine joinParts_cons (x := eval (.Constant (.str y) k pos) X.env) (rest := evalEach es X.env) (Calls.Constant_str ?_)
  show (acc ++ y).length ≤ sizeLine ∧ wpAny _ _ (joinParts (acc ++ y) (evalEach es X.env)) _ _ _
  refine ⟨sz1000' (by rw [strLen_append]; omega), hr pins _ σ H (acc ++ y) Q (I.tok _) (by rw [strLen_append]; omega) h⟩
theorem pj_int (he : PE X e te) (hr : PJ X es t) : PJ X (.FormattedValue e (-1) none pos :: es) (jInt te t) := by
  intro pins s σ H acc Q I hl h
  have hl : acc.length + 2000 * (es.length + 1) ≤ 100000 := hl
  refine joinParts_cons (x := eval (.FormattedValue e (-1) none pos) X.env) (rest := evalEach es X.env) (FormattedValue_plain (thn (he pins s σ H _ I h) fun v s1 ⟨x, H1, I1, r1, q1⟩ => ?_))
  obtain ⟨i, rfl, hi, q⟩ := q1
  obtain ⟨tk, rfl⟩ := r1
  have hz := int_text_len_1921 hi
  refine formatField_int_small hi ?_
  show (acc ++ Str.ofString (toString i)).length ≤ sizeLine ∧ wpAny _ _ (joinParts (acc ++ Str.ofString (toString i)) (evalEach es X.env)) _ _ _
  refine ⟨sz1000' (by rw [strLen_append]; omega), hr pins _ σ H1 _ Q (I1.tok _) (by rw [strLen_append]; omega) q⟩
def tFstr (t : TJ) : TE := fun σ H Q => t σ H fun H' => ∀ z, Q (.str z) H'
theorem pe_fstr {v1 v2 : Expr} {rest : List Expr} (h : PJ X (v1 :: v2 :: rest) t) (hn : rest.length ≤ 20 := by decide) : PE X (.JoinedStr (v1 :: v2 :: rest) pos) (tFstr t) := by
  intro pins s σ H Q I hw
  refine JoinedStr_many (h pins s σ H Str.empty Q I ?_ hw)
  show 0 + 2000 * (rest.length + 1 + 1) ≤ 100000
  omega
end
/-! ### raise C(..) -/
structure Exc (K : PySem.W.Frag) (mg : Str → Option Value) (x : Str) (C : Addr) : Prop where
  g : mg x = some (.ref C)
  ex : PySem.W.excIn K C [.type "ValueError", .type "Exception", .type "BaseException", .type "object"] "ValueError.__new__" = true
section
variable {X : Cx} {x : Str} {C : Addr} {e : Expr} {es : List Expr} {t : TA} {np cpos pos : Pos} {E : XK}
theorem Exc.own {K : PySem.W.Frag} {mg : Str → Option Value} {h : Heap} (O : Exc K mg x C) (KX : K.In h) : OwnCls x C [.type "ValueError", .type "Exception", .type "BaseException", .type "object"] "ValueError.__new__" mg h := by
  refine ⟨O.g, ?_⟩
  have q := O.ex
  unfold PySem.W.excIn at q
  split at q
  · rename_i dd cd sl ho
    split at q
    · rename_i C' bm k0 k1 k2 k3 n k5 hm hs
      simp only [Bool.and_eq_true, beq_iff_eq, Bool.not_eq_true'] at q
      obtain ⟨⟨⟨⟨⟨e1, e2⟩, hdel⟩, ht⟩, hok⟩, hni⟩ := q
      subst e1 e2
      obtain ⟨nm, bs, mro, ns, qn, hd, sn, sub, ab, col, del⟩ := cd
      dsimp only at hm hdel hok hni
      subst hm hdel
      have hsl : sl = #[k0, k1, k2, k3, some (.builtin "ValueError.__new__"), k5] := by
        obtain ⟨l⟩ := sl
        have hs : l = _ := hs
        rw [hs]
      subst hsl
      exact ⟨bm, ns, nm, qn, bs, hd, sn, sub, ab, col, dd, k0, k1, k2, k3, k5, _, KX _ _ ho, .of_isNs (PySem.W.isNs_of_in KX hok), PySem.W.nsMap_none_of_in KX hok hni, PySem.W.tail_of_in KX ht⟩
    · cases q
  · cases q
def Throws (X : Cx) (E : XK) : Prop := ∀ (pins : List (Addr × Obj)) (σ : St) (H : Hp) (s : Shared) (h' : Heap) (e : Addr) (cls : Value) (vs : List Value), Inv X pins σ H s → Heap.MadeExcOf s.heap h' e cls vs → E cls (some e) H → X.xe (.ref e) { s with heap := h' }
def tRaise (C : Addr) (E : XK) (t : TA) : TS := fun _ σ H => t σ H fun vs H1 => vs.length ≤ sizeLine ∧ ∀ e, H1 e = none → E (.ref C) (some e) H1
theorem ps_raise (hc : X.calm = true) (O : Exc X.K X.mg x C) (hT : Throws X E) (ha : PA X (e :: es) t) (hg : Gl X x := by rfl) (hdb : (x == ("__debug__" : Str)) = false := by decide)
    (he : starEach (e :: es) X.env = (false, eval e X.env) :: starEach es X.env := by rfl) (hplain : (backTo cpos (starEach es X.env)).any (·.1) = false := by rfl) :
    PS X (.Raise (some (.Call (.Name x np) (e :: es) [] cpos)) none pos) (tRaise C E t) := by
  intro pins s σ H D I h
  obtain ⟨tl, N, nm, q, bs, hdct, sn, sub, ab, col, dd, k0, k1, k2, k3, k5, mN, hC, hN, hni, T⟩ := (O.own I.ok.mod.kin).obj
  refine wpAny_Raise_call_subT (C := C) (nm := nm) (q := q) (N := N) (bs := bs) (bm := tl) (hdct := hdct) (sn := sn) (sub := sub) (ab := ab) (col := col) (dd := dd) (k0 := k0) (k1 := k1) (k2 := k2) (k3 := k3) (k5 := k5)
    F.excBase_ValueError (mN := mN) (T.hasType F.excBase_ValueError.hasBase) (I.ok.hd hc) (by rw [he]; show (false || (backTo cpos (starEach es X.env)).any (·.1)) = false; rw [hplain]; rfl) hni (ld_glob I hg O.g ⟨rfl, ?_⟩ hdb)
  have hA := ha cpos pins s σ H _ I h
  rw [he] at hA ⊢
  refine Calls.evalArgs_plain (thn hA fun us s2 ⟨vs, H2, I2, r2, q2⟩ => ?_)
  refine ⟨rfl, by rw [← r2.length]; exact q2.1, I2.bk _ _ hC, hN.keeps I2.bk, T.keeps I2.bk, fun h' ex hx => ?_⟩
  exact hT pins σ H2 s2 h' ex (.ref C) us I2 hx (q2.2 ex (I2.hok.gone hx.new))
theorem throws_fn {P : Program} {w : World} {K : PySem.W.Frag} {mg : Str → Option Value} {base : Heap} {N : List Str} {qual : Str} {scope : Scope} {f : Addr} {cd : Value} {A : Around} {outer : List Env} {s : Shared} {H : Hp} {E : XK} :
    Throws (cxOf (CX1 P w) P w K mg base N qual scope f cd A outer s H E) E := fun pins σ H1 s1 h' e cls vs I hx hE =>
  thrown_at (env := envOfC qual scope s.heap.objs.size f cd) (fn := fun _ => true) rfl (Heap.get?_none_of_le (Nat.le_refl _)) I hx hE
theorem Fun.okX {P : Program} {w : World} {K : PySem.W.Frag} {mg : Str → Option Value} {base : Heap} {x qual : Str} {st : Stmt} {f : Addr} {fd : FuncData} {N ps : List Str} {k : Nat} {sp : Sp} (F : Fun K x qual st f fd) (S : FnScope N ps (defScope st)) (len : ∀ vs H Q E, sp vs H Q E → vs.length = ps.length)
    (hbody : ∀ (cdv : Value) (A : Around) (outer : List Env) (s : Shared) (H : Hp) (vs : List V) (Q : VK) (E : XK), Room k (A.deeper (envOfC qual (defScope st) s.heap.objs.size f cdv)) → sp vs H Q E →
      ∃ t, PSs (cxOf (CX1 P w) P w K mg base N qual (defScope st) f cdv A outer s H E) (defBody st) t ∧ t { nx := fun _ H' => Q .non H', rt := Q } (start N vs) H) : FnOk P w K mg base (CX1 P w) (k + 1) f fd ps sp := by
  obtain ⟨oc, od, kV, doc, pm, an, cdv, ct, osl, rfl, lk, hcd⟩ := F.ex
  exact fn_of lk hcd S len fun A outer s H vs Q E hr hsp => hbody cdv A outer s H vs Q E hr hsp
structure OkX (P : Program) (w : World) (K : PySem.W.Frag) (mg : Str → Option Value) (base : Heap) (x : Str) (ps : List Str) (k : Nat) (sp : Sp) : Prop where
  ex : ∃ f fd, FnOk P w K mg base (CX1 P w) k f fd ps sp ∧ Binds K fd ps [] ∧ mg x = some (.ref f) ∧ PySem.W.keepIn K (.ref f) = true
theorem pe_callX {k j : Nat} {ps : List Str} {sp : Sp} {p pos : Pos} (O : OkX X.prog X.w X.K X.mg X.base x ps k sp) (hr : Room j X.A) (hx : Passes (CX1 X.prog X.w) X E) (ha : PA X (e :: es) t) (hg : Gl X x := by rfl) (hj : k ≤ j := by decide) (hdb : (x == ("__debug__" : Str)) = false := by decide) (he : starEach (e :: es) X.env = (false, eval e X.env) :: starEach es X.env := by rfl) (hpl : (backTo pos (starEach es X.env)).any (·.1) = false := by rfl) :
    PE X (.Call (.Name x p) (e :: es) [] pos) (tCall sp [] E t) := by
  obtain ⟨f, fd, F, b, m, kp⟩ := O.ex
  exact pe_call F (hr.mono hj) hg m kp b .nil hx ha hdb he hpl
end
end L2

namespace L2
open PySem PySem.Spec PyProof.Rows PySem.W
/-! ### isinstance(e, C) of an error of the program's own -/
structure ExcK (K : Frag) (C : Addr) : Prop where
  cls : (clsIn K C).isSome = true
  ga : findIn K (.ref C) "__getattribute__" = some (some (.builtin "BaseException.__getattribute__"))
  gn : findIn K (.ref C) "__getattr__" = some none
  at' : findIn K (.ref C) "__class__" = some (some (.builtin "object.__class__"))
  base : mroIn K C (.type "BaseException") = some true
  obj : mroIn K C (.type "object") = some true
section
variable {prog : Program} {w : World} {A : Around} {E : Value → Shared → Prop} {h : Heap} {g : Array GenState} {d : Drawn} {t : Nat} {os : OsState} {a C : Addr} {o : Obj} {K : Frag}
theorem xc_type {M : Model} (hx : h.get? a = some o) (hc : o.cls = .ref C) : Looks M h (typeOf (.ref a)) (.ref C) := fun A Q E s k q => by
  show wpAny M A (loadPart a _ >>= fun o => pure o.cls) Q E s
  exact wpAny_bind (wpAny_loadPart (k _ _ hx) (wpAny_pure (by rw [hc]; exact q)))
theorem xc_get {R : Result → Shared → Prop} (X : K.In h) (B : ExcK K C) (hx : h.get? a = some o) (hc : o.cls = .ref C) (hq : R (.ok (.ret (.ref C))) ⟨h, g, d, t, os⟩) :
    codeAny (model prog w) A (.call (.builtin "getset_descriptor.__get__") ⟨[.builtin "object.__class__", .ref a, .ref C], []⟩) R ⟨h, g, d, t, os⟩ := by
  have hT5 : (⟨h, g, d, t, os⟩ : Shared).TypeIs (.builtin "object.__class__") "getset_descriptor" := F.typeOf_object_class
  have hs : Looks (model prog w) h (isSubtype (.ref C) (.type (".".intercalate ("object.__class__".cutAt '.').dropLast))) true := by
    rw [F.owner_object_class]; exact looks_mroIn X B.obj
  refine codeAny_call_builtin F.slot_gs_get.plain F.entry_gs_get (F.slot_gs_get.check _ _ _ _ _ _ _ _ hT5 (F.args_gs_get _ _ _) ?_)
  repeat (any_goals (first | assumption | (with_reducible refine wpAny_loadPart_at hx ?_; rw [hc]) | with_reducible refine hs.at ?_ | wp_step))
  refine ⟨Code.quiet_builtin _ (by decide +kernel), codeAny_builtin F.entry_object_class ?_⟩
  repeat (any_goals (first | assumption | (with_reducible refine wpAny_loadPart_at hx ?_; rw [hc]) | wp_step))
theorem xc_entry {tk : Tok} {Q : Fin → Shared → Prop} (X : K.In h) (B : ExcK K C) (hx : h.get? a = some o) (hc : o.cls = .ref C) (hq : Q (.done (.ret (.ref C))) ⟨h, g, d, t, os⟩) :
    wpAny (model prog w) A (Builtin.«object.__getattribute__» ⟨[.ref a, .str "__class__" tk], []⟩) Q E ⟨h, g, d, t, os⟩ := by
  have hT5 : (⟨h, g, d, t, os⟩ : Shared).TypeIs (.builtin "object.__class__") "getset_descriptor" := F.typeOf_object_class
  have f5 := F.typeOf_object_class
  have f6 := F.slot_gs_get.lookup
  have f7 := F.slot_gs_set.lookup
  have l1 : Looks (model prog w) h (typeLookup (.ref C) "__class__") (some (.builtin "object.__class__")) := looks_findIn X B.at'
  repeat (any_goals (first | assumption | (with_reducible refine wpAny_loadPart_at hx ?_; rw [hc]) | with_reducible refine l1.at ?_ | wp_step))
  refine xc_get X B hx hc ?_
  repeat (any_goals (first | assumption | wp_step))
theorem xc_check {M : Model} {nv : Value} {Q : Unit → Shared → Prop} (X : K.In h) (B : ExcK K C) (hx : h.get? a = some o) (hc : o.cls = .ref C) (hq : Q () ⟨h, g, d, t, os⟩) :
    wpAny M A (checkBuiltinCall "BaseException.__getattribute__" ⟨[.ref a, nv], []⟩) Q E ⟨h, g, d, t, os⟩ := by
  have hk : builtinKind "BaseException.__getattribute__" = some .slot := by decide +kernel
  have hsp : splitId "BaseException.__getattribute__" = some ("BaseException", "__getattribute__") := by decide +kernel
  have hs : Looks M h (isSubtype (.ref C) (.type "BaseException")) true := looks_mroIn X B.base
  have ha := F.args_bexc_ga (.ref a) nv
  simp only [checkBuiltinCall, hk, hsp]
  refine wpAny_bind ?_
  unfold isInstance
  repeat (first | (with_reducible refine wpAny_loadPart_at hx ?_; rw [hc]) | with_reducible refine hs.at ?_ | wp_step)
  exact hq
theorem xc_by {tk : Tok} {Q : Value → Shared → Prop} (X : K.In h) (B : ExcK K C) (hx : h.get? a = some o) (hc : o.cls = .ref C) (hq : Q (.ref C) ⟨h, g, d, t, os⟩) : wpAny (model prog w) A (getAttrBy (.ref a) (.str "__class__" tk) false) Q E ⟨h, g, d, t, os⟩ := by
  have f3 := F.excAttr_ValueError.ga.bind (.ref a)
  have l1 : Looks (model prog w) h (typeLookup (.ref C) "__getattribute__") (some (.builtin "BaseException.__getattribute__")) := looks_findIn X B.ga
  have l2 : Looks (model prog w) h (typeLookup (.ref C) "__getattr__") none := looks_findIn X B.gn
  have hx2 : (Value.builtin "BaseException.__getattribute__" == Value.builtin "object.__getattribute__") = false := by decide +kernel
  have hx1 : (onTheHeap (Value.ref C) && Value.builtin "BaseException.__getattribute__" == Value.builtin "object.__getattribute__") = false := by rw [hx2]; rfl
  repeat (any_goals (first | assumption | (with_reducible refine wpAny_loadPart_at hx ?_; rw [hc]) | with_reducible refine l1.at ?_ | with_reducible refine l2.at ?_ | wp_step))
  refine codeAny_call_builtin F.excAttr_ValueError.ga.plain F.entry_bexc_ga (xc_check X B hx hc (xc_entry X B hx hc ?_))
  repeat (any_goals (first | assumption | wp_step))
theorem xc_attr {Q : Option Value → Shared → Prop} (X : K.In h) (B : ExcK K C) (hx : h.get? a = some o) (hc : o.cls = .ref C) (hq : Q (some (.ref C)) ⟨h, g, d, t + 1, os⟩) : wpAny (model prog w) A (getAttr? (.ref a) "__class__") Q E ⟨h, g, d, t, os⟩ := by
  unfold getAttr? getAttrBy?
  repeat (any_goals (first | assumption | with_reducible apply xc_by X B hx hc | wp_step))
theorem kitx_exc (B : ExcK K C) : KitX K (.ref a) (.ref C) (fun h => ∃ o, h.get? a = some o ∧ o.cls = .ref C) where
  ty := fun _ _ _ ⟨o, hx, hc⟩ => xc_type hx hc
  it := fun _ _ X _ => by
    have hcD := B.cls
    unfold clsIn at hcD
    split at hcD
    · rename_i c' d' cd' sl' ho
      intro A' Q' E' s' k q
      unfold isType loadHead
      exact wpAny_bind (wpAny_loadPart (k _ _ (X _ _ ho)) (wpAny_pure q))
    · cases hcD
  ne := fun h tp dd its n sl X htp => by
    refine Bool.eq_false_iff.mpr fun q => ?_
    have e : C = tp := Value.ref.inj (beq_iff_eq.mp q)
    subst e
    have hcD := B.cls
    unfold clsIn at hcD
    split at hcD
    · rename_i c' d' cd' sl' ho
      have z := (X _ _ ho).symm.trans htp
      cases z
    · cases hcD
  ca := fun {_ _ _ _ _ s} X p k => by
    obtain ⟨h, g, d, t, os⟩ := s
    obtain ⟨o, hx, hc⟩ := p
    exact xc_attr X B hx hc k
end
end L2

/-! A LAW THAT MAKES FUNCTIONS: the table of its code is tracked. -/
namespace L2
open PySem PySem.Spec PyProof.Rows
def OnlyT (P : Addr) (H : Hp) : Prop := ∀ b, H b = none ∨ (∃ o xs, H b = some (.frz o (.lst xs))) ∨ (b = P ∧ H b = some (.tbl #[]))
theorem law_callT {Pr : Program} {w : World} {K : PySem.W.Frag} {mg mb : Str → Option Value} {CX : CXT} {k : Nat} {fa a c P : Addr} {fd : FuncData} {x : Str} {sp : Sp} {s₁ : Shared} {vs : List Value} {ns : List Int}
    (KX : K.In s₁.heap) (hns : s₁.heap.Ns mainGlobals mg) (hb : s₁.heap.Ns builtinsNs mb) (hbb : ∀ x : Str, x ≠ "__name__" → mb x = bootBuiltins x) (hlim : s₁.heap.NoLimit) (hg : s₁.gens = #[])
    (ha : s₁.heap.get? a = some { cls := .type "list", data := .seq vs.toArray }) (hi : IntsAre vs ns) (hl : ns.length ≤ sizeLine) (hr : Room k callerA)
    (C : PySem.W.CodeHd s₁.heap c P) (hP : s₁.heap.get? P = some (PySem.W.tabObj #[])) (hKP : K.lookup P = none)
    (hB : s₁.heap.BuiltinsAt mg P) (F : ∀ base : Heap, K.In base → base.Ns mainGlobals mg → PySem.W.CodeHd base c P → base.BuiltinsAt mg P → FnOk Pr w K mg base CX k fa fd [x] sp) (hbind : ∀ (s : Shared) (u : Value), BindsTo s fd ⟨[u], []⟩ [(x, u)])
    (hsp : ∀ H : Hp, OnlyT P H → H P = some (.tbl #[]) → SqL K H a (ns.map V.int) → sp [.ref a] H (fun v _ => v = .bl true) fun _ _ _ => False)
    (hCX : ∀ H e s', CX [] H s₁ (fun _ _ _ => False) e s' → False) :
    codeAny (model Pr w) callerA (.call (.ref fa) ⟨[.ref a], []⟩) (fun r s' => r = .ok (.ret (.bool true)) ∧ OldK s₁.heap s'.heap ∧ s'.os = s₁.os ∧ AllBare s'.gens) s₁ := by
  have rv := vals_ints hi
  have lenV := hi.length
  have naP : a ≠ P := fun e => by rw [e, hP] at ha; cases ha
  have core : ∀ H : Hp, OnlyT P H → H P = some (.tbl #[]) → SqL K H a (ns.map V.int) → HOk Pr w H s₁.heap → (∀ b, H b ≠ none → b = a ∨ b = P) → (H a ≠ none → K.lookup a = none) →
      codeAny (model Pr w) callerA (.call (.ref fa) ⟨[.ref a], []⟩) (fun r s' => r = .ok (.ret (.bool true)) ∧ OldK s₁.heap s'.heap ∧ s'.os = s₁.os ∧ AllBare s'.gens) s₁ := by
    intro H hO hT hS hok hA hK
    have base_of : ∀ {b : Addr} {o : Obj}, s₁.heap.get? b = some o → H b = none → (hidT s₁.heap H).get? b = some o := fun e n => hidT_get e n
    have noA : ∀ {b : Addr} {o : Obj} {es : Array DictEntry} {ep : Nat}, s₁.heap.get? b = some o → o.data = .dict es ep → H b = none := fun {b o es ep} e d => by
      cases q : H b with
      | none => rfl
      | some u =>
        rcases hA b (by rw [q]; simp) with e' | e'
        · subst e'
          rw [ha] at e; cases e
          have d' : Data.seq vs.toArray _ = Data.dict es ep := d
          cases d'
        · subst e'
          rw [hP] at e; cases e
          cases d
    have nsK : ∀ {b : Addr} {m : Str → Option Value}, s₁.heap.Ns b m → (hidT s₁.heap H).Ns b m := fun {b m} ⟨o, es, ep, e, d, r⟩ => ⟨o, es, ep, base_of e (noA e d), d, r⟩
    have hKb : K.In (hidT s₁.heap H) := fun b o e => base_of (KX b o e) (by
      cases q : H b with
      | none => rfl
      | some u =>
        rcases hA b (by rw [q]; simp) with e' | e'
        · subst e'
          rw [hK (by rw [q]; simp)] at e; cases e
        · subst e'
          rw [hKP] at e; cases e)
    have hM : Mod K mg (hidT s₁.heap H) := ⟨hKb, nsK hns, ⟨mb, nsK hb, hbb⟩, let ⟨mc, h1, h2⟩ := hlim; ⟨mc, nsK h1, h2⟩⟩
    have noB : ∀ {b : Addr}, b ≠ a → b ≠ P → H b = none := fun {b} n1 n2 => by
      cases q : H b with
      | none => rfl
      | some u => exact ((hA b (by rw [q]; simp)).elim n1 n2).elim
    have hCb : PySem.W.CodeHd (hidT s₁.heap H) c P := by
      obtain ⟨o, vs', file, tf, flags, tg, inF, text, tt, e1, e2, r⟩ := id C
      exact ⟨o, vs', file, tf, flags, tg, inF, text, tt, base_of e1 (noB (fun z => by rw [z, ha] at e1; cases e1; exact absurd (show Value.type "list" = Value.type "code" from e2) (by decide)) r.2.2.2.2.2.2.2), e2, r⟩
    have hBb : (hidT s₁.heap H).BuiltinsAt mg P := by
      obtain ⟨bm, o, a1, a2, a3, a4, a5, a6, r⟩ := hB
      exact ⟨bm, o, a1, a2, a3, a4, base_of a5 (noB (fun z => by rw [z, ha] at a5; cases a5; exact absurd (show Value.type "list" = Value.type "module" from a6) (by decide)) a4), a6, r⟩
    have e0 : Env0 Pr w K mg (hidT s₁.heap H) callerA [] s₁ H := ⟨rfl, hM, fun b o e => of_hidT e, Nat.le_of_eq (hidT_size _ _), trivial, fun b hb => absurd (show b ∈ ([] : List Addr) from hb) (by simp), hok, .of_eq hg⟩
    refine codeAny_mono ((F _ hKb (nsK hns) hCb hBb).run callerA [] s₁ H ⟨[.ref a], []⟩ [.ref a] [.ref a] _ _ hr e0 (hbind s₁ (.ref a)) (.cons rfl .nil) (hsp H hO hT hS)) fun r s' h => ?_
    cases r with
    | error e => exact (hCX H e s' h).elim
    | ok fl =>
      cases fl with
      | next => exact False.elim h
      | brk => exact False.elim h
      | cont => exact False.elim h
      | ret u =>
        obtain ⟨v, H', os, bare, un, hok', r', q⟩ := h
        have q' : v = .bl true := q
        subst q'
        obtain rfl : u = Value.bool true := r'
        have all : ∀ b o, s₁.heap.get? b = some o → s'.heap.get? b = some o ∨ (b = P ∧ ∃ more, s'.heap.get? b = some (PySem.W.tabObj more)) := fun b o e => by
          cases q : H b with
          | none => exact .inl (un.keep b o e q (by intro z; exact absurd (show b ∈ ([] : List Addr) from z) (by simp)) (by simp))
          | some u =>
            rcases hO b with z | ⟨ob, xs, z⟩ | ⟨eb, z⟩
            · rw [q] at z; cases z
            · have z2 := un.frzs b ob _ z
              obtain ⟨e1, _⟩ := hok b _ z
              obtain ⟨e2, _⟩ := hok' b _ z2
              rw [e] at e1; cases e1
              exact .inl e2
            · obtain ⟨more, z2⟩ := un.tbls b _ z
              have z3 : s'.heap.get? b = some { cls := .none, data := .fields (#[] ++ more) } := hok' b _ z2
              exact .inr ⟨eb, _, z3⟩
        refine ⟨rfl, ⟨fun b o e => ?_, fun b o e => ?_⟩, os, bare⟩
        · rcases all b o e with z | ⟨eb, more, z⟩
          · exact .inl z
          · subst eb
            rw [hP] at e; cases e
            refine .inr (.inl ⟨(C.tab hP).isCodeTable, rfl, #[], more, rfl, ?_⟩)
            rw [z]
            simp
        · rcases all b o e with z | ⟨eb, more, z⟩
          · exact ⟨_, z⟩
          · exact ⟨_, z⟩
  cases hk : K.lookup a with
  | some o =>
    have e := KX a o hk
    rw [ha] at e
    cases e
    refine core (fun b => if b = P then some (.tbl #[]) else none) (fun b => ?_) (if_pos rfl) (.inr ⟨_, vs.toArray, _, hk, rfl, rfl, rfl, by rw [List.size_toArray, lenV]; exact hl, by simpa using rv⟩) (fun b u z => ?_) (fun b z => ?_) fun z => absurd (if_neg naP) z
    · by_cases hb : b = P
      · exact .inr (.inr ⟨hb, if_pos hb⟩)
      · exact .inl (if_neg hb)
    · by_cases hb : b = P
      · have z' := (if_pos hb).symm.trans z
        cases z'
        subst hb
        exact hP
      · have z' := (if_neg hb).symm.trans z
        cases z'
    · by_cases hb : b = P
      · exact .inr hb
      · exact absurd (if_neg hb) z
  | none =>
    refine core (fun b => if b = P then some (.tbl #[]) else if b = a then some (.frz { cls := .type "list", data := .seq vs.toArray } (.lst (ns.map V.int))) else none) (fun b => ?_) (if_pos rfl) (.inl (.inr ⟨{ cls := .type "list", data := .seq vs.toArray }, (if_neg naP).trans (if_pos rfl)⟩)) (fun b u z => ?_) (fun b z => ?_) fun _ => hk
    · by_cases hb : b = P
      · exact .inr (.inr ⟨hb, if_pos hb⟩)
      · by_cases hb2 : b = a
        · exact .inr (.inl ⟨_, _, (if_neg hb).trans (if_pos hb2)⟩)
        · exact .inl ((if_neg hb).trans (if_neg hb2))
    · by_cases hb : b = P
      · have z' := (if_pos hb).symm.trans z
        cases z'
        subst hb
        exact hP
      · by_cases hb2 : b = a
        · have z : (if b = P then some (HO.tbl #[]) else if b = a then some (.frz { cls := .type "list", data := .seq vs.toArray } (.lst (ns.map V.int))) else none) = some u := z
          rw [if_neg hb, if_pos hb2] at z
          cases z
          subst hb2
          exact ⟨ha, by rw [List.length_map]; exact hl, vs, _, rv, ha⟩
        · have z : (if b = P then some (HO.tbl #[]) else if b = a then some (.frz { cls := .type "list", data := .seq vs.toArray } (.lst (ns.map V.int))) else none) = some u := z
          rw [if_neg hb, if_neg hb2] at z
          cases z
    · by_cases hb : b = P
      · exact .inr hb
      · by_cases hb2 : b = a
        · exact .inl hb2
        · exact absurd (show (if b = P then some (HO.tbl #[]) else if b = a then some (.frz { cls := .type "list", data := .seq vs.toArray } (.lst (ns.map V.int))) else none) = none by rw [if_neg hb, if_neg hb2]) z
theorem walk_ofT {l : PySem.W.OpenLaw} {n k : Nat} {q : Program} {loose : List Str} {XP : (Str → Option Value) → Heap → Prop} {YP : World → Heap → Prop} {d : DefRec} {K : Params → PySem.W.Frag} {CX : World → CXT} {sp : World → Sp} {x : Str} {c P : World → Addr}
    (hn : l.most = some n) (hn2 : n ≤ sizeLine) (hdf : d.params.defaults = []) (hr : Room k callerA)
    (hY : ∀ (w : World) (h : Heap), YP w h → (K w.params).In h)
    (hrec : (recsOf q).find? (fun e => e.name == d.name) = some d) (ht : ∀ w, PySem.W.tabIn (K w.params) d.name = some (c w, P w)) (hKP : ∀ w : World, (K w.params).lookup (P w) = none)
    (F : ∀ (w : World) (mg : Str → Option Value) (fa : Addr) (h : Heap), (K w.params).In h → h.Ns mainGlobals mg → mg d.name = some (.ref fa) →
      ∃ fd : FuncData, (∀ (s : Shared) (u : Value), BindsTo s fd ⟨[u], []⟩ [(x, u)]) ∧
        ∀ base : Heap, (K w.params).In base → base.Ns mainGlobals mg → PySem.W.CodeHd base (c w) (P w) → base.BuiltinsAt mg (P w) → FnOk l.prog w (K w.params) mg base (CX w) k fa fd [x] (sp w))
    (hsp : ∀ (w : World) (H : Hp) (a : Addr) (ns : List Int), ns.length ≤ n → OnlyT (P w) H → H (P w) = some (.tbl #[]) → SqL (K w.params) H a (ns.map V.int) → sp w [.ref a] H (fun v _ => v = .bl true) fun _ _ _ => False)
    (hCX : ∀ (w : World) (H : Hp) (s : Shared) (e : Value) (s' : Shared), CX w [] H s (fun _ _ _ => False) e s' → False) :
    PySem.W.WalkO q loose XP YP l.row.toRowW d [] (fun f vs => PySem.call f vs) := by
  refine Att.attach_call hn hdf fun w s₀ s₁ mg mb fa o pm cd doc a vs ns G Y ho hd hcd hmg hobj hints hlen hg => ?_
  have KX := hY w _ Y
  obtain ⟨fd, hb, hF⟩ := F w mg fa _ KX G.T.g hmg
  obtain ⟨C, hP⟩ := PySem.W.tab_of G.T KX hrec (ht w)
  have hB : s₁.heap.BuiltinsAt mg (P w) := by
    obtain ⟨bm, ob, h1, h2, h3, h4, h5, h6⟩ := G.T.bmain
    refine ⟨bm, ob, h1, h2, fun z => ?_, fun z => ?_, h3, h4, h5, h6⟩
    · obtain ⟨o, es, ep, e, hd, _⟩ := G.T.g
      rw [z, e] at h3; cases h3
      rw [h6] at hd; cases hd
    · rw [z, hP] at h3; cases h3
      cases h6
  exact law_callT KX G.T.g G.T.b G.T.builtins G.T.nolimit hg hobj hints (Nat.le_trans hlen hn2) hr C hP (hKP w) hB hF hb (fun H hO hT hS => hsp w H a ns hlen hO hT hS) fun H e s' => hCX w H s₁ e s'
end L2

/-! A LAMBDA is made: its code in the table, its function object known. -/
namespace L2
open PySem PySem.Spec PyProof.Rows
def FunIs (f : Addr) (name qual : Str) (params : Arguments) (body : Expr) (scope : Scope) (clos : List (Str × Addr)) (pm cv ctv : Value) : Heap → Prop := fun h => h.get? f = some { cls := .type "function", data := .func (PySem.W.kla_fn name qual params body scope clos pm cv ctv) }
def CodeIs (c : Addr) (qual : Str) : Heap → Prop := fun h => h.CodeRec (.ref c) qual
theorem CodeIs.stay {c : Addr} {qual : Str} {h h' : Heap} (p : CodeIs c qual h) (k : ∀ o, h.get? c = some o → h'.get? c = some o) : CodeIs c qual h' := by
  obtain ⟨c', oc, vs, tq, e, e1, e2, e3⟩ := p
  cases e
  exact ⟨c, oc, vs, tq, rfl, k _ e1, e2, e3⟩
section
variable {X : Cx} {params : Arguments} {body : Expr} {scope : Scope} {pos : Pos} {clos : List (Str × Addr)} {c P : Addr}
def tLam (X : Cx) (P : Addr) (params : Arguments) (body : Expr) (scope : Scope) (pos : Pos) (clos : List (Str × Addr)) : TE := fun σ H Q => ∃ ps : Array Value, H P = some (.tbl ps) ∧ TriplesOk ps.toList ∧
  (codeAmong pos ps.toList = none → ∀ (f c' : Addr) (ctv : Value), H c' = none → H f = none → f ≠ c' → f ≠ P → c' ≠ P →
    Q (.ref f) (upd (upd (upd H P (.tbl (ps ++ #[rawInt pos.line, rawInt pos.col, .ref c']))) c' (.ext (CodeIs c' (X.env.qual ++ "<lambda>")))) f (.ext (FunIs f "<lambda>" (X.env.qual ++ "<lambda>") params body scope clos ((X.mg "__name__").getD .none) (.ref c') ctv)))) ∧
  (∀ cv, codeAmong pos ps.toList = some cv → ∀ (f : Addr) (ctv : Value), H f = none → Q (.ref f) (upd H f (.ext (FunIs f "<lambda>" (X.env.qual ++ "<lambda>") params body scope clos ((X.mg "__name__").getD .none) cv ctv))))
theorem pe_lam (hdef : defaultsOf params X.env = ([], [])) (hcl : closureFor scope X.env = pure clos) (hcode : X.env.code = .ref c) (hC : PySem.W.CodeHd X.base c P) (hB : X.base.BuiltinsAt X.mg P) : PE X (.Lambda params body scope pos) (tLam X P params body scope pos clos) := by
  intro pins s σ H Q I h
  obtain ⟨ps, hT, ht, h1, h2⟩ := h
  have hP : s.heap.get? P = some (PySem.W.tabObj ps) := I.hok P _ hT
  have hgl : s.heap.Ns mainGlobals X.mg := I.mod.glob.keeps I.bk
  have hgP : mainGlobals ≠ P := fun e => by
    obtain ⟨o, es, ep, e1, e2, _⟩ := hgl
    rw [e, hP] at e1; cases e1; cases e2
  have hB' : s.heap.BuiltinsAt X.mg P := let ⟨bm, o, a1, a2, a3, a4, a5, r⟩ := hB; ⟨bm, o, a1, a2, a3, a4, I.bk _ _ a5, r⟩
  have hC' := hC.keeps I.bk
  have lt : ∀ {b : Addr} {u : HO}, H b = some u → b < s.heap.objs.size := fun e => I.hok.lt e
  refine PySem.W.kla_eval hdef ?_
  cases hf : codeAmong pos ps.toList with
  | none =>
    refine PySem.W.kla_makeFunction hcl I.ok.glob hgl hcode hC' hP ht hf hgP hB' fun c' ctv h' tk hx hge hlt hrec hP' => ?_
    have hszP : P < s.heap.objs.size := Heap.lt_size hP
    have ncP : c' ≠ P := fun e => Nat.lt_irrefl _ (Nat.lt_of_lt_of_le hszP (e ▸ hge))
    have hle : s.heap.objs.size ≤ h'.objs.size := Nat.le_trans hge (Nat.le_of_lt hlt)
    have nfP : h'.objs.size ≠ P := fun e => Nat.lt_irrefl _ (Nat.lt_of_lt_of_le hszP (e ▸ hle))
    have nfc : h'.objs.size ≠ c' := fun e => Nat.lt_irrefl _ (e ▸ hlt)
    have old : ∀ {b : Addr}, b < s.heap.objs.size → b ≠ c' ∧ b ≠ h'.objs.size := fun hb => ⟨fun e => Nat.lt_irrefl _ (Nat.lt_of_lt_of_le hb (e ▸ hge)), fun e => Nat.lt_irrefl _ (Nat.lt_of_lt_of_le hb (e ▸ hle))⟩
    generalize eO : PySem.W.kla_obj "<lambda>" (X.env.qual ++ "<lambda>") params body scope clos ((X.mg "__name__").getD .none) c' ctv = ob
    have kk : ∀ b o, b ≠ P → s.heap.get? b = some o → (h'.push ob).get? b = some o := fun b o n e => Heap.get?_push_of_some _ (hx b o n e)
    have q := h1 hf h'.objs.size c' ctv (I.hok.fresh hge) (I.hok.fresh hle) nfc nfP ncP
    generalize eH : upd (upd (upd H P (.tbl (ps ++ #[rawInt pos.line, rawInt pos.col, .ref c']))) c' (.ext (CodeIs c' (X.env.qual ++ "<lambda>")))) h'.objs.size (.ext (FunIs h'.objs.size "<lambda>" (X.env.qual ++ "<lambda>") params body scope clos ((X.mg "__name__").getD .none) (.ref c') ctv)) = H' at q
    have at_old : ∀ {b : Addr}, b < s.heap.objs.size → b ≠ P → H' b = H b := fun {b} hb n => by rw [← eH, upd_ne (old hb).2, upd_ne (old hb).1, upd_ne n]
    have at_P : H' P = some (.tbl (ps ++ #[rawInt pos.line, rawInt pos.col, .ref c'])) := by rw [← eH, upd_ne (Ne.symm nfP), upd_ne (Ne.symm ncP)]; exact upd_same
    have at_c : H' c' = some (.ext (CodeIs c' (X.env.qual ++ "<lambda>"))) := by rw [← eH, upd_ne (Ne.symm nfc)]; exact upd_same
    have at_f : H' h'.objs.size = some (.ext (FunIs h'.objs.size "<lambda>" (X.env.qual ++ "<lambda>") params body scope clos ((X.mg "__name__").getD .none) (.ref c') ctv)) := by rw [← eH]; exact upd_same
    have noP : ∀ {b : Addr} {u : HO}, H b = some u → (∀ ps', u ≠ .tbl ps') → b ≠ P := fun {b u} e n z => by rw [z, hT] at e; cases e; exact n _ rfl
    refine ⟨.ref h'.objs.size, H', ?_, rfl, q⟩
    refine I.step (g' := s.gens) (d' := s.drawn) (t' := tk) (ch := []) (fun _ z => nomatch z) (fun b o _ _ _ e n => kk b o (fun z => by rw [z, hT] at n; cases n) e) (fun b o _ _ _ e n => ⟨o.slots, kk b o (fun z => by rw [z, hT] at n; cases n) e⟩)
      (fun b o _ e n => (at_old (Heap.lt_size e) (fun z => by rw [z, hT] at n; cases n)).trans n) (fun b o _ e => ?_) (fun b xs e => (at_old (lt e) (noP e fun _ z => by cases z)).trans e) (fun b o u e => (at_old (lt e) (noP e fun _ z => by cases z)).trans e) (fun b ps' e => ?_) (fun m hm => ?_) ?_ I.bare
    · by_cases hb : b = P
      · exact ⟨_, Heap.get?_push_of_some _ (hb ▸ hP')⟩
      · exact ⟨o, kk b o hb e⟩
    · by_cases hb : b = P
      · subst hb
        rw [hT] at e; cases e
        exact ⟨_, at_P⟩
      · exact ⟨#[], ((at_old (lt e) hb).trans e).trans (by simp)⟩
    · have nL : X.env.locals ≠ P := fun z => by have := I.free; rw [z, hT] at this; cases this
      obtain ⟨o, es, ep, e1, e2, r⟩ := hm
      exact ⟨o, es, ep, kk _ _ nL e1, e2, r⟩
    · intro b u e
      by_cases hbf : b = h'.objs.size
      · subst hbf
        rw [at_f] at e; cases e
        exact ⟨by rw [← eO]; exact Heap.get?_push_size _ rfl, ⟨_, by rw [← eO]; exact Heap.get?_push_size _ rfl⟩, fun h1 h2 p k => k _ p⟩
      · by_cases hbc : b = c'
        · subst hbc
          rw [at_c] at e; cases e
          have hr : CodeIs b (X.env.qual ++ "<lambda>") (h'.push ob) := CodeIs.stay (h := h') hrec fun o e => Heap.get?_push_of_some _ e
          obtain ⟨c2, oc, vs, tq, e0, e1, e2, e3⟩ := id hr
          cases e0
          exact ⟨hr, ⟨_, e1⟩, fun h1 h2 p k => CodeIs.stay p k⟩
        · by_cases hbP : b = P
          · subst hbP
            rw [at_P] at e; cases e
            exact Heap.get?_push_of_some _ hP'
          · have e' : H b = some u := by rw [← eH, upd_ne hbf, upd_ne hbc, upd_ne hbP] at e; exact e
            refine (I.hok b u e').stay (fun cc v hc qq => kk cc v ?_ qq) (fun cc r => (at_old (lt r) (noP r fun _ z => by cases z)).trans r) fun cc xs r => (at_old (lt r) (noP r fun _ z => by cases z)).trans r
            rcases hc with rfl | hc
            · exact hbP
            · exact noP hc fun _ z => by cases z
  | some cv =>
    refine PySem.W.kla_makeFunctionHit hcl I.ok.glob hgl hcode hC' hP ht hf hB' fun ctv h' tk hk hle => ?_
    have kk : ∀ b o, s.heap.get? b = some o → (h'.push { cls := .type "function", data := .func (PySem.W.kla_fn "<lambda>" (X.env.qual ++ "<lambda>") params body scope clos ((X.mg "__name__").getD .none) cv ctv) }).get? b = some o := fun b o e => Heap.get?_push_of_some _ (hk b o e)
    exact ⟨.ref h'.objs.size, _, I.laid (t' := tk) kk hle (show ObjOk X.prog X.w _ _ _ (.ext _) from ⟨Heap.get?_push_size _ rfl, ⟨_, Heap.get?_push_size _ rfl⟩, fun h1 h2 p k => k _ p⟩), rfl, h2 cv hf h'.objs.size ctv (I.hok.fresh hle)⟩
end
end L2

/-! CELLS of a caller, frozen while a callee runs that may read them through a function made here. -/
namespace L2
open PySem PySem.Spec PyProof.Rows
def addC (cs : List (Addr × Obj)) (H : Hp) : Hp := fun b => match cs.lookup b with
  | some o => some (.frz o (.ext fun _ => True))
  | none => H b
def dropC (cs : List (Addr × Obj)) (H : Hp) : Hp := fun b => match cs.lookup b with
  | some _ => none
  | none => H b
theorem addC_in {cs : List (Addr × Obj)} {H : Hp} {b : Addr} {o : Obj} (e : cs.lookup b = some o) : addC cs H b = some (.frz o (.ext fun _ => True)) := by unfold addC; rw [e]
theorem addC_out {cs : List (Addr × Obj)} {H : Hp} {b : Addr} (e : cs.lookup b = none) : addC cs H b = H b := by unfold addC; rw [e]
theorem dropC_in {cs : List (Addr × Obj)} {H : Hp} {b : Addr} {o : Obj} (e : cs.lookup b = some o) : dropC cs H b = none := by unfold dropC; rw [e]
theorem dropC_out {cs : List (Addr × Obj)} {H : Hp} {b : Addr} (e : cs.lookup b = none) : dropC cs H b = H b := by unfold dropC; rw [e]
section
variable {fs : List Addr} {cs : List (Addr × Obj)} {H H1 : Hp} {h h' : Heap} {P : Program} {w : World}
theorem addC_un (u : Un fs [] H H1 h h') : Un fs [] (addC cs H) (addC cs H1) h h' where
  keep := fun b o e n hb hx => u.keep b o e (by
    cases q : cs.lookup b with
    | some o' => rw [addC_in q] at n; cases n
    | none => rw [addC_out q] at n; exact n) hb hx
  slot := fun b o e n hb hx => u.slot b o e (by
    cases q : cs.lookup b with
    | some o' => rw [addC_in q] at n; cases n
    | none => rw [addC_out q] at n; exact n) hb hx
  free := fun b o e n hx => by
    cases q : cs.lookup b with
    | some o' => rw [addC_in q] at n; cases n
    | none => rw [addC_out q] at n ⊢; exact u.free b o e n hx
  there := u.there
  tups := fun b xs e => by
    cases q : cs.lookup b with
    | some o' => rw [addC_in q] at e; cases e
    | none => rw [addC_out q] at e ⊢; exact u.tups b xs e
  frzs := fun b o v e => by
    cases q : cs.lookup b with
    | some o' => rw [addC_in q] at e ⊢; exact e
    | none => rw [addC_out q] at e ⊢; exact u.frzs b o v e
  tbls := fun b ps e => by
    cases q : cs.lookup b with
    | some o' => rw [addC_in q] at e; cases e
    | none => rw [addC_out q] at e ⊢; exact u.tbls b ps e
theorem addC_hok (ok : HOk P w H h) (hc : ∀ b o, cs.lookup b = some o → h.get? b = some o) (hn : ∀ b o, cs.lookup b = some o → H b = none) : HOk P w (addC cs H) h := fun b u e => by
  cases q : cs.lookup b with
  | some o =>
    rw [addC_in q] at e; cases e
    exact ⟨hc b o q, trivial, ⟨o, hc b o q⟩, fun _ _ _ _ => trivial⟩
  | none =>
    rw [addC_out q] at e
    have out : ∀ {c : Addr} {v : HO}, H c = some v → cs.lookup c = none := fun {c v} r => by
      cases z : cs.lookup c with
      | none => rfl
      | some o => rw [hn c o z] at r; cases r
    exact (ok b u e).stay (fun _ _ _ r => r) (fun c r => by rw [addC_out (out r)]; exact r) fun c xs r => by rw [addC_out (out r)]; exact r
theorem dropC_un (u : Un fs [] (addC cs H) H1 h h') (ok1 : HOk P w H1 h') (hn : ∀ b o, cs.lookup b = some o → H b = none ∧ h.get? b = some o) : Un fs [] H (dropC cs H1) h h' where
  keep := fun b o e n hb hx => by
    cases q : cs.lookup b with
    | some o' =>
      have z := u.frzs b o' _ (addC_in q)
      rw [(hn b o' q).2] at e; cases e
      exact (ok1 b _ z).1
    | none => exact u.keep b o e (by rw [addC_out q]; exact n) hb hx
  slot := fun b o e n hb hx => by
    cases q : cs.lookup b with
    | some o' =>
      have z := u.frzs b o' _ (addC_in q)
      rw [(hn b o' q).2] at e; cases e
      exact ⟨o.slots, (ok1 b _ z).1⟩
    | none => exact u.slot b o e (by rw [addC_out q]; exact n) hb hx
  free := fun b o e n hx => by
    cases q : cs.lookup b with
    | some o' => exact dropC_in q
    | none => rw [dropC_out q]; exact u.free b o e (by rw [addC_out q]; exact n) hx
  there := u.there
  tups := fun b xs e => by
    cases q : cs.lookup b with
    | some o' => rw [(hn b o' q).1] at e; cases e
    | none => rw [dropC_out q]; exact u.tups b xs (by rw [addC_out q]; exact e)
  frzs := fun b o v e => by
    cases q : cs.lookup b with
    | some o' => rw [(hn b o' q).1] at e; cases e
    | none => rw [dropC_out q]; exact u.frzs b o v (by rw [addC_out q]; exact e)
  tbls := fun b ps e => by
    cases q : cs.lookup b with
    | some o' => rw [(hn b o' q).1] at e; cases e
    | none => rw [dropC_out q]; exact u.tbls b ps (by rw [addC_out q]; exact e)
theorem dropC_hok (ok : HOk P w H h) (hf : ∀ b o, cs.lookup b = some o → ∃ v, H b = some (.frz o v)) : HOk P w (dropC cs H) h := fun b u e => by
  cases q : cs.lookup b with
  | some o => rw [dropC_in q] at e; cases e
  | none =>
    rw [dropC_out q] at e
    have out : ∀ {c : Addr} {v : HO}, H c = some v → (∀ o v', v ≠ .frz o v') → cs.lookup c = none := fun {c v} r nf => by
      cases z : cs.lookup c with
      | none => rfl
      | some o =>
        obtain ⟨v', z'⟩ := hf c o z
        rw [z'] at r; cases r
        exact absurd rfl (nf _ _)
    exact (ok b u e).stay (fun _ _ _ r => r) (fun c r => by rw [dropC_out (out r fun _ _ z => by cases z)]; exact r) fun c xs r => by rw [dropC_out (out r fun _ _ z => by cases z)]; exact r
theorem addC_dropC (hf : ∀ b o, cs.lookup b = some o → H b = some (.frz o (.ext fun _ => True))) : addC cs (dropC cs H) = H := by
  funext b
  cases q : cs.lookup b with
  | some o => rw [addC_in q, hf b o q]
  | none => rw [addC_out q, dropC_out q]
end
theorem run_fnC {X : Cx} {CX : CXT} {k : Nat} {f : Addr} {fd : FuncData} {ps : List Str} {sp : Sp} {pins : List (Addr × Obj)} {σ : St} {H : Hp} {s : Shared} {Q : VK} {E : XK} {us : List Value} {vs : List V} {cs : List (Addr × Obj)}
    (F : FnOk X.prog X.w X.K X.mg X.base CX k f fd ps sp) (hr : Room k X.A) (hb : Binds X.K fd ps []) (I : Inv X pins σ H s) (r : Vals vs us)
    (hc : ∀ b o, cs.lookup b = some o → H b = none ∧ s.heap.get? b = some o) (hbase : ∀ b o o', cs.lookup b = some o → X.base.get? b = some o' → False) (hfr : ∀ b o, cs.lookup b = some o → b ∉ frs X.stack)
    (hx : ∀ e s', CX X.stack (addC cs H) s E e s' → X.xe e s') (h : sp vs (addC cs H) (fun v H' => Q v (dropC cs H')) E) : wpAny (model X.prog X.w) X.A (call (.ref f) us) (EP X pins σ Q) X.xe s := by
  have hl : us.length = ps.length := by rw [← r.length]; exact F.len _ _ _ _ h
  have e0 := I.env0
  have out : ∀ {b : Addr}, (∀ o, cs.lookup b = some o → False) → cs.lookup b = none := fun {b} n => by
    cases z : cs.lookup b with
    | none => rfl
    | some o => exact (n o z).elim
  have e1 : Env0 X.prog X.w X.K X.mg X.base X.A X.stack s (addC cs H) := ⟨e0.frames, e0.mod, fun b o e => ⟨(e0.bs b o e).1, by rw [addC_out (out fun o' z => hbase b o' o z e)]; exact (e0.bs b o e).2⟩, e0.bsz, e0.funs, fun b hb => by rw [addC_out (out fun o' z => hfr b o' z hb)]; exact e0.frf b hb, addC_hok e0.hok (fun b o z => (hc b o z).2) fun b o z => (hc b o z).1, e0.bare⟩
  have hbb := hb s us I.kIn (by rw [List.append_nil]; exact hl)
  rw [List.append_nil] at hbb
  refine wpAny_call (codeAny_mono (F.run X.A X.stack s (addC cs H) ⟨us, []⟩ us vs _ E hr e1 hbb r h) fun r s' hq => ?_)
  cases r with
  | error e => exact hx e s' hq
  | ok fl =>
    cases fl with
    | next => exact False.elim hq
    | brk => exact False.elim hq
    | cont => exact False.elim hq
    | ret u =>
      obtain ⟨v, H', os, bare, un, hok, rv, q⟩ := hq
      exact I.after ⟨v, dropC cs H', os, bare, dropC_un un hok hc, dropC_hok hok fun b o z => ⟨_, un.frzs b o _ (addC_in z)⟩, rv, q⟩
end L2

/-! A LAMBDA without parameters, called while the cells that it reads are known. -/
namespace L2
open PySem PySem.Spec PyProof.Rows
theorem dropC_addC {cs : List (Addr × Obj)} {H : Hp} (hn : ∀ b o, cs.lookup b = some o → H b = none) : dropC cs (addC cs H) = H := by
  funext b
  cases q : cs.lookup b with
  | some o => rw [dropC_in q, hn b o q]
  | none => rw [dropC_out q, addC_out q]
theorem cx1_addC {P : Program} {w : World} {outer : List Env} {cs : List (Addr × Obj)} {H0 : Hp} {s s' : Shared} {E : XK} {e : Value} (hn : ∀ b o, cs.lookup b = some o → H0 b = none ∧ s.heap.get? b = some o ∧ b ∉ frs outer)
    (h : CX1 P w outer H0 s (fun cls x H1 => (∀ b, x = some b → cs.lookup b = none) → E cls x (addC cs H1)) e s') : CX1 P w outer (addC cs H0) s E e s' := by
  obtain ⟨x, cls, H', rfl, os, bare, un, ok, ⟨fn, fu, oe, vs, T, oT, ts, t1, t2, t3, t4, t5, t6, t7, t8, t9, t10⟩, hE⟩ := h
  have out : ∀ {b : Addr}, s.heap.get? b = none → cs.lookup b = none := fun {b} n => by
    cases z : cs.lookup b with
    | none => rfl
    | some o => rw [(hn b o z).2.1] at n; cases n
  refine ⟨x, cls, addC cs H', rfl, os, bare, addC_un un, addC_hok ok (fun b o z => ?_) (fun b o z => ?_), ⟨fn, by rw [addC_out (out fn)]; exact fu, oe, vs, T, oT, ts, t1, t2, t3, t4, t5, by rw [addC_out (out t5)]; exact t6, t7, t8, t9, t10⟩, hE fun b e => by cases e; exact out fn⟩
  · obtain ⟨a1, a2, a3⟩ := hn b o z
    exact un.keep b o a2 a1 a3 (by simp)
  · obtain ⟨a1, a2, a3⟩ := hn b o z
    exact un.free b o a2 a1 (by simp)
section
variable {P : Program} {w : World} {K : PySem.W.Frag} {mg : Str → Option Value} {base : Heap} {k : Nat} {f c' : Addr} {name qual : Str} {params : Arguments} {body : Expr} {scope : Scope} {clos : List (Str × Addr)} {pm ctv : Value} {N : List Str} {sp : Sp}
structure LamAt (P : Program) (w : World) (K : PySem.W.Frag) (mg : Str → Option Value) (base : Heap) (k : Nat) (f c' : Addr) (name qual : Str) (params : Arguments) (body : Expr) (scope : Scope) (clos : List (Str × Addr)) (pm ctv : Value) (N : List Str) (H : Hp) (Q : VK) (E : XK) (H0 : Hp) (cs : List (Addr × Obj)) (σ : St) : Prop where
  eq : H = addC cs H0
  un : ∀ b o, cs.lookup b = some o → H0 b = none
  fn : H0 f = some (.ext (FunIs f name qual params body scope clos pm (.ref c') ctv))
  cd : H0 c' = some (.ext (CodeIs c' qual))
  cell : ∀ x c, clos.lookup x = some c → ∃ o v, cs.lookup c = some o ∧ o.data = .cell v
  len : σ.length = N.length
  val : ∀ (i : Nat) (x : Str) (v : V), N[i]? = some x → σ[i]? = some (some v) → ∃ c o u, clos.lookup x = some c ∧ cs.lookup c = some o ∧ o.data = .cell (some u) ∧ RelV v u
  run : ∀ (A : Around) (outer : List Env) (s : Shared), Room k (A.deeper (PySem.W.envX qual scope s.heap.objs.size f (.ref c') clos)) →
    ∃ t, PE (cxAt (CX1 P w) P w K mg base N (PySem.W.envX qual scope s.heap.objs.size f (.ref c') clos) (fun _ => false) A outer s H0 (fun cls x H1 => (∀ b, x = some b → cs.lookup b = none) → E cls x (addC cs H1))) body t ∧ t σ H0 (fun v H1 => Q v (addC cs H1))
theorem lam_ok (hco : scope.isCoroutine = false) (hgen : scope.isGenerator = false) (hk : scope.kind = .function) (hfree : ∀ x ∈ scope.names, x.2 ≠ .cell ∧ x.2 ≠ .local) (inj : ∀ x y c, clos.lookup x = some c → clos.lookup y = some c → x = y)
    (has : ∀ x, scope.names.lookup x = some .free → ∃ c, clos.lookup x = some c) (hsp : ∀ vs H Q E, sp vs H Q E → vs = [] ∧ ∃ H0 cs σ, LamAt P w K mg base k f c' name qual params body scope clos pm ctv N H Q E H0 cs σ) :
    FnOk P w K mg base (CX1 P w) (k + 1) f (PySem.W.kla_fn name qual params body scope clos pm (.ref c') ctv) [] sp := by
  refine ⟨fun vs H Q E h => by rw [(hsp vs H Q E h).1]; rfl, fun A outer s H args us vs Q E hr e0 hb r h => ?_⟩
  obtain ⟨rfl, H0, cs, σ, L⟩ := hsp vs H Q E h
  obtain rfl := L.eq
  have outS : ∀ {b : Addr} {u : HO}, H0 b = some u → cs.lookup b = none := fun {b u} e => by
    cases z : cs.lookup b with
    | none => rfl
    | some o => rw [L.un b o z] at e; cases e
  have outN : ∀ {b : Addr}, addC cs H0 b = none → cs.lookup b = none ∧ H0 b = none := fun {b} n => by
    cases z : cs.lookup b with
    | none => rw [addC_out z] at n; exact ⟨rfl, n⟩
    | some o => rw [addC_in z] at n; cases n
  have fo : s.heap.get? f = some { cls := .type "function", data := .func (PySem.W.kla_fn name qual params body scope clos pm (.ref c') ctv) } := (e0.hok f _ ((addC_out (outS L.fn)).trans L.fn)).1
  have co : s.heap.CodeRec (.ref c') qual := (e0.hok c' _ ((addC_out (outS L.cd)).trans L.cd)).1
  have cells : ∀ b o, cs.lookup b = some o → H0 b = none ∧ s.heap.get? b = some o ∧ b ∉ frs outer := fun b o z => ⟨L.un b o z, (e0.hok b _ (addC_in z)).1, fun hb => by have := e0.frf b hb; rw [addC_in z] at this; cases this⟩
  have lim : s.heap.NoLimit := e0.mod.nolimit.keeps fun b o e => (e0.bs b o e).1
  refine PySem.W.kla_callFunE hr.depth fo rfl hco hgen rfl co (hb _ _ _ _ ?_)
  refine wpAny_newFunctionEnv (fun x hx => (hfree x hx).1) (fun y hy => absurd hy (by simp)) (fun h₁ hns hsb => ⟨lim.fresh _ hsb, ?_⟩) hk
  have hk₁ : ∀ b o, s.heap.get? b = some o → h₁.get? b = some o := fun b o e => hsb.extBut b o (Nat.ne_of_lt (Heap.lt_size e)) (Heap.get?_push_of_some _ e)
  obtain ⟨t, ht, hq⟩ := L.run A outer s (hr.deeper _)
  have noCell : ∀ {x : Str}, scope.names.lookup x = some .cell → False := fun {x} e => (hfree (x, .cell) (PySem.mem_of_lookup e)).1 rfl
  have noLocal : ∀ {x : Str}, scope.names.lookup x = some .local → False := fun {x} e => (hfree (x, .local) (PySem.mem_of_lookup e)).2 rfl
  have I : Inv (cxAt (CX1 P w) P w K mg base N (PySem.W.envX qual scope s.heap.objs.size f (.ref c') clos) (fun _ => false) A outer s H0 (fun cls x H1 => (∀ b, x = some b → cs.lookup b = none) → E cls x (addC cs H1))) [] σ H0 { s with heap := h₁, toks := s.toks + 0 } := by
    refine ⟨⟨e0.mod, hk, rfl, rfl, Nat.le_refl _, inj, fun x hx => ?_, fun x c z _ => absurd (show false = true from z) (by simp), fun _ => hr.hd, Around.frames_deeper e0.frames, .inr ⟨rfl, rfl⟩, fun b z => absurd (show b ∈ ([] : List Addr) from z) (by simp), fun b o e => ⟨(e0.bs b o e).1, (outN (e0.bs b o e).2).2⟩, e0.bsz, fun b _ _ z => absurd (show b ∈ ([] : List Addr) from z) (by simp), fun b z => absurd (show b ∈ ([] : List Addr) from z) (by simp), e0.funs, fun b hb => (outN (e0.frf b hb)).2⟩,
      rfl, e0.bare, Un.kept hk₁, ⟨_, hns, fun i x v h1 h2 h3 => ?_⟩, fun x c h => ?_, (outN (e0.hok.fresh (Nat.le_refl _))).2, fun x c h => ?_, fun p hp => absurd (show p ∈ ([] : List (Addr × Obj)) from hp) (by simp), ?_, L.len⟩
    · have hx : scope.names.lookup x = some .cell ∨ scope.names.lookup x = some .free := hx
      rcases hx with hx | hx
      · exact (noCell hx).elim
      · exact has x hx
    · obtain ⟨c, o, u, a1, a2, a3, rv⟩ := L.val i x v h1 h2
      refine ⟨u, rv, .inr ⟨.inr ?_, c, a1, o, hk₁ _ _ (cells c o a2).2.1, a3⟩⟩
      have h3 : scope.names.lookup x = some .local ∨ scope.names.lookup x = some .cell ∨ scope.names.lookup x = some .free := h3
      rcases h3 with z | z | z
      · exact (noLocal z).elim
      · exact (noCell z).elim
      · exact z
    · obtain ⟨o, v, a1, a2⟩ := L.cell x c h
      exact ⟨v, o, hk₁ _ _ (cells c o a1).2.1, a2⟩
    · obtain ⟨o, v, a1, a2⟩ := L.cell x c h
      exact L.un c o a1
    · have ok : HOk P w (dropC cs (addC cs H0)) s.heap := dropC_hok e0.hok fun b o z => ⟨_, addC_in z⟩
      rw [dropC_addC L.un] at ok
      exact ok.kept hk₁
  show codeAny _ _ (.expr body (PySem.W.envX qual scope s.heap.objs.size f (.ref c') clos)) _ _
  refine PySem.W.kla_codeExpr (wpAny_mono (ht [] _ σ H0 _ I hq) (fun v s' hs => ?_) fun e s' hs => ?_)
  · obtain ⟨x, H', J, rv, q⟩ := hs
    have un : Un (frs outer) [] H0 H' s.heap s'.heap := J.base
    exact ⟨x, addC cs H', J.os, J.bare, addC_un un, addC_hok J.hok (fun b o z => un.keep b o (cells b o z).2.1 (cells b o z).1 (cells b o z).2.2 (by simp)) (fun b o z => un.free b o (cells b o z).2.1 (cells b o z).1 (by simp)), rv, q⟩
  · exact wpAny_mono hs (fun _ s'' hc => cx1_addC cells hc) fun e' s'' hc => cx1_addC cells hc
end
end L2

namespace L2
open PySem PySem.Spec PyProof.Rows
theorem getB_some {bs : List Bool} {i : Nat} {x : V} (h : (bs.map V.bl)[i]? = some x) : i < bs.length ∧ x = .bl (bs.getD i false) := by
  rw [List.getElem?_map] at h
  cases e : bs[i]? with
  | none => rw [e] at h; cases h
  | some b =>
    rw [e] at h
    have hi := (List.getElem?_eq_some_iff.mp e).1
    refine ⟨hi, ?_⟩
    rw [List.getD_eq_getElem?_getD, e]
    exact (Option.some.inj h).symm
section
variable {X : Cx}
theorem op_eqB (hu : X.A.units < cLine) : OpR X (compareOp .Eq) (fun x y H Q => ∃ (p q : Addr) (xs ys : List Bool), x = .ref p ∧ y = .ref q ∧ SqL X.K H p (xs.map V.bl) ∧ SqL X.K H q (ys.map V.bl) ∧ Q (.bl (decide (xs = ys))) H) := by
  intro pins s σ H x y v u Q I rx ry h
  obtain ⟨p, q, xs, ys, rfl, rfl, h1, h2, hq⟩ := h
  cases rx
  cases ry
  obtain ⟨its, r1, pl1, _⟩ := I.list h1
  obtain ⟨jts, r2, pl2, _⟩ := I.list h2
  have l1 := r1.length
  have l2 := r2.length
  rw [List.length_map] at l1 l2
  by_cases hl : xs.length = ys.length
  · refine SeqAt.eq_listAt (e := fun j => xs.getD j false == ys.getD j false) pl1.isList pl2.isList (by simp only [List.size_toArray]; omega) hu (fun j a b => ?_) ?_
    · obtain ⟨x, e, ru⟩ := r1.at (j := j) (by simpa using a)
      obtain ⟨x', e', ru'⟩ := r2.at (j := j) (by simpa using b)
      obtain ⟨_, rfl⟩ := getB_some e
      obtain ⟨_, rfl⟩ := getB_some e'
      have ru : its[j] = _ := ru
      have ru' : jts[j] = _ := ru'
      show SeqAt.EqAt _ s its[j] jts[j] _
      rw [ru, ru']
      exact SeqAt.EqAt.bool_bool _ _
    · have ed : (List.range its.toArray.size).all (fun j => xs.getD j false == ys.getD j false) = decide (xs = ys) := by
        rw [Bool.eq_iff_iff, List.all_eq_true, decide_eq_true_iff]
        simp only [List.mem_range, List.size_toArray, beq_iff_eq]
        refine ⟨fun h => List.ext_getElem hl fun i h1 h2 => ?_, fun h j _ => by rw [h]⟩
        have := h i (by omega)
        rw [List.getD_eq_getElem?_getD, List.getD_eq_getElem?_getD, List.getElem?_eq_getElem h1, List.getElem?_eq_getElem h2] at this
        exact this
      rw [ed]
      exact ⟨.bl _, H, I, rfl, hq⟩
  · refine SeqAt.eq_list_lengthsAt pl1.isList pl2.isList (by simp only [List.size_toArray, bne_iff_ne]; omega) hu ?_
    have : decide (xs = ys) = false := decide_eq_false fun e => hl (by rw [e])
    rw [this] at hq
    exact ⟨.bl false, H, I, rfl, hq⟩
end
end L2

/-! TRY f() EXCEPT C AS e, over the hand layer. -/
namespace L2
open PySem PySem.Spec PyProof.Rows
def ExcIs (x : Addr) (cls : Value) : Heap → Prop := fun h => ∃ o, h.get? x = some o ∧ o.cls = cls
theorem excIs_ok {P : Program} {w : World} {H : Hp} {h : Heap} {x : Addr} {cls : Value} (o : ExcIs x cls h) : ObjOk P w H h x (.ext (ExcIs x cls)) :=
  let ⟨ob, e, c⟩ := o
  ⟨⟨ob, e, c⟩, ⟨ob, e⟩, fun _ _ ⟨o1, e1, c1⟩ k => ⟨o1, k _ e1, c1⟩⟩
section
variable {X : Cx} {pins : List (Addr × Obj)} {σ : St} {H : Hp} {s : Shared}
theorem Inv.adopt {x : Addr} {o : HO} (I : Inv X pins σ H s) (h0 : X.s₀.heap.get? x = none) (hL : x ≠ X.env.locals) (hC : ∀ y c, X.env.cells.lookup y = some c → c ≠ x) (hP : ∀ p ∈ X.pn ++ pins, p.1 ≠ x) (hn : H x = none)
    (new : ObjOk X.prog X.w (upd H x o) s.heap x o) : Inv X pins σ (upd H x o) s := by
  have ne : ∀ {b : Addr} {u : HO}, H b = some u → b ≠ x := fun e => ne_of_none e hn
  refine ⟨I.ok, I.os, I.bare, ⟨I.base.keep, I.base.slot, fun b ob e n hx => ?_, I.base.there, fun b xs e => ?_, fun b ob u e => ?_, fun b ps e => ?_⟩, I.loc, I.cell, ?_, fun y c e => ?_, fun p hp => ?_, fun b u e => ?_, I.len⟩
  · have : b ≠ x := fun z => by rw [z, h0] at e; cases e
    rw [upd_ne this]; exact I.base.free b ob e n hx
  · have q := I.base.tups b xs e
    rw [upd_ne (ne q)]; exact q
  · have q := I.base.frzs b ob u e
    rw [upd_ne (ne q)]; exact q
  · obtain ⟨m, q⟩ := I.base.tbls b ps e
    exact ⟨m, by rw [upd_ne (ne q)]; exact q⟩
  · rw [upd_ne (Ne.symm hL)]; exact I.free
  · rw [upd_ne (hC y c e)]; exact I.freeC y c e
  · obtain ⟨a1, a2, a3, a4, a5⟩ := I.pin p hp
    exact ⟨a1, by rw [upd_ne (hP p hp)]; exact a2, a3, a4, a5⟩
  · by_cases hb : b = x
    · subst hb
      rw [upd_same] at e; cases e
      exact new
    · rw [upd_ne hb] at e
      exact (I.hok b u e).stay (fun _ _ _ q => q) (fun c r => by rw [upd_ne (ne r)]; exact r) fun c xs r => by rw [upd_ne (ne r)]; exact r
abbrev Cx.marked (X : Cx) (e : Value) (E : Value → Shared → Prop) : Cx := { X with A := X.A.mark (some e), calm := false, xe := E }
theorem Inv.marked {e : Value} {E : Value → Shared → Prop} (I : Inv X pins σ H s) : Inv (X.marked e E) pins σ H s :=
  ⟨⟨I.ok.mod, I.ok.kind, I.ok.glob, I.ok.blt, I.ok.above, I.ok.inj, I.ok.has, I.ok.cab, fun z => absurd (show false = true from z) (by decide), I.ok.frames, I.ok.stk, I.ok.exf, I.ok.bs, I.ok.bsz, I.ok.noex, I.ok.exfs, I.ok.funs, I.ok.frf⟩, I.os, I.bare, I.base, I.loc, I.cell, I.free, I.freeC, I.pin, I.hok, I.len⟩
theorem Inv.unmarked {e : Value} {E : Value → Shared → Prop} (I : Inv (X.marked e E) pins σ H s) (hd : X.calm = true → X.A.handled = none) : Inv X pins σ H s :=
  ⟨⟨I.ok.mod, I.ok.kind, I.ok.glob, I.ok.blt, I.ok.above, I.ok.inj, I.ok.has, I.ok.cab, hd, I.ok.frames, I.ok.stk, I.ok.exf, I.ok.bs, I.ok.bsz, I.ok.noex, I.ok.exfs, I.ok.funs, I.ok.frf⟩, I.os, I.bare, I.base, I.loc, I.cell, I.free, I.freeC, I.pin, I.hok, I.len⟩
theorem name_gone {M : Model} {A : Around} {E : Value → Shared → Prop} {i : Nat} {n : Str} {pos : Pos} {Q : Unit → Shared → Prop} (I : Inv X pins σ H s) (hN : X.N.Nodup) (hi : X.N[i]? = some n) (hk : X.env.kindOf n = some .local)
    (h : ∀ s', Inv X pins (σ.set i none) H s' → Q () s') : wpAny M A (do bindName X.env n .none; unbindBehindTheSuite X.env n pos) Q E s := by
  obtain ⟨m, hn, hl⟩ := id I.loc
  have hcls : (X.env.scope.kind == .class || (X.env.scope.kind == .module && X.env.locals != X.env.globals)) = false := by rw [I.ok.kind]; rfl
  have hiσ : i < σ.length := by rw [I.len]; exact (List.getElem?_eq_some_iff.mp hi).1
  have cne := I.cne
  refine wpAny_nameGoes_keeps hk hn hcls fun h' v hn' hs => ?_
  obtain ⟨oL, _, _, hoL, _⟩ := id hn
  have tracked : HOk X.prog X.w H h' := fun b ob e => by
    refine (I.hok b ob e).stay (fun c w' hc q => (hs.2 c ?_).trans q) (fun _ q => q) fun _ _ q => q
    rintro rfl
    have hfree := I.free
    rcases hc with hc | hc
    · rw [← hc, hfree] at e; cases e
    · rw [hfree] at hc; cases hc
  have J : Inv X pins (σ.set i none) H { s with heap := h' } := by
    refine ⟨I.ok, I.os, I.bare, ⟨fun b o e n hb hx => ?_, fun b o e n hb hx => ?_, I.base.free, fun b o e hx => ?_, I.base.tups, I.base.frzs, I.base.tbls⟩, ⟨_, hn', fun j y v' e1 e2 e3 => ?_⟩, fun y c e => ?_, I.free, I.freeC, fun p hp => ?_, tracked, by simpa using I.len⟩
    · exact (hs.2 b (Nat.ne_of_lt (Nat.lt_of_lt_of_le (Heap.lt_size e) I.ok.above))).trans (I.base.keep b o e n hb hx)
    · obtain ⟨sl, e1⟩ := I.base.slot b o e n hb hx
      exact ⟨sl, (hs.2 b (Nat.ne_of_lt (Nat.lt_of_lt_of_le (Heap.lt_size e) I.ok.above))).trans e1⟩
    · obtain ⟨o', e1⟩ := I.base.there b o e hx
      exact ⟨o', (hs.2 b (Nat.ne_of_lt (Nat.lt_of_lt_of_le (Heap.lt_size e) I.ok.above))).trans e1⟩
    · by_cases hj : j = i
      · subst hj
        rw [List.getElem?_set_self hiσ] at e2
        cases e2
      · rw [List.getElem?_set_ne (Ne.symm hj)] at e2
        obtain ⟨u', r', q⟩ := hl j y v' e1 e2 e3
        refine ⟨u', r', ?_⟩
        rcases q with ⟨k, e⟩ | ⟨k, c, e, z⟩
        · refine .inl ⟨k, ?_⟩
          have : y ≠ n := fun e => hj (nodup_ix hN e1 (e ▸ hi))
          simp [this, e]
        · exact .inr ⟨k, c, e, z.sameBut hs (cne y c e)⟩
    · obtain ⟨w', z⟩ := I.cell y c e
      exact ⟨w', z.sameBut hs (cne y c e)⟩
    · obtain ⟨e, n, ne, nf, d⟩ := I.pin p hp
      exact ⟨(hs.2 p.1 ne).trans e, n, ne, nf, d⟩
  exact h _ (J.tok (s.toks + 1))
theorem caught_at {M : Model} {EE : Value → Shared → Prop} {Q : Unit → Shared → Prop} {E : XK} {s' : Shared} {e : Value} (hf : X.env.frame = some X.env.locals) (hst : X.stack = X.env :: X.outer) (I : Inv X pins σ H s) (hc : CX1 X.prog X.w X.stack H s E e s')
    (k : ∀ x cls H2 s2, e = .ref x → Inv X pins σ H2 s2 → Fly s.heap x cls H2 s2.heap → E cls (some x) H2 → Q () s2) :
    wpAny M X.A (noteFrame e X.env) (fun _ s2 => wpAny M X.A (setFlight e none) Q EE s2) EE s' := by
  obtain ⟨x, cls, H2, rfl, os, bare, u, ok, F, hE⟩ := hc
  have st : s.heap.FunFrames X.base X.stack := I.stack
  have free1 : ∀ b ∈ frs X.stack, H b = none := I.stkFree
  have free : ∀ b ∈ frs X.stack, H2 b = none := fun b hb => by
    obtain ⟨_, o, ho, _⟩ := st.mem hb
    exact u.free b o ho (free1 b hb) (by simp)
  have st1 : s'.heap.FunFrames X.base X.stack := by
    have all : ∀ (l : List Env), (∀ b ∈ frs l, b ∈ frs X.stack) → s.heap.FunFrames X.base l → s'.heap.FunFrames X.base l := by
      intro l
      induction l with
      | nil => intro _ _; trivial
      | cons en r ih =>
        intro hs hl
        obtain ⟨hk, ⟨L, o, hf', hn, ho, hd⟩, hr⟩ := hl
        have hL : L ∈ frs X.stack := hs L (by unfold frs; rw [List.filterMap_cons, hf']; exact List.mem_cons_self)
        obtain ⟨sl, e⟩ := u.slot L o ho (free1 L hL) hL (by simp)
        exact ⟨hk, ⟨L, _, hf', hn, e, hd⟩, ih (fun b hb => hs b (by unfold frs; rw [List.filterMap_cons, hf']; exact List.mem_cons_of_mem _ hb)) hr⟩
    exact all _ (fun _ hb => hb) st
  obtain ⟨oe, ws, T, oT, ts, a1, a2, a3, a4, a5, a6, a7, a8, a9, a10⟩ := F.tr
  have hs1 : ∀ d, s'.heap.get? d = none → s.heap.get? d = none := fun d q => by
    cases z : s.heap.get? d with
    | none => rfl
    | some o =>
      obtain ⟨o', y⟩ := u.there d o z (by simp)
      rw [q] at y; cases y
  have z1 : 1 < ws.size := (Array.getElem?_eq_some_iff.mp a4).1
  have z0 : ws[0]? = some ws[0] := Array.getElem?_eq_getElem (by omega)
  have hfr : X.A.frames = some (X.env :: X.outer) := by rw [← hst]; exact I.ok.frames
  have fr2 : s'.heap.FunFrames (PySem.W.hideAll s'.heap ([x, T] ++ frs X.stack)) X.stack := PySem.W.funFrames_hide st1 fun en henv a ha => List.mem_append_right _ (List.mem_filterMap.mpr ⟨en, henv, ha⟩)
  refine wpAny_looks_onW (base := PySem.W.hideAll s'.heap ([x, T] ++ frs X.stack)) (cls := cls) hfr hf
    ⟨fun b o q => PySem.W.of_hideAll _ q, PySem.W.hideAll_none _ (by simp), by rw [← hst]; exact fr2, ⟨oe, ws, T, oT, ts, a1, ⟨a2, z0⟩, a3, a4, PySem.W.hideAll_none _ (by simp), a7, a8, a9, a10⟩⟩ fun h2 hN hs2 => ?_
  refine wpAny_landsW hN fun h3 hF hs3 => ?_
  have hss := hs2.trans hs3
  have k1 : ∀ b o, b ∉ [x, T] → b ∉ frs X.stack → s'.heap.get? b = some o → h3.get? b = some o := fun b o n1 n2 e =>
    hF.1 b o (PySem.W.hideAll_get _ e fun z => (List.mem_append.mp z).elim n1 n2)
  have k2 : ∀ b o, b ∈ frs X.stack → s'.heap.get? b = some o → ∃ sl, h3.get? b = some { o with slots := sl } := fun b o hb q => by
    obtain ⟨_, o', e', nr⟩ := st1.mem hb
    rw [q] at e'; cases e'
    exact hss b o q nr
  have two : ∀ d ∈ [x, T], d = x ∨ d = T := fun d hd => by simpa using hd
  have hd0 : ∀ d ∈ [x, T], s.heap.get? d = none := fun d hd => (two d hd).elim (fun z => by rw [z]; exact F.new) fun z => by rw [z]; exact a5
  have hd1 : ∀ d ∈ [x, T], H2 d = none := fun d hd => (two d hd).elim (fun z => by rw [z]; exact F.un) fun z => by rw [z]; exact a6
  have un3 : Un (frs X.stack) [] H H2 s.heap h3 := un_left u k1 k2 hd0 (fun b hb => .inl hb) fun _ hb => hb
  have ok3 : HOk X.prog X.w H2 h3 := hok_left ok k1 hd1 free
  have J : Inv X pins σ H2 { s' with heap := h3 } := I.call' (s' := { s' with heap := h3 }) (ch := []) os un3 ok3 bare fun _ z => nomatch z
  refine k x cls H2 _ rfl J ⟨F.new, F.un, ?_⟩ hE
  obtain ⟨oe', ws', T', oT', ts', c1, ⟨c2, _⟩, c3, c4, c5, c6, c7, c8, c9⟩ := hF.2.2.2
  have hT : T' = T ∨ s'.heap.get? T' = none := by
    by_cases hTT : T' = T
    · exact .inl hTT
    · refine .inr ?_
      cases z : s'.heap.get? T' with
      | none => rfl
      | some o =>
        by_cases hT : T' ∈ frs X.stack
        · obtain ⟨_, o', e', nr⟩ := st1.mem hT
          obtain ⟨sl, y⟩ := k2 T' o' hT e'
          rw [c7] at y; cases y
          exact absurd c8 (nr ts')
        · have := PySem.W.hideAll_get ([x, T] ++ frs X.stack) z (fun q => by
            rcases List.mem_append.mp q with q | q
            · exact (two T' q).elim c6 hTT
            · exact hT q)
          rw [c5] at this; cases this
  have hT0 : s.heap.get? T' = none ∧ H2 T' = none := by
    rcases hT with z | z
    · rw [z]; exact ⟨a5, a6⟩
    · exact ⟨hs1 T' z, ok.gone z⟩
  exact ⟨oe', ws', T', oT', ts', c1, c2, c3, c4, hT0.1, hT0.2, c6, c7, c8, c9⟩
theorem flight_again {M : Model} {A : Around} {EE : Value → Shared → Prop} {Q : Unit → Shared → Prop} {h0 : Heap} {x : Addr} {cls : Value} (I : Inv X pins σ H s) (F : Fly h0 x cls H s.heap)
    (k : ∀ s2, Inv X pins σ H s2 → ExcIs x cls s2.heap → Q () s2) : wpAny M A (setFlight (.ref x) none) Q EE s := by
  obtain ⟨oe, ws, T, oT, ts, a1, a2, a3, a4, a5, a6, a7, a8, a9, a10⟩ := F.tr
  have hsz : 3 < ts.size := (Array.getElem?_eq_some_iff.mp a10).1
  refine wpAny_setFlight_none a1 a3 a4 a8 a9 hsz ?_
  have same : ∀ b u, s.heap.get? b = some u → (s.heap.update T (Obj.mapFields (·.setIfInBounds 3 .none))).get? b = some u := fun b u e => by
    by_cases hb : b = T
    · subst hb
      rw [Heap.get?_update_self _ a8 (Obj.isFreed_of_fields (Obj.data_mapFields a9 _))]
      rw [a8] at e; cases e
      obtain ⟨c, d, dt, sl⟩ := oT
      obtain rfl : dt = .fields ts := a9
      have : ts.setIfInBounds 3 .none = ts := by
        refine Array.ext_getElem? fun i => ?_
        rw [Array.getElem?_setIfInBounds]
        by_cases hi : 3 = i
        · subst hi
          rw [if_pos rfl, if_pos hsz, a10]
        · rw [if_neg hi]
      show some (⟨c, d, Data.fields (ts.setIfInBounds 3 .none), sl⟩ : Obj) = _
      rw [this]
    · exact (Heap.get?_update_other _ _ (Ne.symm hb)).trans e
  exact k _ (I.kept (t' := s.toks) same) ⟨oe, same _ _ a1, a2⟩
end
section
variable {X : Cx} {k i ie : Nat} {x0 tn n : Str} {p cpos epos tp hpos pos : Pos} {CT : Addr} {b₀ : Stmt} {suite : List Stmt} {ts : TS}
def tTry (X : Cx) (k i ie : Nat) (CT : Addr) (ts : TS) : TS := fun D σ H => tVar i σ H fun v H1 => ∃ (f : Addr) (name qual : Str) (params : Arguments) (body : Expr) (scope : Scope) (clos : List (Str × Addr)) (pm cv ctv : Value) (sp : Sp), v = .ref f ∧ H1 f = some (.ext (FunIs f name qual params body scope clos pm cv ctv)) ∧
  FnOk X.prog X.w X.K X.mg X.base (CX1 X.prog X.w) k f (PySem.W.kla_fn name qual params body scope clos pm cv ctv) [] sp ∧ Binds X.K (PySem.W.kla_fn name qual params body scope clos pm cv ctv) [] [] ∧
  sp [] H1 (fun _ H2 => D.nx σ H2) (fun cls x H2 => ∃ xa C, x = some xa ∧ cls = .ref C ∧ PySem.W.exmOne X.K (.ref C) (.ref CT) = some true ∧ ts { nx := fun σ' H' => D.nx (σ'.set ie none) H', rt := fun _ _ => False } (σ.set ie (some (.ref xa))) (upd H2 xa (.ext (ExcIs xa (.ref C)))))
theorem ps_try (hf : X.env.frame = some X.env.locals) (hst : X.stack = X.env :: X.outer) (hex : X.ex = []) (hN : X.N[i]? = some x0) (hv : Vis X.env.scope x0) (hr : Room k X.A) (hnd : X.N.Nodup) (hi : X.N[ie]? = some n) (hk : X.env.kindOf n = some .local) (hg : Gl X tn) (hCT : X.mg tn = some (.ref CT))
    (hsu : ∀ x : Addr, PSs (X.marked (.ref x) fun _ _ => False) (b₀ :: suite) ts) (hd1 : (x0 == ("__debug__" : Str)) = false := by decide) (hd2 : (x0 == ("__classdict__" : Str)) = false := by decide) (hd3 : (tn == ("__debug__" : Str)) = false := by decide) (hsw : ∀ l, swapsWith (.Call (.Name x0 p) [] [] cpos) none l X.env = pure false := by exact fun _ => rfl) :
    PS X (.Try [.Expr (.Call (.Name x0 p) [] [] cpos) epos] [.ExceptHandler (some (.Name tn tp)) (some n) (b₀ :: suite) hpos] [] [] pos) (tTry X k i ie CT ts) := by
  intro pins s σ H D I h
  refine wpAny_Try_except ?_
  generalize hE : (fun (e : Value) (s₁ : Shared) => wpAny (model X.prog X.w) X.A (noteFrame e X.env) (fun _ s₂ => wpAny (model X.prog X.w) X.A (setFlight e none) (fun _ s₃ => wpAny (model X.prog X.w) X.A (handleBy e X.env [.ExceptHandler (some (.Name tn tp)) (some n) (b₀ :: suite) hpos]) (SP X pins D) X.xe s₃) X.xe s₂) X.xe s₁) = EE
  have core : wpAny (model X.prog X.w) X.A (eval (.Call (.Name x0 p) [] [] cpos) X.env) (EP (X.wish EE) pins σ (fun _ H2 => D.nx σ H2)) EE s := by
    refine wpAny_Call_Name_kw (thn (pe_var (X := X.wish EE) hN hv hd1 hd2 pins s σ H _ (I.wish EE) h) fun u s1 ⟨v, H1, I1, r1, q1⟩ => ?_)
    obtain ⟨f, name, qual, params, body, scope, clos, pm, cv, ctv, sp, rfl, hff, F, hb, q⟩ := q1
    cases r1
    have fo : s1.heap.get? f = some { cls := .type "function", data := .func (PySem.W.kla_fn name qual params body scope clos pm cv ctv) } := (I1.hok f _ hff).1
    show wpAny _ _ (callWith cpos (.ref f) [] [] []) _ _ _
    refine Calls.callWith_function (o := { cls := .type "function", data := .func (PySem.W.kla_fn name qual params body scope clos pm cv ctv) }) (fd := PySem.W.kla_fn name qual params body scope clos pm cv ctv) ?_
    refine evalArgs_nil3 ⟨⟨fo, rfl⟩, run_fnC (X := X.wish EE) (us := []) (vs := []) (cs := []) F hr hb I1 .nil (fun _ _ z => nomatch z) (fun _ _ _ z => nomatch z) (fun _ _ z => nomatch z) (fun e s' hc => ?_) q⟩
    have I0 : Inv X pins σ H1 s1 := I1.unwish
    have hc : CX1 X.prog X.w X.stack H1 s1 _ e s' := hc
    show EE e s'
    rw [← hE]
    refine caught_at hf hst I0 hc fun x cls H2 s2 he J Fl hq => ?_
    subst he
    obtain ⟨xa, C, e1, rfl, hm, hs⟩ := hq
    cases e1
    refine wpAny_handleBy_cons (codeAny_handlers_test ?_) (by intro q; cases q)
    refine ld_glob (X := X.marked (.ref x) fun _ _ => False) J.marked hg hCT ?_ hd3
    obtain ⟨ob, ho, hoc⟩ : ExcIs x (.ref C) s2.heap := let ⟨oe, _, _, _, _, a1, a2, _⟩ := Fl.tr; ⟨oe, a1, a2⟩
    refine PySem.W.exm_one J.kIn (xc_type ho hoc) hm _ _ _ s2 (fun _ _ e => e) ?_
    refine codeAny_handlers_suite_as ?_
    refine flight_again J Fl fun s3 J3 x3 => ?_
    have h0 : X.s₀.heap.get? x = none := by
      cases z : X.s₀.heap.get? x with
      | none => rfl
      | some o =>
        obtain ⟨o', y⟩ := I0.base.there x o z (by rw [hex]; simp)
        rw [Fl.new] at y; cases y
    have old : ∀ {b : Addr} {o : Obj}, s1.heap.get? b = some o → b ≠ x := fun {b o} e z => by rw [z, Fl.new] at e; cases e
    have J4 : Inv X pins σ (upd H2 x (.ext (ExcIs x (.ref C)))) s3 := J3.adopt h0 (fun z => by obtain ⟨m, ⟨o, _, _, e, _⟩, _⟩ := I0.loc; exact old e z.symm) (fun y c e => by obtain ⟨v, o, eo, _⟩ := I0.cell y c e; exact old eo) (fun p hp => old (I0.pin p hp).1) Fl.un (excIs_ok x3)
    refine store_ok (X := X.marked (.ref x) fun _ _ => False) (i := ie) (v := .ref x) J4.marked hnd hi (.inl hk) rfl (fun s4 J5 => ?_) (.inr hk)
    refine wpAny_mono (hsu x pins s4 _ _ _ J5 hs) (fun fl s5 hq => ?_) fun _ _ z => z.elim
    cases fl with
    | next =>
      obtain ⟨σ', H', J6, q⟩ := hq
      exact name_gone (J6.unmarked I.ok.hd) hnd hi hk fun s' J7 => ⟨_, _, J7, q⟩
    | brk => obtain ⟨_, _, _, q⟩ := hq; exact q.elim
    | cont => obtain ⟨_, _, _, q⟩ := hq; exact q.elim
    | ret v => obtain ⟨_, _, _, _, _, q⟩ := hq; exact q.elim
  refine wpAny_execs_cons (wpAny_Expr_any (thn core fun v s1 ⟨x, H1, I1, r1, q1⟩ => ?_) I.quiet (hsw _))
  exact wpAny_execs_nil (wpAny_execs_nil ⟨σ, H1, I1.unwish, q1⟩)
theorem call_isiX : CallR X (.builtin "isinstance") (fun xs H Q => ∃ x c C b, xs = [.ref x, c] ∧ H x = some (.ext (ExcIs x (.ref C))) ∧ ExcK X.K C ∧ ((∃ T, c = .ty T ∧ PySem.W.kitOne X.K (.ref C) (.type T) = some b) ∨ ∃ D, c = .ref D ∧ PySem.W.kitOne X.K (.ref C) (.ref D) = some b) ∧ Q (.bl b) H) := by
  intro pins s σ H xs us Q I r h
  obtain ⟨x, c, C, b, rfl, hx, B, hk, q⟩ := h
  obtain ⟨u, v, rfl, ru, rv⟩ := r.two
  cases (show u = Value.ref x from ru)
  have p : ExcIs x (.ref C) s.heap := (I.hok x _ hx).1
  rcases hk with ⟨T, rfl, hk⟩ | ⟨D, rfl, hk⟩
  · cases (show v = Value.type T from rv)
    exact PySem.W.kia_one (kitx_exc B) I.kIn p hk (fun z => nomatch z) fun tk => ⟨.bl b, H, I.tok tk, rfl, q⟩
  · cases (show v = Value.ref D from rv)
    exact PySem.W.kia_one (kitx_exc B) I.kIn p hk (fun z => nomatch z) fun tk => ⟨.bl b, H, I.tok tk, rfl, q⟩
theorem pe_isiX {a b : Expr} {ta tb : TE} (hm : X.mg "isinstance" = none) (ha : PE X a ta) (hb : PE X b tb) (hg : Gl X "isinstance" := by rfl) (hs : starEach [a, b] X.env = (false, eval a X.env) :: starEach [b] X.env := by rfl) (hs2 : starEach [b] X.env = (false, eval b X.env) :: starEach [] X.env := by rfl) :
    PE X (.Call (.Name "isinstance" p) [a, b] [] pos) (tCB (fun xs H Q => ∃ x c C b, xs = [.ref x, c] ∧ H x = some (.ext (ExcIs x (.ref C))) ∧ ExcK X.K C ∧ ((∃ T, c = .ty T ∧ PySem.W.kitOne X.K (.ref C) (.type T) = some b) ∨ ∃ D, c = .ref D ∧ PySem.W.kitOne X.K (.ref C) (.ref D) = some b) ∧ Q (.bl b) H) (tCons ta (tCons tb tNil))) :=
  pe_callB call_isiX hg hm (by decide +kernel) (pa_cons ha (pa_cons hb pa_nil hs2) hs) (by decide) (by decide) hs (by rw [hs2]; rfl)
end
end L2

/-! A CALL of a def while the cells of this body are known (it calls a lambda that was made here). -/
namespace L2
open PySem PySem.Spec PyProof.Rows
def cellsNow (h : Heap) : List (Str × Addr) → List (Addr × Obj)
  | [] => []
  | (_, c) :: r => match h.get? c with
    | none => cellsNow h r
    | some u => (c, u) :: cellsNow h r
theorem lookup_fm {h : Heap} {b : Addr} {o : Obj} : ∀ {cells : List (Str × Addr)}, (cellsNow h cells).lookup b = some o → h.get? b = some o ∧ ∃ x, (x, b) ∈ cells
  | [], e => by cases e
  | (y, c) :: r, e => by
    unfold cellsNow at e
    split at e
    · obtain ⟨h1, x, hx⟩ := lookup_fm e
      exact ⟨h1, x, List.mem_cons_of_mem _ hx⟩
    · rename_i u q
      rw [List.lookup_cons] at e
      cases z : b == c with
      | true => rw [z] at e; cases e; rw [eq_of_beq z]; exact ⟨q, y, List.mem_cons_self⟩
      | false =>
        rw [z] at e
        obtain ⟨h1, x, hx⟩ := lookup_fm e
        exact ⟨h1, x, List.mem_cons_of_mem _ hx⟩
theorem lookup_fm_some {h : Heap} {b : Addr} {o : Obj} (e : h.get? b = some o) : ∀ {cells : List (Str × Addr)} {x : Str}, (x, b) ∈ cells → (cellsNow h cells).lookup b = some o
  | [], _, hm => by cases hm
  | (y, c) :: r, x, hm => by
    unfold cellsNow
    by_cases hc : b = c
    · subst hc
      rw [e]
      show (List.lookup b ((b, o) :: _)) = _
      rw [List.lookup_cons]
      simp
    · have hm' : (x, b) ∈ r := by
        rcases List.mem_cons.mp hm with z | z
        · cases z; exact absurd rfl hc
        · exact z
      have ih := lookup_fm_some e hm'
      cases q : h.get? c with
      | none => exact ih
      | some u =>
        show (List.lookup b ((c, u) :: _)) = _
        rw [List.lookup_cons, beq_eq_false_iff_ne.mpr hc]
        exact ih
structure CellsAt (X : Cx) (σ : St) (H : Hp) (cs : List (Addr × Obj)) : Prop where
  un : ∀ b o, cs.lookup b = some o → H b = none
  all : ∀ x c, X.env.cells.lookup x = some c → ∃ o v, cs.lookup c = some o ∧ o.data = .cell v
  val : ∀ (i : Nat) (x : Str) (v : V), X.N[i]? = some x → σ[i]? = some (some v) → X.env.kindOf x = some .cell → ∃ c o u, X.env.cells.lookup x = some c ∧ cs.lookup c = some o ∧ o.data = .cell (some u) ∧ RelV v u
def tCallC (X : Cx) (sp : Sp) (t : TA) : TE := fun σ H Q => t σ H fun vs H1 => ∀ cs, CellsAt X σ H1 cs → sp vs (addC cs H1) (fun v H' => Q v (dropC cs H')) E0
section
variable {X : Cx} {k j : Nat} {ps : List Str} {sp : Sp} {x : Str} {p pos : Pos} {e : Expr} {es : List Expr} {t : TA}
theorem pe_callC (O : OkX X.prog X.w X.K X.mg X.base x ps k sp) (hr : Room j X.A) (ha : PA X (e :: es) t) (hfn : ∀ y, X.fn y = true) (hnd : ∀ y c, (y, c) ∈ X.env.cells → X.env.cells.lookup y = some c) (hg : Gl X x := by rfl) (hj : k ≤ j := by decide) (hdb : (x == ("__debug__" : Str)) = false := by decide) (he : starEach (e :: es) X.env = (false, eval e X.env) :: starEach es X.env := by rfl) (hpl : (backTo pos (starEach es X.env)).any (·.1) = false := by rfl) :
    PE X (.Call (.Name x p) (e :: es) [] pos) (tCallC X sp t) := by
  obtain ⟨f, fd, F, hb, hm, hk⟩ := O.ex
  intro pins s σ H Q I h
  refine wpAny_Call_Name_kw (ld_glob I hg hm ?_ hdb)
  refine PySem.W.callWith_K (h₀ := X.base) I.ok.mod.kin hk (thn (ha pos pins s σ H _ I h) fun us s1 ⟨vs, H1, I1, r, q⟩ => ⟨I1.kIn, ?_⟩) he hpl
  generalize hcs : cellsNow s1.heap X.env.cells = cs
  have hc : ∀ b o, cs.lookup b = some o → s1.heap.get? b = some o ∧ ∃ y, X.env.cells.lookup y = some b := fun b o z => by
    rw [← hcs] at z
    obtain ⟨h1, y, hy⟩ := lookup_fm z
    exact ⟨h1, y, hnd y b hy⟩
  have hi : ∀ y c o, X.env.cells.lookup y = some c → s1.heap.get? c = some o → cs.lookup c = some o := fun y c o e1 e2 => by
    rw [← hcs]
    exact lookup_fm_some e2 (PySem.mem_of_lookup e1)
  have C : CellsAt X σ H1 cs := by
    refine ⟨fun b o z => ?_, fun y c e1 => ?_, fun i y v e1 e2 e3 => ?_⟩
    · obtain ⟨_, y, hy⟩ := hc b o z
      exact I1.freeC y b hy
    · obtain ⟨v, o, eo, ed⟩ := I1.cell y c e1
      exact ⟨o, v, hi y c o e1 eo, ed⟩
    · obtain ⟨m, hn, hl⟩ := I1.loc
      obtain ⟨u, ru, lk⟩ := hl i y v e1 e2 (.inr (.inl e3))
      rcases lk with ⟨k1, _⟩ | ⟨_, c, ec, o, eo, ed⟩
      · rw [e3] at k1; cases k1
      · exact ⟨c, o, u, ec, hi y c o ec eo, ed, ru⟩
  refine run_fnC (cs := cs) F (hr.mono hj) hb I1 r (fun b o z => ⟨C.un b o z, (hc b o z).1⟩) (fun b o o' z e' => ?_) (fun b o z hf => ?_) (fun e s' hx => ?_) (q cs C)
  · obtain ⟨_, y, hy⟩ := hc b o z
    have h1 := I1.ok.cab y b (hfn y) hy
    have h2 := Heap.lt_size e'
    have h3 := I1.ok.bsz
    exact Nat.lt_irrefl _ (Nat.lt_of_lt_of_le h2 (Nat.le_trans h3 h1))
  · obtain ⟨_, y, hy⟩ := hc b o z
    rcases List.mem_cons.mp (I1.stkSub b hf) with e1 | e1
    · exact I1.cne y b hy e1
    · obtain ⟨_, ob, ho, _⟩ := I1.ok.funs.mem e1
      have h1 := I1.ok.cab y b (hfn y) hy
      have h2 := Heap.lt_size ho
      exact Nat.lt_irrefl _ (Nat.lt_of_lt_of_le h2 h1)
  · obtain ⟨_, _, _, _, _, _, _, _, _, hE⟩ := hx
    exact hE.elim
end
theorem Fun.okT {P : Program} {w : World} {K : PySem.W.Frag} {mg : Str → Option Value} {base : Heap} {x qual : Str} {st : Stmt} {f : Addr} {fd : FuncData} {N ps : List Str} {k : Nat} {sp : Sp} (F : Fun K x qual st f fd) (S : FnScope N ps (defScope st)) (len : ∀ vs H Q E, sp vs H Q E → vs.length = ps.length)
    (hbody : ∀ (A : Around) (outer : List Env) (s : Shared) (H : Hp) (vs : List V) (Q : VK) (E : XK), Room k (A.deeper (envOfC qual (defScope st) s.heap.objs.size f fd.code)) → sp vs H Q E →
      ∃ t, PSs (cxOf (CX1 P w) P w K mg base N qual (defScope st) f fd.code A outer s H E) (defBody st) t ∧ t { nx := fun _ H' => Q .non H', rt := Q } (start N vs) H) : FnOk P w K mg base (CX1 P w) (k + 1) f fd ps sp := by
  obtain ⟨oc, od, kV, doc, pm, an, cdv, ct, osl, rfl, lk, hcd⟩ := F.ex
  exact fn_of lk hcd S len fun A outer s H vs Q E hr hsp => hbody A outer s H vs Q E hr hsp
theorem cells_in {n : Nat} {names : List (Str × NameKind)} : ∀ {acc : List (Str × Addr)}, (names.map (·.1)).Nodup → (∀ y c, (y, c) ∈ acc → acc.lookup y = some c ∧ y ∉ names.map (·.1)) → ∀ y c, (y, c) ∈ cellsFrom n names acc → (cellsFrom n names acc).lookup y = some c := by
  induction names generalizing n with
  | nil => intro acc _ h y c hy; exact (h y c hy).1
  | cons z r ih =>
    intro acc hn h
    obtain ⟨nm, kd⟩ := z
    have hn' : nm ∉ r.map (·.1) ∧ (r.map (·.1)).Nodup := List.nodup_cons.mp hn
    unfold cellsFrom
    split
    · refine ih hn'.2 fun y c hy => ?_
      rcases List.mem_cons.mp hy with e | e
      · cases e
        exact ⟨by rw [List.lookup_cons]; simp, hn'.1⟩
      · obtain ⟨h1, h2⟩ := h y c e
        have ne : y ≠ nm := fun q => h2 (by rw [q]; exact List.mem_cons_self)
        exact ⟨by rw [List.lookup_cons, beq_eq_false_iff_ne.mpr ne]; exact h1, fun q => h2 (List.mem_cons_of_mem _ q)⟩
    · exact ih hn'.2 fun y c hy => ⟨(h y c hy).1, fun q => (h y c hy).2 (List.mem_cons_of_mem _ q)⟩
theorem Same.drop {cs : List (Addr × Obj)} {H H' : Hp} (hn : ∀ b o, cs.lookup b = some o → H b = none) (s : Same (addC cs H) H') : Same H (dropC cs H') := fun b o e => by
  have q : cs.lookup b = none := by
    cases z : cs.lookup b with
    | none => rfl
    | some u => rw [hn b u z] at e; cases e
  rw [dropC_out q]
  exact s b o (by rw [addC_out q]; exact e)
theorem Same.cells {cs : List (Addr × Obj)} {H H' : Hp} (s : Same (addC cs H) H') : addC cs (dropC cs H') = H' := addC_dropC fun b o z => s b _ (addC_in z)
/-! ### the refusals' classes -/
structure Errs (mg : Str → Option Value) (CT : Addr) (C : Nat → Addr) : Prop where
  thaw : mg "ThawError" = some (.ref CT)
  g0 : mg "UnknownBed" = some (.ref (C 0))
  g1 : mg "UnknownDeed" = some (.ref (C 1))
  g2 : mg "BadBeds" = some (.ref (C 2))
  g3 : mg "BadNeed" = some (.ref (C 3))
  g4 : mg "BadHeat" = some (.ref (C 4))
  g5 : mg "BadYear" = some (.ref (C 5))
  g6 : mg "BadAmount" = some (.ref (C 6))
  g7 : mg "BadTimes" = some (.ref (C 7))
  g8 : mg "UnknownSeason" = some (.ref (C 8))
  g9 : mg "TooManyLaid" = some (.ref (C 9))
  g10 : mg "TooManyDeeds" = some (.ref (C 10))
  g11 : mg "NothingDone" = some (.ref (C 11))
structure Refuses (K : PySem.W.Frag) (CT : Addr) (C : Nat → Addr) (j : Nat) : Prop where
  kx : ExcK K (C j)
  ex : PySem.W.exmOne K (.ref (C j)) (.ref CT) = some true
  one : ∀ i, i < 12 → PySem.W.kitOne K (.ref (C j)) (.ref (C i)) = some (decide (i = j))
  ve : PySem.W.kitOne K (.ref (C j)) (.type "ValueError") = some true
theorem kinds_due (j : Nat) (hj : j < 12) : ([0, 1, 2, 3, 4, 5, 6, 7, 8, 9, 10, 11].map (fun i : Nat => decide (i = j)) ++ [true]) = (List.range 13).map (fun k : Nat => inV (.int ((0 : Int) + (k : Int))) [.int (j : Int), .int 12]) := by
  have h : ∀ j : Fin 12, ([0, 1, 2, 3, 4, 5, 6, 7, 8, 9, 10, 11].map (fun i : Nat => decide (i = j.val)) ++ [true]) = (List.range 13).map (fun k : Nat => inV (.int ((0 : Int) + (k : Int))) [.int (j.val : Int), .int 12]) := by decide
  exact h ⟨j, hj⟩
def LamRef (P : Program) (w : World) (K : PySem.W.Frag) (mg : Str → Option Value) (base : Heap) (C : Nat → Addr) (H : Hp) (f : Addr) (j : Nat) : Prop := ∃ (name qual : Str) (params : Arguments) (body : Expr) (scope : Scope) (clos : List (Str × Addr)) (pm cv ctv : Value) (sp : Sp),
  H f = some (.ext (FunIs f name qual params body scope clos pm cv ctv)) ∧ FnOk P w K mg base (CX1 P w) 14 f (PySem.W.kla_fn name qual params body scope clos pm cv ctv) [] sp ∧ Binds K (PySem.W.kla_fn name qual params body scope clos pm cv ctv) [] [] ∧
  ∀ (H' : Hp) (Q' : VK) (E' : XK), Same H H' → (∀ (H1 : Hp) (xa : Addr), Same H' H1 → H1 xa = none → E' (.ref (C j)) (some xa) H1) → sp [] H' Q' E'
theorem pe_cls {X : Cx} {x : Str} {C : Addr} {pos : Pos} (hm : X.mg x = some (.ref C)) (hg : Gl X x := by rfl) (hd : (x == ("__debug__" : Str)) = false := by decide) : PE X (.Name x pos) (tC (.ref C)) := pe_glob hg hm (show RelV (.ref C) (.ref C) from rfl) hd
theorem pe_isiXK {X : Cx} {p pos : Pos} (K : PySem.W.Frag) {a b : Expr} {ta tb : TE} (hm : X.mg "isinstance" = none) (ha : PE X a ta) (hb : PE X b tb) (h : X.K = K := by rfl) (hg : Gl X "isinstance" := by rfl) (hs : starEach [a, b] X.env = (false, eval a X.env) :: starEach [b] X.env := by rfl) (hs2 : starEach [b] X.env = (false, eval b X.env) :: starEach [] X.env := by rfl) :
    PE X (.Call (.Name "isinstance" p) [a, b] [] pos) (tCB (fun xs H Q => ∃ x c C b, xs = [.ref x, c] ∧ H x = some (.ext (ExcIs x (.ref C))) ∧ ExcK K C ∧ ((∃ T, c = .ty T ∧ PySem.W.kitOne K (.ref C) (.type T) = some b) ∨ ∃ D, c = .ref D ∧ PySem.W.kitOne K (.ref C) (.ref D) = some b) ∧ Q (.bl b) H) (tCons ta (tCons tb tNil))) := by
  subst h
  exact pe_isiX hm ha hb hg hs hs2
end L2

/-! A LAW that makes lambdas and hands them on. -/
namespace L2
open PySem PySem.Spec PyProof.Rows
def TabOk (P : Addr) (qual : Str) (H : Hp) : Prop := ∃ ps : Array Value, H P = some (.tbl ps) ∧ TriplesOk ps.toList ∧ ∀ pos cv, codeAmong pos ps.toList = some cv → ∃ c', cv = .ref c' ∧ H c' = some (.ext (CodeIs c' qual))
theorem TabOk.nil {P : Addr} {qual : Str} {H : Hp} (h : H P = some (.tbl #[])) : TabOk P qual H := ⟨#[], h, trivial, fun pos cv e => by cases e⟩
theorem TabOk.same {P : Addr} {qual : Str} {H H' : Hp} (h : TabOk P qual H) (s : Same H H') : TabOk P qual H' := by
  obtain ⟨ps, h1, h2, h3⟩ := h
  refine ⟨ps, s _ _ h1, h2, fun pos cv e => ?_⟩
  obtain ⟨c', e1, e2⟩ := h3 pos cv e
  exact ⟨c', e1, s _ _ e2⟩
theorem codeAmong_app {pos : Pos} {a b : Int} {c : Value} (l : List Value) (h : TriplesOk l) : codeAmong pos (l ++ [rawInt a, rawInt b, c]) = codeAmong pos l ∨ codeAmong pos (l ++ [rawInt a, rawInt b, c]) = some c := by
  fun_induction TriplesOk l with
  | case1 =>
    show (if _ then _ else _) = _ ∨ (if _ then _ else _) = _
    by_cases q : (a == (pos.line : Int) && b == (pos.col : Int)) = true
    · right; rw [if_pos q]
    · left; rw [if_neg q]
  | case2 a' t b' u x rest ih =>
    simp only [List.cons_append, codeAmong]
    by_cases q : (a' == (pos.line : Int) && b' == (pos.col : Int)) = true
    · left; rw [if_pos q, if_pos q]
    · rw [if_neg q, if_neg q]; exact ih h
  | case3 l h1 h2 => exact h.elim
section
variable {X : Cx} {params : Arguments} {body : Expr} {scope : Scope} {pos : Pos} {cl : List (Str × Addr)} {c P : Addr} {σ : St} {H : Hp} {Q : VK}
theorem tLam_by (hT : TabOk P (X.env.qual ++ "<lambda>") H)
    (k : ∀ (f c' : Addr) (ctv : Value) (H3 : Hp), (∀ b o, b ≠ P → H b = some o → H3 b = some o) → H f = none → H3 f = some (.ext (FunIs f "<lambda>" (X.env.qual ++ "<lambda>") params body scope cl ((X.mg "__name__").getD .none) (.ref c') ctv)) → H3 c' = some (.ext (CodeIs c' (X.env.qual ++ "<lambda>"))) → TabOk P (X.env.qual ++ "<lambda>") H3 → Q (.ref f) H3) :
    tLam X P params body scope pos cl σ H Q := by
  obtain ⟨ps, h1, h2, h3⟩ := hT
  refine ⟨ps, h1, h2, fun hn f c' ctv nc nf n1 n2 n3 => ?_, fun cv hh f ctv nf => ?_⟩
  · refine k f c' ctv _ (fun b o nb e => ?_) nf upd_same ((upd_ne (Ne.symm n1)).trans upd_same) ?_
    · rw [upd_ne (ne_of_none e nf), upd_ne (ne_of_none e nc), upd_ne nb]; exact e
    · refine ⟨_, (upd_ne (Ne.symm n2)).trans ((upd_ne (Ne.symm n3)).trans upd_same), ?_, fun pos' cv e => ?_⟩
      · rw [Array.toList_append]; exact TriplesOk_snoc _ _ _ _ h2
      · rw [Array.toList_append] at e
        rcases codeAmong_app (pos := pos') (a := pos.line) (b := pos.col) (c := .ref c') ps.toList h2 with z | z
        · obtain ⟨c2, e1, e2⟩ := h3 pos' cv (z.symm.trans e)
          refine ⟨c2, e1, ?_⟩
          have nP : c2 ≠ P := ne_of e2 h1 (by intro q; cases q)
          rw [upd_ne (ne_of_none e2 nf), upd_ne (ne_of_none e2 nc), upd_ne nP]; exact e2
        · have := z.symm.trans e
          cases this
          exact ⟨c', rfl, (upd_ne (Ne.symm n1)).trans upd_same⟩
  · obtain ⟨c', rfl, e2⟩ := h3 pos cv hh
    have s := Same.upd (o := .ext (FunIs f "<lambda>" (X.env.qual ++ "<lambda>") params body scope cl ((X.mg "__name__").getD .none) (.ref c') ctv)) nf
    exact k f c' ctv _ (fun b o _ e => s b o e) nf upd_same (s _ _ e2) (TabOk.same ⟨ps, h1, h2, h3⟩ s)
theorem pe_lamC (outer : List (Str × NameKind)) (ho : X.env.cells = cellsFrom (X.env.locals + 1) outer []) (hdef : defaultsOf params X.env = ([], [])) (h : ∀ y ∈ scope.names, y.2 = .free → outer.lookup y.1 = some .cell) (hcode : X.env.code = .ref c) (hC : PySem.W.CodeHd X.base c P) (hB : X.base.BuiltinsAt X.mg P) :
    PE X (.Lambda params body scope pos) (tLam X P params body scope pos (clos scope.names X.env.cells)) :=
  pe_lam hdef (closureFor_of fun y hy hk => by
    rw [ho]
    exact Option.isSome_iff_exists.mp (PySem.W.cellsFrom_some outer _ [] (.inl (h y hy hk)))) hcode hC hB
end
theorem cells_inj {names : List (Str × NameKind)} : ∀ {n : Nat} {acc : List (Str × Addr)}, (∀ x c, (x, c) ∈ acc → c < n) → (∀ x y c, (x, c) ∈ acc → (y, c) ∈ acc → x = y) → ∀ x y c, (x, c) ∈ cellsFrom n names acc → (y, c) ∈ cellsFrom n names acc → x = y := by
  induction names with
  | nil => intro n acc _ h x y c; exact h x y c
  | cons z r ih =>
    intro n acc hlt h
    obtain ⟨nm, kd⟩ := z
    unfold cellsFrom
    split
    · refine ih (fun x c hm => ?_) fun x y c h1 h2 => ?_
      · rcases List.mem_cons.mp hm with e | e
        · cases e; exact Nat.lt_succ_self n
        · exact Nat.lt_succ_of_lt (hlt x c e)
      · rcases List.mem_cons.mp h1 with e1 | e1
        · cases e1
          rcases List.mem_cons.mp h2 with e2 | e2
          · cases e2; rfl
          · exact absurd (hlt y _ e2) (Nat.lt_irrefl _)
        · rcases List.mem_cons.mp h2 with e2 | e2
          · cases e2
            exact absurd (hlt x _ e1) (Nat.lt_irrefl _)
          · exact h x y c e1 e2
    · exact ih hlt h
section
variable {P : Program} {w : World} {K : PySem.W.Frag} {mg : Str → Option Value} {base : Heap} {C : Nat → Addr} {j n : Nat} {H3 : Hp} {cs : List (Addr × Obj)} {f c' : Addr} {name qual : Str} {params : Arguments} {body : Expr} {scope : Scope} {pm ctv : Value} {N : List Str} {σ : St}
theorem lamRef_of (outer : List (Str × NameKind)) (hco : scope.isCoroutine = false) (hgen : scope.isGenerator = false) (hk : scope.kind = .function) (hfree : ∀ x ∈ scope.names, x.2 ≠ .cell ∧ x.2 ≠ .local) (hsub : ∀ y ∈ scope.names, y.2 = .free → outer.lookup y.1 = some .cell)
    (hb : Binds K (PySem.W.kla_fn name qual params body scope (clos scope.names (cellsFrom n outer [])) pm (.ref c') ctv) [] []) (hf : H3 f = some (.ext (FunIs f name qual params body scope (clos scope.names (cellsFrom n outer [])) pm (.ref c') ctv))) (hc : H3 c' = some (.ext (CodeIs c' qual)))
    (un : ∀ b o, cs.lookup b = some o → H3 b = none) (all : ∀ x c, (cellsFrom n outer []).lookup x = some c → ∃ o v, cs.lookup c = some o ∧ o.data = .cell v) (len : σ.length = N.length)
    (val : ∀ (i : Nat) (x : Str) (v : V), N[i]? = some x → σ[i]? = some (some v) → (x, NameKind.free) ∈ scope.names ∧ ∃ c o u, (cellsFrom n outer []).lookup x = some c ∧ cs.lookup c = some o ∧ o.data = .cell (some u) ∧ RelV v u)
    (run : ∀ (A : Around) (out : List Env) (s : Shared) (H0 : Hp) (Q' : VK) (E' : XK), Room 13 (A.deeper (PySem.W.envX qual scope s.heap.objs.size f (.ref c') (clos scope.names (cellsFrom n outer [])))) → Same H3 H0 → (∀ (H1 : Hp) (xa : Addr), Same H0 H1 → H1 xa = none → E' (.ref (C j)) (some xa) H1) →
      ∃ t, PE (cxAt (CX1 P w) P w K mg base N (PySem.W.envX qual scope s.heap.objs.size f (.ref c') (clos scope.names (cellsFrom n outer []))) (fun _ => false) A out s H0 E') body t ∧ t σ H0 Q') : LamRef P w K mg base C (addC cs H3) f j := by
  have out : ∀ {b : Addr} {u : HO}, H3 b = some u → cs.lookup b = none := fun {b u} e => by
    cases z : cs.lookup b with
    | none => rfl
    | some o => rw [un b o z] at e; cases e
  have sub : ∀ {x : Str} {c : Addr}, (clos scope.names (cellsFrom n outer [])).lookup x = some c → (cellsFrom n outer []).lookup x = some c := fun {x c} e => by
    obtain ⟨e1, e2⟩ := clos_lookup e
    obtain ⟨c2, e3⟩ := Option.isSome_iff_exists.mp (PySem.W.cellsFrom_some outer n [] (x := x) (.inl (hsub _ e2 rfl)))
    rw [e3] at e1
    rw [e3, e1]; rfl
  refine ⟨name, qual, params, body, scope, _, pm, .ref c', ctv, fun vs H Q E => vs = [] ∧ ∃ H0 cs σ, LamAt P w K mg base 13 f c' name qual params body scope (clos scope.names (cellsFrom n outer [])) pm ctv N H Q E H0 cs σ, ?_, ?_, hb, fun H' Q' E' sH hE => ?_⟩
  · rw [addC_out (out hf)]; exact hf
  · refine lam_ok hco hgen hk hfree (fun x y c e1 e2 => ?_) (fun x e => ?_) fun vs H Q E h => h
    · exact cells_inj (n := n) (names := outer) (acc := []) (fun _ _ z => nomatch z) (fun _ _ _ z => nomatch z) x y c (PySem.mem_of_lookup (sub e1)) (PySem.mem_of_lookup (sub e2))
    · exact clos_has (PySem.mem_of_lookup e)
  · have eH := sH.cells
    have s0 : Same H3 (dropC cs H') := sH.drop un
    have frz : ∀ b o, cs.lookup b = some o → H' b = some (.frz o (.ext fun _ => True)) := fun b o z => sH b _ (addC_in z)
    refine ⟨rfl, dropC cs H', cs, σ, ⟨eH.symm, fun b o z => dropC_in z, s0 _ _ hf, s0 _ _ hc, fun x c e => all x c (sub e), len, fun i x v h1 h2 => ?_, fun A ou s hr => ?_⟩⟩
    · obtain ⟨hm, c, o, u, a1, a2, a3, a4⟩ := val i x v h1 h2
      obtain ⟨c2, a5⟩ := clos_has (cells := cellsFrom n outer []) hm
      have := sub a5
      rw [a1] at this; cases this
      exact ⟨c, o, u, a5, a2, a3, a4⟩
    · have hS : ∀ H1, Same (dropC cs H') H1 → Same H' (addC cs H1) := fun H1 s1 b o e => by
        cases z : cs.lookup b with
        | some o' =>
          rw [frz b o' z] at e; cases e
          exact addC_in z
        | none =>
          rw [addC_out z]
          exact s1 b o (by rw [dropC_out z]; exact e)
      exact run A ou s (dropC cs H') (fun v H1 => Q' v (addC cs H1)) (fun cls x H1 => (∀ b, x = some b → cs.lookup b = none) → E' cls x (addC cs H1)) hr s0 (fun H1 xa s1 hx hcs => hE _ xa (hS H1 s1) (by rw [addC_out (hcs xa rfl)]; exact hx))
end
theorem Fun.okL {P : Program} {w : World} {K : PySem.W.Frag} {mg : Str → Option Value} {base : Heap} {x qual : Str} {st : Stmt} {f : Addr} {fd : FuncData} {N ps : List Str} {k : Nat} {sp : Sp} (F : Fun K x qual st f fd) (S : FnScope N ps (defScope st)) (len : ∀ vs H Q E, sp vs H Q E → vs.length = ps.length)
    (hbody : ∀ (A : Around) (outer : List Env) (s : Shared) (H : Hp) (vs : List V) (Q : VK) (E : XK), Room k (A.deeper (envOfC qual (defScope st) s.heap.objs.size f fd.code)) → sp vs H Q E →
      ∃ t, PSs (cxOf (CX1 P w) P w K mg base N qual (defScope st) f fd.code A outer s H E).nox (defBody st) t ∧ t { nx := fun _ H' => Q .non H', rt := Q } (start N vs) H) : FnOk P w K mg base (CX1 P w) (k + 1) f fd ps sp :=
  F.okT S len fun A outer s H vs Q E hr hsp => let ⟨t, h, q⟩ := hbody A outer s H vs Q E hr hsp; ⟨t, h.nox, q⟩
/-! ### the classes' facts, by what is decided over the written part -/
section
open PySem.W
variable {K : Frag} {C D CT : Addr} {b : Bool} {cd : ClassData}
theorem kit_no (n : (C == D) = false) (h1 : clsIn K D = some cd) (h2 : typeIn K (.ref D) = some (.type "type")) (h3 : subIn K (.ref C) (.ref D) = some b) : kitOne K (.ref C) (.ref D) = some b := by
  unfold kitOne
  have n' : C ≠ D := beq_eq_false_iff_ne.mp n
  rw [if_neg (fun z => n' (Value.ref.inj (eq_of_beq z)))]
  unfold kitCls
  dsimp only
  rw [h1, h2, if_pos (by rfl)]
  exact h3
theorem kit_self : kitOne K (.ref C) (.ref C) = some true := by
  unfold kitOne
  rw [if_pos (beq_self_eq_true _)]
theorem kit_ve (h : subIn K (.ref C) (.type "ValueError") = some true) : kitOne K (.ref C) (.type "ValueError") = some true := by
  unfold kitOne
  rw [if_neg (by simp)]
  unfold kitCls
  dsimp only
  rw [if_pos (by decide +kernel)]
  exact h
theorem exm_of (h0 : subIn K (.ref CT) (.type "BaseException") = some true) (h1 : clsIn K CT = some cd) (h2 : typeIn K (.ref CT) = some (.type "type")) (h3 : subIn K (.ref C) (.ref CT) = some true) : exmOne K (.ref C) (.ref CT) = some true := by
  unfold exmOne
  rw [h0, if_pos (by rfl)]
  unfold kitCls
  dsimp only
  rw [h1, h2, if_pos (by rfl)]
  exact h3
theorem tabIn_of {x : Str} {f c P : Addr} {oc : Value} {od : Option Addr} {fd : FuncData} {osl : Array (Option Value)} {cc : Value} {cod : Option Addr} {vs : Array Value} {csl : Array (Option Value)} (h1 : nsIn K mainGlobals x = some (some (.ref f))) (h2 : K.lookup f = some ⟨oc, od, .func fd, osl⟩) (h3 : fd.code = .ref c)
    (h4 : K.lookup c = some ⟨cc, cod, .fields vs, csl⟩) (h5 : vs[11]? = some (.ref P)) : tabIn K x = some (c, P) := by
  unfold tabIn
  rw [h1]
  dsimp only
  rw [h2]
  dsimp only
  rw [h3]
  dsimp only
  rw [h4]
  dsimp only
  rw [h5]
end
def Thr (mg : Str → Option Value) (nm : Str) (E : XK) (H : Hp) : Prop := ∀ (C x : Addr) (H' : Hp), mg nm = some (.ref C) → Same H H' → H' x = none → E (.ref C) (some x) H'
theorem Thr.same {mg : Str → Option Value} {nm : Str} {E : XK} {H H' : Hp} (h : Thr mg nm E H) (s : Same H H') : Thr mg nm E H' := fun C x H2 hm s2 hx => h C x H2 hm (s.trans s2) hx
end L2











namespace L2
open PySem PySem.Spec PyProof.Rows

section
variable {κ : Type} [DecidableEq κ]
def valV (kvs : List (κ × V)) (k : κ) : Option V := (kvs.find? fun kv => decide (kv.1 = k)).map (·.2)
def putK (kvs : List (κ × V)) (k : κ) (v : V) : List (κ × V) :=
  if (kvs.any fun kv => decide (kv.1 = k)) = true then kvs.map (fun kv => if kv.1 = k then (kv.1, v) else kv) else kvs ++ [(k, v)]
theorem valV_nil {k : κ} : valV ([] : List (κ × V)) k = none := rfl
theorem valV_pos {p : κ × V} {r : List (κ × V)} {k : κ} (e : p.1 = k) : valV (p :: r) k = some p.2 := by simp [valV, List.find?_cons, e]
theorem valV_neg {p : κ × V} {r : List (κ × V)} {k : κ} (e : ¬ p.1 = k) : valV (p :: r) k = valV r k := by simp [valV, List.find?_cons, e]
theorem valV_any (k : κ) : ∀ kvs : List (κ × V), (kvs.any fun kv => decide (kv.1 = k)) = (valV kvs k).isSome
  | [] => rfl
  | p :: r => by
    rw [List.any_cons]
    by_cases e : p.1 = k
    · simp only [valV_pos e, decide_eq_true e, Bool.true_or, Option.isSome_some]
    · rw [valV_neg e, decide_eq_false e, Bool.false_or]; exact valV_any k r
theorem length_putK (kvs : List (κ × V)) (k : κ) (v : V) : (putK kvs k v).length ≤ kvs.length + 1 := by
  unfold putK
  split
  · rw [List.length_map]; omega
  · rw [List.length_append, List.length_cons, List.length_nil]; omega
theorem putK_new {kvs : List (κ × V)} {k : κ} (v : V) (h : valV kvs k = none) : putK kvs k v = kvs ++ [(k, v)] := by
  unfold putK
  rw [valV_any, h]
  exact if_neg (by decide)

theorem KV.val {kvs : List (κ × V)} {vs : List (κ × Value)} (r : KV kvs vs) (k : κ) : RelO (valV kvs k) (valueAt vs k) := by
  unfold KV at r
  induction r with
  | nil => exact True.intro
  | @cons p q ps qs h t ih =>
    obtain ⟨h1, h2⟩ := h
    by_cases e : p.1 = k
    · have e' : q.1 = k := h1.symm.trans e
      have b : valueAt (q :: qs) k = some q.2 := by simp [valueAt, List.find?_cons, e']
      rw [valV_pos e, b]; exact h2
    · have e' : ¬ q.1 = k := fun z => e (h1.trans z)
      have b : valueAt (q :: qs) k = valueAt qs k := by simp [valueAt, List.find?_cons, e']
      rw [valV_neg e, b]; exact ih
theorem KV.any {kvs : List (κ × V)} {vs : List (κ × Value)} (r : KV kvs vs) (k : κ) : (kvs.any fun kv => decide (kv.1 = k)) = vs.any fun kv => decide (kv.1 = k) := by
  unfold KV at r
  induction r with
  | nil => rfl
  | cons h t ih => rw [List.any_cons, List.any_cons, ih, h.1]
theorem KV.repl {kvs : List (κ × V)} {vs : List (κ × Value)} (r : KV kvs vs) (k : κ) {y : V} {u : Value} (ry : RelV y u) :
    KV (kvs.map fun kv => if kv.1 = k then (kv.1, y) else kv) (vs.map fun kv => if kv.1 = k then (kv.1, u) else kv) := by
  unfold KV at r ⊢
  induction r with
  | nil => exact .nil
  | @cons p q ps qs h t ih =>
    rw [List.map_cons, List.map_cons]
    refine .cons ?_ ih
    obtain ⟨h1, h2⟩ := h
    by_cases e : p.1 = k
    · rw [if_pos e, if_pos (h1.symm.trans e)]; exact ⟨h1, ry⟩
    · rw [if_neg e, if_neg (fun z => e (h1.trans z))]; exact ⟨h1, h2⟩
theorem KV.put {kvs : List (κ × V)} {vs : List (κ × Value)} (r : KV kvs vs) (k : κ) {y : V} {u : Value} (ry : RelV y u) : KV (putK kvs k y) (stored vs k u) := by
  unfold putK stored
  rw [r.any k]
  by_cases e : (vs.any fun kv => decide (kv.1 = k)) = true
  · rw [if_pos e, if_pos e]; exact r.repl k ry
  · rw [if_neg e, if_neg e]; exact Paired.snoc r ⟨rfl, ry⟩
end


theorem kV_is {P : Program} {w : World} {k : Key} {u : Value} (r : RelV (kV k) u) : (mixKind P w).is k u = true := by
  cases k with
  | inl i => obtain ⟨t, e⟩ := (show ∃ t, u = Value.int i t from r); subst e; exact mixKind_int P w i t
  | inr x => obtain ⟨t, e⟩ := (show ∃ t, u = Value.str x t from r); subst e; exact mixKind_str P w x t
theorem items_are {P : Program} {w : World} : ∀ {ks : List Key} {us : List Value}, Vals (ks.map kV) us → ItemsAre (mixKind P w) ks us
  | [], _, r => by rw [List.map_nil] at r; cases r; exact .nil
  | k :: ks, _, r => by
    rw [List.map_cons] at r
    cases r with
    | cons h t => exact .cons (kV_is h) (items_are t)

abbrev KT (H : Hp) : List (List Key × V) → List (List Key × Addr × Value) → Prop := Paired fun p q => p.1 = q.1 ∧ H q.2.1 = some (.tup (p.1.map kV)) ∧ RelV p.2 q.2.2
theorem KT.val {H : Hp} {kvs : List (List Key × V)} {xs : List (List Key × Addr × Value)} (r : KT H kvs xs) (k : List Key) : RelO (valV kvs k) ((atKey xs k).map (·.2)) := by
  induction r with
  | nil => exact True.intro
  | @cons p q ps qs h t ih =>
    obtain ⟨h1, _, h2⟩ := h
    by_cases e : p.1 = k
    · have e' : q.1 = k := h1.symm.trans e
      have b : atKey (q :: qs) k = some q.2 := by simp [atKey, List.find?_cons, e']
      rw [valV_pos e, b]; exact h2
    · have e' : ¬ q.1 = k := fun z => e (h1.trans z)
      have b : atKey (q :: qs) k = atKey qs k := by simp [atKey, List.find?_cons, e']
      rw [valV_neg e, b]; exact ih
section
variable {P : Program} {w : World} {H : Hp} {h : Heap} {a : Addr}
theorem rd_of {u : HO} (ok : HOk P w H h) (e : Rd H a u) : ObjOk P w H h a u := e.ok ok
theorem dk_rd {kvs : List (Key × V)} (ok : HOk P w H h) (e : Rd H a (.dK kvs)) : kvs.length ≤ sizeLine ∧ (a == sysModules) = false ∧ ∃ vs, KV kvs vs ∧ h.DictOf (mixKind P w) a vs :=
  show ObjOk P w H h a (.dK kvs) from rd_of ok e
theorem dk_of {kvs : List (Key × V)} (ok : HOk P w H h) (e : H a = some (.dK kvs)) : kvs.length ≤ sizeLine ∧ (a == sysModules) = false ∧ ∃ vs, KV kvs vs ∧ h.DictOf (mixKind P w) a vs := dk_rd ok (.inl e)
theorem key_of {ks : List Key} (ok : HOk P w H h) (e : H a = some (.tup (ks.map kV))) : (tupleKind (mixKind P w)).is h ks a := by
  obtain ⟨_, its, r, o, h1, h2, n, h3⟩ := (show ObjOk P w H h a (.tup (ks.map kV)) from ok a _ e)
  exact ⟨o, its.toArray, n, h1, h2, h3, by simpa using items_are r⟩
theorem dt_rd {kvs : List (List Key × V)} (ok : HOk P w H h) (e : Rd H a (.dT kvs)) : kvs.length ≤ sizeLine ∧ (a == sysModules) = false ∧
    ∃ xs, KT H kvs xs ∧ h.DictOfH (tupleKind (mixKind P w)) a xs := by
  obtain ⟨z, y, xs, r, o, es, ep, h1, h2, h3, h4, h5⟩ := (show ObjOk P w H h a (.dT kvs) from rd_of ok e)
  refine ⟨z, y, xs, r, o, es, ep, h1, h2, h3, h4, fun x hx => ?_, h5⟩
  have all : ∀ {l : List (List Key × V)} {m : List (List Key × Addr × Value)}, KT H l m → ∀ x ∈ m, (tupleKind (mixKind P w)).is h x.1 x.2.1 := by
    intro l m q
    induction q with
    | nil => intro x hx; exact nomatch hx
    | @cons p q ps qs hq t ih =>
      intro x hx
      rcases List.mem_cons.mp hx with e | hx
      · subst e
        exact key_of ok (by rw [← hq.1]; exact hq.2.1)
      · exact ih x hx
  exact all r x hx
end

def DGet (H : Hp) (a : Addr) (y : V) (r : Option V) : Prop :=
  (∃ kvs k, Rd H a (.dK kvs) ∧ y = kV k ∧ r = valV kvs k) ∨ ∃ kvs k b, Rd H a (.dT kvs) ∧ y = .ref b ∧ H b = some (.tup (k.map kV)) ∧ r = valV kvs k
theorem DGet.k {H : Hp} {a : Addr} {kvs : List (Key × V)} {k : Key} (e : H a = some (.dK kvs)) : DGet H a (kV k) (valV kvs k) := .inl ⟨kvs, k, .inl e, rfl, rfl⟩
section
variable {X : Cx} {pins : List (Addr × Obj)} {σ : St} {H : Hp} {s : Shared} {a : Addr} {y v : V} {u r : Value} {o : Option V} {A : Around} {E : Value → Shared → Prop}

theorem Inv.big (I : Inv X pins σ H s) : sysModules < s.heap.objs.size := by
  have h : mainGlobals < s.heap.objs.size := (I.mod.glob.keeps I.bk).lt
  exact Nat.lt_trans (by decide) h

theorem d_getItem {Q : Value → Shared → Prop} (hu : A.units + 1 < cLine) (I : Inv X pins σ H s) (g : DGet H a y (some v)) (ry : RelV y u) (h : ∀ w' s', Inv X pins σ H s' → RelV v w' → Q w' s') :
    wpAny (model X.prog X.w) A (getItem (.ref a) u) Q E s := by
  rcases g with ⟨kvs, k, e, ey, l⟩ | ⟨kvs, k, b, e, ey, eb, l⟩
  · subst ey
    obtain ⟨z, hd, vs, rel, dd⟩ := dk_rd I.hok e
    obtain ⟨w', hw, rw'⟩ := RelO.some_of (v := v) (o := valueAt vs k) (by rw [l]; exact rel.val k)
    exact wpAny_getItem_of (kV_is ry) dd.mapOf hw (h w' _ (I.tok _) rw')
  · subst ey
    cases (show u = Value.ref b from ry)
    obtain ⟨z, hd, xs, rel, dd⟩ := dt_rd I.hok e
    obtain ⟨w', hw, rw'⟩ := RelO.some_of (v := v) (o := (atKey xs k).map (·.2)) (by rw [l]; exact rel.val k)
    obtain ⟨p, hp, hp2⟩ := Option.map_eq_some_iff.mp hw
    refine wpAny_getItem_heap (tupleKind_room_in1 hu) (key_of I.hok eb) dd hp ?_
    rw [hp2]
    exact h w' _ (I.tok _) rw'
theorem d_write {h' : Heap} {t' : Nat} {ob : HO} (I : Inv X pins σ H s) (mu : Mut (H a)) (hs : Heap.SameBut a s.heap h') (he : ∃ q, h'.get? a = some q) (new : ObjOk X.prog X.w (upd H a ob) h' a ob) :
    Inv X pins σ (upd H a ob) { s with heap := h', toks := t' } :=
  I.write (x := a) (e := a) mu (.inl rfl) (fun b q hb z => (hs.2 b hb).trans z) he new
theorem dk_new {P : Program} {w : World} {H' : Hp} {h' : Heap} {kvs : List (Key × V)} {vs : List (Key × Value)} (z : kvs.length ≤ sizeLine) (hd : (a == sysModules) = false) (rel : KV kvs vs) (dd : h'.DictOf (mixKind P w) a vs) :
    ObjOk P w H' h' a (.dK kvs) := ⟨z, hd, vs, rel, dd⟩
end



def NoSl (i : Expr) : Prop := ∀ ov iv, subscripted i false ov iv = operate [ov, iv] (getItem ov iv)
theorem subD_of {prog : Program} {w : World} {A : Around} {E : Value → Shared → Prop} {s : Shared} {env : Env} {value slice : Expr} {pos : Pos} {T id : String} {Q : Value → Shared → Prop}
    (hl : typeLookup (.type T) "__getitem__" = pure (some (.builtin id))) (hs : NoSl slice)
    (h : wpAny (model prog w) A (eval value env) (fun o s₁ => wpAny (model prog w) A (eval slice env) (fun i s₂ => s₂.TypeIs o T ∧ wpAny (model prog w) A (getItem o i) Q E s₂) E s₁) E s) :
    wpAny (model prog w) A (eval (.Subscript value slice pos) env) Q E s := by
  refine Subscript_ (wpAny_mono h (fun o s₁ h₁ => wpAny_mono h₁ (fun i s₂ h₂ => ?_) fun _ _ x => x) fun _ _ x => x)
  obtain ⟨hT, h₂⟩ := h₂
  unfold subscriptTail
  refine wpAny_bind ?_
  rw [getitemInPython_of_ne hT.not_modules]
  refine wpAny_bind (wpAny_specialOf hT hl ?_)
  have fin : wpAny (model prog w) A (subscripted slice false o i) (fun r s₃ => wpAny (model prog w) A (letTemporaryGo value o r >>= fun _ => pure r) Q E s₃) E s₂ := by
    rw [hs o i]
    exact wpAny_operating (wpAny_mono h₂ (fun r s₃ h₃ => wpAny_bind (wpAny_letTemporaryGo (wpAny_pure h₃))) fun _ _ x => x)
  first
    | exact wpAny_pure (wpAny_bind fin)
    | exact wpAny_bind (wpAny_pure (wpAny_bind fin))
    | exact wpAny_bind fin

theorem dict_typeIs {X : Cx} {pins : List (Addr × Obj)} {σ : St} {H : Hp} {s : Shared} {a : Addr} {y : V} {o : Option V} (I : Inv X pins σ H s) (g : DGet H a y o) : s.TypeIs (.ref a) "dict" := by
  rcases g with ⟨kvs, k, e, _, _⟩ | ⟨kvs, k, b, e, _, _, _⟩
  · obtain ⟨_, _, vs, _, dd⟩ := dk_rd I.hok e
    exact dd.typeIs
  · obtain ⟨_, _, xs, _, dd⟩ := dt_rd I.hok e
    exact dd.typeIs
def tDGet (td ty : TE) : TE := fun σ H Q => td σ H fun x H1 => ty σ H1 fun y H2 => ∃ a v, x = .ref a ∧ DGet H2 a y (some v) ∧ Q v H2
section
variable {X : Cx} {o i e value : Expr} {pos pos' tpos : Pos} {td ty tv : TE}
theorem pe_dget (hu : X.A.units + 1 < cLine) (ho : PE X o td) (hi : PE X i ty) (hs : NoSl i) : PE X (.Subscript o i pos) (tDGet td ty) := by
  intro pins s σ H Q I h
  refine subD_of PySem.F.slot_dict_getitem.lookup hs (thn (ho pins s σ H _ I h) fun u s1 ⟨x, H1, I1, rx, q1⟩ => thn (hi pins s1 σ H1 _ I1 q1) fun iv s2 ⟨y, H2, I2, ry, a, v, ex, g, q2⟩ => ?_)
  subst ex
  obtain rfl : u = Value.ref a := rx
  exact ⟨dict_typeIs I2 g, d_getItem hu I2 g ry fun w' s3 I3 rw' => ⟨v, H2, I3, rw', q2⟩⟩
end


theorem dk_empty {P : Program} {w : World} {H : Hp} (h : Heap) (hb : sysModules < h.objs.size) : ObjOk P w H (h.push { cls := .type "dict", data := .dict #[] }) h.objs.size (.dK []) :=
  ⟨Nat.zero_le _, beq_eq_false_iff_ne.mpr (Ne.symm (Nat.ne_of_lt hb)), [], .nil, Heap.DictOf.new h⟩

def tPairs : List (TE × TE) → St → Hp → (List (V × V) → Hp → Prop) → Prop
  | [], _, H, Q => Q [] H
  | (tk, tv) :: r, σ, H, Q => tk σ H fun x H1 => tv σ H1 fun y H2 => tPairs r σ H2 fun ps H3 => Q ((x, y) :: ps) H3
abbrev VV : List (V × V) → List (Value × Value) → Prop := Paired fun p q => RelV p.1 q.1 ∧ RelV p.2 q.2
def PPs (X : Cx) (pos : Pos) (keys : List (Option Expr)) (values : List Expr) (trs : List (TE × TE)) : Prop :=
  ∀ (pins : List (Addr × Obj)) (s : Shared) (σ : St) (H : Hp) (Q : List (V × V) → Hp → Prop), Inv X pins σ H s → tPairs trs σ H Q →
    wpAny (model X.prog X.w) X.A (evalPairs (pairTrees keys values X.env pos)) (fun vs s' => ∃ ps H', Inv X pins σ H' s' ∧ VV ps vs ∧ Q ps H') X.xe s
theorem pps_nil {X : Cx} {pos : Pos} : PPs X pos [] [] [] := fun pins s σ H Q I h => pairTrees_nil_walk ⟨[], H, I, .nil, h⟩
theorem pps_cons {X : Cx} {pos : Pos} {k v : Expr} {ks : List (Option Expr)} {vs : List Expr} {tk tv : TE} {trs : List (TE × TE)} (hk : PE X k tk) (hv : PE X v tv) (hr : PPs X pos ks vs trs) :
    PPs X pos (some k :: ks) (v :: vs) ((tk, tv) :: trs) := fun pins s σ H Q I h =>
  pairTrees_cons_walk (thn (hk pins s σ H _ I h) fun u s1 ⟨x, H1, I1, rx, q1⟩ => thn (hv pins s1 σ H1 _ I1 q1) fun w2 s2 ⟨y, H2, I2, ry, q2⟩ =>
    thn (hr pins s2 σ H2 _ I2 q2) fun ws s3 ⟨ps, H3, I3, rel, q3⟩ => ⟨(x, y) :: ps, H3, I3, .cons ⟨rx, ry⟩ rel, q3⟩)

def mergeK (kvs more : List (Key × V)) : List (Key × V) := more.foldl (fun acc kv => putK acc kv.1 kv.2) kvs
theorem KV.merge : ∀ {more : List (Key × V)} {rs : List (Key × Value)} {kvs : List (Key × V)} {vs : List (Key × Value)}, KV more rs → KV kvs vs → KV (mergeK kvs more) (merged vs rs) := by
  intro more rs kvs vs r
  unfold KV at r
  induction r generalizing kvs vs with
  | nil => intro q; exact q
  | @cons p q ps qs h t ih =>
    intro r0
    have e : KV (putK kvs p.1 p.2) (stored vs q.1 q.2) := by
      have := r0.put p.1 h.2
      rw [← h.1]; exact this
    exact ih e
theorem length_mergeK : ∀ (more kvs : List (Key × V)), (mergeK kvs more).length ≤ kvs.length + more.length
  | [], kvs => by show kvs.length ≤ kvs.length + 0; omega
  | p :: r, kvs => by
    have h1 := length_mergeK r (putK kvs p.1 p.2)
    have h2 := length_putK kvs p.1 p.2
    show (mergeK (putK kvs p.1 p.2) r).length ≤ _
    rw [List.length_cons]; omega
theorem carries_of {P : Program} {w : World} : ∀ {kvs : List (Key × V)} {ws : List (Value × Value)}, VV (kvs.map fun kv => (kV kv.1, kv.2)) ws → ∃ rs, Carries (mixKind P w) ws rs ∧ KV kvs rs
  | [], _, r => by rw [List.map_nil] at r; cases r; exact ⟨[], True.intro, .nil⟩
  | p :: kvs, _, r => by
    rw [List.map_cons] at r
    cases r with
    | @cons a b as bs h t =>
      obtain ⟨rs, c, q⟩ := carries_of (P := P) (w := w) t
      obtain ⟨b1, b2⟩ := b
      exact ⟨(p.1, b2) :: rs, ⟨kV_is h.1, rfl, c⟩, .cons ⟨rfl, h.2⟩ q⟩
def tDisp (trs : List (TE × TE)) : TE := fun σ H Q => ∀ p, H p = none → tPairs trs σ (upd H p (.dK [])) fun ps H2 => H2 p = some (.dK []) ∧ ∃ kvs : List (Key × V), ps = kvs.map (fun kv => (kV kv.1, kv.2)) ∧ kvs.length ≤ 15 ∧ Q (.ref p) (upd H2 p (.dK (mergeK [] kvs)))
theorem pe_disp {X : Cx} {pos : Pos} {keys : List (Option Expr)} {values : List Expr} {trs : List (TE × TE)} (h : PPs X pos keys values trs) (hall : keys.all (·.isSome) = true) (hl : keys.length = values.length) (h0 : keys ≠ [])
    (h15 : keys.length ≤ 15) : PE X (.Dict keys values pos) (tDisp trs) := by
  intro pins s σ H Q I q
  have hn := I.hok.fresh (Nat.le_refl s.heap.objs.size)
  have I1 := I.laid (a := s.heap.objs.size) (o := .dK []) (h' := s.heap.push { cls := .type "dict", data := .dict #[] }) (t' := s.toks) (fun _ _ q => Heap.get?_push_of_some _ q) (Nat.le_refl _) (dk_empty s.heap I.big)
  refine wpAny_Dict_walk (knd := mixKind X.prog X.w) hall hl h0 h15 (thn (h pins _ σ _ _ I1 (q _ hn)) fun ws s2 ⟨ps, H2, I2, rel, e, kvs, ep, lk, q2⟩ => ?_)
  subst ep
  obtain ⟨rs, c, rk⟩ := carries_of (P := X.prog) (w := X.w) rel
  obtain ⟨z, hd, vs0, r0, dd⟩ := dk_of I2.hok e
  cases r0
  refine ⟨rs, c, dd, fun h' dd' hs => ⟨.ref s.heap.objs.size, _, ?_, rfl, q2⟩⟩
  have hz : (mergeK [] kvs).length ≤ sizeLine := by
    have h1 := length_mergeK kvs []
    rw [List.length_nil] at h1
    rw [sizeLine_eq]; omega
  have he : ∃ q, h'.get? s.heap.objs.size = some q := let ⟨q, _, _, hq, _⟩ := dd'; ⟨q, hq⟩
  exact d_write I2 (by rw [e]; exact True.intro) hs he (dk_new hz hd (rk.merge .nil) dd')






end L2






/-! GROUND: an object of the program's class, its stages, its methods. -/
namespace L2
open PySem PySem.Spec PyProof.Rows
structure OkM (P : Program) (w : World) (K : PySem.W.Frag) (mg : Str → Option Value) (base : Heap) (C : Addr) (m : Str) (ps : List Str) (k : Nat) (sp : Sp) : Prop where
  ex : ∃ f fd, FnOk P w K mg base CX0 k f fd ps sp ∧ Binds K fd ps [] ∧ Meth K C m f
section
variable {X : Cx} {k j : Nat} {ps : List Str} {sp : Sp} {C : Addr} {m x : Str} {p pos apos : Pos} {o e : Expr} {es : List Expr} {ta : TE} {t : TA}
theorem pe_meth0O {pl : Sem Bool} (O : OkM X.prog X.w X.K X.mg X.base C m ps k sp) (c : Cls X.K C) (hr : Room j X.A) (he : PE X o ta) (hj : k ≤ j := by decide)
    (ht : eval (.Call (.Attribute o m apos) [] [] pos) X.env = (do
      let ov ← eval o X.env
      standAt apos.atName
      let (f, first) ← holding [ov] (getMethod ov m pl)
      callWith pos f first (backTo pos (starEach [] X.env)) (backToKw pos (keywordEach [] X.env))) := by rfl) : PE X (.Call (.Attribute o m apos) [] [] pos) (tMeth C m sp [] E0 ta tNil) := by
  obtain ⟨f, fd, F, b, M⟩ := O.ex
  exact pe_meth0 he c M F (hr.mono hj) b .nil pass0 ht
structure OkI (P : Program) (w : World) (K : PySem.W.Frag) (mg : Str → Option Value) (base : Heap) (C : Addr) (ps : List Str) (k : Nat) (sp : Sp) (ds : List Value) : Prop where
  ex : ∃ f fd, FnOk P w K mg base CX0 k f fd ps sp ∧ Binds K fd ps ds ∧ Mk K C f
theorem pe_makeO {dvs : List V} {ds : List Value} (O : OkI X.prog X.w X.K X.mg X.base C ps k sp ds) (hd : Vals dvs ds) (hr : Room j X.A) (hm : X.mg x = some (.ref C)) (ha : PA X (e :: es) t) (hg : Gl X x := by rfl) (hj : k + 1 ≤ j := by decide) (hdb : (x == ("__debug__" : Str)) = false := by decide)
    (he : starEach (e :: es) X.env = (false, eval e X.env) :: starEach es X.env := by rfl) (hpl : (backTo pos (starEach es X.env)).any (·.1) = false := by rfl) : PE X (.Call (.Name x p) (e :: es) [] pos) (tMake C sp dvs E0 t) := by
  obtain ⟨f, fd, F, b, M⟩ := O.ex
  exact pe_make M F (hr.mono hj) hg hm b hd pass0 ha hdb he hpl
theorem vals_non : Vals [V.non] [Value.none] := .cons (show RelV .non .none from rfl) .nil
theorem okD {P : Program} {w : World} {K : PySem.W.Frag} {mg : Str → Option Value} {base : Heap} {x qual : Str} {st : Stmt} {f : Addr} {N ps : List Str} {k : Nat} {sp : Sp} {dV kV doc pm cdv ct oc : Value} {an od : Option Addr} {osl : Array (Option Value)}
    (lk : K.lookup f = some ⟨oc, od, .func (PySem.W.fnOf x qual (defArgs st) (defBody st) (defScope st) dV kV doc pm an cdv ct), osl⟩) (hcd : PySem.W.codeIn K cdv qual = true) (S : FnScope N ps (defScope st)) (len : ∀ vs H Q E, sp vs H Q E → vs.length = ps.length)
    (hbody : ∀ (cdv : Value) (A : Around) (outer : List Env) (s : Shared) (H : Hp) (vs : List V) (Q : VK) (E : XK), Room k (A.deeper (envOfC qual (defScope st) s.heap.objs.size f cdv)) → sp vs H Q E →
      ∃ t, PSs (cxOf CX0 P w K mg base N qual (defScope st) f cdv A outer s H E).nox (defBody st) t ∧ t { nx := fun _ H' => Q .non H', rt := Q } (start N vs) H) : FnOk P w K mg base CX0 (k + 1) f (PySem.W.fnOf x qual (defArgs st) (defBody st) (defScope st) dV kV doc pm an cdv ct) ps sp := by
  refine fn_of lk hcd S len fun A outer s H vs Q E hr hsp => ?_
  obtain ⟨t, h, q⟩ := hbody cdv A outer s H vs Q E hr hsp
  exact ⟨t, h.nox, q⟩
end
structure FunD (K : PySem.W.Frag) (x qual : Str) (st : Stmt) (f : Addr) (fd : FuncData) : Prop where
  ex : ∃ (oc : Value) (od : Option Addr) (dV kV doc pm : Value) (an : Option Addr) (cdv ct : Value) (osl : Array (Option Value)),
    fd = PySem.W.fnOf x qual (defArgs st) (defBody st) (defScope st) dV kV doc pm an cdv ct ∧ K.lookup f = some ⟨oc, od, .func fd, osl⟩ ∧ PySem.W.codeIn K cdv qual = true
theorem FunD.ok {P : Program} {w : World} {K : PySem.W.Frag} {mg : Str → Option Value} {base : Heap} {x qual : Str} {st : Stmt} {f : Addr} {fd : FuncData} {N ps : List Str} {k : Nat} {sp : Sp} (F : FunD K x qual st f fd) (S : FnScope N ps (defScope st)) (len : ∀ vs H Q E, sp vs H Q E → vs.length = ps.length)
    (hbody : ∀ (cdv : Value) (A : Around) (outer : List Env) (s : Shared) (H : Hp) (vs : List V) (Q : VK) (E : XK), Room k (A.deeper (envOfC qual (defScope st) s.heap.objs.size f cdv)) → sp vs H Q E →
      ∃ t, PSs (cxOf CX0 P w K mg base N qual (defScope st) f cdv A outer s H E).nox (defBody st) t ∧ t { nx := fun _ H' => Q .non H', rt := Q } (start N vs) H) : FnOk P w K mg base CX0 (k + 1) f fd ps sp := by
  obtain ⟨oc, od, dV, kV, doc, pm, an, cdv, ct, osl, rfl, lk, hcd⟩ := F.ex
  exact okD lk hcd S len hbody
theorem sqL_set {K : PySem.W.Frag} {H : Hp} {a p G dx : Addr} {fs : List (Str × V)} {o : HO} {xs : List V} (h : SqL K H a xs) (hp : H p = some (.ins G dx fs)) : SqL K (upd H p o) a xs := by
  rcases h with (h | ⟨ob, h⟩) | h
  · exact .inl (.inl ((upd_ne (ne_of h hp (by intro z; cases z))).trans h))
  · exact .inl (.inr ⟨ob, (upd_ne (ne_of h hp (by intro z; cases z))).trans h⟩)
  · exact .inr h
end L2
namespace Tf
open PySem L2
/-! ### the ground -/
structure Stage where
  needs : List Int
  heats : List Int
  found : Int
  taken : Int
def stageK (a b : Addr) (x y : Int) : List (Key × V) := [(.inr "needs", .ref a), (.inr "heats", .ref b), (.inr "found", .int x), (.inr "taken", .int y)]
def StageAt (H : Hp) (d : Addr) (S : Stage) : Prop := ∃ a b, H d = some (.dK (stageK a b S.found S.taken)) ∧ H a = some (.lst (S.needs.map V.int)) ∧ H b = some (.lst (S.heats.map V.int))
theorem k_needs_heats : ¬ ((Sum.inr "needs" : Sum Int Str) = (Sum.inr "heats" : Sum Int Str)) := by decide +kernel
theorem k_needs_found : ¬ ((Sum.inr "needs" : Sum Int Str) = (Sum.inr "found" : Sum Int Str)) := by decide +kernel
theorem k_heats_found : ¬ ((Sum.inr "heats" : Sum Int Str) = (Sum.inr "found" : Sum Int Str)) := by decide +kernel
theorem k_needs_taken : ¬ ((Sum.inr "needs" : Sum Int Str) = (Sum.inr "taken" : Sum Int Str)) := by decide +kernel
theorem k_heats_taken : ¬ ((Sum.inr "heats" : Sum Int Str) = (Sum.inr "taken" : Sum Int Str)) := by decide +kernel
theorem k_found_taken : ¬ ((Sum.inr "found" : Sum Int Str) = (Sum.inr "taken" : Sum Int Str)) := by decide +kernel
theorem stage_heats (a b : Addr) (x y : Int) : valV (stageK a b x y) (Sum.inr "heats" : Key) = some (.ref b) := by
  unfold stageK
  rw [valV_neg k_needs_heats, valV_pos rfl]
theorem merge_stage (a b : Addr) (x y : Int) : mergeK [] (stageK a b x y) = stageK a b x y := by
  have e1 : putK ([] : List (Key × V)) (.inr "needs") (.ref a) = [(.inr "needs", .ref a)] := (putK_new _ valV_nil).trans rfl
  have e2 : putK ([(.inr "needs", .ref a)] : List (Key × V)) (.inr "heats") (.ref b) = [(.inr "needs", .ref a), (.inr "heats", .ref b)] := (putK_new _ ((valV_neg k_needs_heats).trans valV_nil)).trans rfl
  have e3 : putK ([(.inr "needs", .ref a), (.inr "heats", .ref b)] : List (Key × V)) (.inr "found") (.int x) = [(.inr "needs", .ref a), (.inr "heats", .ref b), (.inr "found", .int x)] := (putK_new _ ((valV_neg k_needs_found).trans ((valV_neg k_heats_found).trans valV_nil))).trans rfl
  have e4 : putK ([(.inr "needs", .ref a), (.inr "heats", .ref b), (.inr "found", .int x)] : List (Key × V)) (.inr "taken") (.int y) = stageK a b x y := (putK_new _ ((valV_neg k_needs_taken).trans ((valV_neg k_heats_taken).trans ((valV_neg k_found_taken).trans valV_nil)))).trans rfl
  show putK (putK (putK (putK ([] : List (Key × V)) (.inr "needs") (.ref a)) (.inr "heats") (.ref b)) (.inr "found") (.int x)) (.inr "taken") (.int y) = stageK a b x y
  rw [e1, e2, e3, e4]
def gF (pk ps : Addr) : List (Str × V) := [("kept", .ref pk), ("stages", .ref ps)]
theorem gF_stages (pk ps : Addr) : (gF pk ps).lookup ("stages" : Str) = some (.ref ps) := by
  unfold gF
  rw [List.lookup_cons, show (("stages" : Str) == ("kept" : Str)) = false by decide +kernel, List.lookup_cons]
  simp
theorem gF_no (pk ps : Addr) {m : Str} (h1 : (m == ("kept" : Str)) = false) (h2 : (m == ("stages" : Str)) = false) : (gF pk ps).lookup m = none := by
  unfold gF
  rw [List.lookup_cons, h1, List.lookup_cons, h2]
  rfl
theorem gF_put (pk ps : Addr) : putF "stages" (.ref ps) (putF "kept" (.ref pk) []) = gF pk ps := by
  have h : ¬ (("kept" : Str) = "stages") := by decide +kernel
  show (if ("kept" : Str) = "stages" then [(("kept" : Str), V.ref ps)] else (("kept" : Str), V.ref pk) :: putF "stages" (V.ref ps) []) = _
  rw [if_neg h]
  rfl
structure GroundAt (G : Addr) (H : Hp) (p : Addr) (kept : List V) (Ss : List Stage) : Prop where
  ex : ∃ (dx pk ps : Addr) (ds : List Addr), H p = some (.ins G dx (gF pk ps)) ∧ H pk = some (.lst kept) ∧ H ps = some (.lst (ds.map V.ref)) ∧ ds.length = Ss.length ∧ ∀ (i : Nat) (S : Stage), Ss[i]? = some S → ∃ d, ds[i]? = some d ∧ StageAt H d S
structure GroundSep (G : Addr) (ok : Addr → Prop) (H : Hp) (p : Addr) (kept : List V) (Ss : List Stage) : Prop where
  ex : ∃ (dx pk ps : Addr) (ds : List Addr), H p = some (.ins G dx (gF pk ps)) ∧ ok pk ∧ H pk = some (.lst kept) ∧ ok ps ∧ H ps = some (.lst (ds.map V.ref)) ∧ ds.length = Ss.length ∧ ∀ (i : Nat) (S : Stage), Ss[i]? = some S → ∃ d a b, ds[i]? = some d ∧ ok d ∧ ok a ∧ ok b ∧ H d = some (.dK (stageK a b S.found S.taken)) ∧ H a = some (.lst (S.needs.map V.int)) ∧ H b = some (.lst (S.heats.map V.int))
theorem GroundSep.keep {G : Addr} {ok ok' : Addr → Prop} {H H' : Hp} {p : Addr} {kept : List V} {Ss : List Stage} (h : GroundSep G ok H p kept Ss) (k : ∀ b o, ok b → H b = some o → H' b = some o) (kp : ∀ o, H p = some o → H' p = some o) (ko : ∀ b, ok b → ok' b) : GroundSep G ok' H' p kept Ss := by
  obtain ⟨dx, pk, ps, ds, h1, o2, h2, o3, h3, h4, h5⟩ := h.ex
  refine ⟨⟨dx, pk, ps, ds, kp _ h1, ko _ o2, k _ _ o2 h2, ko _ o3, k _ _ o3 h3, h4, fun i S e => ?_⟩⟩
  obtain ⟨d, a, b, e1, o4, o5, o6, e2, e3, e4⟩ := h5 i S e
  exact ⟨d, a, b, e1, ko _ o4, ko _ o5, ko _ o6, k _ _ o4 e2, k _ _ o5 e3, k _ _ o6 e4⟩
structure GCls (K : PySem.W.Frag) (mg : Str → Option Value) (G : Addr) : Prop where
  cl : Cls K G
  nK : NoAttr K G "kept"
  nS : NoAttr K G "stages"
  mgG : mg "Ground" = some (.ref G)
structure GroundX (G : Addr) (ok : Addr → Prop) (H : Hp) (p pk ps : Addr) (kept : List V) (Ss : List Stage) : Prop where
  ne : pk ≠ ps
  ex : ∃ (dx : Addr) (ds : List Addr), H p = some (.ins G dx (gF pk ps)) ∧ H pk = some (.lst kept) ∧ H ps = some (.lst (ds.map V.ref)) ∧ ds.length = Ss.length ∧ ∀ (i : Nat) (S : Stage), Ss[i]? = some S → ∃ d, ds[i]? = some d ∧ StageAt H d S ∧ ∃ a b, H d = some (.dK (stageK a b S.found S.taken)) ∧ H a = some (.lst (S.needs.map V.int)) ∧ H b = some (.lst (S.heats.map V.int)) ∧ a ≠ pk ∧ a ≠ ps ∧ b ≠ pk ∧ b ≠ ps ∧ ok a ∧ ok b
theorem GroundX.at {G : Addr} {ok : Addr → Prop} {H : Hp} {p pk ps : Addr} {kept : List V} {Ss : List Stage} (h : GroundX G ok H p pk ps kept Ss) : GroundAt G H p kept Ss := by
  obtain ⟨dx, ds, h1, h2, h3, h4, h5⟩ := h.ex
  refine ⟨⟨dx, pk, ps, ds, h1, h2, h3, h4, fun i S e => ?_⟩⟩
  obtain ⟨d, e1, e2, _⟩ := h5 i S e
  exact ⟨d, e1, e2⟩
structure GroundY (G : Addr) (ok : Addr → Prop) (H : Hp) (p : Addr) (kept : List V) (Ss : List Stage) : Prop where
  ex : ∃ (dx pk ps : Addr) (ds : List Addr), H p = some (.ins G dx (gF pk ps)) ∧ H pk = some (.lst kept) ∧ H ps = some (.lst (ds.map V.ref)) ∧ ds.length = Ss.length ∧ ∀ (i : Nat) (S : Stage), Ss[i]? = some S → ∃ d a b, ds[i]? = some d ∧ ok a ∧ ok b ∧ H d = some (.dK (stageK a b S.found S.taken)) ∧ H a = some (.lst (S.needs.map V.int)) ∧ H b = some (.lst (S.heats.map V.int))
theorem GroundAt.y {G : Addr} {H : Hp} {p : Addr} {kept : List V} {Ss : List Stage} (h : GroundAt G H p kept Ss) : GroundY G (fun _ => True) H p kept Ss := by
  obtain ⟨dx, pk, ps, ds, h1, h2, h3, h4, h5⟩ := h.ex
  refine ⟨⟨dx, pk, ps, ds, h1, h2, h3, h4, fun i S e => ?_⟩⟩
  obtain ⟨d, e1, a, b, e2, e3, e4⟩ := h5 i S e
  exact ⟨d, a, b, e1, trivial, trivial, e2, e3, e4⟩
theorem GroundSep.x {G : Addr} {ok : Addr → Prop} {H : Hp} {p : Addr} {needs heats : List Int} {x y : Int} (h : GroundSep G ok H p [] [⟨needs, heats, x, y⟩]) (h1 : needs ≠ []) (h2 : heats ≠ []) : ∃ pk ps, ok pk ∧ ok ps ∧ GroundX G ok H p pk ps [] [⟨needs, heats, x, y⟩] := by
  obtain ⟨dx, pk, ps, ds, g1, o1, g2, o2, g3, g4, g5⟩ := h.ex
  obtain ⟨d, a, b, e1, o3, o4, o5, e2, e3, e4⟩ := g5 0 _ rfl
  have hds : ds ≠ [] := fun z => by rw [z] at e1; cases e1
  have isInt : ∀ {c : Addr} {ns : List Int}, ns ≠ [] → H c = some (.lst (ns.map V.int)) → c ≠ pk ∧ c ≠ ps := fun {c ns} hn e => by
    refine ⟨ne_of e g2 fun z => hn (List.map_eq_nil_iff.mp (HO.lst.inj z)), ne_of e g3 fun z => ?_⟩
    have z := HO.lst.inj z
    cases ns with
    | nil => exact hn rfl
    | cons n r =>
      cases ds with
      | nil => exact hds rfl
      | cons d r' => cases z
  have ha := isInt h1 e3
  have hb := isInt h2 e4
  refine ⟨pk, ps, o1, o2, ⟨ne_of g2 g3 fun z => hds (List.map_eq_nil_iff.mp (HO.lst.inj z).symm), dx, ds, g1, g2, g3, g4, fun i S e => ?_⟩⟩
  match i, e with
  | 0, e =>
    cases e
    exact ⟨d, e1, ⟨a, b, e2, e3, e4⟩, a, b, e2, e3, e4, ha.1, ha.2, hb.1, hb.2, o4, o5⟩
  | k + 1, e => cases e
end Tf

namespace Tf
open PySem L2
/-! ONE SEASON done to a ground. -/
/-! and what is kept -/
end Tf

namespace Tf
open PySem L2
/-! A HISTORY: deeds one behind another. -/
theorem getD_app {xs ys : List Int} {i : Nat} (h : i < xs.length) : (xs ++ ys).getD i 0 = xs.getD i 0 := by
  rw [List.getD_eq_getElem?_getD, List.getD_eq_getElem?_getD, List.getElem?_append_left h]
theorem getD_appR {xs ys : List Int} {i : Nat} (h : xs.length ≤ i) : (xs ++ ys).getD i 0 = ys.getD (i - xs.length) 0 := by
  rw [List.getD_eq_getElem?_getD, List.getD_eq_getElem?_getD, List.getElem?_append_right h]
end Tf

namespace L2
open PySem PySem.Spec PyProof.Rows
section
variable {X : Cx}
theorem op_neNil (hu : X.A.units < cLine) : OpR X (compareOp .NotEq) (fun x y H Q => ∃ (p q : Addr) (xs : List V), x = .ref p ∧ y = .ref q ∧ SqL X.K H p xs ∧ SqL X.K H q [] ∧ Q (.bl (!xs.isEmpty)) H) := by
  intro pins s σ H x y v u Q I rx ry h
  obtain ⟨p, q, xs, rfl, rfl, h1, h2, hq⟩ := h
  cases rx
  cases ry
  obtain ⟨its, r1, pl1, _⟩ := I.list h1
  obtain ⟨jts, r2, pl2, _⟩ := I.list h2
  have l1 := r1.length
  have l2 := r2.length
  rw [List.length_nil] at l2
  cases xs with
  | nil =>
    rw [List.length_nil] at l1
    refine SeqAt.RcNeAt.lists (e := fun _ => true) pl1.isList pl2.isList (by simp only [List.size_toArray]; omega) hu (fun j a b => ?_) _ _ _ _ ?_
    · simp only [List.size_toArray] at a; omega
    · rw [show (List.range its.toArray.size).all (fun _ => true) = true from by simp]
      exact ⟨.bl false, H, I, rfl, hq⟩
  | cons a r =>
    rw [List.length_cons] at l1
    refine SeqAt.RcNeAt.lists_lengths pl1.isList pl2.isList (by simp only [List.size_toArray, bne_iff_ne]; omega) hu _ _ _ _ ?_
    exact ⟨.bl true, H, I, rfl, hq⟩
theorem op_eqNil (hu : X.A.units < cLine) : OpR X (compareOp .Eq) (fun x y H Q => ∃ (p q : Addr) (xs : List V), x = .ref p ∧ y = .ref q ∧ SqL X.K H p xs ∧ SqL X.K H q [] ∧ Q (.bl xs.isEmpty) H) := by
  intro pins s σ H x y v u Q I rx ry h
  obtain ⟨p, q, xs, rfl, rfl, h1, h2, hq⟩ := h
  cases rx
  cases ry
  obtain ⟨its, r1, pl1, _⟩ := I.list h1
  obtain ⟨jts, r2, pl2, _⟩ := I.list h2
  have l1 := r1.length
  have l2 := r2.length
  rw [List.length_nil] at l2
  cases xs with
  | nil =>
    rw [List.length_nil] at l1
    refine SeqAt.eq_listAt (e := fun _ => true) pl1.isList pl2.isList (by simp only [List.size_toArray]; omega) hu (fun j a b => ?_) ?_
    · simp only [List.size_toArray] at a; omega
    · rw [show (List.range its.toArray.size).all (fun _ => true) = true from by simp]
      exact ⟨.bl true, H, I, rfl, hq⟩
  | cons a r =>
    rw [List.length_cons] at l1
    refine SeqAt.eq_list_lengthsAt pl1.isList pl2.isList (by simp only [List.size_toArray, bne_iff_ne]; omega) hu ?_
    exact ⟨.bl false, H, I, rfl, hq⟩
end
end L2

namespace Tf
open PySem L2
/-! THE BALANCE: what is there, what found room, what was taken. -/
/-! deeds as years -/
end Tf

namespace Tf
open PySem L2
/-! WHAT IS LOST of what is brought or taken. -/
end Tf


namespace L2
open PySem PySem.Spec PyProof.Rows
section
variable {X : Cx}
theorem op_eqLL (hu : X.A.units + 1 < cLine) : OpR X (compareOp .Eq) (fun x y H Q => ∃ (p q : Addr) (ts us : List Addr) (rows : List (List Int)), x = .ref p ∧ y = .ref q ∧ SqL X.K H p (ts.map V.ref) ∧ SqL X.K H q (us.map V.ref) ∧ ts.length = rows.length ∧ us.length = rows.length ∧ (∀ (i : Nat) (r : List Int), rows[i]? = some r → ∃ t u, ts[i]? = some t ∧ us[i]? = some u ∧ SqL X.K H t (r.map V.int) ∧ SqL X.K H u (r.map V.int)) ∧ Q (.bl true) H) := by
  intro pins s σ H x y v u Q I rx ry h
  obtain ⟨p, q, ts, us, rows, rfl, rfl, h1, h2, l1, l2, hr, hq⟩ := h
  cases rx
  cases ry
  obtain ⟨its, r1, pl1, _⟩ := I.list h1
  obtain ⟨jts, r2, pl2, _⟩ := I.list h2
  have k1 := r1.length
  have k2 := r2.length
  rw [List.length_map] at k1 k2
  refine SeqAt.eq_listAt (e := fun _ => true) pl1.isList pl2.isList (by simp only [List.size_toArray]; omega) (by omega) (fun j a b => ?_) ?_
  · have hj : j < rows.length := by simp only [List.size_toArray] at a; omega
    obtain ⟨t, u, e1, e2, s1, s2⟩ := hr j _ (List.getElem?_eq_getElem hj)
    obtain ⟨x, e, ru⟩ := r1.at (j := j) (by simpa using a)
    obtain ⟨x', e', ru'⟩ := r2.at (j := j) (by simpa using b)
    rw [List.getElem?_map, e1] at e
    rw [List.getElem?_map, e2] at e'
    cases e
    cases e'
    show SeqAt.EqAt _ s its[j] jts[j] true
    have aux : ∀ {t : Addr} {v : Value}, RelV (.ref t) v → v = .ref t := fun {t v} h => by cases h; rfl
    have v1 : its[j] = .ref t := aux ru
    have v2 : jts[j] = .ref u := aux ru'
    rw [v1, v2]
    by_cases ht : t = u
    · rw [ht]; exact SeqAt.EqAt.same _
    refine SeqAt.EqAt.of_refs ht ?_
    obtain ⟨ks, q1, pk1, _⟩ := I.list s1
    obtain ⟨ms, q2, pk2, _⟩ := I.list s2
    have n1 := q1.length
    have n2 := q2.length
    rw [List.length_map] at n1 n2
    have hR := SeqAt.RcAt.lists (A := X.A.in1) (e := fun _ => true) pk1.isList pk2.isList (by simp only [List.size_toArray]; omega) (show X.A.units + 1 < cLine from hu) (fun m c d => by
      obtain ⟨y, f, ry⟩ := q1.at (j := m) (by simpa using c)
      obtain ⟨y', f', ry'⟩ := q2.at (j := m) (by simpa using d)
      rw [f] at f'
      cases f'
      obtain ⟨_, rfl⟩ := getI_some f
      exact eq_sameV rfl ry ry')
    rw [show (List.range ks.toArray.size).all (fun _ => true) = true from by simp] at hR
    exact hR
  · rw [show (List.range its.toArray.size).all (fun _ => true) = true from by simp]
    exact ⟨.bl true, H, I, rfl, hq⟩
end
end L2

open PySem
namespace L2
theorem seq_in {t r : TS} {D : Ends} {σ : St} {H : Hp} (h : ∀ D1 : Ends, (∀ σ' H', r D σ' H' → D1.nx σ' H') → t D1 σ H) : tSeq t r D σ H := h _ fun _ _ e => e
end L2

/-! REFUSALS of a ground's methods, and of the making of one. -/
namespace L2
open PySem PySem.Spec PyProof.Rows
structure OkIX (P : Program) (w : World) (K : PySem.W.Frag) (mg : Str → Option Value) (base : Heap) (C : Addr) (ps : List Str) (k : Nat) (sp : Sp) (ds : List Value) : Prop where
  ex : ∃ f fd, FnOk P w K mg base (CX1 P w) k f fd ps sp ∧ Binds K fd ps ds ∧ Mk K C f
section
variable {X : Cx} {E : XK} {k j : Nat} {ps : List Str} {sp : Sp} {C : Addr} {m x : Str} {p pos apos : Pos} {o e : Expr} {es : List Expr} {ta : TE} {t : TA}
theorem pe_makeX {dvs : List V} {ds : List Value} (O : OkIX X.prog X.w X.K X.mg X.base C ps k sp ds) (hd : Vals dvs ds) (hr : Room j X.A) (hx : Passes (CX1 X.prog X.w) X E) (hm : X.mg x = some (.ref C)) (ha : PA X (e :: es) t) (hg : Gl X x := by rfl) (hj : k + 1 ≤ j := by decide) (hdb : (x == ("__debug__" : Str)) = false := by decide)
    (he : starEach (e :: es) X.env = (false, eval e X.env) :: starEach es X.env := by rfl) (hpl : (backTo pos (starEach es X.env)).any (·.1) = false := by rfl) : PE X (.Call (.Name x p) (e :: es) [] pos) (tMake C sp dvs E t) := by
  obtain ⟨f, fd, F, b, M⟩ := O.ex
  exact pe_make M F (hr.mono hj) hg hm b hd hx ha hdb he hpl
end
def SameT (H H' : Hp) : Prop := ∀ b o, (∀ ps, o ≠ .tbl ps) → H b = some o → H' b = some o
theorem SameT.of_lam {P : Addr} {qual : Str} {H H' : Hp} (hT : TabOk P qual H) (s : ∀ b o, b ≠ P → H b = some o → H' b = some o) : SameT H H' := fun b o n e => by
  obtain ⟨ps, hp, _⟩ := hT
  exact s b o (ne_of e hp (n ps)) e
theorem SameT.lst {H H' : Hp} (s : SameT H H') {b : Addr} {xs : List V} (e : H b = some (.lst xs)) : H' b = some (.lst xs) := s b _ (fun _ z => by cases z) e
end L2

namespace L2
open PySem PySem.Spec PyProof.Rows
theorem FunD.okX {P : Program} {w : World} {K : PySem.W.Frag} {mg : Str → Option Value} {base : Heap} {x qual : Str} {st : Stmt} {f : Addr} {fd : FuncData} {N ps : List Str} {k : Nat} {sp : Sp} (F : FunD K x qual st f fd) (S : FnScope N ps (defScope st)) (len : ∀ vs H Q E, sp vs H Q E → vs.length = ps.length)
    (hbody : ∀ (cdv : Value) (A : Around) (outer : List Env) (s : Shared) (H : Hp) (vs : List V) (Q : VK) (E : XK), Room k (A.deeper (envOfC qual (defScope st) s.heap.objs.size f cdv)) → sp vs H Q E →
      ∃ t, PSs (cxOf (CX1 P w) P w K mg base N qual (defScope st) f cdv A outer s H E) (defBody st) t ∧ t { nx := fun _ H' => Q .non H', rt := Q } (start N vs) H) : FnOk P w K mg base (CX1 P w) (k + 1) f fd ps sp := by
  obtain ⟨oc, od, dV, kV, doc, pm, an, cdv, ct, osl, rfl, lk, hcd⟩ := F.ex
  exact fn_of lk hcd S len fun A outer s H vs Q E hr hsp => hbody cdv A outer s H vs Q E hr hsp
end L2

namespace Tf
open PySem L2
theorem mk9 {N P : List Str} {sc : Scope} (a : sc.kind = .function := by rfl) (b : sc.isCoroutine = false := by rfl) (c : sc.isGenerator = false := by rfl) (d : N.Nodup := by decide +kernel) (e : N.take P.length = P := by rfl) (f : ∀ x ∈ P, sc.names.lookup x = some .local ∨ sc.names.lookup x = some .cell := by decide +kernel) (g : ∀ y ∈ sc.names, y.2 ≠ .free := by decide +kernel) : FnScope N P sc := ⟨a, b, c, d, e, f, g⟩
theorem sz9 {n : Nat} (h : Nat.ble n 100000 = true := by rfl) : n ≤ sizeLine := sz1000' (Nat.le_of_ble_eq_true h)
theorem gN {pk ps : Addr} {m : Str} (h1 : (m == ("kept" : Str)) = false := by decide +kernel) (h2 : (m == ("stages" : Str)) = false := by decide +kernel) : (gF pk ps).lookup m = none := gF_no pk ps h1 h2
def top (i : Nat) : Stmt := PySem.Challenge.pw_thawfront_k25_no_such_ground.main.body.getD i (.Pass ⟨0, 0, 0, 0⟩)
structure Txt (K : W.Frag) (mg : Str → Option Value) : Prop where
  n_ValueError : mg "ValueError" = none
  n_bool : mg "bool" = none
  n_int : mg "int" = none
  n_isinstance : mg "isinstance" = none
  n_len : mg "len" = none
  n_list : mg "list" = none
  n_max : mg "max" = none
  n_range : mg "range" = none
  n_zip : mg "zip" = none
  g_MOST_BEDS : ∃ t, mg "MOST_BEDS" = some (.int 30 t)
  g_MOST_NEED : ∃ t, mg "MOST_NEED" = some (.int 200 t)
section
variable {P : Program} {w : World} {K : W.Frag} {mg : Str → Option Value} {base : Heap} {f G : Addr} {fd : FuncData}
abbrev s_check_beds : Stmt := top 19
abbrev N_check_beds : List Str := ["needs"]
abbrev P_check_beds : List Str := ["needs"]
theorem sc_check_beds : FnScope N_check_beds P_check_beds (defScope s_check_beds) := mk9
/-! check_beds -/
def sp_check_bedsX (K : W.Frag) (mg : Str → Option Value) : Sp := fun vs H Q E => ∃ (a : Addr) (ns : List Int), vs = [.ref a] ∧ SqL K H a (ns.map V.int) ∧ (1 ≤ ns.length ∧ ns.length ≤ 30 → Q .non H) ∧ (¬ (1 ≤ ns.length ∧ ns.length ≤ 30) → Thr mg "BadBeds" E H)
def sp_check_beds (K : W.Frag) : Sp := fun vs H Q _ => ∃ (a : Addr) (ns : List Int), vs = [.ref a] ∧ SqL K H a (ns.map V.int) ∧ 1 ≤ ns.length ∧ ns.length ≤ 30 ∧ Q .non H
theorem ok_check_beds (F : Fun K "check_beds" "check_beds" s_check_beds f fd) (T : Txt K mg) : FnOk P w K mg base CX0 1 f fd P_check_beds (sp_check_beds K) := by
  refine F.ok sc_check_beds (fun vs H Q E h => ?_) (fun cdv A outer s H vs Q E hr h => ?_)
  · obtain ⟨a, ns, rfl, _⟩ := h
    rfl
  · obtain ⟨a, ns, rfl, hA, h1, h2, q⟩ := h
    have el : ((ns.map V.int).length : Int) = (ns.length : Int) := by rw [List.length_map]
    refine ⟨_, (pss_one (ps_if (PW.pt (pw_or (pt_cmpR op_lt (pe_len T.n_len (pv 0)) pe_int (nomark _)) (pw_or1 (pt_cmpR op_gt (pe_len T.n_len (pv 0)) (pe_gint T.g_MOST_BEDS) (nomark _)))))
        (pss_one ps_never)
        pss_nil)), ?_⟩
    refine ⟨_, rfl, a, _, rfl, .inl hA, _, _, rfl, rfl, _, rfl, ?_⟩
    refine ite2 (fun h => absurd (of_decide_eq_true h) (by omega)) (fun _ => ?_)
    refine ⟨_, rfl, a, _, rfl, .inl hA, _, _, rfl, rfl, _, rfl, ?_⟩
    refine ite2 (fun h => absurd (of_decide_eq_true h) (by omega)) (fun _ => ?_)
    exact q
theorem ok_check_bedsX (F : Fun K "check_beds" "check_beds" s_check_beds f fd) (T : Txt K mg) {C0 : Addr} (XU : Exc K mg "BadBeds" C0) : FnOk P w K mg base (CX1 P w) 1 f fd P_check_beds (sp_check_bedsX K mg) := by
  refine F.okX sc_check_beds (fun vs H Q E h => ?_) (fun cdv A outer s H vs Q E hr h => ?_)
  · obtain ⟨a, ns, rfl, _⟩ := h
    rfl
  · obtain ⟨a, ns, rfl, hA, q1, q2⟩ := h
    have el : ((ns.map V.int).length : Int) = (ns.length : Int) := by rw [List.length_map]
    have lg : (30 : Int).natAbs.log2 < 1920 := by decide
    refine ⟨_, (pss_one (ps_if (PW.pt (pw_or (pt_cmpR op_lt (pe_len T.n_len (pv 0)) pe_int (nomark _)) (pw_or1 (pt_cmpR op_gt (pe_len T.n_len (pv 0)) (pe_gint T.g_MOST_BEDS) (nomark _)))))
        (pss_one (ps_raise (C := C0) (E := E) rfl XU throws_fn (pa_cons (pe_fstr (pj_str (pj_int (pe_gint T.g_MOST_BEDS) (pj_str pj_nil)))) pa_nil)))
        pss_nil)), ?_⟩
    refine ⟨_, rfl, a, _, rfl, .inl hA, _, _, rfl, rfl, _, rfl, ?_⟩
    refine ite2 (fun h => ?_) (fun h => ?_)
    · have h := of_decide_eq_true h
      refine iteT ?_
      exact ⟨_, rfl, lg, fun z => ⟨sz9, fun e he => q2 (by omega) C0 e H XU.g (Same.refl _) he⟩⟩
    · have h : ¬ (((ns.map V.int).length : Int) < 1) := fun c => h (decide_eq_true c)
      refine ⟨_, rfl, a, _, rfl, .inl hA, _, _, rfl, rfl, _, rfl, ?_⟩
      refine ite2 (fun h2 => ?_) (fun h2 => ?_)
      · have h2 := of_decide_eq_true h2
        exact ⟨_, rfl, lg, fun z => ⟨sz9, fun e he => q2 (by omega) C0 e H XU.g (Same.refl _) he⟩⟩
      · have h2 : ¬ ((30 : Int) < ((ns.map V.int).length : Int)) := fun c => h2 (decide_eq_true c)
        exact q1 (by omega)
abbrev s_check_need : Stmt := top 20
abbrev N_check_need : List Str := ["need"]
abbrev P_check_need : List Str := ["need"]
theorem sc_check_need : FnScope N_check_need P_check_need (defScope s_check_need) := mk9
/-! check_need -/
def sp_check_needX (mg : Str → Option Value) : Sp := fun vs H Q E => ∃ (m : Int), vs = [.int m] ∧ (1 ≤ m ∧ m ≤ 200 → Q .non H) ∧ (¬ (1 ≤ m ∧ m ≤ 200) → ∀ (C x : Addr), mg "BadNeed" = some (.ref C) → H x = none → E (.ref C) (some x) H)
def sp_check_need : Sp := fun vs H Q _ => ∃ (m : Int), vs = [.int m] ∧ 1 ≤ m ∧ m ≤ 200 ∧ Q .non H
theorem ok_check_need (F : Fun K "check_need" "check_need" s_check_need f fd) (T : Txt K mg) : FnOk P w K mg base CX0 1 f fd P_check_need sp_check_need := by
  refine F.ok sc_check_need (fun vs H Q E h => ?_) (fun cdv A outer s H vs Q E hr h => ?_)
  · obtain ⟨m, rfl, _⟩ := h
    rfl
  · obtain ⟨m, rfl, h0, h1, q⟩ := h
    refine ⟨_, (pss_one (ps_if (PW.pt (pw_or (pt_cmpR op_lt (pv 0) pe_int (nomark _)) (pw_or1 (pt_cmpR op_gt (pv 0) (pe_gint T.g_MOST_NEED) (nomark _)))))
        (pss_one ps_never)
        pss_nil)), ?_⟩
    refine ⟨_, rfl, _, _, rfl, rfl, _, rfl, ?_⟩
    refine ite2 (fun h => absurd (of_decide_eq_true h) (by omega)) (fun _ => ?_)
    refine ⟨_, rfl, _, _, rfl, rfl, _, rfl, ?_⟩
    refine ite2 (fun h => absurd (of_decide_eq_true h) (by omega)) (fun _ => ?_)
    exact q
theorem ok_check_needX (F : Fun K "check_need" "check_need" s_check_need f fd) (T : Txt K mg) {C0 : Addr} (XU : Exc K mg "BadNeed" C0) : FnOk P w K mg base (CX1 P w) 1 f fd P_check_need (sp_check_needX mg) := by
  refine F.okX sc_check_need (fun vs H Q E h => ?_) (fun cdv A outer s H vs Q E hr h => ?_)
  · obtain ⟨m, rfl, _⟩ := h
    rfl
  · obtain ⟨m, rfl, q1, q2⟩ := h
    have lg : (200 : Int).natAbs.log2 < 1920 := by decide
    refine ⟨_, (pss_one (ps_if (PW.pt (pw_or (pt_cmpR op_lt (pv 0) pe_int (nomark _)) (pw_or1 (pt_cmpR op_gt (pv 0) (pe_gint T.g_MOST_NEED) (nomark _)))))
        (pss_one (ps_raise (C := C0) (E := E) rfl XU throws_fn (pa_cons (pe_fstr (pj_str (pj_int (pe_gint T.g_MOST_NEED) pj_nil))) pa_nil)))
        pss_nil)), ?_⟩
    refine ⟨_, rfl, _, _, rfl, rfl, _, rfl, ?_⟩
    refine ite2 (fun h => ?_) (fun h => ?_)
    · have h := of_decide_eq_true h
      refine iteT ?_
      exact ⟨_, rfl, lg, fun z => ⟨sz9, fun e he => q2 (by omega) C0 e XU.g he⟩⟩
    · have h : ¬ (m < 1) := fun c => h (decide_eq_true c)
      refine ⟨_, rfl, _, _, rfl, rfl, _, rfl, ?_⟩
      refine ite2 (fun h2 => ?_) (fun h2 => ?_)
      · have h2 := of_decide_eq_true h2
        exact ⟨_, rfl, lg, fun z => ⟨sz9, fun e he => q2 (by omega) C0 e XU.g he⟩⟩
      · have h2 : ¬ ((200 : Int) < m) := fun c => h2 (decide_eq_true c)
        exact q1 (by omega)
abbrev s_check_heats : Stmt := top 21
abbrev N_check_heats : List Str := ["needs", "heats", "need", "heat"]
abbrev P_check_heats : List Str := ["needs", "heats"]
theorem sc_check_heats : FnScope N_check_heats P_check_heats (defScope s_check_heats) := mk9
/-! check_heats -/
def sp_check_heatsX (K : W.Frag) (mg : Str → Option Value) : Sp := fun vs H Q E => ∃ (a b : Addr) (needs heats : List Int), vs = [.ref a, .ref b] ∧ SqL K H a (needs.map V.int) ∧ SqL K H b (heats.map V.int) ∧ needs.length ≤ 1000 ∧ ¬ HeatsOk needs heats ∧ Thr mg "BadHeat" E H
def sp_check_heats (K : W.Frag) : Sp := fun vs H Q _ => ∃ (a b : Addr) (needs heats : List Int), vs = [.ref a, .ref b] ∧ SqL K H a (needs.map V.int) ∧ SqL K H b (heats.map V.int) ∧ HeatsOk needs heats ∧ needs.length ≤ 1000 ∧ ∀ H', Same H H' → Q .non H'
theorem ok_check_heats (F : Fun K "check_heats" "check_heats" s_check_heats f fd) (T : Txt K mg) : FnOk P w K mg base CX0 1 f fd P_check_heats (sp_check_heats K) := by
  refine F.ok sc_check_heats (fun vs H Q E h => ?_) (fun cdv A outer s H vs Q E hr h => ?_)
  · obtain ⟨a, b, needs, heats, rfl, _⟩ := h
    rfl
  · obtain ⟨a, b, needs, heats, rfl, hA, hB, hO, hn, q⟩ := h
    refine ⟨_, (pss_cons (ps_if (pt_cmpR op_ne (pe_len T.n_len (pv 1)) (pe_len T.n_len (pv 0)) (nomark _))
        (pss_one ps_never)
        pss_nil)
      (pss_one (ps_for PassesOwn.never rfl (pi_zip (by rfl) T.n_zip (pa_cons (pv 0) (pa_cons (pv 1) pa_nil))) (pg_tup (n := 2) (by rfl) (pgs_cons (pg_name (i := 2) sc_check_heats.nd rfl (Or.inl rfl)) (pgs_cons (pg_name (i := 3) sc_check_heats.nd rfl (Or.inl rfl)) pgs_nil)))
        (pss_one (ps_if (PW.pt (pw_or (pt_cmpR op_lt (pv 3) pe_int (nomark _)) (pw_or1 (pt_cmpR op_gt (pv 3) (pv 2) (nomark _)))))
          (pss_one ps_never)
          pss_nil))))), ?_⟩
    refine ⟨_, rfl, b, _, rfl, .inl hB, _, rfl, a, _, rfl, .inl hA, rfl, _, rfl, ?_⟩
    refine iteNS (congrArg V.int (by rw [List.length_map, List.length_map, hO.len])) ?_
    refine ⟨_, rfl, _, rfl, a, b, rfl, ⟨_, hA⟩, ⟨_, hB⟩, ?_⟩
    refine for_zip (xs := needs.map V.int) (ys := heats.map V.int) (by rw [List.length_map, List.length_map, hO.len]) (fun i σ H3 => (∃ v w, σ = [some (.ref a), some (.ref b), v, w]) ∧ Same H H3) ?_ ?_ ?_ ?_
    · exact ⟨⟨none, none, rfl⟩, Same.refl _⟩
    · rintro i σ H3 _ ⟨_, s3⟩
      exact ⟨s3.seq hA, s3.seq hB⟩
    · rintro i x y t σ H3 hx hy ⟨⟨v, w, rfl⟩, s3⟩ ht
      obtain ⟨hi, rfl⟩ := getI_some hx
      obtain ⟨_, rfl⟩ := getI_some hy
      have h1 := hO.lo i hi
      have h2 := hO.hi i hi
      refine ⟨t, _, rfl, SqT.of upd_same, rfl, _, _, rfl, _, _, rfl, rfl, ?_⟩
      refine ⟨_, rfl, _, _, rfl, rfl, _, rfl, ?_⟩
      refine ite2 (fun h => absurd (of_decide_eq_true h) (by omega)) (fun _ => ?_)
      refine ⟨_, rfl, _, rfl, _, _, rfl, rfl, _, rfl, ?_⟩
      refine ite2 (fun h => absurd (of_decide_eq_true h) (by omega)) (fun _ => ?_)
      exact ⟨⟨_, _, rfl⟩, s3.trans (Same.upd ht)⟩
    · rintro σ H3 ⟨_, s3⟩
      exact q _ s3
theorem ok_check_heatsX (F : Fun K "check_heats" "check_heats" s_check_heats f fd) (T : Txt K mg) {C0 : Addr} (XU : Exc K mg "BadHeat" C0) : FnOk P w K mg base (CX1 P w) 1 f fd P_check_heats (sp_check_heatsX K mg) := by
  refine F.okX sc_check_heats (fun vs H Q E h => ?_) (fun cdv A outer s H vs Q E hr h => ?_)
  · obtain ⟨a, b, needs, heats, rfl, _⟩ := h
    rfl
  · obtain ⟨a, b, needs, heats, rfl, hA, hB, hn, hO, q⟩ := h
    refine ⟨_, (pss_cons (ps_if (pt_cmpR op_ne (pe_len T.n_len (pv 1)) (pe_len T.n_len (pv 0)) (nomark _))
        (pss_one (ps_raise (C := C0) (E := E) rfl XU throws_fn (pa_cons pe_str pa_nil)))
        pss_nil)
      (pss_one (ps_for PassesOwn.leaving rfl (pi_zip (by rfl) T.n_zip (pa_cons (pv 0) (pa_cons (pv 1) pa_nil))) (pg_tup (n := 2) (by rfl) (pgs_cons (pg_name (i := 2) sc_check_heats.nd rfl (Or.inl rfl)) (pgs_cons (pg_name (i := 3) sc_check_heats.nd rfl (Or.inl rfl)) pgs_nil)))
        (pss_one (ps_if (PW.pt (pw_or (pt_cmpR op_lt (pv 3) pe_int (nomark _)) (pw_or1 (pt_cmpR op_gt (pv 3) (pv 2) (nomark _)))))
          (pss_one (ps_raise (C := C0) (E := E) rfl XU throws_fn (pa_cons pe_str pa_nil)))
          pss_nil))))), ?_⟩
    refine ⟨_, rfl, b, _, rfl, .inl hB, _, rfl, a, _, rfl, .inl hA, rfl, _, rfl, ?_⟩
    refine ite2 (fun _ => ?_) (fun h => ?_)
    · exact ⟨sz9, fun e he => q C0 e H XU.g (Same.refl _) he⟩
    · have hl : heats.length = needs.length := by
        by_cases c : heats.length = needs.length
        · exact c
        · exfalso
          apply h
          have ne : ¬ (V.int ((heats.map V.int).length : Int) = V.int ((needs.map V.int).length : Int)) := fun z => c (by have z := V.int.inj z; rw [List.length_map, List.length_map] at z; omega)
          show (!decide (V.int ((heats.map V.int).length : Int) = V.int ((needs.map V.int).length : Int))) = true
          rw [decide_eq_false ne]; rfl
      refine ⟨_, rfl, _, rfl, a, b, rfl, ⟨_, hA⟩, ⟨_, hB⟩, ?_⟩
      refine for_zip (xs := needs.map V.int) (ys := heats.map V.int) (by rw [List.length_map, List.length_map, hl]) (fun i σ H3 => (∃ v w, σ = [some (.ref a), some (.ref b), v, w]) ∧ Same H H3 ∧ ∀ j, j < i → 0 ≤ heats.getD j 0 ∧ heats.getD j 0 ≤ needs.getD j 0) ?_ ?_ ?_ ?_
      · exact ⟨⟨none, none, rfl⟩, Same.refl _, fun j hj => by omega⟩
      · rintro i σ H3 _ ⟨_, s3, _⟩
        exact ⟨s3.seq hA, s3.seq hB⟩
      · rintro i x y t σ H3 hx hy ⟨⟨v, w, rfl⟩, s3, hg⟩ ht
        obtain ⟨hi, rfl⟩ := getI_some hx
        obtain ⟨_, rfl⟩ := getI_some hy
        have s4 := s3.trans (Same.upd (o := .tup [V.int (needs.getD i 0), V.int (heats.getD i 0)]) ht)
        refine ⟨t, _, rfl, SqT.of upd_same, rfl, _, _, rfl, _, _, rfl, rfl, ?_⟩
        refine ⟨_, rfl, _, _, rfl, rfl, _, rfl, ?_⟩
        refine ite2 (fun h => ?_) (fun h1 => ?_)
        · refine iteT ?_
          exact ⟨sz9, fun e he => q C0 e _ XU.g s4 he⟩
        · have h1 : ¬ (heats.getD i 0 < 0) := fun c => h1 (decide_eq_true c)
          refine ⟨_, rfl, _, rfl, _, _, rfl, rfl, _, rfl, ?_⟩
          refine ite2 (fun h => ?_) (fun h2 => ?_)
          · exact ⟨sz9, fun e he => q C0 e _ XU.g s4 he⟩
          · have h2 : ¬ (needs.getD i 0 < heats.getD i 0) := fun c => h2 (decide_eq_true c)
            refine ⟨⟨_, _, rfl⟩, s4, fun j hj => ?_⟩
            by_cases e : j = i
            · subst e; omega
            · exact hg j (by omega)
      · rintro σ H3 ⟨_, _, hg⟩
        rw [List.length_map] at hg
        exact absurd ⟨hl, fun i hi => (hg i hi).1, fun i hi => (hg i hi).2⟩ hO
abbrev s_stage_of : Stmt := top 23
abbrev N_stage_of : List Str := ["needs", "heats", "found", "taken"]
abbrev P_stage_of : List Str := ["needs", "heats", "found", "taken"]
theorem sc_stage_of : FnScope N_stage_of P_stage_of (defScope s_stage_of) := mk9
/-! stage_of -/
def sp_stage_of : Sp := fun vs H Q _ => ∃ (a b : Addr) (x y : Int), vs = [.ref a, .ref b, .int x, .int y] ∧ ∀ (H' : Hp) (d : Addr), Same H H' → H d = none → H' d = some (.dK (stageK a b x y)) → Q (.ref d) H'
theorem ok_stage_of (F : Fun K "stage_of" "stage_of" s_stage_of f fd) (T : Txt K mg) : FnOk P w K mg base CX0 1 f fd P_stage_of sp_stage_of := by
  refine F.ok sc_stage_of (fun vs H Q E h => ?_) (fun cdv A outer s H vs Q E hr h => ?_)
  · obtain ⟨a, b, x, y, rfl, _⟩ := h
    rfl
  · obtain ⟨a, b, x, y, rfl, q⟩ := h
    refine ⟨_, (pss_one (ps_ret (pe_disp (pps_cons pe_str (pv 0) (pps_cons pe_str (pv 1) (pps_cons pe_str (pv 2) (pps_cons pe_str (pv 3) pps_nil)))) (by rfl) (by rfl) (by simp) (by decide)))), ?_⟩
    intro d hd
    refine ⟨_, rfl, _, rfl, _, rfl, _, rfl, upd_same, stageK a b x y, rfl, by show 4 ≤ 15; decide, ?_⟩
    rw [upd_upd, merge_stage]
    exact q _ d (Same.upd hd) hd upd_same
abbrev s_G___init__ : Stmt := inClass (top 24) 0
abbrev N_G___init__ : List Str := ["self", "needs", "heats", "need", "begun"]
abbrev P_G___init__ : List Str := ["self", "needs", "heats"]
theorem sc_G___init__ : FnScope N_G___init__ P_G___init__ (defScope s_G___init__) := mk9
/-! Ground.__init__ -/
def sp_G_initX (K : W.Frag) (mg : Str → Option Value) : Sp := fun vs H Q E => ∃ (p a : Addr) (needs begun : List Int) (hv : V), vs = [.ref p, .ref a, hv] ∧ SqL K H a (needs.map V.int) ∧ needs.length ≤ 1000 ∧ ((hv = .non ∧ begun = List.replicate needs.length 0) ∨ ∃ b, hv = .ref b ∧ SqL K H b (begun.map V.int)) ∧
  ((¬ (1 ≤ needs.length ∧ needs.length ≤ 30) ∧ Thr mg "BadBeds" E H) ∨ ((1 ≤ needs.length ∧ needs.length ≤ 30) ∧ (∃ i, i < needs.length ∧ ¬ (1 ≤ needs.getD i 0 ∧ needs.getD i 0 ≤ 200)) ∧ Thr mg "BadNeed" E H) ∨ ((1 ≤ needs.length ∧ needs.length ≤ 30) ∧ (∀ i, i < needs.length → 1 ≤ needs.getD i 0 ∧ needs.getD i 0 ≤ 200) ∧ ¬ HeatsOk needs begun ∧ Thr mg "BadHeat" E H))
def sp_G_init (K : W.Frag) (G : Addr) : Sp := fun vs H Q _ => ∃ (p a dx : Addr) (needs begun : List Int) (hv : V), vs = [.ref p, .ref a, hv] ∧ H p = some (.ins G dx []) ∧ SqL K H a (needs.map V.int) ∧ 1 ≤ needs.length ∧ needs.length ≤ 30 ∧ (∀ i, i < needs.length → 1 ≤ needs.getD i 0 ∧ needs.getD i 0 ≤ 200) ∧
  ((hv = .non ∧ begun = List.replicate needs.length 0) ∨ ∃ b, hv = .ref b ∧ SqL K H b (begun.map V.int)) ∧ HeatsOk needs begun ∧ ∀ H', (∀ b o, H b = some o → b ≠ p → H' b = some o) → GroundSep G (fun b => H b = none) H' p [] [⟨needs, begun, 0, 0⟩] → Q .non H'
theorem init_of {G : Addr} {H : Hp} {c1 c2 : Addr} {needs heats : List Int} {R : Addr → Hp → Prop} {E : XK} (h1 : H c1 = some (.lst (needs.map V.int))) (h2 : H c2 = some (.lst (heats.map V.int))) (B : Beds needs heats) (h30 : needs.length ≤ 30)
    (q : ∀ (H' : Hp) (x pk ps : Addr), Same H H' → H pk = none → H ps = none → GroundX G (fun b => H b = none) H' x pk ps [] [⟨needs, heats, 0, 0⟩] → R x H') : ∀ x dx, H x = none → H dx = none → dx ≠ x → sp_G_init K G [.ref x, .ref c1, .ref c2] (upd (upd H dx (.own x)) x (.ins G dx [])) (fun v H2 => v = .non ∧ R x H2) E := by
  have hB1 := B.len
  have hB3 := B.lo
  intro x dx fx fdx nex
  have hA0 : ∀ {c : Addr} {ys : List Int}, H c = some (.lst (ys.map V.int)) → SqL K (upd (upd H dx (.own x)) x (.ins G dx [])) c (ys.map V.int) := fun {c ys} e => SqL.of (by rw [upd_ne (ne_of_none e fx), upd_ne (ne_of_none e fdx)]; exact e)
  refine ⟨x, c1, dx, needs, heats, .ref c2, rfl, upd_same, hA0 h1, hB3, h30, B.need, .inr ⟨c2, rfl, hA0 h2⟩, B.ok, fun H3 k3 S3 => ⟨rfl, ?_⟩⟩
  obtain ⟨s3, S3'⟩ : Same H H3 ∧ GroundSep G (fun b => H b = none) H3 x [] [⟨needs, heats, 0, 0⟩] := by
    refine ⟨fun b o e => k3 b o (by rw [upd_ne (ne_of_none e fx), upd_ne (ne_of_none e fdx)]; exact e) (ne_of_none e fx), S3.keep (fun b o _ e => e) (fun o e => e) fun b e => ?_⟩
    cases z : H b with
    | none => rfl
    | some o =>
      have e : (upd (upd H dx (.own x)) x (.ins G dx [])) b = none := e
      rw [upd_ne (ne_of_none z fx), upd_ne (ne_of_none z fdx), z] at e
      cases e
  obtain ⟨pk, ps, fk, fs, X3⟩ := S3'.x (by intro e; rw [e] at hB3; simp at hB3) (by intro e; rw [e] at hB1; simp at hB1; omega)
  exact q H3 x pk ps s3 fk fs X3
theorem ok_G___init__ (F : FunD K "__init__" "Ground.__init__" s_G___init__ f fd) (T : Txt K mg) (TG : GCls K mg G) (o_check_beds : Ok P w K mg base "check_beds" P_check_beds 1 (sp_check_beds K)) (o_check_need : Ok P w K mg base "check_need" P_check_need 1 sp_check_need) (o_check_heats : Ok P w K mg base "check_heats" P_check_heats 1 (sp_check_heats K)) (o_stage_of : Ok P w K mg base "stage_of" P_stage_of 1 sp_stage_of) : FnOk P w K mg base CX0 2 f fd P_G___init__ (sp_G_init K G) := by
  refine F.ok sc_G___init__ (fun vs H Q E h => ?_) (fun cdv A outer s H vs Q E hr h => ?_)
  · obtain ⟨p, a, dx, needs, begun, hv, rfl, _⟩ := h
    rfl
  · obtain ⟨p, a, dx, needs, begun, hv, rfl, hp, hA, h1, h30, hx, hb, hO, q⟩ := h
    refine ⟨_, (pss_cons (ps_expr (pe_callO o_check_beds hr (pa_cons (pv 1) pa_nil)))
      (pss_cons (ps_for PassesOwn.never rfl (pi_list (pv 1)) (pg_name (i := 3) sc_G___init__.nd rfl (Or.inl rfl))
        (pss_one (ps_expr (pe_callO o_check_need hr (pa_cons (pv 3) pa_nil)))))
      (pss_cons (ps_set (i := 4) sc_G___init__.nd rfl (Or.inl rfl) (pe_ifExp (pt_cmp (pc_isN (pv 2))) (pe_op op_rep (pe_lst (pa_cons pe_int pa_nil)) (pe_len T.n_len (pv 1))) (pe_list T.n_list (pv 2))))
      (pss_cons (ps_expr (pe_callO o_check_heats hr (pa_cons (pv 1) (pa_cons (pv 4) pa_nil))))
      (pss_cons (ps_fld (pv 0) (pe_lst pa_nil) rfl)
      (pss_one (ps_fld (pv 0) (pe_lst (pa_cons (pe_callO o_stage_of hr (pa_cons (pe_list T.n_list (pv 1)) (pa_cons (pv 4) (pa_cons pe_int (pa_cons pe_int pa_nil))))) pa_nil)) rfl))))))), ?_⟩
    refine ⟨_, rfl, a, needs, rfl, hA, h1, h30, ?_⟩
    refine ⟨_, rfl, a, rfl, ⟨_, hA⟩, ?_⟩
    refine for_list (xs := needs.map V.int) (fun i σ H2 => (∃ v, σ = [some (.ref p), some (.ref a), some hv, v, none]) ∧ H2 = H) ⟨⟨none, rfl⟩, rfl⟩ (fun i σ H2 _ z => by rw [z.2]; exact hA) ?_ ?_
    · rintro i x σ H2 hx2 ⟨⟨v, rfl⟩, rfl⟩
      obtain ⟨hi, rfl⟩ := getI_some hx2
      exact ⟨_, rfl, _, rfl, (hx i hi).1, (hx i hi).2, ⟨_, rfl⟩, rfl⟩
    rintro σ0 H0 ⟨⟨v, rfl⟩, rfl⟩
    dsimp only
    refine seq_cut (fun σ H3 => ∃ pb, σ = [some (.ref p), some (.ref a), some hv, v, some (.ref pb)] ∧ Same H0 H3 ∧ H0 pb = none ∧ H3 pb = some (.lst (begun.map V.int))) ?_ ?_
    · intro nx hnx
      rcases hb with ⟨rfl, rfl⟩ | ⟨b, rfl, hB⟩
      · refine ⟨_, rfl, _, rfl, ?_⟩
        refine iteT ?_
        refine ⟨sz9, fun l0 f0 => ⟨_, rfl, a, _, rfl, .inl ((Same.upd f0).seq hA), l0, _, _, rfl, rfl, upd_same, ?_, ?_, ?_, fun pb fb => ?_⟩⟩
        · omega
        · rw [List.length_map]; omega
        · refine sz1000' ?_
          rw [List.length_map]
          show 1 * _ ≤ _
          omega
        · refine hnx _ _ ⟨pb, rfl, (Same.upd f0).trans (Same.upd fb), (Same.upd f0).free fb, upd_same.trans ?_⟩
          refine congrArg (fun z => some (HO.lst z)) ?_
          rw [List.length_map, show ((needs.length : Int)).toNat = needs.length by omega]
          simp
      · refine ⟨_, rfl, _, rfl, ?_⟩
        refine iteF ?_
        exact ⟨_, rfl, b, _, rfl, .inl hB, fun pb fb => hnx _ _ ⟨pb, rfl, Same.upd fb, fb, upd_same⟩⟩
    · rintro σ1 H3 ⟨pb, rfl, s3, fpb, h3b⟩
      refine ⟨_, rfl, _, rfl, a, pb, needs, begun, rfl, s3.seq hA, SqL.of h3b, hO, by omega, fun H4 s4 => ?_⟩
      have s04 := s3.trans s4
      have h4b := s4 _ _ h3b
      have h4p := s04 _ _ hp
      refine ⟨sz9, fun pk fk => ?_⟩
      have npk : p ≠ pk := ne_of_none h4p fk
      refine ⟨_, rfl, p, G, dx, [], rfl, (by rw [upd_ne npk]; exact h4p), TG.cl, TG.nK, (by show 0 < 1000; decide), ?_⟩
      have h5p : (upd (upd H4 pk (.lst [])) p (.ins G dx (putF "kept" (.ref pk) []))) p = some (.ins G dx (putF "kept" (.ref pk) [])) := upd_same
      have h5k : (upd (upd H4 pk (.lst [])) p (.ins G dx (putF "kept" (.ref pk) []))) pk = some (.lst []) := (upd_ne (Ne.symm npk)).trans upd_same
      have h5b : (upd (upd H4 pk (.lst [])) p (.ins G dx (putF "kept" (.ref pk) []))) pb = some (.lst (begun.map V.int)) := (upd_ne (ne_of h4b h4p (by intro z; cases z))).trans (Same.upd fk _ _ h4b)
      have hA5 : SqL K (upd (upd H4 pk (.lst [])) p (.ins G dx (putF "kept" (.ref pk) []))) a (needs.map V.int) := sqL_set ((Same.upd fk).seq (s04.seq hA)) (Same.upd fk _ _ h4p)
      have k5 : ∀ b o, H0 b = some o → b ≠ p → (upd (upd H4 pk (.lst [])) p (.ins G dx (putF "kept" (.ref pk) []))) b = some o := fun b o e n => by rw [upd_ne n]; exact Same.upd fk _ _ (s04 _ _ e)
      generalize upd (upd H4 pk (.lst [])) p (.ins G dx (putF "kept" (.ref pk) [])) = H5 at h5p h5k h5b hA5 k5 ⊢
      refine ⟨_, rfl, a, _, rfl, .inl hA5, fun la fla => ⟨_, rfl, la, pb, 0, 0, rfl, fun H6 d s6 fd6 hd6 => ⟨sz9, fun pst fst => ?_⟩⟩⟩
      have s56 := (Same.upd (o := .lst (needs.map V.int)) fla).trans s6
      have h6p := s56 _ _ h5p
      have npst : p ≠ pst := ne_of_none h6p fst
      refine ⟨_, rfl, p, G, dx, _, rfl, (by rw [upd_ne npst]; exact h6p), TG.cl, TG.nS, (by show 1 < 1000; decide), ?_⟩
      have kk : ∀ {b : Addr} {o : HO}, b ≠ p → H6 b = some o → (upd (upd H6 pst (.lst [.ref d])) p (.ins G dx (putF "stages" (.ref pst) (putF "kept" (.ref pk) [])))) b = some o := fun {b o} n e => by rw [upd_ne n]; exact Same.upd fst _ _ e
      have hla : H6 la = some (.lst (needs.map V.int)) := s6 _ _ upd_same
      have old5 : ∀ {b : Addr}, b ≠ p → H5 b = none → H0 b = none := fun {b} n e => by
        cases z : H0 b with
        | none => rfl
        | some o => rw [k5 b o z n] at e; cases e
      have fps : H0 pst = none := old5 (Ne.symm npst) (s56.free fst)
      have fd0 : H0 d = none := old5 (ne_of hd6 h6p (by intro z; cases z)) ((Same.upd (o := .lst (needs.map V.int)) fla).free fd6)
      have fla0 : H0 la = none := old5 (ne_of hla h6p (by intro z; cases z)) fla
      refine q _ (fun b o e n => kk n (s56 _ _ (k5 b o e n))) ⟨⟨dx, pk, pst, [d], ?_, s04.free fk, kk (Ne.symm npk) (s56 _ _ h5k), fps, ?_, rfl, fun i S e => ?_⟩⟩
      · rw [upd_same, gF_put]
      · exact (upd_ne (Ne.symm npst)).trans upd_same
      · match i, e with
        | 0, e =>
          cases e
          exact ⟨d, la, pb, rfl, fd0, fla0, fpb, kk (ne_of hd6 h6p (by intro z; cases z)) hd6, kk (ne_of hla h6p (by intro z; cases z)) hla, kk (ne_of (s56 _ _ h5b) h6p (by intro z; cases z)) (s56 _ _ h5b)⟩
        | k + 1, e => cases e
theorem ok_G___init__X (F : FunD K "__init__" "Ground.__init__" s_G___init__ f fd) (T : Txt K mg) (TG : GCls K mg G) (o_check_bedsX : OkX P w K mg base "check_beds" P_check_beds 1 (sp_check_bedsX K mg)) (o_check_needX : OkX P w K mg base "check_need" P_check_need 1 (sp_check_needX mg)) (o_check_heatsX : OkX P w K mg base "check_heats" P_check_heats 1 (sp_check_heatsX K mg)) (o_stage_of : Ok P w K mg base "stage_of" P_stage_of 1 sp_stage_of) : FnOk P w K mg base (CX1 P w) 2 f fd P_G___init__ (sp_G_initX K mg) := by
  refine F.okX sc_G___init__ (fun vs H Q E h => ?_) (fun cdv A outer s H vs Q E hr h => ?_)
  · obtain ⟨p, a, needs, begun, hv, rfl, _⟩ := h
    rfl
  · obtain ⟨p, a, needs, begun, hv, rfl, hA, hn, hb, q⟩ := h
    refine ⟨_, (pss_cons (ps_expr (pe_callX o_check_bedsX hr (pass_fn (E := E)) (pa_cons (pv 1) pa_nil)))
      (pss_cons (ps_for PassesOwn.leaving rfl (pi_list (pv 1)) (pg_name (i := 3) sc_G___init__.nd rfl (Or.inl rfl))
        (pss_one (ps_expr (pe_callX o_check_needX hr (pass_fn (E := E)) (pa_cons (pv 3) pa_nil)))))
      (pss_cons (ps_set (i := 4) sc_G___init__.nd rfl (Or.inl rfl) (pe_ifExp (pt_cmp (pc_isN (pv 2))) (pe_op op_rep (pe_lst (pa_cons pe_int pa_nil)) (pe_len T.n_len (pv 1))) (pe_list T.n_list (pv 2))))
      (pss_cons (ps_expr (pe_callX o_check_heatsX hr (pass_fn (E := E)) (pa_cons (pv 1) (pa_cons (pv 4) pa_nil))))
      (pss_cons (ps_fld (pv 0) (pe_lst pa_nil) rfl)
      (pss_one (ps_fld (pv 0) (pe_lst (pa_cons (pe_callO o_stage_of hr (pa_cons (pe_list T.n_list (pv 1)) (pa_cons (pv 4) (pa_cons pe_int (pa_cons pe_int pa_nil))))) pa_nil)) rfl))))))), ?_⟩
    refine ⟨_, rfl, a, needs, rfl, hA, fun hl => ?_, fun hl => ?_⟩
    · refine ⟨_, rfl, a, rfl, ⟨_, hA⟩, ?_⟩
      refine for_list (xs := needs.map V.int) (fun i σ H2 => (∃ v, σ = [some (.ref p), some (.ref a), some hv, v, none]) ∧ H2 = H ∧ ∀ j, j < i → 1 ≤ needs.getD j 0 ∧ needs.getD j 0 ≤ 200) ⟨⟨none, rfl⟩, rfl, fun j hj => by omega⟩ (fun i σ H2 _ z => by rw [z.2.1]; exact hA) ?_ ?_
      · rintro i x σ H2 hx2 ⟨⟨v, rfl⟩, rfl, hg⟩
        obtain ⟨hi, rfl⟩ := getI_some hx2
        refine ⟨_, rfl, _, rfl, fun good => ⟨⟨_, rfl⟩, rfl, fun j hj => ?_⟩, fun bad C x hm hx => ?_⟩
        · by_cases e : j = i
          · subst e; exact good
          · exact hg j (by omega)
        · rcases q with ⟨q, _⟩ | ⟨_, _, q⟩ | ⟨_, q, _⟩
          · exact absurd hl q
          · exact q C x _ hm (Same.refl _) hx
          · exact absurd (q i hi) bad
      rintro σ0 H0 ⟨⟨v, rfl⟩, rfl, hg⟩
      rw [List.length_map] at hg
      obtain ⟨hO, qt⟩ : ¬ HeatsOk needs begun ∧ Thr mg "BadHeat" E H0 := by
        rcases q with ⟨q, _⟩ | ⟨_, ⟨i, hi, q⟩, _⟩ | ⟨_, _, q1, q2⟩
        · exact absurd hl q
        · exact absurd (hg i hi) q
        · exact ⟨q1, q2⟩
      try dsimp only
      refine seq_cut (fun σ H3 => ∃ pb, σ = [some (.ref p), some (.ref a), some hv, v, some (.ref pb)] ∧ Same H0 H3 ∧ H0 pb = none ∧ H3 pb = some (.lst (begun.map V.int))) ?_ ?_
      · intro nx hnx
        rcases hb with ⟨rfl, rfl⟩ | ⟨b, rfl, hB⟩
        · have z : ∀ i, (List.replicate needs.length (0 : Int)).getD i 0 = 0 := fun i => by rw [List.getD_eq_getElem?_getD, List.getElem?_replicate]; split <;> rfl
          exact absurd ⟨by rw [List.length_replicate], fun i hi => by rw [z]; exact Int.le_refl 0, fun i hi => by have := hg i hi; rw [z]; omega⟩ hO
        · refine ⟨_, rfl, _, rfl, ?_⟩
          refine iteF ?_
          exact ⟨_, rfl, b, _, rfl, .inl hB, fun pb fb => hnx _ _ ⟨pb, rfl, Same.upd fb, fb, upd_same⟩⟩
      · rintro σ1 H3 ⟨pb, rfl, s3, fpb, h3b⟩
        exact ⟨_, rfl, _, rfl, a, pb, needs, begun, rfl, s3.seq hA, SqL.of h3b, hn, hO, qt.same s3⟩
    · rcases q with ⟨_, q⟩ | ⟨q, _⟩ | ⟨q, _⟩
      · exact q
      · exact absurd q hl
      · exact absurd q hl
abbrev s_G_last_stage : Stmt := inClass (top 24) 1
abbrev N_G_last_stage : List Str := ["self"]
abbrev P_G_last_stage : List Str := ["self"]
theorem sc_G_last_stage : FnScope N_G_last_stage P_G_last_stage (defScope s_G_last_stage) := mk9
/-! Ground.last_stage -/
def sp_G_last_stage (G : Addr) : Sp := fun vs H Q _ => ∃ (p : Addr) (kept : List V) (Ss : List Stage) (S : Stage) (ok : Addr → Prop), vs = [.ref p] ∧ GroundY G ok H p kept Ss ∧ Ss.getLast? = some S ∧ ∀ d a b, ok a → ok b → H d = some (.dK (stageK a b S.found S.taken)) → H a = some (.lst (S.needs.map V.int)) → H b = some (.lst (S.heats.map V.int)) → Q (.ref d) H
theorem ok_G_last_stage (F : Fun K "last_stage" "Ground.last_stage" s_G_last_stage f fd) (T : Txt K mg) (TG : GCls K mg G) : FnOk P w K mg base CX0 1 f fd P_G_last_stage (sp_G_last_stage G) := by
  refine F.ok sc_G_last_stage (fun vs H Q E h => ?_) (fun cdv A outer s H vs Q E hr h => ?_)
  · obtain ⟨p, kept, Ss, S, ok, rfl, _⟩ := h
    rfl
  · obtain ⟨p, kept, Ss, S, ok, rfl, hG, hl, q⟩ := h
    refine ⟨_, (pss_one (ps_ret (pe_ix ix_list (pe_fld (pv 0) rfl) (pe_un un_neg pe_int) (fun _ _ => rfl)))), ?_⟩
    obtain ⟨dx, pk, ps, ds, h1, h2, h3, h4, h5⟩ := hG.ex
    have hn : 0 < Ss.length := by
      cases Ss with
      | nil => cases hl
      | cons a b => simp
    obtain ⟨d, a, b, e1, oa, ob, e2, e3, e4⟩ := h5 (Ss.length - 1) S (by rw [← List.getLast?_eq_getElem?]; exact hl)
    refine ⟨_, rfl, p, G, dx, _, _, rfl, h1, TG.cl, TG.nS, gF_stages _ _, _, rfl, ps, _, _, _, rfl, rfl, SqL.of h3, ?_, q d a b oa ob e2 e3 e4⟩
    have el : (ds.map V.ref).length = Ss.length := by rw [List.length_map, h4]
    unfold atI ixN
    rw [if_neg (by decide), if_pos (by omega)]
    show (ds.map V.ref)[((-1 : Int) + ((ds.map V.ref).length : Int)).toNat]? = _
    rw [show ((-1 : Int) + ((ds.map V.ref).length : Int)).toNat = Ss.length - 1 by omega, List.getElem?_map, e1]
    rfl
abbrev s_G_heats : Stmt := inClass (top 24) 13
abbrev N_G_heats : List Str := ["self"]
abbrev P_G_heats : List Str := ["self"]
theorem sc_G_heats : FnScope N_G_heats P_G_heats (defScope s_G_heats) := mk9
/-! Ground.heats -/
def sp_G_heats (G : Addr) : Sp := fun vs H Q _ => ∃ (p : Addr) (kept : List V) (Ss : List Stage) (S : Stage), vs = [.ref p] ∧ GroundAt G H p kept Ss ∧ Ss.getLast? = some S ∧ ∀ (H' : Hp) (l : Addr), Same H H' → H l = none → H' l = some (.lst (S.heats.map V.int)) → Q (.ref l) H'
theorem ok_G_heats (F : Fun K "heats" "Ground.heats" s_G_heats f fd) (T : Txt K mg) (TG : GCls K mg G) (om_last_stage : OkM P w K mg base G "last_stage" P_G_last_stage 1 (sp_G_last_stage G)) : FnOk P w K mg base CX0 2 f fd P_G_heats (sp_G_heats G) := by
  refine F.ok sc_G_heats (fun vs H Q E h => ?_) (fun cdv A outer s H vs Q E hr h => ?_)
  · obtain ⟨p, kept, Ss, S, rfl, _⟩ := h
    rfl
  · obtain ⟨p, kept, Ss, S, rfl, hG, hl, q⟩ := h
    refine ⟨_, (pss_one (ps_ret (pe_list T.n_list (pe_dget (hu_of hr) (pe_meth0O om_last_stage TG.cl hr (pv 0)) pe_str (fun _ _ => rfl))))), ?_⟩
    obtain ⟨dx, pk, ps, ds, h1, h2, h3, h4, h5⟩ := hG.ex
    refine ⟨_, rfl, p, dx, _, rfl, h1, gN, p, kept, Ss, S, fun _ => True, rfl, hG.y, hl, fun d a b _ _ e1 e2 e3 => ?_⟩
    refine ⟨d, _, rfl, (by have z := DGet.k (k := Sum.inr "heats") e1; rw [stage_heats] at z; exact z), b, _, rfl, .inl (SqL.of e3), fun l hl' => q _ l (Same.upd hl') hl' upd_same⟩
abbrev s_at : Stmt := top 26
abbrev N_at : List Str := ["_law_script", "_law_k"]
abbrev P_at : List Str := ["_law_script", "_law_k"]
theorem sc_at : FnScope N_at P_at (defScope s_at) := mk9
/-! _law_at -/
def sp_at (K : W.Frag) : Sp := fun vs H Q _ => ∃ (a : Addr) (ns : List Int) (k : Nat), vs = [.ref a, .int k] ∧ SqL K H a (ns.map V.int) ∧ Q (.int (ns.getD k 0)) H
theorem ok_at (F : Fun K "_law_at" "_law_at" s_at f fd) (T : Txt K mg) : FnOk P w K mg base CX0 1 f fd P_at (sp_at K) := by
  refine F.ok sc_at (fun vs H Q E h => ?_) (fun cdv A outer s H vs Q E hr h => ?_)
  · obtain ⟨a, ns, k, rfl, _⟩ := h
    rfl
  · obtain ⟨a, ns, k, rfl, hS, q⟩ := h
    refine ⟨_, (pss_cons (ps_if (pt_cmpR op_lt (pv 1) (pe_len T.n_len (pv 0)) (nomark _))
        (pss_one (ps_ret (pe_ix ix_list (pv 0) (pv 1) (fun _ _ => rfl))))
        pss_nil)
      (pss_one (ps_ret pe_int))), ?_⟩
    refine ⟨_, rfl, _, rfl, a, _, rfl, .inl hS, _, _, rfl, rfl, _, rfl, ?_⟩
    refine ite2 (fun hc => ?_) (fun hc => ?_)
    · have hc : (k : Int) < ((ns.map V.int).length : Int) := by simpa using hc
      rw [List.length_map] at hc
      exact ⟨_, rfl, _, rfl, a, _, _, _, rfl, rfl, hS, atI_int (by omega), q⟩
    · have hc : ¬ (k : Int) < ((ns.map V.int).length : Int) := by simpa using hc
      rw [List.length_map] at hc
      have e : ns.getD k 0 = 0 := by rw [List.getD_eq_getElem?_getD, List.getElem?_eq_none (by omega)]; rfl
      rw [e] at q
      exact q
abbrev s_whole : Stmt := top 27
abbrev N_whole : List Str := ["_law_found"]
abbrev P_whole : List Str := ["_law_found"]
theorem sc_whole : FnScope N_whole P_whole (defScope s_whole) := mk9
/-! _law_whole -/
def sp_whole : Sp := fun vs H Q _ => ∃ (i : Int), vs = [.int i] ∧ Q (.bl true) H
theorem ok_whole (F : Fun K "_law_whole" "_law_whole" s_whole f fd) (T : Txt K mg) : FnOk P w K mg base CX0 1 f fd P_whole sp_whole := by
  refine F.ok sc_whole (fun vs H Q E h => ?_) (fun cdv A outer s H vs Q E hr h => ?_)
  · obtain ⟨i, rfl, _⟩ := h
    rfl
  · obtain ⟨i, rfl, q⟩ := h
    refine ⟨_, (pss_one (ps_ret (pe_and (pe_isinst T.n_isinstance (pv 0) (pe_ty T.n_int)) (pe_one (pe_not (pe_isinst T.n_isinstance (pv 0) (pe_ty T.n_bool))))))), ?_⟩
    refine ⟨_, rfl, _, _, _, true, rfl, .int i, .inl ⟨_, rfl, kit_ii _⟩, _, rfl, ?_⟩
    refine iteT ?_
    exact ⟨_, rfl, _, _, _, false, rfl, .int i, .inl ⟨_, rfl, kit_ib _⟩, _, rfl, q⟩
abbrev s_numbers : Stmt := top 28
abbrev N_numbers : List Str := ["_law_found", "_law_due", "_law_k"]
abbrev P_numbers : List Str := ["_law_found", "_law_due"]
theorem sc_numbers : FnScope N_numbers P_numbers (defScope s_numbers) := mk9
/-! _law_numbers -/
def sp_numbers (K : W.Frag) : Sp := fun vs H Q _ => ∃ (a b : Addr) (ns : List Int), vs = [.ref a, .ref b] ∧ H a = some (.lst (ns.map V.int)) ∧ SqL K H b (ns.map V.int) ∧ ns.length ≤ 100000 ∧ Q (.bl true) H
theorem ok_numbers (F : Fun K "_law_numbers" "_law_numbers" s_numbers f fd) (T : Txt K mg) (o_whole : Ok P w K mg base "_law_whole" P_whole 1 sp_whole) : FnOk P w K mg base CX0 2 f fd P_numbers (sp_numbers K) := by
  refine F.ok sc_numbers (fun vs H Q E h => ?_) (fun cdv A outer s H vs Q E hr h => ?_)
  · obtain ⟨a, b, ns, rfl, _⟩ := h
    rfl
  · obtain ⟨a, b, ns, rfl, hA, hB, hn, q⟩ := h
    refine ⟨_, (pss_cons (ps_if (PW.pt (pw_or (pt_not (pt_val (pe_isinst T.n_isinstance (pv 0) (pe_ty T.n_list)))) (pw_or1 (pt_cmpR op_ne (pe_len T.n_len (pv 0)) (pe_len T.n_len (pv 1)) (nomark _)))))
        (pss_one (ps_ret pe_bl))
        pss_nil)
      (pss_cons (ps_for PassesOwn.never rfl (pi_range1 (by rfl) T.n_range (pa_cons (pe_len T.n_len (pv 1)) pa_nil)) (pg_name (i := 2) sc_numbers.nd rfl (Or.inl rfl))
        (pss_one (ps_if (PW.pt (pw_or (pt_not (pt_val (pe_callO o_whole hr (pa_cons (pe_ix ix_list (pv 0) (pv 2) (fun _ _ => rfl)) pa_nil)))) (pw_or1 (pt_cmpR op_ne (pe_ix ix_list (pv 0) (pv 2) (fun _ _ => rfl)) (pe_ix ix_list (pv 1) (pv 2) (fun _ _ => rfl)) (nomark _)))))
          (pss_one (ps_ret pe_bl))
          pss_nil)))
      (pss_one (ps_ret pe_bl)))), ?_⟩
    refine ⟨_, rfl, _, _, _, true, rfl, .lst hA, .inl ⟨_, rfl, kit_ll _⟩, _, rfl, ?_⟩
    refine iteF ?_
    refine ⟨_, rfl, a, _, rfl, .inl (SqL.of hA), _, rfl, b, _, rfl, .inl hB, rfl, _, rfl, ?_⟩
    refine iteNS rfl ?_
    refine ⟨_, rfl, b, _, rfl, .inl hB, _, rfl, by omega, by rw [List.length_map]; omega, ?_⟩
    refine for_range (n := ((ns.map V.int).length : Int).toNat) (fun i σ H2 => (∃ v, σ = [some (.ref a), some (.ref b), v]) ∧ H2 = H) ⟨⟨none, rfl⟩, rfl⟩ ?_ ?_
    · rintro i σ H2 hi ⟨⟨v, rfl⟩, rfl⟩
      rw [List.length_map] at hi
      have hi' : i < ns.length := by omega
      have e0 : (0 : Int) + (i : Int) = (i : Int) := by omega
      rw [e0]
      refine ⟨_, rfl, _, rfl, a, _, _, _, rfl, rfl, SqL.of hA, atI_int hi', ⟨_, rfl, _, rfl, ?_⟩⟩
      refine iteF ?_
      refine ⟨_, rfl, _, rfl, a, _, _, _, rfl, rfl, SqL.of hA, atI_int hi', _, rfl, _, rfl, b, _, _, _, rfl, rfl, hB, atI_int hi', rfl, _, rfl, ?_⟩
      refine iteNS rfl ?_
      exact ⟨⟨_, rfl⟩, rfl⟩
    · rintro σ H2 ⟨_, rfl⟩
      exact q
abbrev s_row : Stmt := top 29
abbrev N_row : List Str := ["_law_cell", "_law_many", "_law_base", "_law_row_here", "_law_rest", "_law_k", "_law_one"]
abbrev P_row : List Str := ["_law_cell", "_law_many", "_law_base"]
theorem sc_row : FnScope N_row P_row (defScope s_row) := mk9
/-! _law_row -/
def sp_row : Sp := fun vs H Q _ => ∃ (cell base : Int) (many : Nat), vs = [.int cell, .int many, .int base] ∧ many ≤ 1000 ∧ 0 < base ∧ base < 1073741824 ∧
  ∀ (p : Addr) (fs : List Int), H p = none → fs.length = many → (∀ x ∈ fs, 0 ≤ x ∧ x < base) → Q (.ref p) (upd H p (.lst (fs.map V.int)))
theorem ok_row (F : Fun K "_law_row" "_law_row" s_row f fd) (T : Txt K mg) : FnOk P w K mg base CX0 1 f fd P_row sp_row := by
  refine F.ok sc_row (fun vs H Q E h => ?_) (fun cdv A outer s H vs Q E hr h => ?_)
  · obtain ⟨cell, bs, many, rfl, _⟩ := h
    rfl
  · obtain ⟨cell, bs, many, rfl, hm, hb0, hb1, q⟩ := h
    refine ⟨_, (pss_cons (ps_set (i := 3) sc_row.nd rfl (Or.inl rfl) (pe_lst pa_nil))
      (pss_cons (ps_set (i := 4) sc_row.nd rfl (Or.inl rfl) (pe_op op_fdiv (pv 0) pe_int))
      (pss_cons (ps_for PassesOwn.never rfl (pi_range1 (by rfl) T.n_range (pa_cons (pv 1) pa_nil)) (pg_name (i := 5) sc_row.nd rfl (Or.inl rfl))
        (pss_one (ps_if (pt_cmpR op_eq (pe_op op_mod (pv 0) pe_int) pe_int (nomark _))
          (pss_cons (ps_expr (pe_bm PySem.F.plainAttrs_list PySem.F.slot_list_append PySem.F.type_list_append mt_append (pv 3) (pa_cons (pe_op op_mod (pv 4) (pv 2)) pa_nil)))
          (pss_one (ps_set (i := 4) sc_row.nd rfl (Or.inl rfl) (pe_op op_fdiv (pv 4) (pv 2)))))
          (pss_cons (ps_set (i := 6) sc_row.nd rfl (Or.inl rfl) (pe_op op_mod (pe_op op_add (pe_op op_add (pe_op op_mul (pv 0) pe_int) (pe_op op_mul (pv 5) pe_int)) pe_int) pe_int))
          (pss_one (ps_expr (pe_bm PySem.F.plainAttrs_list PySem.F.slot_list_append PySem.F.type_list_append mt_append (pv 3) (pa_cons (pe_op op_mod (pe_op op_mod (pe_op op_add (pe_op op_mul (pv 6) (pv 6)) (pe_op op_mul (pv 5) pe_int)) pe_int) (pv 2)) pa_nil))))))))
      (pss_one (ps_ret (pv 3)))))), ?_⟩
    refine ⟨sz9, fun p hp => ?_⟩
    refine ⟨_, rfl, _, _, rfl, rfl, ⟨by decide, by decide⟩, ?_⟩
    refine ⟨_, rfl, _, rfl, by omega, by omega, ?_⟩
    refine for_range (n := (many : Int).toNat) (fun i σ H2 => ∃ (fs : List Int) (rest : Int) (k one : Option V), σ = [some (.int cell), some (.int many), some (.int bs), some (.ref p), some (.int rest), k, one] ∧ H2 = upd H p (.lst (fs.map V.int)) ∧ fs.length = i ∧ ∀ x ∈ fs, 0 ≤ x ∧ x < bs)
      ⟨[], _, _, _, rfl, rfl, rfl, by simp⟩ ?_ ?_
    · rintro i σ H2 hi ⟨fs, rest, k, one, rfl, rfl, hl, hx⟩
      have grow : ∀ z : Int, 0 ≤ z → z < bs → (∀ x ∈ fs ++ [z], 0 ≤ x ∧ x < bs) := fun z h0 h1 x hx' => by
        rcases List.mem_append.mp hx' with h | h
        · exact hx x h
        · have : x = z := by simpa using h
          subst this; exact ⟨h0, h1⟩
      have eqH : ∀ z : Int, upd (upd H p (.lst (fs.map V.int))) p (.lst (fs.map V.int ++ [.int z])) = upd H p (.lst ((fs ++ [z]).map V.int)) := fun z => by rw [upd_upd, List.map_append]; rfl
      refine ⟨_, rfl, _, _, rfl, rfl, (by show (0 : Int) < 3; decide), rfl, _, rfl, ?_⟩
      refine ite2 (fun _ => ?_) (fun _ => ?_)
      · refine ⟨_, rfl, .inl ⟨rfl, _, SqL.of upd_same⟩, _, rfl, _, rfl, _, _, rfl, rfl, hb0, p, _, _, rfl, rfl, upd_same, sz1000 (by rw [List.length_map]; omega), ?_⟩
        refine ⟨_, rfl, _, rfl, _, _, rfl, rfl, ⟨hb0, hb1⟩, ?_⟩
        rw [eqH]
        exact ⟨_, _, _, _, rfl, rfl, by rw [List.length_append, hl]; rfl, grow _ (Int.emod_nonneg _ (by omega)) (Int.emod_lt_of_pos _ hb0)⟩
      · refine ⟨_, rfl, _, _, rfl, rfl, .inr ⟨by decide, by decide⟩, _, rfl, _, _, rfl, rfl, .inr ⟨by decide, by decide⟩, _, _, rfl, rfl, _, _, rfl, rfl, _, _, rfl, rfl, (by show (0 : Int) < 2147483647; decide), ?_⟩
        refine ⟨_, rfl, .inl ⟨rfl, _, SqL.of upd_same⟩, ?_⟩
        refine ⟨_, rfl, _, rfl, _, _, rfl, rfl, .inl ⟨?_, ?_⟩, _, rfl, _, _, rfl, rfl, .inr ⟨by decide, by decide⟩, _, _, rfl, rfl, _, _, rfl, rfl, (by show (0 : Int) < 2147483629; decide), _, rfl, _, _, rfl, rfl, hb0, p, _, _, rfl, rfl, upd_same, sz1000 (by rw [List.length_map]; omega), ?_⟩
        · exact Int.lt_of_lt_of_le (by decide) (Int.emod_nonneg _ (by decide))
        · exact Int.lt_trans (Int.emod_lt_of_pos _ (by decide)) (by decide)
        · rw [eqH]
          exact ⟨_, _, _, _, rfl, rfl, by rw [List.length_append, hl]; rfl, grow _ (Int.emod_nonneg _ (by omega)) (Int.emod_lt_of_pos _ hb0)⟩
    · rintro σ H2 ⟨fs, rest, k, one, rfl, rfl, hl, hx⟩
      exact ⟨_, rfl, q p fs hp (by omega) hx⟩
abbrev s_refusal : Stmt := top 30
abbrev N_refusal : List Str := ["_law_call", "_law_place", "_law_kinds", "e"]
abbrev P_refusal : List Str := ["_law_call", "_law_place"]
theorem sc_refusal : FnScope N_refusal P_refusal (defScope s_refusal) := mk9
/-! _law_refusal -/
def sp_refusal (P : Program) (w : World) (K : W.Frag) (mg : Str → Option Value) (base : Heap) (CT : Addr) (C : Nat → Addr) : Sp := fun vs H Q E => ∃ (f : Addr) (j : Nat), vs = [.ref f, .int (j : Int)] ∧ j < 12 ∧ LamRef P w K mg base C H f j ∧ Refuses K CT C j ∧ ∀ H', Same H H' → Q (.bl true) H'
theorem ok_refusal (F : Fun K "_law_refusal" "_law_refusal" s_refusal f fd) (T : Txt K mg) {CT : Addr} {C : Nat → Addr} (XE : Errs mg CT C) : FnOk P w K mg base (CX1 P w) 15 f fd P_refusal (sp_refusal P w K mg base CT C) := by
  refine F.okX sc_refusal (fun vs H Q E h => ?_) (fun cdv A outer s H vs Q E hr h => ?_)
  · obtain ⟨f, j, rfl, _⟩ := h
    rfl
  · obtain ⟨f, j, rfl, hj, ⟨name, qual, params, body, scope, clos, pm, cv, ctv, sp, hf, FO, hb, hrun⟩, R, q⟩ := h
    refine ⟨_, (pss_cons (ps_set (i := 2) sc_refusal.nd rfl (Or.inl rfl) (pe_lst pa_nil))
      (pss_cons (ps_try (i := 0) (ie := 3) rfl rfl rfl rfl (Or.inl rfl) hr sc_refusal.nd rfl rfl (by rfl) XE.thaw (fun _ => by exact (pss_cons (ps_set (i := 2) sc_refusal.nd rfl (Or.inl rfl) (pe_lst (pa_cons (pe_isiXK K T.n_isinstance (pv 3) (pe_cls XE.g0)) (pa_cons (pe_isiXK K T.n_isinstance (pv 3) (pe_cls XE.g1)) (pa_cons (pe_isiXK K T.n_isinstance (pv 3) (pe_cls XE.g2)) pa_nil)))))
          (pss_cons (ps_set (i := 2) sc_refusal.nd rfl (Or.inl rfl) (pe_op op_cat (pv 2) (pe_lst (pa_cons (pe_isiXK K T.n_isinstance (pv 3) (pe_cls XE.g3)) (pa_cons (pe_isiXK K T.n_isinstance (pv 3) (pe_cls XE.g4)) (pa_cons (pe_isiXK K T.n_isinstance (pv 3) (pe_cls XE.g5)) pa_nil))))))
          (pss_cons (ps_set (i := 2) sc_refusal.nd rfl (Or.inl rfl) (pe_op op_cat (pv 2) (pe_lst (pa_cons (pe_isiXK K T.n_isinstance (pv 3) (pe_cls XE.g6)) (pa_cons (pe_isiXK K T.n_isinstance (pv 3) (pe_cls XE.g7)) (pa_cons (pe_isiXK K T.n_isinstance (pv 3) (pe_cls XE.g8)) pa_nil))))))
          (pss_cons (ps_set (i := 2) sc_refusal.nd rfl (Or.inl rfl) (pe_op op_cat (pv 2) (pe_lst (pa_cons (pe_isiXK K T.n_isinstance (pv 3) (pe_cls XE.g9)) (pa_cons (pe_isiXK K T.n_isinstance (pv 3) (pe_cls XE.g10)) (pa_cons (pe_isiXK K T.n_isinstance (pv 3) (pe_cls XE.g11)) pa_nil))))))
          (pss_one (ps_set (i := 2) sc_refusal.nd rfl (Or.inl rfl) (pe_op op_cat (pv 2) (pe_lst (pa_cons (pe_isiXK K T.n_isinstance (pv 3) (pe_ty T.n_ValueError)) pa_nil)))))))))))
      (pss_one (ps_ret (pe_cmpR (op_eqB hr.units0) (pv 2) (pe_comp rfl (CompScope.of (T := ["_law_k"]) (js := [1]) (defScope s_refusal).names N_refusal rfl rfl rfl (by decide +kernel)) (pi_range1 (by rfl) T.n_range (pa_cons pe_int pa_nil)) (fun _ _ _ _ => ⟨(pg_name (i := 0) (by show List.Nodup (["_law_k", "_law_place"] : List Str); decide +kernel) rfl (Or.inl rfl)), pif_nil, (pe_cmpR (op_in_seqK K) (pv 0) (pe_tup (pa_cons (pv 1) (pa_cons pe_int pa_nil))) rfl)⟩)) (nomark _)))))), ?_⟩
    refine ⟨sz9, fun l hl => ?_⟩
    have s0 : Same H (upd H l (.lst [])) := Same.upd hl
    refine ⟨_, rfl, f, name, qual, params, body, scope, clos, pm, cv, ctv, sp, rfl, s0 _ _ hf, FO, hb, hrun _ _ _ s0 fun H1 xa s1 hx => ?_⟩
    refine ⟨xa, C j, rfl, rfl, R.ex, ?_⟩
    have sx : Same H1 (upd H1 xa (.ext (ExcIs xa (.ref (C j))))) := Same.upd hx
    have hX : (upd H1 xa (.ext (ExcIs xa (.ref (C j))))) xa = some (.ext (ExcIs xa (.ref (C j)))) := upd_same
    generalize (upd H1 xa (.ext (ExcIs xa (.ref (C j))))) = G0 at sx hX ⊢
    have sG0 : Same H G0 := (s0.trans s1).trans sx
    clear sx s1 s0 hx
    -- the first three
    refine ⟨_, rfl, xa, _, _, _, rfl, hX, R.kx, .inr ⟨_, rfl, R.one 0 (by decide)⟩, _, rfl, xa, _, _, _, rfl, hX, R.kx, .inr ⟨_, rfl, R.one 1 (by decide)⟩, _, rfl, xa, _, _, _, rfl, hX, R.kx, .inr ⟨_, rfl, R.one 2 (by decide)⟩, sz9, fun p1 f1 => ?_⟩
    have sg1 := Same.upd (o := .lst [.bl (decide (0 = j)), .bl (decide (1 = j)), .bl (decide (2 = j))]) f1
    have hL1 : (upd G0 p1 (.lst [.bl (decide (0 = j)), .bl (decide (1 = j)), .bl (decide (2 = j))])) p1 = some (.lst [.bl (decide (0 = j)), .bl (decide (1 = j)), .bl (decide (2 = j))]) := upd_same
    generalize (upd G0 p1 (.lst [.bl (decide (0 = j)), .bl (decide (1 = j)), .bl (decide (2 = j))])) = G1 at sg1 hL1 ⊢
    have sG1 := sG0.trans sg1
    have hX1 := sg1 _ _ hX
    -- three more
    refine ⟨_, rfl, _, rfl, xa, _, _, _, rfl, hX1, R.kx, .inr ⟨_, rfl, R.one 3 (by decide)⟩, _, rfl, xa, _, _, _, rfl, hX1, R.kx, .inr ⟨_, rfl, R.one 4 (by decide)⟩, _, rfl, xa, _, _, _, rfl, hX1, R.kx, .inr ⟨_, rfl, R.one 5 (by decide)⟩, sz9, fun q2 g2 => ?_⟩
    refine ⟨p1, q2, _, _, rfl, rfl, Same.upd g2 _ _ hL1, upd_same, sz9, fun p2 f2 => ?_⟩
    have sg2 := (Same.upd (o := .lst [.bl (decide (3 = j)), .bl (decide (4 = j)), .bl (decide (5 = j))]) g2).trans (Same.upd (o := .lst ([.bl (decide (0 = j)), .bl (decide (1 = j)), .bl (decide (2 = j))] ++ [.bl (decide (3 = j)), .bl (decide (4 = j)), .bl (decide (5 = j))])) f2)
    have hL2 : (upd (upd G1 q2 (.lst [.bl (decide (3 = j)), .bl (decide (4 = j)), .bl (decide (5 = j))])) p2 (.lst ([.bl (decide (0 = j)), .bl (decide (1 = j)), .bl (decide (2 = j))] ++ [.bl (decide (3 = j)), .bl (decide (4 = j)), .bl (decide (5 = j))]))) p2 = some (.lst ([.bl (decide (0 = j)), .bl (decide (1 = j)), .bl (decide (2 = j))] ++ [.bl (decide (3 = j)), .bl (decide (4 = j)), .bl (decide (5 = j))])) := upd_same
    generalize (upd (upd G1 q2 (.lst [.bl (decide (3 = j)), .bl (decide (4 = j)), .bl (decide (5 = j))])) p2 (.lst ([.bl (decide (0 = j)), .bl (decide (1 = j)), .bl (decide (2 = j))] ++ [.bl (decide (3 = j)), .bl (decide (4 = j)), .bl (decide (5 = j))]))) = G2 at sg2 hL2 ⊢
    have sG2 := sG1.trans sg2
    have hX2 := sg2 _ _ hX1
    -- three more
    refine ⟨_, rfl, _, rfl, xa, _, _, _, rfl, hX2, R.kx, .inr ⟨_, rfl, R.one 6 (by decide)⟩, _, rfl, xa, _, _, _, rfl, hX2, R.kx, .inr ⟨_, rfl, R.one 7 (by decide)⟩, _, rfl, xa, _, _, _, rfl, hX2, R.kx, .inr ⟨_, rfl, R.one 8 (by decide)⟩, sz9, fun q3 g3 => ?_⟩
    refine ⟨p2, q3, _, _, rfl, rfl, Same.upd g3 _ _ hL2, upd_same, sz9, fun p3 f3 => ?_⟩
    refine ⟨_, rfl, _, rfl, xa, _, _, _, rfl, Same.upd f3 _ _ (Same.upd g3 _ _ hX2), R.kx, .inr ⟨_, rfl, R.one 9 (by decide)⟩, _, rfl, xa, _, _, _, rfl, Same.upd f3 _ _ (Same.upd g3 _ _ hX2), R.kx, .inr ⟨_, rfl, R.one 10 (by decide)⟩, _, rfl, xa, _, _, _, rfl, Same.upd f3 _ _ (Same.upd g3 _ _ hX2), R.kx, .inr ⟨_, rfl, R.one 11 (by decide)⟩, sz9, fun q4 g4 => ?_⟩
    refine ⟨p3, q4, _, _, rfl, rfl, Same.upd g4 _ _ upd_same, upd_same, sz9, fun p4 f4 => ?_⟩
    refine ⟨_, rfl, _, rfl, xa, _, _, _, rfl, Same.upd f4 _ _ (Same.upd g4 _ _ (Same.upd f3 _ _ (Same.upd g3 _ _ hX2))), R.kx, .inl ⟨_, rfl, R.ve⟩, sz9, fun q5 g5 => ?_⟩
    refine ⟨p4, q5, _, _, rfl, rfl, Same.upd g5 _ _ upd_same, upd_same, sz9, fun p5 f5 => ?_⟩
    have sG5 := (((((sG2.trans (Same.upd (o := .lst [.bl (decide (6 = j)), .bl (decide (7 = j)), .bl (decide (8 = j))]) g3)).trans (Same.upd f3)).trans (Same.upd g4)).trans (Same.upd f4)).trans (Same.upd g5)).trans (Same.upd (o := .lst (((([.bl (decide (0 = j)), .bl (decide (1 = j)), .bl (decide (2 = j))] ++ [.bl (decide (3 = j)), .bl (decide (4 = j)), .bl (decide (5 = j))]) ++ [.bl (decide (6 = j)), .bl (decide (7 = j)), .bl (decide (8 = j))]) ++ [.bl (decide (9 = j)), .bl (decide (10 = j)), .bl (decide (11 = j))]) ++ [.bl true])) f5)
    refine ⟨_, rfl, 13, rfl, by decide, by decide, fun ph fph => ?_⟩
    have h5 := upd_same (H := (upd (upd (upd (upd (upd G2 q3 (.lst [.bl (decide (6 = j)), .bl (decide (7 = j)), .bl (decide (8 = j))])) p3 (.lst (([.bl (decide (0 = j)), .bl (decide (1 = j)), .bl (decide (2 = j))] ++ [.bl (decide (3 = j)), .bl (decide (4 = j)), .bl (decide (5 = j))]) ++ [.bl (decide (6 = j)), .bl (decide (7 = j)), .bl (decide (8 = j))]))) q4 (.lst [.bl (decide (9 = j)), .bl (decide (10 = j)), .bl (decide (11 = j))])) p4 (.lst ((([.bl (decide (0 = j)), .bl (decide (1 = j)), .bl (decide (2 = j))] ++ [.bl (decide (3 = j)), .bl (decide (4 = j)), .bl (decide (5 = j))]) ++ [.bl (decide (6 = j)), .bl (decide (7 = j)), .bl (decide (8 = j))]) ++ [.bl (decide (9 = j)), .bl (decide (10 = j)), .bl (decide (11 = j))]))) q5 (.lst [.bl true]))) (a := p5) (o := .lst (((([.bl (decide (0 = j)), .bl (decide (1 = j)), .bl (decide (2 = j))] ++ [.bl (decide (3 = j)), .bl (decide (4 = j)), .bl (decide (5 = j))]) ++ [.bl (decide (6 = j)), .bl (decide (7 = j)), .bl (decide (8 = j))]) ++ [.bl (decide (9 = j)), .bl (decide (10 = j)), .bl (decide (11 = j))]) ++ [.bl true]))
    revert fph
    generalize upd (upd (upd (upd (upd (upd G2 q3 (.lst [.bl (decide (6 = j)), .bl (decide (7 = j)), .bl (decide (8 = j))])) p3 (.lst (([.bl (decide (0 = j)), .bl (decide (1 = j)), .bl (decide (2 = j))] ++ [.bl (decide (3 = j)), .bl (decide (4 = j)), .bl (decide (5 = j))]) ++ [.bl (decide (6 = j)), .bl (decide (7 = j)), .bl (decide (8 = j))]))) q4 (.lst [.bl (decide (9 = j)), .bl (decide (10 = j)), .bl (decide (11 = j))])) p4 (.lst ((([.bl (decide (0 = j)), .bl (decide (1 = j)), .bl (decide (2 = j))] ++ [.bl (decide (3 = j)), .bl (decide (4 = j)), .bl (decide (5 = j))]) ++ [.bl (decide (6 = j)), .bl (decide (7 = j)), .bl (decide (8 = j))]) ++ [.bl (decide (9 = j)), .bl (decide (10 = j)), .bl (decide (11 = j))]))) q5 (.lst [.bl true])) p5 (.lst (((([.bl (decide (0 = j)), .bl (decide (1 = j)), .bl (decide (2 = j))] ++ [.bl (decide (3 = j)), .bl (decide (4 = j)), .bl (decide (5 = j))]) ++ [.bl (decide (6 = j)), .bl (decide (7 = j)), .bl (decide (8 = j))]) ++ [.bl (decide (9 = j)), .bl (decide (10 = j)), .bl (decide (11 = j))]) ++ [.bl true])) = G5 at sG5 h5 ⊢
    intro fph
    have h5n : p5 ≠ ph := ne_of_none h5 fph
    refine comp_range (fun i σ H2 => (∃ v, σ = [v, some (.int (j : Int))]) ∧ Same G5 H2 ∧ H2 ph = some (.lst ((List.range i).map fun k : Nat => V.bl (inV (.int ((0 : Int) + (k : Int))) [.int (j : Int), .int 12])))) ?_ ?_ ?_
    · exact ⟨⟨none, rfl⟩, Same.upd fph, upd_same⟩
    · rintro i σ H2 hi ⟨⟨v, rfl⟩, sH, hp⟩
      have hi' : i < 13 := hi
      refine compT_one ?_
      refine ⟨_, rfl, _, rfl, sz9, fun tp ft => ⟨tp, _, rfl, .inr (SqT.of upd_same), rfl, rfl, _, Same.upd ft _ _ hp, sz1000 (by rw [List.length_map, List.length_range]; omega), ⟨_, rfl⟩, ?_, ?_⟩⟩
      · intro b o hb
        have : b ≠ ph := fun z => by rw [z] at hb; rw [fph] at hb; cases hb
        rw [upd_ne this]
        exact Same.upd ft _ _ (sH _ _ hb)
      · rw [upd_same, range_map_succ (f := fun k : Nat => V.bl (inV (.int ((0 : Int) + (k : Int))) [.int (j : Int), .int 12]))]
        rfl
    rintro σ1 H6 ⟨_, s6, h6⟩
    refine ⟨p5, ph, ([0, 1, 2, 3, 4, 5, 6, 7, 8, 9, 10, 11].map (fun i : Nat => decide (i = j)) ++ [true]), (List.range 13).map (fun k : Nat => inV (.int ((0 : Int) + (k : Int))) [.int (j : Int), .int 12]), rfl, rfl, SqL.of (s6 _ _ h5), SqL.of (h6.trans (by rw [List.map_map]; rfl)), ?_⟩
    rw [decide_eq_true (kinds_due j hj)]
    exact q _ (sG5.trans s6)
abbrev s_heats : Stmt := top 31
abbrev N_heats : List Str := ["_law_needs", "_law_cell", "_law_heats_here", "_law_far", "_law_at_here"]
abbrev P_heats : List Str := ["_law_needs", "_law_cell"]
theorem sc_heats : FnScope N_heats P_heats (defScope s_heats) := mk9
/-! _law_heats -/
def sp_heats (K : W.Frag) : Sp := fun vs H Q _ => ∃ (a : Addr) (needs : List Int) (cell : Int), vs = [.ref a, .int cell] ∧ SqL K H a (needs.map V.int) ∧ needs.length ≤ 200 ∧
  ∀ (H' : Hp) (l : Addr) (hs : List Int), Same H H' → H l = none → H' l = some (.lst (hs.map V.int)) → hs.length ≤ 300 → ¬ HeatsOk needs hs → Q (.ref l) H'
theorem bad4_at (n far z : Int) (hf : 0 ≤ far) : ∃ m : Int, atI [V.int (-1), V.int (n + 1), V.int (-1 - far), V.int ((if (0 : Int) < n then n else 0) + 1 + far)] (z % 4) = some (.int m) ∧ ¬ (0 ≤ m ∧ m ≤ n) := by
  have h3 := Int.emod_nonneg z (show (4 : Int) ≠ 0 by decide)
  have h4 := Int.emod_lt_of_pos z (show (0 : Int) < 4 by decide)
  have h5 : z % 4 = 0 ∨ z % 4 = 1 ∨ z % 4 = 2 ∨ z % 4 = 3 := by omega
  rcases h5 with e | e | e | e <;> rw [e]
  · exact ⟨_, rfl, by omega⟩
  · exact ⟨_, rfl, by omega⟩
  · exact ⟨_, rfl, by omega⟩
  · refine ⟨_, rfl, ?_⟩
    split <;> omega
theorem ok_heats (F : Fun K "_law_heats" "_law_heats" s_heats f fd) (T : Txt K mg) : FnOk P w K mg base CX0 1 f fd P_heats (sp_heats K) := by
  refine F.ok sc_heats (fun vs H Q E h => ?_) (fun cdv A outer s H vs Q E hr h => ?_)
  · obtain ⟨a, needs, cell, rfl, _⟩ := h
    rfl
  · obtain ⟨a, needs, cell, rfl, hA, hn, q⟩ := h
    refine ⟨_, (pss_cons (ps_setC (i := 2) rfl sc_heats.nd rfl rfl (CompScope.of (T := ["_law_need"]) (js := [1]) (defScope s_heats).names N_heats rfl rfl rfl (by decide +kernel)) (pi_list (pv 0)) (fun _ _ _ _ => ⟨(pg_name (i := 0) (by show List.Nodup (["_law_need", "_law_cell"] : List Str); decide +kernel) rfl (Or.inl rfl)), pif_nil, (pe_op op_mod (pe_op op_fdiv (pv 1) pe_int) (pe_op op_add (pe_max (by rfl) T.n_max pe_int (pv 0)) pe_int))⟩))
      (pss_cons (ps_set (i := 3) sc_heats.nd rfl (Or.inl rfl) (pe_op op_mod (pe_op op_fdiv (pv 1) pe_int) (pe_op op_pow pe_int pe_int)))
      (pss_cons (ps_if (PW.pt (pw_or (pt_cmpR op_eq (pe_op op_mod (pv 1) pe_int) pe_int (nomark _)) (pw_or1 (pt_cmpR (op_eqNil hr.units0) (pv 0) (pe_lst pa_nil) (nomark _)))))
        (pss_one (ps_ret (pe_op op_cat (pv 2) (pe_lst (pa_cons pe_int pa_nil)))))
        pss_nil)
      (pss_cons (ps_if (pt_cmpR op_eq (pe_op op_mod (pv 1) pe_int) pe_int (nomark _))
        (pss_one (ps_ret (pe_slice sl_list (pv 2) po_none (po_some (pe_ix ix_list (pe_lst (pa_cons pe_int (pa_cons (pe_op op_sub (pe_len T.n_len (pv 0)) pe_int) pa_nil))) (pe_op op_mod (pe_op op_fdiv (pv 1) pe_int) pe_int) (fun _ _ => rfl))))))
        pss_nil)
      (pss_cons (ps_set (i := 4) sc_heats.nd rfl (Or.inl rfl) (pe_op op_mod (pe_op op_fdiv (pv 1) pe_int) (pe_len T.n_len (pv 0))))
      (pss_cons (ps_asg (pe_ix ix_list (pe_lst (pa_cons (pe_un un_neg pe_int) (pa_cons (pe_op op_add (pe_ix ix_list (pv 0) (pv 4) (fun _ _ => rfl)) pe_int) (pa_cons (pe_op op_sub (pe_un un_neg pe_int) (pv 3)) (pa_cons (pe_op op_add (pe_op op_add (pe_max (by rfl) T.n_max pe_int (pe_ix ix_list (pv 0) (pv 4) (fun _ _ => rfl))) pe_int) (pv 3)) pa_nil))))) (pe_op op_mod (pe_op op_fdiv (pv 1) pe_int) pe_int) (fun _ _ => rfl)) (pg_sub (pv 2) (pv 4) set_list))
      (pss_one (ps_ret (pv 2))))))))), ?_⟩
    refine seq_in fun D1 hx => ?_
    refine ⟨_, rfl, a, rfl, ⟨_, hA⟩, fun pf ff => ?_⟩
    refine comp_list (xs := needs.map V.int) (fun m σ H' => (∃ v, σ = [v, some (.int cell)]) ∧ Same H H' ∧ ∃ hs : List Int, hs.length = m ∧ H' pf = some (.lst (hs.map V.int))) ?_ ?_ ?_ ?_
    · exact ⟨⟨none, rfl⟩, Same.upd ff, [], rfl, upd_same⟩
    · rintro m σ H' _ ⟨_, sx, _⟩
      exact sx.seq hA
    · rintro m y σ H1 hy ⟨⟨v, rfl⟩, s1, hs, hfl, h1f⟩
      obtain ⟨hm, rfl⟩ := getI_some hy
      refine compT_one ?_
      refine ⟨_, rfl, _, _, rfl, rfl, ⟨by decide, by decide⟩, _, rfl, _, _, rfl, _, _, rfl, rfl, _, _, rfl, rfl, (by show (0 : Int) < (if (0 : Int) < needs.getD m 0 then needs.getD m 0 else 0) + 1; split <;> omega), ?_⟩
      exact ⟨_, h1f, sz1000 (by rw [List.length_map]; omega), ⟨_, rfl⟩, s1.set ff, hs ++ [cell / 3 % ((if (0 : Int) < needs.getD m 0 then needs.getD m 0 else 0) + 1)], by rw [List.length_append, hfl]; rfl, by rw [upd_same, List.map_append]; rfl⟩
    rintro σ0 H1 ⟨_, s1, hs, hfl, h1f⟩
    rw [List.length_map] at hfl
    refine hx _ _ ?_
    refine seq_in fun D1 hx => ?_
    refine ⟨_, rfl, _, _, rfl, rfl, ⟨by decide, by decide⟩, _, _, rfl, rfl, ⟨by decide, by decide, by decide⟩, _, _, rfl, rfl, (by show (0 : Int) < 10 ^ 30; decide), ?_⟩
    refine hx _ _ ?_
    obtain ⟨far, ef, hfar⟩ : ∃ far : Int, (fun i j : Int => V.int (i % j)) (cell / 4) (10 ^ ((30 : Int).toNat)) = V.int far ∧ 0 ≤ far := ⟨_, rfl, Int.emod_nonneg _ (by decide)⟩
    rw [show (fun i j : Int => V.int (i % j)) ((fun i j : Int => i / j) cell 4) (10 ^ ((30 : Int).toNat)) = V.int far from ef]
    have long : ∀ D : Ends, (∀ v H', Q v H' → D.rt v H') → ∀ σ : St, σ[2]? = some (some (.ref pf)) → ∀ H2, Same H1 H2 → tRet (tOp rCat (tVar 2) (tLst (tCons (tC (V.int 0)) tNil))) D σ H2 := fun D hD σ e2 H2 s2 => by
      refine ⟨_, e2, sz9, fun p1 f1 => ?_⟩
      have s3 := Same.upd (o := .lst [.int 0]) f1
      refine ⟨pf, p1, _, _, rfl, rfl, s3 _ _ (s2 _ _ h1f), upd_same, sz1000' (by rw [List.length_map]; show hs.length + 1 ≤ 100000; omega), fun p2 f2 => ?_⟩
      have s13 := (s1.trans s2).trans s3
      refine hD _ _ (q _ p2 (hs ++ [0]) (s13.trans (Same.upd f2)) (s13.free f2) (by rw [upd_same, List.map_append]; rfl) (by rw [List.length_append]; show hs.length + 1 ≤ 300; omega) fun hO => ?_)
      have := hO.len
      rw [List.length_append] at this
      have this : hs.length + 1 = needs.length := this
      omega
    refine ⟨_, rfl, _, _, rfl, rfl, (by show (0 : Int) < 4; decide), rfl, _, rfl, ?_⟩
    refine ite2 (fun _ => ?_) (fun _ => ?_)
    · refine iteT ?_
      exact long _ (fun _ _ e => e) _ rfl _ (Same.refl _)
    refine ⟨_, rfl, sz9, fun pe fe => ?_⟩
    have s2 := Same.upd (o := .lst []) fe
    have h2e : (upd H1 pe (.lst [])) pe = some (.lst []) := upd_same
    generalize upd H1 pe (.lst []) = H2 at s2 h2e ⊢
    have s02 := s1.trans s2
    have h2f := s2 _ _ h1f
    refine ⟨a, pe, _, rfl, rfl, s02.seq hA, SqL.of h2e, _, rfl, ?_⟩
    refine ite2 (fun _ => long _ (fun _ _ e => e) _ rfl _ s2) (fun hne => ?_)
    have hpos : 0 < needs.length := by
      cases needs with
      | nil => exact absurd rfl hne
      | cons _ _ => simp
    refine ⟨_, rfl, _, _, rfl, rfl, (by show (0 : Int) < 4; decide), rfl, _, rfl, ?_⟩
    refine ite2 (fun _ => ?_) (fun _ => ?_)
    · -- too few
      refine ⟨_, rfl, _, rfl, a, _, rfl, .inl (s02.seq hA), _, _, rfl, rfl, sz9, fun p1 f1 => ?_⟩
      have s3 := Same.upd (o := .lst [.int 0, .int (((needs.map V.int).length : Int) - 1)]) f1
      obtain ⟨k, ek, hk⟩ : ∃ k : Nat, atI [V.int 0, V.int (((needs.map V.int).length : Int) - 1)] (cell / 4 % 2) = some (.int (k : Int)) ∧ k < needs.length := by
        rw [List.length_map]
        have h3 := Int.emod_nonneg (cell / 4) (show (2 : Int) ≠ 0 by decide)
        have h4 := Int.emod_lt_of_pos (cell / 4) (show (0 : Int) < 2 by decide)
        have h5 : cell / 4 % 2 = 0 ∨ cell / 4 % 2 = 1 := by omega
        rcases h5 with e | e <;> rw [e]
        · exact ⟨0, rfl, hpos⟩
        · exact ⟨needs.length - 1, congrArg (fun z : Int => some (V.int z)) (show (needs.length : Int) - 1 = ((needs.length - 1 : Nat) : Int) by omega), by omega⟩
      refine ⟨_, rfl, _, _, rfl, rfl, ⟨by decide, by decide⟩, _, _, rfl, rfl, (by show (0 : Int) < 2; decide), p1, _, _, _, rfl, rfl, SqL.of upd_same, ek, _, rfl, pf, _, rfl, SqL.of (s3 _ _ h2f), fun c2 f2 => ?_⟩
      have e4 : cutV (hs.map V.int) none (some (k : Int)) = (hs.take k).map V.int := by rw [cut_takeG, List.map_take]
      have s03 := s02.trans s3
      refine q _ c2 (hs.take k) (s03.trans (Same.upd f2)) (s03.free f2) (by rw [upd_same, e4]) (by rw [List.length_take]; omega) fun hO => ?_
      have := hO.len
      rw [List.length_take] at this
      omega
    · -- one that is none
      dsimp only [tNext]
      refine seq_in fun D1 hx => ?_
      refine ⟨_, rfl, _, _, rfl, rfl, ⟨by decide, by decide⟩, _, rfl, a, _, rfl, .inl (s02.seq hA), _, _, rfl, rfl, (by show (0 : Int) < ((needs.map V.int).length : Int); rw [List.length_map]; omega), ?_⟩
      refine hx _ _ ?_
      obtain ⟨k, ek, hk⟩ : ∃ k : Nat, cell / 16 % ((needs.map V.int).length : Int) = (k : Int) ∧ k < needs.length := by
        rw [List.length_map]
        have h3 := Int.emod_nonneg (cell / 16) (show (needs.length : Int) ≠ 0 by omega)
        have h4 := Int.emod_lt_of_pos (cell / 16) (show (0 : Int) < (needs.length : Int) by omega)
        exact ⟨(cell / 16 % (needs.length : Int)).toNat, by omega, by omega⟩
      rw [show (fun i j : Int => V.int (i % j)) ((fun i j : Int => i / j) cell 16) ((needs.map V.int).length : Int) = V.int (k : Int) from congrArg V.int ek]
      obtain ⟨bad, eb, hbad⟩ := bad4_at (needs.getD k 0) far (cell / 4) hfar
      refine seq_in fun D1 hx => ?_
      refine ⟨_, rfl, _, rfl, _, rfl, a, _, _, _, rfl, rfl, s02.seq hA, atI_int hk, _, _, rfl, rfl, _, rfl, _, rfl, _, _, rfl, rfl, _, rfl, _, rfl, a, _, _, _, rfl, rfl, s02.seq hA, atI_int hk, _, _, rfl, _, _, rfl, rfl, _, rfl, _, _, rfl, rfl, sz9, fun p1 f1 => ?_⟩
      have s3 := Same.upd (o := .lst [V.int (-1), V.int (needs.getD k 0 + 1), V.int (-1 - far), V.int ((if (0 : Int) < needs.getD k 0 then needs.getD k 0 else 0) + 1 + far)]) f1
      refine ⟨_, rfl, _, _, rfl, rfl, ⟨by decide, by decide⟩, _, _, rfl, rfl, (by show (0 : Int) < 4; decide), p1, _, _, _, rfl, rfl, SqL.of upd_same, eb, ?_⟩
      refine ⟨_, rfl, _, rfl, pf, _, _, k, rfl, rfl, s3 _ _ h2f, ixN_nat (by rw [List.length_map]; omega), ?_⟩
      refine hx _ _ ?_
      have s03 := s02.trans s3
      refine ⟨_, rfl, q _ pf (hs.set k bad) (s03.set ff) ff (by rw [upd_same, setI]) (by rw [List.length_set]; omega) fun hO => ?_⟩
      have h1 := hO.lo k hk
      have h2 := hO.hi k hk
      rw [List.getD_eq_getElem?_getD, List.getElem?_set_self (by omega)] at h1 h2
      exact hbad ⟨h1, h2⟩
abbrev s_law : Stmt := top 32
abbrev N_law : List Str := ["_law_script", "_law_cell", "_law_wrong", "_law_many", "_law_needs", "_law_far", "_law_heats_here", "_law_handed", "_law_due"]
abbrev P_law : List Str := ["_law_script"]
theorem sc_law : FnScope N_law P_law (defScope s_law) := mk9
/-! law -/
def sp_law (K : W.Frag) (PT : Addr) : Sp := fun vs H Q _ => ∃ (a : Addr) (ns : List Int), vs = [.ref a] ∧ SqL K H a (ns.map V.int) ∧ ns.length ≤ 63 ∧ H PT = some (.tbl #[]) ∧ ∀ H', Q (.bl true) H'
theorem many_at (cell : Int) (w0 : Bool) (y : Int) : ∃ n : Nat, n ≤ 100 ∧ (if w0 = true then ¬ (1 ≤ n ∧ n ≤ 30) else 1 ≤ n ∧ n ≤ 30) ∧ ∀ z : Int, atI [V.int 0, V.int 31, V.int (32 + cell / 32 % 68), V.int 100] (y % 4) = some (.int z) → atI [V.int (1 + y % 30), V.int z] (if w0 = true then 1 else 0) = some (.int (n : Int)) := by
  have h3 := Int.emod_nonneg y (show (4 : Int) ≠ 0 by decide)
  have h4 := Int.emod_lt_of_pos y (show (0 : Int) < 4 by decide)
  have a1 := Int.emod_nonneg y (show (30 : Int) ≠ 0 by decide)
  have a2 := Int.emod_lt_of_pos y (show (0 : Int) < 30 by decide)
  have b1 := Int.emod_nonneg (cell / 32) (show (68 : Int) ≠ 0 by decide)
  have b2 := Int.emod_lt_of_pos (cell / 32) (show (0 : Int) < 68 by decide)
  cases w0 with
  | false =>
    refine ⟨(1 + y % 30).toNat, by omega, by show 1 ≤ (1 + y % 30).toNat ∧ (1 + y % 30).toNat ≤ 30; omega, fun z _ => ?_⟩
    show some (V.int (1 + y % 30)) = some (.int (((1 + y % 30).toNat : Nat) : Int))
    rw [show (((1 + y % 30).toNat : Nat) : Int) = 1 + y % 30 by omega]
  | true =>
    have h5 : y % 4 = 0 ∨ y % 4 = 1 ∨ y % 4 = 2 ∨ y % 4 = 3 := by omega
    rcases h5 with e | e | e | e <;> rw [e]
    · exact ⟨0, by omega, by show ¬ _; omega, fun z hz => by cases hz; rfl⟩
    · exact ⟨31, by omega, by show ¬ _; omega, fun z hz => by cases hz; rfl⟩
    · refine ⟨(32 + cell / 32 % 68).toNat, by omega, by show ¬ _; omega, fun z hz => ?_⟩
      cases hz
      show some (V.int (32 + cell / 32 % 68)) = some (.int (((32 + cell / 32 % 68).toNat : Nat) : Int))
      rw [show (((32 + cell / 32 % 68).toNat : Nat) : Int) = 32 + cell / 32 % 68 by omega]
    · exact ⟨100, by omega, by show ¬ _; omega, fun z hz => by cases hz; rfl⟩
theorem four_at (cell y : Int) : ∃ z : Int, atI [V.int 0, V.int 31, V.int (32 + cell / 32 % 68), V.int 100] (y % 4) = some (.int z) := by
  have h3 := Int.emod_nonneg y (show (4 : Int) ≠ 0 by decide)
  have h4 := Int.emod_lt_of_pos y (show (0 : Int) < 4 by decide)
  have h5 : y % 4 = 0 ∨ y % 4 = 1 ∨ y % 4 = 2 ∨ y % 4 = 3 := by omega
  rcases h5 with e | e | e | e <;> rw [e] <;> exact ⟨_, rfl⟩
theorem bad5_at (far z : Int) (hf : 0 ≤ far) : ∃ m : Int, atI [V.int 0, V.int (-1), V.int 201, V.int (-1 - far), V.int (201 + far)] (z % 5) = some (.int m) ∧ ¬ (1 ≤ m ∧ m ≤ 200) := by
  have h3 := Int.emod_nonneg z (show (5 : Int) ≠ 0 by decide)
  have h4 := Int.emod_lt_of_pos z (show (0 : Int) < 5 by decide)
  have h5 : z % 5 = 0 ∨ z % 5 = 1 ∨ z % 5 = 2 ∨ z % 5 = 3 ∨ z % 5 = 4 := by omega
  rcases h5 with e | e | e | e | e <;> rw [e] <;> exact ⟨_, rfl, by omega⟩
theorem ok_law (F : Fun K "law" "law" s_law f fd) (T : Txt K mg) (TG : GCls K mg G) {c PT CT : Addr} {C : Nat → Addr} (XE : Errs mg CT C) (R2 : Refuses K CT C 2) (R3 : Refuses K CT C 3) (R4 : Refuses K CT C 4) (hcode : fd.code = .ref c) (hC : W.CodeHd base c PT) (hB : base.BuiltinsAt mg PT)
    (o_at : Ok P w K mg base "_law_at" P_at 1 (sp_at K)) (o_whole : Ok P w K mg base "_law_whole" P_whole 1 sp_whole) (o_numbers : Ok P w K mg base "_law_numbers" P_numbers 2 (sp_numbers K)) (o_row : Ok P w K mg base "_law_row" P_row 1 sp_row) (o_refusal : OkX P w K mg base "_law_refusal" P_refusal 15 (sp_refusal P w K mg base CT C)) (o_heats : Ok P w K mg base "_law_heats" P_heats 1 (sp_heats K))
    (oi_two : OkI P w K mg base G P_G___init__ 2 (sp_G_init K G) []) (oi_twoX : OkIX P w K mg base G P_G___init__ 2 (sp_G_initX K mg) []) (oi_oneX : OkIX P w K mg base G P_G___init__ 2 (sp_G_initX K mg) [.none]) (om_heats : OkM P w K mg base G "heats" P_G_heats 2 (sp_G_heats G)) : FnOk P w K mg base (CX1 P w) 16 f fd P_law (sp_law K PT) := by
  refine F.okL sc_law (fun vs H Q E h => ?_) (fun A outer s H vs Q E hr h => ?_)
  · obtain ⟨a, ns, rfl, _⟩ := h
    rfl
  · obtain ⟨a, ns, rfl, hS, hlen, hT, q⟩ := h
    refine ⟨_, (pss_cons (ps_set (i := 1) sc_law.nd rfl (Or.inl rfl) (pe_callO o_at hr (pa_cons (pv 0) (pa_cons pe_int pa_nil))))
      (pss_cons (ps_set (i := 2) sc_law.nd rfl (Or.inr rfl) (pe_lst (pa_cons (pe_cmpR op_eq (pe_op op_mod (pv 1) pe_int) pe_int (nomark _)) (pa_cons (pe_cmpR op_eq (pe_op op_mod (pe_op op_fdiv (pv 1) pe_int) pe_int) pe_int (nomark _)) (pa_cons (pe_cmpR op_eq (pe_op op_mod (pe_op op_fdiv (pv 1) pe_int) pe_int) pe_int (nomark _)) pa_nil)))))
      (pss_cons (ps_set (i := 3) sc_law.nd rfl (Or.inl rfl) (pe_ix ix_list (pe_lst (pa_cons (pe_op op_add pe_int (pe_op op_mod (pe_op op_fdiv (pv 1) pe_int) pe_int)) (pa_cons (pe_ix ix_list (pe_lst (pa_cons pe_int (pa_cons pe_int (pa_cons (pe_op op_add pe_int (pe_op op_mod (pe_op op_fdiv (pv 1) pe_int) pe_int)) (pa_cons pe_int pa_nil))))) (pe_op op_mod (pe_op op_fdiv (pv 1) pe_int) pe_int) (fun _ _ => rfl)) pa_nil))) (pe_callTy call_int1 (by rfl) T.n_int (by decide +kernel) (pa_cons (pe_ix ix_list (pv 2) pe_int (fun _ _ => rfl)) pa_nil)) (fun _ _ => rfl)))
      (pss_cons (ps_setC (i := 4) rfl sc_law.nd rfl rfl (CompScope.of (T := ["_law_figure"]) (js := []) (defScope s_law).names N_law rfl rfl rfl (by decide +kernel)) (pi_list (pe_callO o_row hr (pa_cons (pe_callO o_at hr (pa_cons (pv 0) (pa_cons pe_int pa_nil))) (pa_cons (pv 3) (pa_cons pe_int pa_nil))))) (fun _ _ _ _ => ⟨(pg_name (i := 0) (by show List.Nodup (["_law_figure"] : List Str); decide +kernel) rfl (Or.inl rfl)), pif_nil, (pe_op op_add pe_int (pv 0))⟩))
      (pss_cons (ps_asg (pe_and (pe_ix ix_list (pv 2) pe_int (fun _ _ => rfl)) (pe_one (pe_cmpR op_gt (pv 3) pe_int (nomark _)))) (pg_sub (pv 2) pe_int set_list))
      (pss_cons (ps_set (i := 5) sc_law.nd rfl (Or.inl rfl) (pe_op op_mod (pe_op op_fdiv (pe_callO o_at hr (pa_cons (pv 0) (pa_cons pe_int pa_nil))) pe_int) (pe_op op_pow pe_int pe_int)))
      (pss_cons (ps_if (pt_val (pe_ix ix_list (pv 2) pe_int (fun _ _ => rfl)))
        (pss_one (ps_asg (pe_ix ix_list (pe_lst (pa_cons pe_int (pa_cons (pe_un un_neg pe_int) (pa_cons pe_int (pa_cons (pe_op op_sub (pe_un un_neg pe_int) (pv 5)) (pa_cons (pe_op op_add pe_int (pv 5)) pa_nil)))))) (pe_op op_mod (pe_callO o_at hr (pa_cons (pv 0) (pa_cons pe_int pa_nil))) pe_int) (fun _ _ => rfl)) (pg_sub (pv 4) (pe_op op_mod (pe_callO o_at hr (pa_cons (pv 0) (pa_cons pe_int pa_nil))) (pv 3)) set_list)))
        pss_nil)
      (pss_cons (ps_setC (i := 6) rfl sc_law.nd rfl rfl (CompScope.of (T := ["_law_need"]) (js := [0]) (defScope s_law).names N_law rfl rfl rfl (by decide +kernel)) (pi_list (pv 4)) (fun _ _ _ _ => ⟨(pg_name (i := 0) (by show List.Nodup (["_law_need", "_law_script"] : List Str); decide +kernel) rfl (Or.inl rfl)), pif_nil, (pe_op op_mod (pe_callO o_at hr (pa_cons (pv 1) (pa_cons pe_int pa_nil))) (pe_op op_add (pe_max (by rfl) T.n_max pe_int (pv 0)) pe_int))⟩))
      (pss_cons (ps_if (pt_val (pe_ix ix_list (pv 2) pe_int (fun _ _ => rfl)))
        (pss_one (ps_set (i := 6) sc_law.nd rfl (Or.inl rfl) (pe_callO o_heats hr (pa_cons (pv 4) (pa_cons (pe_callO o_at hr (pa_cons (pv 0) (pa_cons pe_int pa_nil))) pa_nil)))))
        pss_nil)
      (pss_cons (ps_set (i := 7) sc_law.nd rfl (Or.inr rfl) (pe_lst (pa_cons (pe_list T.n_list (pv 4)) (pa_cons (pe_list T.n_list (pv 6)) pa_nil))))
      (pss_cons (ps_setC (i := 8) rfl sc_law.nd rfl rfl (CompScope.of (T := ["_law_k"]) (js := [2]) (defScope s_law).names N_law rfl rfl rfl (by decide +kernel)) (pi_range1 (by rfl) T.n_range (pa_cons pe_int pa_nil)) (fun _ _ _ _ => ⟨(pg_name (i := 0) (by show List.Nodup (["_law_k", "_law_wrong"] : List Str); decide +kernel) rfl (Or.inl rfl)), (pif_one (pt_val (pe_ix (ix_listK K) (pv 1) (pv 0) (fun _ _ => rfl)))), (pe_op op_add (pv 0) pe_int)⟩))
      (pss_cons (ps_if (PW.pt (pw_and (pt_cmpR (op_neNil hr.units0) (pv 8) (pe_lst pa_nil) (nomark _)) (pw_and1 (pt_not (pt_val (pe_callC o_refusal hr (pa_cons (pe_lamC (c := c) (P := PT) (defScope s_law).names rfl rfl (by decide +kernel) hcode hC hB) (pa_cons (pe_ix ix_list (pv 8) pe_int (fun _ _ => rfl)) pa_nil)) (fun _ => rfl) (cells_in (by decide +kernel) (fun _ _ h => nomatch h))))))))
        (pss_one (ps_ret pe_bl))
        pss_nil)
      (pss_cons (ps_if (PW.pt (pw_and (pt_cmpR (op_eqNil hr.units0) (pv 8) (pe_lst pa_nil) (nomark _)) (pw_and1 (pt_not (pt_val (pe_callO o_numbers hr (pa_cons (pe_meth0O om_heats TG.cl hr (pe_makeO oi_two .nil hr TG.mgG (pa_cons (pe_ix ix_list (pv 7) pe_int (fun _ _ => rfl)) (pa_cons (pe_ix ix_list (pv 7) pe_int (fun _ _ => rfl)) pa_nil)))) (pa_cons (pv 6) pa_nil))))))))
        (pss_one (ps_ret pe_bl))
        pss_nil)
      (pss_cons (ps_if (PW.pt (pw_and (pt_cmpR (op_neNil hr.units0) (pv 8) (pe_lst pa_nil) (nomark _)) (pw_and (pt_cmpR op_lt (pe_ix ix_list (pv 8) pe_int (fun _ _ => rfl)) pe_int (nomark _)) (pw_and1 (pt_not (pt_val (pe_callC o_refusal hr (pa_cons (pe_lamC (c := c) (P := PT) (defScope s_law).names rfl rfl (by decide +kernel) hcode hC hB) (pa_cons (pe_ix ix_list (pv 8) pe_int (fun _ _ => rfl)) pa_nil)) (fun _ => rfl) (cells_in (by decide +kernel) (fun _ _ h => nomatch h)))))))))
        (pss_one (ps_ret pe_bl))
        pss_nil)
      (pss_cons (ps_if (PW.pt (pw_or (pt_not (pt_val (pe_callO o_whole hr (pa_cons (pe_gint T.g_MOST_BEDS) pa_nil)))) (pw_or1 (pt_not (pt_val (pe_callO o_whole hr (pa_cons (pe_gint T.g_MOST_NEED) pa_nil)))))))
        (pss_one (ps_ret pe_bl))
        pss_nil)
      (pss_one (ps_ret (pe_and (pe_cmpR (op_eqLL (hu_of hr)) (pv 7) (pe_lst (pa_cons (pv 4) (pa_cons (pv 6) pa_nil))) (nomark _)) (pe_and (pe_cmpR op_eq (pe_gint T.g_MOST_BEDS) pe_int (nomark _)) (pe_one (pe_cmpR op_eq (pe_gint T.g_MOST_NEED) pe_int (nomark _)))))))))))))))))))))), ?_⟩
    refine seq_in fun D1 hx => ?_
    refine ⟨_, rfl, a, ns, 0, rfl, hS, ?_⟩
    refine hx _ _ ?_
    -- what is wrong
    refine seq_in fun D1 hx => ?_
    refine ⟨_, rfl, _, _, rfl, rfl, (by show (0 : Int) < 2; decide), rfl, _, rfl, _, _, rfl, rfl, ⟨by decide, by decide⟩, _, _, rfl, rfl, (by show (0 : Int) < 2; decide), rfl, _, rfl, _, _, rfl, rfl, ⟨by decide, by decide⟩, _, _, rfl, rfl, (by show (0 : Int) < 2; decide), rfl, sz9, fun pg fg => ?_⟩
    refine hx _ _ ?_
    generalize decide (V.int (ns.getD 0 0 % 2) = V.int 1) = w0
    generalize decide (V.int (ns.getD 0 0 / 2 % 2) = V.int 1) = w1
    generalize decide (V.int (ns.getD 0 0 / 4 % 2) = V.int 1) = w2
    have s1 := Same.upd (o := .lst [.bl w0, .bl w1, .bl w2]) fg
    have h1g : (upd H pg (.lst [.bl w0, .bl w1, .bl w2])) pg = some (.lst [.bl w0, .bl w1, .bl w2]) := upd_same
    generalize upd H pg (.lst [.bl w0, .bl w1, .bl w2]) = H1 at s1 h1g ⊢
    -- how many
    obtain ⟨n, hn100, hn, en⟩ := many_at (ns.getD 0 0) w0 (ns.getD 0 0 / 8)
    obtain ⟨z4, e4⟩ := four_at (ns.getD 0 0) (ns.getD 0 0 / 8)
    refine seq_in fun D1 hx => ?_
    refine ⟨_, rfl, _, _, rfl, rfl, ⟨by decide, by decide⟩, _, _, rfl, rfl, (by show (0 : Int) < 30; decide), _, _, rfl, rfl, _, rfl, _, _, rfl, rfl, ⟨by decide, by decide⟩, _, _, rfl, rfl, (by show (0 : Int) < 68; decide), _, _, rfl, rfl, sz9, fun p2 f2 => ?_⟩
    have s2 := Same.upd (o := .lst [V.int 0, V.int 31, V.int (32 + ns.getD 0 0 / 32 % 68), V.int 100]) f2
    refine ⟨_, rfl, _, _, rfl, rfl, ⟨by decide, by decide⟩, _, _, rfl, rfl, (by show (0 : Int) < 4; decide), p2, _, _, _, rfl, rfl, SqL.of upd_same, e4, sz9, fun p3 f3 => ?_⟩
    have s3 := s2.trans (Same.upd (o := .lst [V.int (1 + ns.getD 0 0 / 8 % 30), V.int z4]) f3)
    refine ⟨_, rfl, pg, _, _, _, rfl, rfl, SqL.of (s3 _ _ h1g), rfl, .inr ⟨_, rfl, p3, _, _, _, rfl, rfl, SqL.of upd_same, en z4 e4, ?_⟩⟩
    refine hx _ _ ?_
    generalize upd (upd H1 p2 _) p3 _ = H3 at s3 ⊢
    have s03 := s1.trans s3
    have h3g := s3 _ _ h1g
    clear en e4 s2 f2 f3
    -- the needs
    refine seq_in fun D1 hx => ?_
    refine ⟨_, rfl, a, ns, 1, rfl, s03.seq hS, _, rfl, _, _, n, rfl, by omega, by decide, by decide, fun p4 figs f4 hfl hfig => ?_⟩
    have s4 := Same.upd (o := .lst (figs.map V.int)) f4
    have h4 : (upd H3 p4 (.lst (figs.map V.int))) p4 = some (.lst (figs.map V.int)) := upd_same
    generalize upd H3 p4 (.lst (figs.map V.int)) = H4 at s4 h4 ⊢
    refine ⟨p4, rfl, ⟨_, SqL.of h4⟩, fun pn fn => ?_⟩
    refine comp_list (xs := figs.map V.int) (fun m σ H' => (∃ v, σ = [v]) ∧ Same H4 H' ∧ ∃ needs : List Int, needs.length = m ∧ (∀ i, i < m → 1 ≤ needs.getD i 0 ∧ needs.getD i 0 ≤ 200) ∧ H' pn = some (.lst (needs.map V.int))) ?_ ?_ ?_ ?_
    · exact ⟨⟨none, rfl⟩, Same.upd fn, [], rfl, fun i hi => by omega, upd_same⟩
    · rintro m σ H' _ ⟨_, sx, _⟩
      exact SqL.of (sx _ _ h4)
    · rintro m y σ H5 hy ⟨⟨v, rfl⟩, s5, needs, hl5, hg5, h5n⟩
      obtain ⟨hm, rfl⟩ := getI_some hy
      have hb := hfig _ (getD_mem hm)
      refine compT_one ?_
      refine ⟨_, rfl, _, _, rfl, rfl, ?_⟩
      refine ⟨_, h5n, sz1000 (by rw [List.length_map]; omega), ⟨_, rfl⟩, s5.set fn, needs ++ [1 + figs.getD m 0], by rw [List.length_append, hl5]; rfl, fun i hi => ?_, by rw [upd_same, List.map_append]; rfl⟩
      by_cases e : i < m
      · rw [getD_app (by omega)]; exact hg5 i e
      · obtain rfl : i = m := by omega
        rw [getD_appR (by omega), hl5, Nat.sub_self]
        show 1 ≤ 1 + figs.getD i 0 ∧ 1 + figs.getD i 0 ≤ 200
        omega
    rintro σ0 H5 ⟨_, s5, needs0, hl5, hg5, h5n⟩
    rw [List.length_map, hfl] at hl5 hg5
    refine hx _ _ ?_
    have s05 := s03.trans (s4.trans s5)
    have h5g := s5 _ _ (s4 _ _ h3g)
    have fn0 : H pn = none := s03.free (s4.free fn)
    have npg : pn ≠ pg := Ne.symm (ne_of_none (s4 _ _ h3g) fn)
    clear h4 s4 s5 f4 fn
    -- is a need wrong
    refine seq_cut (fun σ' H' => σ' = [some (.ref a), some (.int (ns.getD 0 0)), some (.ref pg), some (.int (n : Int)), some (.ref pn), none, none, none, none] ∧ H' = upd H5 pg (.lst [.bl w0, .bl (w1 && decide ((0 : Int) < (n : Int))), .bl w2])) (fun nx hnx => ?_) ?_
    · refine ⟨_, rfl, pg, _, _, _, rfl, rfl, SqL.of h5g, rfl, w1, rfl, ?_⟩
      cases w1 with
      | true =>
        refine iteT ?_
        exact ⟨_, rfl, _, _, rfl, rfl, _, rfl, pg, _, _, 1, rfl, rfl, h5g, rfl, hnx _ _ ⟨rfl, rfl⟩⟩
      | false =>
        refine iteF ?_
        exact ⟨_, rfl, pg, _, _, 1, rfl, rfl, h5g, rfl, hnx _ _ ⟨rfl, rfl⟩⟩
    rintro _ _ ⟨rfl, rfl⟩
    have fg0 : H pg = none := fg
    have s06 : Same H (upd H5 pg (.lst [.bl w0, .bl (w1 && decide ((0 : Int) < (n : Int))), .bl w2])) := s05.set fg0
    have h6g : (upd H5 pg (.lst [.bl w0, .bl (w1 && decide ((0 : Int) < (n : Int))), .bl w2])) pg = some (.lst [.bl w0, .bl (w1 && decide ((0 : Int) < (n : Int))), .bl w2]) := upd_same
    have h6n : (upd H5 pg (.lst [.bl w0, .bl (w1 && decide ((0 : Int) < (n : Int))), .bl w2])) pn = some (.lst (needs0.map V.int)) := by rw [upd_ne npg]; exact h5n
    generalize upd H5 pg (.lst [.bl w0, .bl (w1 && decide ((0 : Int) < (n : Int))), .bl w2]) = H6 at s06 h6g h6n ⊢
    have hw1 : (w1 && decide ((0 : Int) < (n : Int))) = true → 0 < n := fun e => by
      have := of_decide_eq_true (Bool.and_eq_true_iff.mp e).2
      omega
    generalize (w1 && decide ((0 : Int) < (n : Int))) = w1' at h6g hw1
    clear s05 h5g h5n s03 s3 h3g
    refine seq_in fun D1 hx => ?_
    refine ⟨_, rfl, a, ns, 2, rfl, s06.seq hS, _, _, rfl, rfl, ⟨by decide, by decide⟩, _, _, rfl, rfl, ⟨by decide, by decide, by decide⟩, _, _, rfl, rfl, (by show (0 : Int) < 10 ^ 30; decide), ?_⟩
    refine hx _ _ ?_
    obtain ⟨far, ef, hfar⟩ : ∃ far : Int, (fun i j : Int => V.int (i % j)) (ns.getD 2 0 / 5) (10 ^ ((30 : Int).toNat)) = V.int far ∧ 0 ≤ far := ⟨_, rfl, Int.emod_nonneg _ (by decide)⟩
    rw [show (fun i j : Int => V.int (i % j)) ((fun i j : Int => i / j) (ns.getD 2 0) 5) (10 ^ ((30 : Int).toNat)) = V.int far from ef]
    refine seq_cut (fun σ' H' => ∃ needs : List Int, σ' = [some (.ref a), some (.int (ns.getD 0 0)), some (.ref pg), some (.int (n : Int)), some (.ref pn), some (.int far), none, none, none] ∧ Same H H' ∧ H' pg = some (.lst [.bl w0, .bl w1', .bl w2]) ∧ H' pn = some (.lst (needs.map V.int)) ∧ needs.length = n ∧ (if w1' = true then ∃ i, i < n ∧ ¬ (1 ≤ needs.getD i 0 ∧ needs.getD i 0 ≤ 200) else ∀ i, i < n → 1 ≤ needs.getD i 0 ∧ needs.getD i 0 ≤ 200)) (fun nx hnx => ?_) ?_
    · refine ⟨_, rfl, pg, _, _, _, rfl, rfl, SqL.of h6g, rfl, w1', rfl, ?_⟩
      cases w1' with
      | false =>
        refine iteF ?_
        exact hnx _ _ ⟨needs0, rfl, s06, h6g, h6n, hl5, hg5⟩
      | true =>
        refine iteT ?_
        have hn0 := hw1 rfl
        obtain ⟨bad, eb, hbad⟩ := bad5_at far (ns.getD 2 0) hfar
        refine ⟨_, rfl, _, rfl, _, rfl, _, _, rfl, rfl, _, rfl, _, _, rfl, rfl, sz9, fun p7 f7 => ?_⟩
        have s7 := Same.upd (o := .lst [V.int 0, V.int (-1), V.int 201, V.int (-1 - far), V.int (201 + far)]) f7
        have s07 := s06.trans s7
        have r0 := Int.emod_nonneg (ns.getD 3 0) (show (n : Int) ≠ 0 by omega)
        have r1 := Int.emod_lt_of_pos (ns.getD 3 0) (show (0 : Int) < (n : Int) by omega)
        refine ⟨_, rfl, a, ns, 2, rfl, s07.seq hS, _, _, rfl, rfl, (by show (0 : Int) < 5; decide), p7, _, _, _, rfl, rfl, SqL.of upd_same, eb, ?_⟩
        obtain ⟨k, ek, hk⟩ : ∃ k : Nat, ns.getD 3 0 % (n : Int) = (k : Int) ∧ k < n := ⟨(ns.getD 3 0 % (n : Int)).toNat, by omega, by omega⟩
        refine ⟨_, rfl, _, rfl, a, ns, 3, rfl, s07.seq hS, _, rfl, _, _, rfl, rfl, (by show (0 : Int) < (n : Int); omega), pn, _, _, k, rfl, rfl, s7 _ _ h6n, (by rw [ek]; exact ixN_nat (by rw [List.length_map]; omega)), ?_⟩
        refine hnx _ _ ⟨needs0.set k bad, rfl, s07.set fn0, by rw [upd_ne (Ne.symm npg)]; exact s7 _ _ h6g, by rw [upd_same, setI], by rw [List.length_set]; exact hl5, k, hk, ?_⟩
        rw [List.getD_eq_getElem?_getD, List.getElem?_set_self (by omega)]
        exact hbad
    rintro _ H7 ⟨needs, rfl, s07, h7g, h7n, hln, hgn⟩
    clear h6g h6n hl5 hg5 s06
    -- the heats
    refine seq_in fun D1 hx => ?_
    refine ⟨_, rfl, pn, rfl, ⟨_, SqL.of h7n⟩, fun ph0 fh0 => ?_⟩
    refine comp_list (xs := needs.map V.int) (fun m σ H' => (∃ v, σ = [v, some (.ref a)]) ∧ Same H7 H' ∧ ∃ hs : List Int, hs.length = m ∧ (∀ i, i < m → 0 ≤ hs.getD i 0 ∧ hs.getD i 0 ≤ (if (0 : Int) < needs.getD i 0 then needs.getD i 0 else 0)) ∧ H' ph0 = some (.lst (hs.map V.int))) ?_ ?_ ?_ ?_
    · exact ⟨⟨none, rfl⟩, Same.upd fh0, [], rfl, fun i hi => by omega, upd_same⟩
    · rintro m σ H' _ ⟨_, sx, _⟩
      exact SqL.of (sx _ _ h7n)
    · rintro m y σ H8 hy ⟨⟨v, rfl⟩, s8, hs, hl8, hg8, h8h⟩
      obtain ⟨hm, rfl⟩ := getI_some hy
      have hp : (0 : Int) < (if (0 : Int) < needs.getD m 0 then needs.getD m 0 else 0) + 1 := by split <;> omega
      refine compT_one ?_
      refine ⟨_, rfl, a, ns, 4, rfl, (s07.trans s8).seq hS, _, rfl, _, _, rfl, _, _, rfl, rfl, _, _, rfl, rfl, hp, ?_⟩
      have r0 := Int.emod_nonneg (ns.getD 4 0) (show (if (0 : Int) < needs.getD m 0 then needs.getD m 0 else 0) + 1 ≠ 0 by omega)
      have r1 := Int.emod_lt_of_pos (ns.getD 4 0) hp
      refine ⟨_, h8h, sz1000 (by rw [List.length_map]; omega), ⟨_, rfl⟩, s8.set fh0, hs ++ [ns.getD 4 0 % ((if (0 : Int) < needs.getD m 0 then needs.getD m 0 else 0) + 1)], by rw [List.length_append, hl8]; rfl, fun i hi => ?_, by rw [upd_same, List.map_append]; rfl⟩
      by_cases e : i < m
      · rw [getD_app (by omega)]; exact hg8 i e
      · obtain rfl : i = m := by omega
        rw [getD_appR (by omega), hl8, Nat.sub_self]
        exact ⟨r0, Int.le_of_lt_add_one r1⟩
    rintro σ0 H8 ⟨_, s8, hs0, hl8, hg8, h8h⟩
    rw [List.length_map] at hl8 hg8
    refine hx _ _ ?_
    have s08 := s07.trans s8
    have h8n := s8 _ _ h7n
    have h8g := s8 _ _ h7g
    refine seq_cut (fun σ' H' => ∃ (ph : Addr) (hs : List Int), σ' = [some (.ref a), some (.int (ns.getD 0 0)), some (.ref pg), some (.int (n : Int)), some (.ref pn), some (.int far), some (.ref ph), none, none] ∧ Same H8 H' ∧ H' ph = some (.lst (hs.map V.int)) ∧ hs.length ≤ 300 ∧ (if w2 = true then ¬ HeatsOk needs hs else hs.length = n ∧ ∀ i, i < n → 0 ≤ hs.getD i 0 ∧ hs.getD i 0 ≤ (if (0 : Int) < needs.getD i 0 then needs.getD i 0 else 0))) (fun nx hnx => ?_) ?_
    · refine ⟨_, rfl, pg, _, _, _, rfl, rfl, SqL.of h8g, rfl, w2, rfl, ?_⟩
      cases w2 with
      | false =>
        refine iteF ?_
        exact hnx _ _ ⟨ph0, hs0, rfl, Same.refl _, h8h, by omega, by show hs0.length = n ∧ _; exact ⟨by omega, fun i hi => hg8 i (by omega)⟩⟩
      | true =>
        refine iteT ?_
        refine ⟨_, rfl, _, rfl, a, ns, 4, rfl, s08.seq hS, pn, needs, _, rfl, SqL.of h8n, by omega, fun H9 l hs s9 fl hl hl9 hO => ?_⟩
        exact hnx _ _ ⟨l, hs, rfl, s9, hl, hl9, hO⟩
    rintro _ H9 ⟨ph, hs, rfl, s9, h9h, hl9, hg9⟩
    have s09 := s08.trans s9
    have h9n := s9 _ _ h8n
    have h9g := s9 _ _ h8g
    clear s08 h8n h8g h8h s8 h7n h7g s07 hg8 hl8
    -- what is handed in
    refine seq_in fun D1 hx => ?_
    refine ⟨_, rfl, pn, _, rfl, .inl (SqL.of h9n), fun d1 f1 => ?_⟩
    have v1 := Same.upd (o := .lst (needs.map V.int)) f1
    have j1 : (upd H9 d1 (.lst (needs.map V.int))) d1 = some (.lst (needs.map V.int)) := upd_same
    generalize upd H9 d1 (.lst (needs.map V.int)) = J1 at v1 j1 ⊢
    refine ⟨_, rfl, ph, _, rfl, .inl (SqL.of (v1 _ _ h9h)), fun d2 f2 => ?_⟩
    have v2 := Same.upd (o := .lst (hs.map V.int)) f2
    have j2 : (upd J1 d2 (.lst (hs.map V.int))) d2 = some (.lst (hs.map V.int)) := upd_same
    generalize upd J1 d2 (.lst (hs.map V.int)) = J2 at v2 j2 ⊢
    refine ⟨sz9, fun pd fd => ?_⟩
    have v3 := Same.upd (o := .lst [.ref d1, .ref d2]) fd
    have j3 : (upd J2 pd (.lst [.ref d1, .ref d2])) pd = some (.lst [.ref d1, .ref d2]) := upd_same
    generalize upd J2 pd (.lst [.ref d1, .ref d2]) = H10 at v3 j3 ⊢
    refine hx _ _ ?_
    have v := (v1.trans v2).trans v3
    have s010 := s09.trans v
    have h10n := v _ _ h9n
    have h10h := v _ _ h9h
    have h10g := v _ _ h9g
    have h10a := v3 _ _ (v2 _ _ j1)
    have h10b := v3 _ _ j2
    have h10d := j3
    clear v1 v2 v3 j1 j2 j3 v f1 f2 fd s9
    -- what is due
    refine seq_in fun D1 hx => ?_
    refine ⟨_, rfl, by decide, by decide, fun pu fu => ?_⟩
    refine comp_range (n := 3) (fun i σ H' => (∃ v, σ = [v, some (.ref pg)]) ∧ Same H10 H' ∧ H' pu = some (.lst (([2, 3, 4].zip [w0, w1', w2]).take i |>.filter (·.2) |>.map fun z : Int × Bool => V.int z.1))) ?_ ?_ ?_
    · exact ⟨⟨none, rfl⟩, Same.upd fu, upd_same⟩
    · rintro i σ H11 hi ⟨⟨v, rfl⟩, s11, h11⟩
      have h11g := s11 _ _ h10g
      clear hgn hg9 hn
      have hi3 : i = 0 ∨ i = 1 ∨ i = 2 := by omega
      rcases hi3 with rfl | rfl | rfl
      · refine ⟨_, rfl, _, rfl, pg, _, _, _, rfl, rfl, SqL.of h11g, rfl, w0, rfl, ?_⟩
        cases w0
        · exact iteF ⟨⟨_, rfl⟩, s11, h11⟩
        · exact iteT ⟨_, rfl, _, _, rfl, rfl, _, h11, sz1000 (by simp), ⟨_, rfl⟩, s11.set fu, upd_same⟩
      · refine ⟨_, rfl, _, rfl, pg, _, _, _, rfl, rfl, SqL.of h11g, rfl, w1', rfl, ?_⟩
        cases w1'
        · cases w0 <;> exact iteF ⟨⟨_, rfl⟩, s11, h11⟩
        · cases w0 <;> exact iteT ⟨_, rfl, _, _, rfl, rfl, _, h11, sz1000 (by simp), ⟨_, rfl⟩, s11.set fu, upd_same⟩
      · refine ⟨_, rfl, _, rfl, pg, _, _, _, rfl, rfl, SqL.of h11g, rfl, w2, rfl, ?_⟩
        cases w2
        · cases w0 <;> cases w1' <;> exact iteF ⟨⟨_, rfl⟩, s11, h11⟩
        · cases w0 <;> cases w1' <;> exact iteT ⟨_, rfl, _, _, rfl, rfl, _, h11, sz1000 (by simp), ⟨_, rfl⟩, s11.set fu, upd_same⟩
    rintro σ0 H11 ⟨_, s11, h11⟩
    refine hx _ _ ?_
    have s011 := s010.trans s11
    have h11n := s11 _ _ h10n
    have h11h := s11 _ _ h10h
    have h11a := s11 _ _ h10a
    have h11b := s11 _ _ h10b
    have h11d := s11 _ _ h10d
    have hT11 : TabOk PT ((("law" : Str) ++ ".<locals>.") ++ "<lambda>") H11 := TabOk.nil (s011 _ _ hT)
    have hl : hs.length ≤ 300 := hl9
    -- which refusal, if any
    obtain ⟨due, h11u, hdue⟩ : ∃ due : List Int, H11 pu = some (.lst (due.map V.int)) ∧ ((due = [] ∧ Beds needs hs ∧ n ≤ 30) ∨ ∃ (j : Nat) (rest : List Int), due = (j : Int) :: rest ∧ ((j = 2 ∧ ¬ (1 ≤ n ∧ n ≤ 30)) ∨ (j = 3 ∧ (1 ≤ n ∧ n ≤ 30) ∧ ∃ i, i < n ∧ ¬ (1 ≤ needs.getD i 0 ∧ needs.getD i 0 ≤ 200)) ∨ (j = 4 ∧ (1 ≤ n ∧ n ≤ 30) ∧ (∀ i, i < n → 1 ≤ needs.getD i 0 ∧ needs.getD i 0 ≤ 200) ∧ ¬ HeatsOk needs hs))) := by
      have mk : ∀ (ws : List (Int × Bool)), (ws.map fun z : Int × Bool => V.int z.1) = (ws.map (·.1)).map V.int := fun ws => by rw [List.map_map]; rfl
      refine ⟨_, h11.trans (by rw [mk]), ?_⟩
      cases w0 with
      | true => exact .inr ⟨2, _, rfl, .inl ⟨rfl, hn⟩⟩
      | false =>
        cases w1' with
        | true => exact .inr ⟨3, _, rfl, .inr (.inl ⟨rfl, hn, hgn⟩)⟩
        | false =>
          cases w2 with
          | true => exact .inr ⟨4, _, rfl, .inr (.inr ⟨rfl, hn, hgn, hg9⟩)⟩
          | false =>
            obtain ⟨n1, n2⟩ : 1 ≤ n ∧ n ≤ 30 := hn
            obtain ⟨g1, g2⟩ : hs.length = n ∧ ∀ i, i < n → 0 ≤ hs.getD i 0 ∧ hs.getD i 0 ≤ (if (0 : Int) < needs.getD i 0 then needs.getD i 0 else 0) := hg9
            have hgn : ∀ i, i < n → 1 ≤ needs.getD i 0 ∧ needs.getD i 0 ≤ 200 := hgn
            refine .inl ⟨rfl, ⟨by omega, by omega, by omega, fun i hi => hgn i (by omega), fun i hi => ?_⟩, n2⟩
            have a1 := hgn i (by omega)
            have a2 := g2 i (by omega)
            rw [if_pos (by omega)] at a2
            exact a2
    clear h11 hn hgn hg9
    have thr : ∀ {nm : Str} {j : Nat} {E' : XK} {Hn : Hp}, mg nm = some (.ref (C j)) → (∀ (H1 : Hp) (xa : Addr), Same Hn H1 → H1 xa = none → E' (.ref (C j)) (some xa) H1) → Thr mg nm E' Hn := fun {nm j E' Hn} hg hE C' xa H' hm s hx => by
      have := hg.symm.trans hm
      cases this
      exact hE H' xa s hx
    have init2 : ∀ {j : Nat} {rest : List Int}, due = (j : Int) :: rest → j < 12 ∧ Refuses K CT C j ∧ ∀ (x : Addr) (Hn : Hp) (Q' : VK) (E' : XK), SqL K Hn d1 (needs.map V.int) → SqL K Hn d2 (hs.map V.int) → (∀ (H1 : Hp) (xa : Addr), Same Hn H1 → H1 xa = none → E' (.ref (C j)) (some xa) H1) → sp_G_initX K mg [.ref x, .ref d1, .ref d2] Hn Q' E' := fun {j rest} e => by
      rcases hdue with ⟨rfl, _⟩ | ⟨j', rest', rfl, hj⟩
      · cases e
      · obtain rfl : j' = j := by have := (List.cons.inj e).1; omega
        rcases hj with ⟨rfl, h1⟩ | ⟨rfl, h1, h2⟩ | ⟨rfl, h1, h2, h3⟩
        · exact ⟨by decide, R2, fun x Hn Q' E' a1 a2 hE => ⟨x, d1, needs, hs, .ref d2, rfl, a1, by omega, .inr ⟨d2, rfl, a2⟩, .inl ⟨by rw [hln]; exact h1, thr XE.g2 hE⟩⟩⟩
        · exact ⟨by decide, R3, fun x Hn Q' E' a1 a2 hE => ⟨x, d1, needs, hs, .ref d2, rfl, a1, by omega, .inr ⟨d2, rfl, a2⟩, .inr (.inl ⟨by rw [hln]; exact h1, by rw [hln]; exact h2, thr XE.g3 hE⟩)⟩⟩
        · exact ⟨by decide, R4, fun x Hn Q' E' a1 a2 hE => ⟨x, d1, needs, hs, .ref d2, rfl, a1, by omega, .inr ⟨d2, rfl, a2⟩, .inr (.inr ⟨by rw [hln]; exact h1, by rw [hln]; exact h2, h3, thr XE.g4 hE⟩)⟩⟩
    have init1 : ∀ {j : Nat} {rest : List Int}, due = (j : Int) :: rest → j < 4 → ∀ (x : Addr) (Hn : Hp) (Q' : VK) (E' : XK), SqL K Hn d1 (needs.map V.int) → (∀ (H1 : Hp) (xa : Addr), Same Hn H1 → H1 xa = none → E' (.ref (C j)) (some xa) H1) → sp_G_initX K mg [.ref x, .ref d1, .non] Hn Q' E' := fun {j rest} e h4 => by
      rcases hdue with ⟨rfl, _⟩ | ⟨j', rest', rfl, hj⟩
      · cases e
      · obtain rfl : j' = j := by have := (List.cons.inj e).1; omega
        rcases hj with ⟨rfl, h1⟩ | ⟨rfl, h1, h2⟩ | ⟨rfl, h1, h2, h3⟩
        · exact fun x Hn Q' E' a1 hE => ⟨x, d1, needs, _, .non, rfl, a1, by omega, .inl ⟨rfl, rfl⟩, .inl ⟨by rw [hln]; exact h1, thr XE.g2 hE⟩⟩
        · exact fun x Hn Q' E' a1 hE => ⟨x, d1, needs, _, .non, rfl, a1, by omega, .inl ⟨rfl, rfl⟩, .inr (.inl ⟨by rw [hln]; exact h1, by rw [hln]; exact h2, thr XE.g3 hE⟩)⟩
        · omega
    have hdue' : (due = [] ∧ Beds needs hs ∧ n ≤ 30) ∨ ∃ (j : Nat) (rest : List Int), due = (j : Int) :: rest := by
      rcases hdue with h | ⟨j, rest, e, _⟩
      · exact .inl h
      · exact .inr ⟨j, rest, e⟩
    clear hdue
    have fresh2 : ∀ {H0 : Hp} {x dx : Addr} {o1 o2 : HO}, H0 x = none → H0 dx = none → Same H0 (upd (upd H0 dx o1) x o2) := fun {H0 x dx o1 o2} fx fdx b o e => by rw [upd_ne (ne_of_none e fx), upd_ne (ne_of_none e fdx)]; exact e
    -- refused
    refine seq_cut (fun σ' H' => σ' = [some (.ref a), some (.int (ns.getD 0 0)), some (.ref pg), some (.int (n : Int)), some (.ref pn), some (.int far), some (.ref ph), some (.ref pd), some (.ref pu)] ∧ SameT H11 H' ∧ TabOk PT ((("law" : Str) ++ ".<locals>.") ++ "<lambda>") H') (fun nx hnx => ?_) ?_
    · refine ⟨_, rfl, sz9, fun pe fe => ?_⟩
      have s12 := Same.upd (o := .lst []) fe
      have h12e : (upd H11 pe (.lst [])) pe = some (.lst []) := upd_same
      generalize upd H11 pe (.lst []) = H12 at s12 h12e ⊢
      refine ⟨pu, pe, _, rfl, rfl, SqL.of (s12 _ _ h11u), SqL.of h12e, _, rfl, ?_⟩
      rcases hdue' with ⟨rfl, _⟩ | ⟨j, rest, rfl⟩
      · refine iteF ?_
        refine iteF ?_
        exact hnx _ _ ⟨rfl, fun b o _ e => s12 _ _ e, hT11.same s12⟩
      · refine iteT ?_
        obtain ⟨hj12, Rj, bad⟩ := init2 rfl
        dsimp only [gName, tIfS, tNot, tB, tCallC, tCons]
        refine tLam_by (hT11.same s12) fun g c' ctv H13 s13 ng hg hc13 hT13 => ?_
        have sT : SameT H11 H13 := fun b o nb e => SameT.of_lam (hT11.same s12) s13 b o nb (s12 _ _ e)
        refine ⟨_, rfl, pu, _, _, _, rfl, rfl, SqL.of (sT.lst h11u), atI_nat (j := 0) rfl, ?_⟩
        intro cs CA
        refine ⟨g, j, rfl, hj12, lamRef_of (N := ["_law_handed"]) (σ := [some (.ref pd)]) (defScope s_law).names rfl rfl rfl (by decide +kernel) (by decide +kernel) (.all fun us hl => match us, hl with | [], _ => rfl) hg hc13 CA.un CA.all rfl ?_ ?_, Rj, fun H14 s14 => ?_⟩
        · intro i y v e1 e2
          match i, e1, e2 with
          | 0, e1, e2 =>
            cases e1; cases e2
            exact ⟨by decide +kernel, CA.val 7 _ _ rfl rfl rfl⟩
          | k + 1, e1, _ => cases e1
        · intro A2 out2 s8 H0 Q' E' hr2 s0 hE
          refine ⟨_, pe_makeX oi_twoX .nil hr2 (pass_at rfl (Heap.get?_none_of_le (Nat.le_refl _))) TG.mgG (pa_cons (pe_ix ix_list (pv 0) pe_int (fun _ _ => rfl)) (pa_cons (pe_ix ix_list (pv 0) pe_int (fun _ _ => rfl)) pa_nil)), ?_⟩
          refine ⟨_, rfl, pd, _, _, _, rfl, rfl, SqL.of (s0 _ _ (sT.lst h11d)), rfl, _, rfl, pd, _, _, _, rfl, rfl, SqL.of (s0 _ _ (sT.lst h11d)), rfl, fun x dx fx fdx nex => ?_⟩
          have sn := fresh2 (o1 := .own x) (o2 := .ins G dx []) fx fdx
          exact bad x _ _ _ (SqL.of (sn _ _ (s0 _ _ (sT.lst h11a)))) (SqL.of (sn _ _ (s0 _ _ (sT.lst h11b)))) fun H1 xa s1 hx => hE H1 xa (sn.trans s1) hx
        have s15 := s14.drop CA.un
        refine ⟨_, rfl, ?_⟩
        refine iteF ?_
        exact hnx _ _ ⟨rfl, fun b o nb e => s15 _ _ (sT b o nb e), hT13.same s15⟩
    rintro _ H12 ⟨rfl, sT12, hT12⟩
    -- or made
    refine seq_cut (fun σ' H' => σ' = [some (.ref a), some (.int (ns.getD 0 0)), some (.ref pg), some (.int (n : Int)), some (.ref pn), some (.int far), some (.ref ph), some (.ref pd), some (.ref pu)] ∧ SameT H11 H' ∧ TabOk PT ((("law" : Str) ++ ".<locals>.") ++ "<lambda>") H') (fun nx hnx => ?_) ?_
    · refine ⟨_, rfl, sz9, fun pe fe => ?_⟩
      have s13 := Same.upd (o := .lst []) fe
      have h13e : (upd H12 pe (.lst [])) pe = some (.lst []) := upd_same
      generalize upd H12 pe (.lst []) = H13 at s13 h13e ⊢
      refine ⟨pu, pe, _, rfl, rfl, SqL.of (s13 _ _ (sT12.lst h11u)), SqL.of h13e, _, rfl, ?_⟩
      have sT13 : SameT H11 H13 := fun b o nb e => s13 _ _ (sT12 b o nb e)
      rcases hdue' with ⟨rfl, B, h30⟩ | ⟨j, rest, rfl⟩
      · refine iteT ?_
        refine ⟨_, rfl, pd, _, _, _, rfl, rfl, SqL.of (sT13.lst h11d), rfl, _, rfl, pd, _, _, _, rfl, rfl, SqL.of (sT13.lst h11d), rfl, ?_⟩
        refine init_of (sT13.lst h11a) (sT13.lst h11b) B (by omega) fun H14 x pk ps s14 fk fs X => ?_
        obtain ⟨dx, _, gx, _⟩ := id X.ex
        refine ⟨x, dx, _, rfl, gx, gN, x, _, _, _, rfl, X.at, rfl, fun H15 l s15 fl hl' => ?_⟩
        have sB := s14.trans s15
        refine ⟨_, rfl, l, ph, hs, rfl, hl', SqL.of (sB _ _ (sT13.lst h11h)), by omega, _, rfl, ?_⟩
        refine iteF ?_
        exact hnx _ _ ⟨rfl, fun b o nb e => sB _ _ (sT13 b o nb e), (hT12.same s13).same sB⟩
      · refine iteF ?_
        refine iteF ?_
        exact hnx _ _ ⟨rfl, sT13, hT12.same s13⟩
    rintro _ H13 ⟨rfl, sT13, hT13⟩
    -- refused without heats too
    refine seq_cut (fun σ' H' => σ' = [some (.ref a), some (.int (ns.getD 0 0)), some (.ref pg), some (.int (n : Int)), some (.ref pn), some (.int far), some (.ref ph), some (.ref pd), some (.ref pu)] ∧ SameT H11 H') (fun nx hnx => ?_) ?_
    · refine ⟨_, rfl, sz9, fun pe fe => ?_⟩
      have s14 := Same.upd (o := .lst []) fe
      have h14e : (upd H13 pe (.lst [])) pe = some (.lst []) := upd_same
      generalize upd H13 pe (.lst []) = H14 at s14 h14e ⊢
      refine ⟨pu, pe, _, rfl, rfl, SqL.of (s14 _ _ (sT13.lst h11u)), SqL.of h14e, _, rfl, ?_⟩
      have sT14 : SameT H11 H14 := fun b o nb e => s14 _ _ (sT13 b o nb e)
      rcases hdue' with ⟨rfl, _⟩ | ⟨j, rest, rfl⟩
      · refine iteF ?_
        refine iteF ?_
        exact hnx _ _ ⟨rfl, sT14⟩
      · refine iteT ?_
        refine ⟨_, rfl, pu, _, _, _, rfl, rfl, SqL.of (sT14.lst h11u), atI_nat (j := 0) rfl, _, _, rfl, rfl, _, rfl, ?_⟩
        refine ite2 (fun h4 => ?_) (fun _ => ?_)
        · have h4 : (j : Int) < 4 := of_decide_eq_true h4
          obtain ⟨hj12, Rj, _⟩ := init2 rfl
          have bad := init1 rfl (by omega)
          dsimp only [gName, tIfS, tNot, tB, tCallC, tCons]
          refine tLam_by (hT13.same s14) fun g c' ctv H15 s15 ng hg hc15 hT15 => ?_
          have sT : SameT H11 H15 := fun b o nb e => SameT.of_lam (hT13.same s14) s15 b o nb (sT14 b o nb e)
          refine ⟨_, rfl, pu, _, _, _, rfl, rfl, SqL.of (sT.lst h11u), atI_nat (j := 0) rfl, ?_⟩
          intro cs CA
          refine ⟨g, j, rfl, hj12, lamRef_of (N := ["_law_handed"]) (σ := [some (.ref pd)]) (defScope s_law).names rfl rfl rfl (by decide +kernel) (by decide +kernel) (.all fun us hl => match us, hl with | [], _ => rfl) hg hc15 CA.un CA.all rfl ?_ ?_, Rj, fun H16 s16 => ?_⟩
          · intro i y v e1 e2
            match i, e1, e2 with
            | 0, e1, e2 =>
              cases e1; cases e2
              exact ⟨by decide +kernel, CA.val 7 _ _ rfl rfl rfl⟩
            | k + 1, e1, _ => cases e1
          · intro A2 out2 s8 H0 Q' E' hr2 s0 hE
            refine ⟨_, pe_makeX oi_oneX vals_non hr2 (pass_at rfl (Heap.get?_none_of_le (Nat.le_refl _))) TG.mgG (pa_cons (pe_ix ix_list (pv 0) pe_int (fun _ _ => rfl)) pa_nil), ?_⟩
            refine ⟨_, rfl, pd, _, _, _, rfl, rfl, SqL.of (s0 _ _ (sT.lst h11d)), rfl, fun x dx fx fdx nex => ?_⟩
            have sn := fresh2 (o1 := .own x) (o2 := .ins G dx []) fx fdx
            exact bad x _ _ _ (SqL.of (sn _ _ (s0 _ _ (sT.lst h11a)))) fun H1 xa s1 hx => hE H1 xa (sn.trans s1) hx
          have s17 := s16.drop CA.un
          refine ⟨_, rfl, ?_⟩
          refine iteF ?_
          exact hnx _ _ ⟨rfl, fun b o nb e => s17 _ _ (sT b o nb e)⟩
        · refine iteF ?_
          exact hnx _ _ ⟨rfl, sT14⟩
    rintro _ H14 ⟨rfl, sT14⟩
    refine seq_in fun D1 hx => ?_
    refine ⟨_, rfl, _, rfl, ?_⟩
    refine iteF ?_
    refine ⟨_, rfl, _, rfl, ?_⟩
    refine iteF ?_
    refine hx _ _ ?_
    refine ⟨_, rfl, _, rfl, _, rfl, sz9, fun pf ff => ?_⟩
    have sf := Same.upd (o := .lst [.ref pn, .ref ph]) ff
    refine ⟨pd, pf, [d1, d2], [pn, ph], [needs, hs], rfl, rfl, SqL.of (sf _ _ (sT14.lst h11d)), SqL.of upd_same, rfl, rfl, fun i r e => ?_, true, rfl, ?_⟩
    · match i, e with
      | 0, e => cases e; exact ⟨d1, pn, rfl, rfl, SqL.of (sf _ _ (sT14.lst h11a)), SqL.of (sf _ _ (sT14.lst h11n))⟩
      | 1, e => cases e; exact ⟨d2, ph, rfl, rfl, SqL.of (sf _ _ (sT14.lst h11b)), SqL.of (sf _ _ (sT14.lst h11h))⟩
      | k + 2, e => simp at e
    refine iteT ?_
    refine ⟨rfl, true, rfl, ?_⟩
    refine iteT ?_
    exact ⟨rfl, q _⟩
end
theorem len1 {fd : FuncData} {ps : List Str} {us : List Value} (hl : us.length = 1) (h : ∀ a, bindArgs fd ⟨[a], []⟩ = pure (ps.zip [a])) : bindArgs fd ⟨us, []⟩ = pure (ps.zip us) := match us, hl with | [a], _ => h a
theorem len2 {fd : FuncData} {ps : List Str} {us : List Value} (hl : us.length = 2) (h : ∀ a b, bindArgs fd ⟨[a, b], []⟩ = pure (ps.zip [a, b])) : bindArgs fd ⟨us, []⟩ = pure (ps.zip us) := match us, hl with | [a, b], _ => h a b
theorem len3 {fd : FuncData} {ps : List Str} {us : List Value} (hl : us.length = 3) (h : ∀ a b c, bindArgs fd ⟨[a, b, c], []⟩ = pure (ps.zip [a, b, c])) : bindArgs fd ⟨us, []⟩ = pure (ps.zip us) := match us, hl with | [a, b, c], _ => h a b c
theorem len4 {fd : FuncData} {ps : List Str} {us : List Value} (hl : us.length = 4) (h : ∀ a b c d, bindArgs fd ⟨[a, b, c, d], []⟩ = pure (ps.zip [a, b, c, d])) : bindArgs fd ⟨us, []⟩ = pure (ps.zip us) := match us, hl with | [a, b, c, d], _ => h a b c d
theorem len5 {fd : FuncData} {ps : List Str} {us : List Value} (hl : us.length = 5) (h : ∀ a b c d e, bindArgs fd ⟨[a, b, c, d, e], []⟩ = pure (ps.zip [a, b, c, d, e])) : bindArgs fd ⟨us, []⟩ = pure (ps.zip us) := match us, hl with | [a, b, c, d, e], _ => h a b c d e
theorem len6 {fd : FuncData} {ps : List Str} {us : List Value} (hl : us.length = 6) (h : ∀ a b c d e f, bindArgs fd ⟨[a, b, c, d, e, f], []⟩ = pure (ps.zip [a, b, c, d, e, f])) : bindArgs fd ⟨us, []⟩ = pure (ps.zip us) := match us, hl with | [a, b, c, d, e, f], _ => h a b c d e f
theorem all_mk {l : W.OpenLaw} {w : World} {K : W.Frag} {h : Heap} {mg : Str → Option Value} {fa c PT CT G tD f_x13 f_x10 f_x7 f_x12 f_x8 f_x9 f_x3 f_x4 f_x1 f_x5 f_x2 f_x0 f_x6 f_law e_0 e_1 e_2 e_3 e_4 e_5 e_6 e_7 e_8 e_9 e_10 e_11 : Addr} {cdT cd_0 cd_1 cd_2 cd_3 cd_4 cd_5 cd_6 cd_7 cd_8 cd_9 cd_10 cd_11 : ClassData} {oD : Obj} {nD : Nat} (X : K.In h) (GX : h.Ns mainGlobals mg) (hfa : mg "law" = some (.ref fa))
    {od_x13 an_x13 od_x10 an_x10 od_x7 an_x7 od_x12 an_x12 od_x8 an_x8 od_x9 an_x9 od_x3 an_x3 od_x4 an_x4 od_x1 an_x1 od_x5 an_x5 od_x2 an_x2 od_x0 an_x0 od_x6 an_x6 od_law an_law : Option Addr} {sl_x13 sl_x10 sl_x7 sl_x12 sl_x8 sl_x9 sl_x3 sl_x4 sl_x1 sl_x5 sl_x2 sl_x0 sl_x6 sl_law : Array (Option Value)} {oc_x13 kV_x13 dc_x13 pm_x13 ct_x13 cv_x13 oc_x10 kV_x10 dc_x10 pm_x10 ct_x10 cv_x10 oc_x7 kV_x7 dc_x7 pm_x7 ct_x7 cv_x7 oc_x12 kV_x12 dc_x12 pm_x12 ct_x12 cv_x12 oc_x8 kV_x8 dc_x8 pm_x8 ct_x8 cv_x8 oc_x9 kV_x9 dc_x9 pm_x9 ct_x9 cv_x9 oc_x3 kV_x3 dc_x3 pm_x3 ct_x3 cv_x3 oc_x4 kV_x4 dc_x4 pm_x4 ct_x4 cv_x4 oc_x1 kV_x1 dc_x1 pm_x1 ct_x1 cv_x1 oc_x5 kV_x5 dc_x5 pm_x5 ct_x5 cv_x5 oc_x2 kV_x2 dc_x2 pm_x2 ct_x2 cv_x2 oc_x0 kV_x0 dc_x0 pm_x0 ct_x0 cv_x0 oc_x6 kV_x6 dc_x6 pm_x6 ct_x6 cv_x6 oc_law kV_law dc_law pm_law ct_law : Value}
    {t_MOST_BEDS t_MOST_NEED : Tok}
    (aG : W.nsIn K mainGlobals "Ground" = some (some (.ref G)))
    (a_x13 : W.nsIn K mainGlobals "_law_at" = some (some (.ref f_x13))) (l_x13 : K.lookup f_x13 = some ⟨oc_x13, od_x13, .func (W.fnOf "_law_at" "_law_at" (defArgs s_at) (defBody s_at) (defScope s_at) .none kV_x13 dc_x13 pm_x13 an_x13 cv_x13 ct_x13), sl_x13⟩) (c_x13 : W.codeIn K cv_x13 "_law_at" = true) (k_x13 : W.keepIn K (.ref f_x13) = true)
    (a_x10 : W.nsIn K mainGlobals "_law_whole" = some (some (.ref f_x10))) (l_x10 : K.lookup f_x10 = some ⟨oc_x10, od_x10, .func (W.fnOf "_law_whole" "_law_whole" (defArgs s_whole) (defBody s_whole) (defScope s_whole) .none kV_x10 dc_x10 pm_x10 an_x10 cv_x10 ct_x10), sl_x10⟩) (c_x10 : W.codeIn K cv_x10 "_law_whole" = true) (k_x10 : W.keepIn K (.ref f_x10) = true)
    (a_x7 : W.nsIn K mainGlobals "_law_numbers" = some (some (.ref f_x7))) (l_x7 : K.lookup f_x7 = some ⟨oc_x7, od_x7, .func (W.fnOf "_law_numbers" "_law_numbers" (defArgs s_numbers) (defBody s_numbers) (defScope s_numbers) .none kV_x7 dc_x7 pm_x7 an_x7 cv_x7 ct_x7), sl_x7⟩) (c_x7 : W.codeIn K cv_x7 "_law_numbers" = true) (k_x7 : W.keepIn K (.ref f_x7) = true)
    (a_x12 : W.nsIn K mainGlobals "_law_row" = some (some (.ref f_x12))) (l_x12 : K.lookup f_x12 = some ⟨oc_x12, od_x12, .func (W.fnOf "_law_row" "_law_row" (defArgs s_row) (defBody s_row) (defScope s_row) .none kV_x12 dc_x12 pm_x12 an_x12 cv_x12 ct_x12), sl_x12⟩) (c_x12 : W.codeIn K cv_x12 "_law_row" = true) (k_x12 : W.keepIn K (.ref f_x12) = true)
    (a_x8 : W.nsIn K mainGlobals "_law_refusal" = some (some (.ref f_x8))) (l_x8 : K.lookup f_x8 = some ⟨oc_x8, od_x8, .func (W.fnOf "_law_refusal" "_law_refusal" (defArgs s_refusal) (defBody s_refusal) (defScope s_refusal) .none kV_x8 dc_x8 pm_x8 an_x8 cv_x8 ct_x8), sl_x8⟩) (c_x8 : W.codeIn K cv_x8 "_law_refusal" = true) (k_x8 : W.keepIn K (.ref f_x8) = true)
    (a_x9 : W.nsIn K mainGlobals "_law_heats" = some (some (.ref f_x9))) (l_x9 : K.lookup f_x9 = some ⟨oc_x9, od_x9, .func (W.fnOf "_law_heats" "_law_heats" (defArgs s_heats) (defBody s_heats) (defScope s_heats) .none kV_x9 dc_x9 pm_x9 an_x9 cv_x9 ct_x9), sl_x9⟩) (c_x9 : W.codeIn K cv_x9 "_law_heats" = true) (k_x9 : W.keepIn K (.ref f_x9) = true)
    (a_x3 : W.nsIn K mainGlobals "check_beds" = some (some (.ref f_x3))) (l_x3 : K.lookup f_x3 = some ⟨oc_x3, od_x3, .func (W.fnOf "check_beds" "check_beds" (defArgs s_check_beds) (defBody s_check_beds) (defScope s_check_beds) .none kV_x3 dc_x3 pm_x3 an_x3 cv_x3 ct_x3), sl_x3⟩) (c_x3 : W.codeIn K cv_x3 "check_beds" = true) (k_x3 : W.keepIn K (.ref f_x3) = true)
    (a_x4 : W.nsIn K mainGlobals "check_need" = some (some (.ref f_x4))) (l_x4 : K.lookup f_x4 = some ⟨oc_x4, od_x4, .func (W.fnOf "check_need" "check_need" (defArgs s_check_need) (defBody s_check_need) (defScope s_check_need) .none kV_x4 dc_x4 pm_x4 an_x4 cv_x4 ct_x4), sl_x4⟩) (c_x4 : W.codeIn K cv_x4 "check_need" = true) (k_x4 : W.keepIn K (.ref f_x4) = true)
    (a_x1 : W.nsIn K mainGlobals "check_heats" = some (some (.ref f_x1))) (l_x1 : K.lookup f_x1 = some ⟨oc_x1, od_x1, .func (W.fnOf "check_heats" "check_heats" (defArgs s_check_heats) (defBody s_check_heats) (defScope s_check_heats) .none kV_x1 dc_x1 pm_x1 an_x1 cv_x1 ct_x1), sl_x1⟩) (c_x1 : W.codeIn K cv_x1 "check_heats" = true) (k_x1 : W.keepIn K (.ref f_x1) = true)
    (a_x5 : W.nsIn K mainGlobals "stage_of" = some (some (.ref f_x5))) (l_x5 : K.lookup f_x5 = some ⟨oc_x5, od_x5, .func (W.fnOf "stage_of" "stage_of" (defArgs s_stage_of) (defBody s_stage_of) (defScope s_stage_of) .none kV_x5 dc_x5 pm_x5 an_x5 cv_x5 ct_x5), sl_x5⟩) (c_x5 : W.codeIn K cv_x5 "stage_of" = true) (k_x5 : W.keepIn K (.ref f_x5) = true)
    (a_x2 : W.findIn K (.ref G) "__init__" = some (some (.ref f_x2))) (i_x2 : W.isFn K (.ref f_x2) = true) (l_x2 : K.lookup f_x2 = some ⟨oc_x2, od_x2, .func (W.fnOf "__init__" "Ground.__init__" (defArgs s_G___init__) (defBody s_G___init__) (defScope s_G___init__) (.ref tD) kV_x2 dc_x2 pm_x2 an_x2 cv_x2 ct_x2), sl_x2⟩) (c_x2 : W.codeIn K cv_x2 "Ground.__init__" = true) (k_x2 : W.keepIn K (.ref f_x2) = true)
    (a_x0 : W.findIn K (.ref G) "last_stage" = some (some (.ref f_x0))) (i_x0 : W.isFn K (.ref f_x0) = true) (l_x0 : K.lookup f_x0 = some ⟨oc_x0, od_x0, .func (W.fnOf "last_stage" "Ground.last_stage" (defArgs s_G_last_stage) (defBody s_G_last_stage) (defScope s_G_last_stage) .none kV_x0 dc_x0 pm_x0 an_x0 cv_x0 ct_x0), sl_x0⟩) (c_x0 : W.codeIn K cv_x0 "Ground.last_stage" = true) (k_x0 : W.keepIn K (.ref f_x0) = true)
    (a_x6 : W.findIn K (.ref G) "heats" = some (some (.ref f_x6))) (i_x6 : W.isFn K (.ref f_x6) = true) (l_x6 : K.lookup f_x6 = some ⟨oc_x6, od_x6, .func (W.fnOf "heats" "Ground.heats" (defArgs s_G_heats) (defBody s_G_heats) (defScope s_G_heats) .none kV_x6 dc_x6 pm_x6 an_x6 cv_x6 ct_x6), sl_x6⟩) (c_x6 : W.codeIn K cv_x6 "Ground.heats" = true) (k_x6 : W.keepIn K (.ref f_x6) = true)
    (a_law : W.nsIn K mainGlobals "law" = some (some (.ref f_law))) (l_law : K.lookup f_law = some ⟨oc_law, od_law, .func (W.fnOf "law" "law" (defArgs s_law) (defBody s_law) (defScope s_law) .none kV_law dc_law pm_law an_law (.ref c) ct_law), sl_law⟩) (c_law : W.codeIn K (.ref c) "law" = true) (k_law : W.keepIn K (.ref f_law) = true)
    (lD : K.lookup tD = some oD)
    (sD : oD.data = .seq #[.none] nD)
    (z_ValueError : W.nsIn K mainGlobals "ValueError" = some none)
    (z_bool : W.nsIn K mainGlobals "bool" = some none)
    (z_int : W.nsIn K mainGlobals "int" = some none)
    (z_isinstance : W.nsIn K mainGlobals "isinstance" = some none)
    (z_len : W.nsIn K mainGlobals "len" = some none)
    (z_list : W.nsIn K mainGlobals "list" = some none)
    (z_max : W.nsIn K mainGlobals "max" = some none)
    (z_range : W.nsIn K mainGlobals "range" = some none)
    (z_zip : W.nsIn K mainGlobals "zip" = some none)
    (g_MOST_BEDS : W.nsIn K mainGlobals "MOST_BEDS" = some (some (.int 30 t_MOST_BEDS)))
    (g_MOST_NEED : W.nsIn K mainGlobals "MOST_NEED" = some (some (.int 200 t_MOST_NEED)))
    (pg : W.plainGet K G Str.empty = true) (hd : W.hasDictIn K G = true) (po : W.plainOver K G = true) (sa : W.findIn K (.ref G) "__setattr__" = some (some (.builtin "object.__setattr__"))) (mk : W.makesIn K G = true) (kc : W.keepIn K (.ref G) = true) (nK : W.findIn K (.ref G) "kept" = some none) (nS : W.findIn K (.ref G) "stages" = some none)
    (aT : W.nsIn K mainGlobals "ThawError" = some (some (.ref CT))) (bT : W.subIn K (.ref CT) (.type "BaseException") = some true) (cT : W.clsIn K CT = some cdT) (tT : W.typeIn K (.ref CT) = some (.type "type"))
    (aE0 : W.nsIn K mainGlobals "UnknownBed" = some (some (.ref e_0))) (cE0 : W.clsIn K e_0 = some cd_0) (tE0 : W.typeIn K (.ref e_0) = some (.type "type"))
    (aE1 : W.nsIn K mainGlobals "UnknownDeed" = some (some (.ref e_1))) (cE1 : W.clsIn K e_1 = some cd_1) (tE1 : W.typeIn K (.ref e_1) = some (.type "type"))
    (aE2 : W.nsIn K mainGlobals "BadBeds" = some (some (.ref e_2))) (cE2 : W.clsIn K e_2 = some cd_2) (tE2 : W.typeIn K (.ref e_2) = some (.type "type"))
    (aE3 : W.nsIn K mainGlobals "BadNeed" = some (some (.ref e_3))) (cE3 : W.clsIn K e_3 = some cd_3) (tE3 : W.typeIn K (.ref e_3) = some (.type "type"))
    (aE4 : W.nsIn K mainGlobals "BadHeat" = some (some (.ref e_4))) (cE4 : W.clsIn K e_4 = some cd_4) (tE4 : W.typeIn K (.ref e_4) = some (.type "type"))
    (aE5 : W.nsIn K mainGlobals "BadYear" = some (some (.ref e_5))) (cE5 : W.clsIn K e_5 = some cd_5) (tE5 : W.typeIn K (.ref e_5) = some (.type "type"))
    (aE6 : W.nsIn K mainGlobals "BadAmount" = some (some (.ref e_6))) (cE6 : W.clsIn K e_6 = some cd_6) (tE6 : W.typeIn K (.ref e_6) = some (.type "type"))
    (aE7 : W.nsIn K mainGlobals "BadTimes" = some (some (.ref e_7))) (cE7 : W.clsIn K e_7 = some cd_7) (tE7 : W.typeIn K (.ref e_7) = some (.type "type"))
    (aE8 : W.nsIn K mainGlobals "UnknownSeason" = some (some (.ref e_8))) (cE8 : W.clsIn K e_8 = some cd_8) (tE8 : W.typeIn K (.ref e_8) = some (.type "type"))
    (aE9 : W.nsIn K mainGlobals "TooManyLaid" = some (some (.ref e_9))) (cE9 : W.clsIn K e_9 = some cd_9) (tE9 : W.typeIn K (.ref e_9) = some (.type "type"))
    (aE10 : W.nsIn K mainGlobals "TooManyDeeds" = some (some (.ref e_10))) (cE10 : W.clsIn K e_10 = some cd_10) (tE10 : W.typeIn K (.ref e_10) = some (.type "type"))
    (aE11 : W.nsIn K mainGlobals "NothingDone" = some (some (.ref e_11))) (cE11 : W.clsIn K e_11 = some cd_11) (tE11 : W.typeIn K (.ref e_11) = some (.type "type"))
    (xE2 : W.excIn K e_2 [.type "ValueError", .type "Exception", .type "BaseException", .type "object"] "ValueError.__new__" = true)
    (xE3 : W.excIn K e_3 [.type "ValueError", .type "Exception", .type "BaseException", .type "object"] "ValueError.__new__" = true)
    (xE4 : W.excIn K e_4 [.type "ValueError", .type "Exception", .type "BaseException", .type "object"] "ValueError.__new__" = true)
    (r2g : W.findIn K (.ref e_2) "__getattribute__" = some (some (.builtin "BaseException.__getattribute__"))) (r2n : W.findIn K (.ref e_2) "__getattr__" = some none) (r2c : W.findIn K (.ref e_2) "__class__" = some (some (.builtin "object.__class__"))) (r2b : W.mroIn K e_2 (.type "BaseException") = some true) (r2o : W.mroIn K e_2 (.type "object") = some true) (r2t : W.subIn K (.ref e_2) (.ref CT) = some true) (r2v : W.subIn K (.ref e_2) (.type "ValueError") = some true)
    (s2_0 : W.subIn K (.ref e_2) (.ref e_0) = some false) (n2_0 : (e_2 == e_0) = false)
    (s2_1 : W.subIn K (.ref e_2) (.ref e_1) = some false) (n2_1 : (e_2 == e_1) = false)
    (s2_3 : W.subIn K (.ref e_2) (.ref e_3) = some false) (n2_3 : (e_2 == e_3) = false)
    (s2_4 : W.subIn K (.ref e_2) (.ref e_4) = some false) (n2_4 : (e_2 == e_4) = false)
    (s2_5 : W.subIn K (.ref e_2) (.ref e_5) = some false) (n2_5 : (e_2 == e_5) = false)
    (s2_6 : W.subIn K (.ref e_2) (.ref e_6) = some false) (n2_6 : (e_2 == e_6) = false)
    (s2_7 : W.subIn K (.ref e_2) (.ref e_7) = some false) (n2_7 : (e_2 == e_7) = false)
    (s2_8 : W.subIn K (.ref e_2) (.ref e_8) = some false) (n2_8 : (e_2 == e_8) = false)
    (s2_9 : W.subIn K (.ref e_2) (.ref e_9) = some false) (n2_9 : (e_2 == e_9) = false)
    (s2_10 : W.subIn K (.ref e_2) (.ref e_10) = some false) (n2_10 : (e_2 == e_10) = false)
    (s2_11 : W.subIn K (.ref e_2) (.ref e_11) = some false) (n2_11 : (e_2 == e_11) = false)
    (r3g : W.findIn K (.ref e_3) "__getattribute__" = some (some (.builtin "BaseException.__getattribute__"))) (r3n : W.findIn K (.ref e_3) "__getattr__" = some none) (r3c : W.findIn K (.ref e_3) "__class__" = some (some (.builtin "object.__class__"))) (r3b : W.mroIn K e_3 (.type "BaseException") = some true) (r3o : W.mroIn K e_3 (.type "object") = some true) (r3t : W.subIn K (.ref e_3) (.ref CT) = some true) (r3v : W.subIn K (.ref e_3) (.type "ValueError") = some true)
    (s3_0 : W.subIn K (.ref e_3) (.ref e_0) = some false) (n3_0 : (e_3 == e_0) = false)
    (s3_1 : W.subIn K (.ref e_3) (.ref e_1) = some false) (n3_1 : (e_3 == e_1) = false)
    (s3_2 : W.subIn K (.ref e_3) (.ref e_2) = some false) (n3_2 : (e_3 == e_2) = false)
    (s3_4 : W.subIn K (.ref e_3) (.ref e_4) = some false) (n3_4 : (e_3 == e_4) = false)
    (s3_5 : W.subIn K (.ref e_3) (.ref e_5) = some false) (n3_5 : (e_3 == e_5) = false)
    (s3_6 : W.subIn K (.ref e_3) (.ref e_6) = some false) (n3_6 : (e_3 == e_6) = false)
    (s3_7 : W.subIn K (.ref e_3) (.ref e_7) = some false) (n3_7 : (e_3 == e_7) = false)
    (s3_8 : W.subIn K (.ref e_3) (.ref e_8) = some false) (n3_8 : (e_3 == e_8) = false)
    (s3_9 : W.subIn K (.ref e_3) (.ref e_9) = some false) (n3_9 : (e_3 == e_9) = false)
    (s3_10 : W.subIn K (.ref e_3) (.ref e_10) = some false) (n3_10 : (e_3 == e_10) = false)
    (s3_11 : W.subIn K (.ref e_3) (.ref e_11) = some false) (n3_11 : (e_3 == e_11) = false)
    (r4g : W.findIn K (.ref e_4) "__getattribute__" = some (some (.builtin "BaseException.__getattribute__"))) (r4n : W.findIn K (.ref e_4) "__getattr__" = some none) (r4c : W.findIn K (.ref e_4) "__class__" = some (some (.builtin "object.__class__"))) (r4b : W.mroIn K e_4 (.type "BaseException") = some true) (r4o : W.mroIn K e_4 (.type "object") = some true) (r4t : W.subIn K (.ref e_4) (.ref CT) = some true) (r4v : W.subIn K (.ref e_4) (.type "ValueError") = some true)
    (s4_0 : W.subIn K (.ref e_4) (.ref e_0) = some false) (n4_0 : (e_4 == e_0) = false)
    (s4_1 : W.subIn K (.ref e_4) (.ref e_1) = some false) (n4_1 : (e_4 == e_1) = false)
    (s4_2 : W.subIn K (.ref e_4) (.ref e_2) = some false) (n4_2 : (e_4 == e_2) = false)
    (s4_3 : W.subIn K (.ref e_4) (.ref e_3) = some false) (n4_3 : (e_4 == e_3) = false)
    (s4_5 : W.subIn K (.ref e_4) (.ref e_5) = some false) (n4_5 : (e_4 == e_5) = false)
    (s4_6 : W.subIn K (.ref e_4) (.ref e_6) = some false) (n4_6 : (e_4 == e_6) = false)
    (s4_7 : W.subIn K (.ref e_4) (.ref e_7) = some false) (n4_7 : (e_4 == e_7) = false)
    (s4_8 : W.subIn K (.ref e_4) (.ref e_8) = some false) (n4_8 : (e_4 == e_8) = false)
    (s4_9 : W.subIn K (.ref e_4) (.ref e_9) = some false) (n4_9 : (e_4 == e_9) = false)
    (s4_10 : W.subIn K (.ref e_4) (.ref e_10) = some false) (n4_10 : (e_4 == e_10) = false)
    (s4_11 : W.subIn K (.ref e_4) (.ref e_11) = some false) (n4_11 : (e_4 == e_11) = false)
    : ∃ fd : FuncData, (∀ (s : Shared) (v : Value), BindsTo s fd ⟨[v], []⟩ [("_law_script", v)]) ∧ ∀ base : Heap, K.In base → base.Ns mainGlobals mg → W.CodeHd base c PT → base.BuiltinsAt mg PT → FnOk l.prog w K mg base (CX1 l.prog w) 16 fa fd ["_law_script"] (sp_law K PT) := by
  have e := hfa.symm.trans (W.mg_of X GX a_law)
  cases e
  have T : Txt K mg := ⟨W.mg_none_of X GX z_ValueError, W.mg_none_of X GX z_bool, W.mg_none_of X GX z_int, W.mg_none_of X GX z_isinstance, W.mg_none_of X GX z_len, W.mg_none_of X GX z_list, W.mg_none_of X GX z_max, W.mg_none_of X GX z_range, W.mg_none_of X GX z_zip, ⟨_, W.mg_of X GX g_MOST_BEDS⟩, ⟨_, W.mg_of X GX g_MOST_NEED⟩⟩
  have TG : GCls K mg G := ⟨⟨pg, hd, po, sa⟩, nK, nS, W.mg_of X GX aG⟩
  have XE : Errs mg CT (fun i => [e_0, e_1, e_2, e_3, e_4, e_5, e_6, e_7, e_8, e_9, e_10, e_11].getD i 0) := ⟨W.mg_of X GX aT, W.mg_of X GX aE0, W.mg_of X GX aE1, W.mg_of X GX aE2, W.mg_of X GX aE3, W.mg_of X GX aE4, W.mg_of X GX aE5, W.mg_of X GX aE6, W.mg_of X GX aE7, W.mg_of X GX aE8, W.mg_of X GX aE9, W.mg_of X GX aE10, W.mg_of X GX aE11⟩
  have XU_BadBeds : Exc K mg "BadBeds" e_2 := ⟨W.mg_of X GX aE2, xE2⟩
  have XU_BadNeed : Exc K mg "BadNeed" e_3 := ⟨W.mg_of X GX aE3, xE3⟩
  have XU_BadHeat : Exc K mg "BadHeat" e_4 := ⟨W.mg_of X GX aE4, xE4⟩
  have R2 : Refuses K CT (fun i => [e_0, e_1, e_2, e_3, e_4, e_5, e_6, e_7, e_8, e_9, e_10, e_11].getD i 0) 2 := ⟨⟨by show (W.clsIn K e_2).isSome = true; rw [cE2]; rfl, r2g, r2n, r2c, r2b, r2o⟩, exm_of bT cT tT r2t, fun i hi => match i, hi with | 0, _ => kit_no n2_0 cE0 tE0 s2_0 | 1, _ => kit_no n2_1 cE1 tE1 s2_1 | 2, _ => kit_self | 3, _ => kit_no n2_3 cE3 tE3 s2_3 | 4, _ => kit_no n2_4 cE4 tE4 s2_4 | 5, _ => kit_no n2_5 cE5 tE5 s2_5 | 6, _ => kit_no n2_6 cE6 tE6 s2_6 | 7, _ => kit_no n2_7 cE7 tE7 s2_7 | 8, _ => kit_no n2_8 cE8 tE8 s2_8 | 9, _ => kit_no n2_9 cE9 tE9 s2_9 | 10, _ => kit_no n2_10 cE10 tE10 s2_10 | 11, _ => kit_no n2_11 cE11 tE11 s2_11 | k + 12, hi => absurd hi (by omega), kit_ve r2v⟩
  have R3 : Refuses K CT (fun i => [e_0, e_1, e_2, e_3, e_4, e_5, e_6, e_7, e_8, e_9, e_10, e_11].getD i 0) 3 := ⟨⟨by show (W.clsIn K e_3).isSome = true; rw [cE3]; rfl, r3g, r3n, r3c, r3b, r3o⟩, exm_of bT cT tT r3t, fun i hi => match i, hi with | 0, _ => kit_no n3_0 cE0 tE0 s3_0 | 1, _ => kit_no n3_1 cE1 tE1 s3_1 | 2, _ => kit_no n3_2 cE2 tE2 s3_2 | 3, _ => kit_self | 4, _ => kit_no n3_4 cE4 tE4 s3_4 | 5, _ => kit_no n3_5 cE5 tE5 s3_5 | 6, _ => kit_no n3_6 cE6 tE6 s3_6 | 7, _ => kit_no n3_7 cE7 tE7 s3_7 | 8, _ => kit_no n3_8 cE8 tE8 s3_8 | 9, _ => kit_no n3_9 cE9 tE9 s3_9 | 10, _ => kit_no n3_10 cE10 tE10 s3_10 | 11, _ => kit_no n3_11 cE11 tE11 s3_11 | k + 12, hi => absurd hi (by omega), kit_ve r3v⟩
  have R4 : Refuses K CT (fun i => [e_0, e_1, e_2, e_3, e_4, e_5, e_6, e_7, e_8, e_9, e_10, e_11].getD i 0) 4 := ⟨⟨by show (W.clsIn K e_4).isSome = true; rw [cE4]; rfl, r4g, r4n, r4c, r4b, r4o⟩, exm_of bT cT tT r4t, fun i hi => match i, hi with | 0, _ => kit_no n4_0 cE0 tE0 s4_0 | 1, _ => kit_no n4_1 cE1 tE1 s4_1 | 2, _ => kit_no n4_2 cE2 tE2 s4_2 | 3, _ => kit_no n4_3 cE3 tE3 s4_3 | 4, _ => kit_self | 5, _ => kit_no n4_5 cE5 tE5 s4_5 | 6, _ => kit_no n4_6 cE6 tE6 s4_6 | 7, _ => kit_no n4_7 cE7 tE7 s4_7 | 8, _ => kit_no n4_8 cE8 tE8 s4_8 | 9, _ => kit_no n4_9 cE9 tE9 s4_9 | 10, _ => kit_no n4_10 cE10 tE10 s4_10 | 11, _ => kit_no n4_11 cE11 tE11 s4_11 | k + 12, hi => absurd hi (by omega), kit_ve r4v⟩
  have F_x13 := fun_mk (st := s_at) l_x13 c_x13 k_x13
  have b_x13 := F_x13.binds (ps := P_at) fun _ _ _ _ _ _ us hl => len2 hl fun _ _ => rfl
  have F_x10 := fun_mk (st := s_whole) l_x10 c_x10 k_x10
  have b_x10 := F_x10.binds (ps := P_whole) fun _ _ _ _ _ _ us hl => len1 hl fun _ => rfl
  have F_x7 := fun_mk (st := s_numbers) l_x7 c_x7 k_x7
  have b_x7 := F_x7.binds (ps := P_numbers) fun _ _ _ _ _ _ us hl => len2 hl fun _ _ => rfl
  have F_x12 := fun_mk (st := s_row) l_x12 c_x12 k_x12
  have b_x12 := F_x12.binds (ps := P_row) fun _ _ _ _ _ _ us hl => len3 hl fun _ _ _ => rfl
  have F_x8 := fun_mk (st := s_refusal) l_x8 c_x8 k_x8
  have b_x8 := F_x8.binds (ps := P_refusal) fun _ _ _ _ _ _ us hl => len2 hl fun _ _ => rfl
  have F_x9 := fun_mk (st := s_heats) l_x9 c_x9 k_x9
  have b_x9 := F_x9.binds (ps := P_heats) fun _ _ _ _ _ _ us hl => len2 hl fun _ _ => rfl
  have F_x3 := fun_mk (st := s_check_beds) l_x3 c_x3 k_x3
  have b_x3 := F_x3.binds (ps := P_check_beds) fun _ _ _ _ _ _ us hl => len1 hl fun _ => rfl
  have F_x4 := fun_mk (st := s_check_need) l_x4 c_x4 k_x4
  have b_x4 := F_x4.binds (ps := P_check_need) fun _ _ _ _ _ _ us hl => len1 hl fun _ => rfl
  have F_x1 := fun_mk (st := s_check_heats) l_x1 c_x1 k_x1
  have b_x1 := F_x1.binds (ps := P_check_heats) fun _ _ _ _ _ _ us hl => len2 hl fun _ _ => rfl
  have F_x5 := fun_mk (st := s_stage_of) l_x5 c_x5 k_x5
  have b_x5 := F_x5.binds (ps := P_stage_of) fun _ _ _ _ _ _ us hl => len4 hl fun _ _ _ _ => rfl
  have F_x2 : FunD K "__init__" "Ground.__init__" s_G___init__ f_x2 _ := ⟨⟨_, _, _, _, _, _, _, _, _, _, rfl, l_x2, c_x2⟩⟩
  have b_one : Binds K (W.fnOf "__init__" "Ground.__init__" (defArgs s_G___init__) (defBody s_G___init__) (defScope s_G___init__) (.ref tD) kV_x2 dc_x2 pm_x2 an_x2 cv_x2 ct_x2) P_G___init__ [.none] := fun s us KX hl => by
    have hl : us.length = 2 := by rw [List.length_append] at hl; exact Nat.succ.inj hl
    exact match us, hl with | [_, _], _ => W.binds_K KX rfl lD sD rfl rfl
  have b_two : Binds K (W.fnOf "__init__" "Ground.__init__" (defArgs s_G___init__) (defBody s_G___init__) (defScope s_G___init__) (.ref tD) kV_x2 dc_x2 pm_x2 an_x2 cv_x2 ct_x2) P_G___init__ [] := fun s us KX hl => by
    rw [List.append_nil] at hl ⊢
    exact match us, hl with | [_, _, _], _ => W.binds_K KX rfl lD sD rfl rfl
  have F_x0 := fun_mk (st := s_G_last_stage) l_x0 c_x0 k_x0
  have b_x0 := F_x0.binds (ps := P_G_last_stage) fun _ _ _ _ _ _ us hl => len1 hl fun _ => rfl
  have F_x6 := fun_mk (st := s_G_heats) l_x6 c_x6 k_x6
  have b_x6 := F_x6.binds (ps := P_G_heats) fun _ _ _ _ _ _ us hl => len1 hl fun _ => rfl
  have F_law := fun_mk (st := s_law) l_law c_law k_law
  refine ⟨W.fnOf "law" "law" (defArgs s_law) (defBody s_law) (defScope s_law) .none kV_law dc_law pm_law an_law (.ref c) ct_law, fun s v => .of_eq rfl, fun base _ _ hC hB => ?_⟩
  have o_x13 : Ok l.prog w K mg base "_law_at" P_at 1 (sp_at K) := ⟨_, _, ok_at F_x13 T, b_x13, W.mg_of X GX a_x13, k_x13⟩
  have o_x10 : Ok l.prog w K mg base "_law_whole" P_whole 1 sp_whole := ⟨_, _, ok_whole F_x10 T, b_x10, W.mg_of X GX a_x10, k_x10⟩
  have o_x7 : Ok l.prog w K mg base "_law_numbers" P_numbers 2 (sp_numbers K) := ⟨_, _, ok_numbers F_x7 T o_x10, b_x7, W.mg_of X GX a_x7, k_x7⟩
  have o_x12 : Ok l.prog w K mg base "_law_row" P_row 1 sp_row := ⟨_, _, ok_row F_x12 T, b_x12, W.mg_of X GX a_x12, k_x12⟩
  have o_x8 : OkX l.prog w K mg base "_law_refusal" P_refusal 15 (sp_refusal l.prog w K mg base CT (fun i => [e_0, e_1, e_2, e_3, e_4, e_5, e_6, e_7, e_8, e_9, e_10, e_11].getD i 0)) := ⟨_, _, ok_refusal F_x8 T XE, b_x8, W.mg_of X GX a_x8, k_x8⟩
  have o_x9 : Ok l.prog w K mg base "_law_heats" P_heats 1 (sp_heats K) := ⟨_, _, ok_heats F_x9 T, b_x9, W.mg_of X GX a_x9, k_x9⟩
  have o_x3 : Ok l.prog w K mg base "check_beds" P_check_beds 1 (sp_check_beds K) := ⟨_, _, ok_check_beds F_x3 T, b_x3, W.mg_of X GX a_x3, k_x3⟩
  have o_x4 : Ok l.prog w K mg base "check_need" P_check_need 1 sp_check_need := ⟨_, _, ok_check_need F_x4 T, b_x4, W.mg_of X GX a_x4, k_x4⟩
  have o_x1 : Ok l.prog w K mg base "check_heats" P_check_heats 1 (sp_check_heats K) := ⟨_, _, ok_check_heats F_x1 T, b_x1, W.mg_of X GX a_x1, k_x1⟩
  have o_x5 : Ok l.prog w K mg base "stage_of" P_stage_of 1 sp_stage_of := ⟨_, _, ok_stage_of F_x5 T, b_x5, W.mg_of X GX a_x5, k_x5⟩
  have oi_one : OkI l.prog w K mg base G P_G___init__ 2 (sp_G_init K G) [.none] := ⟨_, _, ok_G___init__ F_x2 T TG o_x3 o_x4 o_x1 o_x5, b_one, ⟨mk, a_x2, i_x2, kc⟩⟩
  have oi_two : OkI l.prog w K mg base G P_G___init__ 2 (sp_G_init K G) [] := ⟨_, _, ok_G___init__ F_x2 T TG o_x3 o_x4 o_x1 o_x5, b_two, ⟨mk, a_x2, i_x2, kc⟩⟩
  have o_check_bedsX : OkX l.prog w K mg base "check_beds" P_check_beds 1 (sp_check_bedsX K mg) := ⟨_, _, ok_check_bedsX F_x3 T XU_BadBeds, b_x3, W.mg_of X GX a_x3, k_x3⟩
  have o_check_needX : OkX l.prog w K mg base "check_need" P_check_need 1 (sp_check_needX mg) := ⟨_, _, ok_check_needX F_x4 T XU_BadNeed, b_x4, W.mg_of X GX a_x4, k_x4⟩
  have o_check_heatsX : OkX l.prog w K mg base "check_heats" P_check_heats 1 (sp_check_heatsX K mg) := ⟨_, _, ok_check_heatsX F_x1 T XU_BadHeat, b_x1, W.mg_of X GX a_x1, k_x1⟩
  have oi_oneX : OkIX l.prog w K mg base G P_G___init__ 2 (sp_G_initX K mg) [.none] := ⟨_, _, ok_G___init__X F_x2 T TG o_check_bedsX o_check_needX o_check_heatsX o_x5, b_one, ⟨mk, a_x2, i_x2, kc⟩⟩
  have oi_twoX : OkIX l.prog w K mg base G P_G___init__ 2 (sp_G_initX K mg) [] := ⟨_, _, ok_G___init__X F_x2 T TG o_check_bedsX o_check_needX o_check_heatsX o_x5, b_two, ⟨mk, a_x2, i_x2, kc⟩⟩
  have om_x0 : OkM l.prog w K mg base G "last_stage" P_G_last_stage 1 (sp_G_last_stage G) := ⟨_, _, ok_G_last_stage F_x0 T TG, b_x0, ⟨a_x0, i_x0, k_x0⟩⟩
  have om_x6 : OkM l.prog w K mg base G "heats" P_G_heats 2 (sp_G_heats G) := ⟨_, _, ok_G_heats F_x6 T TG om_x0, b_x6, ⟨a_x6, i_x6, k_x6⟩⟩
  exact ok_law F_law T TG XE R2 R3 R4 rfl hC hB o_x13 o_x10 o_x7 o_x12 o_x8 o_x9 oi_two oi_twoX oi_oneX om_x6
theorem walk {l : W.OpenLaw} {q : Program} {loose : List Str} {XP : (Str → Option Value) → Heap → Prop} {YP : World → Heap → Prop} {d : DefRec} {K : Params → W.Frag} {c PT : Addr} (hn : l.most = some 63) (hdf : d.params.defaults = [])
    (hY : ∀ (w : World) (h : Heap), YP w h → (K w.params).In h) (hdn : d.name = "law") (hrec : (PyProof.Rows.recsOf q).find? (fun e => e.name == d.name) = some d) (ht : ∀ w : World, W.tabIn (K w.params) "law" = some (c, PT)) (hKP : ∀ w : World, (K w.params).lookup PT = none)
    (F : ∀ (w : World) (mg : Str → Option Value) (fa : Addr) (h : Heap), (K w.params).In h → h.Ns mainGlobals mg → mg "law" = some (.ref fa) →
      ∃ fd : FuncData, (∀ (s : Shared) (u : Value), BindsTo s fd ⟨[u], []⟩ [("_law_script", u)]) ∧ ∀ base : Heap, (K w.params).In base → base.Ns mainGlobals mg → W.CodeHd base c PT → base.BuiltinsAt mg PT → FnOk l.prog w (K w.params) mg base (CX1 l.prog w) 16 fa fd ["_law_script"] (sp_law (K w.params) PT)) :
    W.WalkO q loose XP YP l.row.toRowW d [] (fun f vs => PySem.call f vs) :=
  L2.walk_ofT (n := 63) (k := 16) (x := "_law_script") (c := fun _ => c) (P := fun _ => PT) (CX := fun w => CX1 l.prog w) (sp := fun w => sp_law (K w.params) PT) hn (by decide) hdf ⟨rfl, by decide, by decide⟩ hY hrec (fun w => by rw [hdn]; exact ht w) hKP (fun w mg fa h a b e => F w mg fa h a b (by rw [← hdn]; exact e)) (fun _ _ a ns hl _ hT hS => ⟨a, ns, rfl, hS, hl, hT, fun _ => rfl⟩) fun _ _ _ _ _ z => by obtain ⟨_, _, _, _, _, _, _, _, _, hE⟩ := z; exact hE
end Tf
namespace PySem.W.Fast
def tw2688187527870555093:=0
def tw16676728268676380211:=0
def tw15019103202697449437:=0
def tw3225565513259163184:=0
def tw4315002733731563921:=0
def tw488762434172412983:=0
def tw10998768527258550675:=0
def tw3069341568897844437:=0
def tw2142418414580910370:=0
def tw13161983108036493541:=0
def tw3483413153197588073:=0
def tw16713000213530060144:=0
def tw12495441500961460212:=0
def tw16133168010736812252:=0
def tw16923806655342141993:=0
def tw10659187563207486710:=0
def tw3818571372788907090:=0
def tw1131309591833627849:=0
def tw3336917005153301637:=0
def tw10597619669646546080:=0
def tw5157496364903216044:=0
def tw10212204305518161903:=0
def tw6089010273314136241:=0
def tw15684829508733195366:=0
def tw14123309298721966933:=0
def tw5191250886156497982:=0
def tw6188039327476274980:=0
def tw8659107198130917147:=0
def tw12984561176151855306:=0
def tw16163639114267658372:=0
def tw2555095014849897370:=0
def tw14423742590822289683:=0
def tw598680092576364974:=0
def tw8009187415442053403:=0
def tw13625955965995177015:=0
def tw5869670090135387273:=0
def tw996794638786689497:=0
def tw4436796907762800874:=0
def tw9256280739219919555:=0
def tw1055422152496485014:=0
def tw12489342802056137588:=0
def tw12062432134349218105:=0
def tw13680170692907276654:=0
def tw3129321528351057536:=0
def tw10110160076013448556:=0
def tw16983882684893266634:=0
def tw4030062849110393912:=0
def tw13723092443423935671:=0
def tw11900153429367642340:=0
def tw4637251833345647261:=0
def tw5183281471758011919:=0
def tw16992998888039637479:=0
def tw1708174344655704036:=0
def tw16519272901332635319:=0
def tw12704584433659582742:=0
def tw1317318074629212188:=0
def tw11945198839863394244:=0
def tw18049280101967496901:=0
def tw8561119789349047517:=0
def tw10146742223336103210:=0
def tw18010832657377000453:=0
def tw12824457979013080244:=0
def tw12926732934905024714:=0
def tw9768292564324934626:=0
def tw10643155267197581092:=0
def tw13251113277279593510:=0
def tw14299311098686440712:=0
def tw6105903400576091216:=0
def tw16625772213054311705:=0
def tw6506453347822186123:=0
def tw1789312623389055971:=0
def tw12977480226060148857:=0
def tw13632900312597900555:=0
def tw16895205717555850677:=0
def tw7319747408974397728:=0
def tw6671502445971257544:=0
def tw8743356041180114448:=0
def tw16042271626450733582:=0
def tw5145764507215835024:=0
def tw17518579564038040083:=0
def tw14120985260893054270:=0
def tw2491193356126695376:=0
def tw11209761460962884784:=0
def tw7282531795459494947:=0
def tw2751363733352992144:=0
def tw17091981553965012293:=0
def tw16609615527903649573:=0
def tw18176983204207418642:=0
def tw1004292624792792167:=0
def tw3839323896801508064:=0
def tw18262812373403260317:=0
def tw16740724829049743449:=0
def tw529590056025635620:=0
def tw17608928145917341163:=0
def tw7489117981331604681:=0
def tw17663407357880501538:=0
def tw16115939561475701517:=0
def tw17041184595861506053:=0
def tw1243677320925163717:=0
def tw5189870007104642885:=0
def tw1281747961169691935:=0
def tw12536479965697009318:=0
def tw2800172710847832277:=0
def tw6529588940568061047:=0
def tw1965360666274806268:=0
def tw11690790473243984948:=0
def tw11957634698012142231:=0
def tw3996902110744785668:=0
def tw14657613656622861161:=0
def tw16795210406692098548:=0
def tw17556839427612463487:=0
def tw14878021887319885924:=0
def tw11640957106109424967:=0
def tw309734948191442613:=0
def tw1975925222484219924:=0
def tw3153856170734640474:=0
def tw15309140346335767615:=0
def tw9162739507397183509:=0
def tw15560257079999795512:=0
def tw8817480121771345579:=0
def tw4254450706267555239:=0
def tw8064565396743270085:=0
def tw11786821284049427076:=0
def tw14791799730856323463:=0
def tw2951122307457813733:=0
def tw4039328096865437628:=0
def tw11831327686826702866:=0
def tw7124425778137305876:=0
def tw935725986994127941:=0
def tw633819151820604079:=0
def tw8784056389656196842:=0
def tw13640359316887852172:=0
def tw1848999374408517028:=0
def tw7548628542775904783:=0
def tw15142019181033993726:=0
def tw16506196533503897055:=0
def tw13365354214946300059:=0
def tw6717644230323502018:=0
def tw9024287204787756510:=0
def tw17975980535775505056:=0
def tw1724862682617704982:=0
def tw18064838165616566295:=0
def tw2068575634545242598:=0
def tw12480743760138779409:=0
def tw16054558998180356309:=0
def tw17621715055492001376:=0
def tw5283418409215238843:=0
def tw14414898282715838572:=0
def tw13615446328178308259:=0
def tw18050601958692284889:=0
def tw9024824451061399333:=0
def tw8890396996321975925:=0
def tw17841126796763434441:=0
def tw12208701631240278799:=0
def tw4595837593206916687:=0
def tw5259222152777007196:=0
def tw3846836516529637653:=0
def tw13653106622482601162:=0
def tw18099315327096493613:=0
def tw2047590176363742467:=0
def tw18054442960975504906:=0
def tw12835319327663099461:=0
def tw1955562140498828118:=0
def tw14903665107866931358:=0
def tw4674808365151502971:=0
def tw17878311125375408592:=0
def tw7882243560470119705:=0
def tw15892921718147558040:=0
def tw10689302911412184965:=0
def tw921636821567149298:=0
def tw4240433399084125091:=0
def tw130650062294042156:=0
def tw2031379160918154432:=0
def tw640162166759558275:=0
def tw989559070366178291:=0
def tw9507339552010784411:=0
def tw7347818637445186012:=0
def tw10781151937900952514:=0
def tw4210642411442470872:=0
def tw16653171346434547691:=0
def tw16140064717219356498:=0
def tw9032966605378873609:=0
def tw3270529784465632705:=0
def tw5292480049737651595:=0
def tw7354564464568472918:=0
def tw18366494895472390692:=0
def tw184287836448060889:=0
def tw6753079058655768249:=0
def tw158438190302872244:=0
def tw16997792574840852445:=0
def tw5355557996005425195:=0
def tw11930092857912766986:=0
def tw9635278084685589995:=0
def tw16144981151806142277:=0
def tw12960529277860828045:=0
def tw2085959907834594439:=0
def tw1619706414904443464:=0
def tw9339254114732365390:=0
def tw9391642441563258054:=0
def tw10091546213522040925:=0
def tw7348944564898907885:=0
def tw612099945371570274:=0
def tw10186147677985552091:=0
def tw4605855094556220446:=0
def tw16871802243844257572:=0
def tw6867761289985606031:=0
def tw62465898929132071:=0
def tw10113882985894825203:=0
def tw1801232080931328559:=0
def tw14450586567762044216:=0
def tw17985262542008858609:=0
def tw14226127180443586558:=0
def tw8865024366544266786:=0
def tw15999819572181609526:=0
def tw15792811007784796096:=0
def tw8670071170353071065:=0
def tw4633376315553269712:=0
def tw9348087780536634078:=0
def tw1555147380267236541:=0
def tw1404094815627731417:=0
def tw1824899308478370208:=0
def tw13790911957416441374:=0
def tw7635043577000453330:=0
def tw14983014940028824994:=0
def tw15720023701115380804:=0
def tw9549335578132948049:=0
def tw2344505387910317524:=0
def tw2160993458520400921:=0
def tw631623876403023462:=0
def tw1657384260028643877:=0
def tw7868677133977056589:=0
def tw12345384719809931974:=0
def tw1320569214920966192:=0
def tw6461121622218885449:=0
def tw1852121615384967442:=0
end PySem.W.Fast
open PySem PySem.W PyProof.Rows
set_option maxRecDepth 100000 in
set_option maxHeartbeats 0 in
theorem PySem.Challenge.cw_thawfront_k25_no_such_ground_holds : PySem.Challenge.rw_thawfront_k25_no_such_ground.Holds := by
  w_on; o_law; k_head; (case hw => w_witness2)
  k_fill
  refine' Tf.walk (l := PySem.Challenge.rw_thawfront_k25_no_such_ground) rfl rfl (fun w h Y => PySem.W.km_in_of Y) rfl rfl ?ht ?hKP ?F
  case ht =>
    intro w
    refine' L2.tabIn_of ?h1 ?h2 ?h3 ?h4 ?h5
    (case h1 => k_is)
    (case h2 => k_is)
    (case h3 => rfl)
    (case h4 => k_is)
    (case h5 => rfl)
  case hKP =>
    intro w
    kernel_rfl
  case F =>
    intro w mg fa h KX G hmg
    refine' Tf.all_mk KX G hmg ?aG ?a_x13 ?l_x13 ?c_x13 ?k_x13 ?a_x10 ?l_x10 ?c_x10 ?k_x10 ?a_x7 ?l_x7 ?c_x7 ?k_x7 ?a_x12 ?l_x12 ?c_x12 ?k_x12 ?a_x8 ?l_x8 ?c_x8 ?k_x8 ?a_x9 ?l_x9 ?c_x9 ?k_x9 ?a_x3 ?l_x3 ?c_x3 ?k_x3 ?a_x4 ?l_x4 ?c_x4 ?k_x4 ?a_x1 ?l_x1 ?c_x1 ?k_x1 ?a_x5 ?l_x5 ?c_x5 ?k_x5 ?a_x2 ?i_x2 ?l_x2 ?c_x2 ?k_x2 ?a_x0 ?i_x0 ?l_x0 ?c_x0 ?k_x0 ?a_x6 ?i_x6 ?l_x6 ?c_x6 ?k_x6 ?a_law ?l_law ?c_law ?k_law ?lD ?sD ?z_ValueError ?z_bool ?z_int ?z_isinstance ?z_len ?z_list ?z_max ?z_range ?z_zip ?g_MOST_BEDS ?g_MOST_NEED ?pg ?hd ?po ?sa ?mk ?kc ?nK ?nS ?aT ?bT ?cT ?tT ?aE0 ?cE0 ?tE0 ?aE1 ?cE1 ?tE1 ?aE2 ?cE2 ?tE2 ?aE3 ?cE3 ?tE3 ?aE4 ?cE4 ?tE4 ?aE5 ?cE5 ?tE5 ?aE6 ?cE6 ?tE6 ?aE7 ?cE7 ?tE7 ?aE8 ?cE8 ?tE8 ?aE9 ?cE9 ?tE9 ?aE10 ?cE10 ?tE10 ?aE11 ?cE11 ?tE11 ?xE2 ?xE3 ?xE4 ?r2g ?r2n ?r2c ?r2b ?r2o ?r2t ?r2v ?s2_0 ?n2_0 ?s2_1 ?n2_1 ?s2_3 ?n2_3 ?s2_4 ?n2_4 ?s2_5 ?n2_5 ?s2_6 ?n2_6 ?s2_7 ?n2_7 ?s2_8 ?n2_8 ?s2_9 ?n2_9 ?s2_10 ?n2_10 ?s2_11 ?n2_11 ?r3g ?r3n ?r3c ?r3b ?r3o ?r3t ?r3v ?s3_0 ?n3_0 ?s3_1 ?n3_1 ?s3_2 ?n3_2 ?s3_4 ?n3_4 ?s3_5 ?n3_5 ?s3_6 ?n3_6 ?s3_7 ?n3_7 ?s3_8 ?n3_8 ?s3_9 ?n3_9 ?s3_10 ?n3_10 ?s3_11 ?n3_11 ?r4g ?r4n ?r4c ?r4b ?r4o ?r4t ?r4v ?s4_0 ?n4_0 ?s4_1 ?n4_1 ?s4_2 ?n4_2 ?s4_3 ?n4_3 ?s4_5 ?n4_5 ?s4_6 ?n4_6 ?s4_7 ?n4_7 ?s4_8 ?n4_8 ?s4_9 ?n4_9 ?s4_10 ?n4_10 ?s4_11 ?n4_11
    (case aG => k_is)
    (case a_x13 => k_is)
    (case l_x13 => k_is)
    (case c_x13 => k_is)
    (case k_x13 => k_is)
    (case a_x10 => k_is)
    (case l_x10 => k_is)
    (case c_x10 => k_is)
    (case k_x10 => k_is)
    (case a_x7 => k_is)
    (case l_x7 => k_is)
    (case c_x7 => k_is)
    (case k_x7 => k_is)
    (case a_x12 => k_is)
    (case l_x12 => k_is)
    (case c_x12 => k_is)
    (case k_x12 => k_is)
    (case a_x8 => k_is)
    (case l_x8 => k_is)
    (case c_x8 => k_is)
    (case k_x8 => k_is)
    (case a_x9 => k_is)
    (case l_x9 => k_is)
    (case c_x9 => k_is)
    (case k_x9 => k_is)
    (case a_x3 => k_is)
    (case l_x3 => k_is)
    (case c_x3 => k_is)
    (case k_x3 => k_is)
    (case a_x4 => k_is)
    (case l_x4 => k_is)
    (case c_x4 => k_is)
    (case k_x4 => k_is)
    (case a_x1 => k_is)
    (case l_x1 => k_is)
    (case c_x1 => k_is)
    (case k_x1 => k_is)
    (case a_x5 => k_is)
    (case l_x5 => k_is)
    (case c_x5 => k_is)
    (case k_x5 => k_is)
    (case a_x2 => k_is)
    (case i_x2 => k_is)
    (case l_x2 => k_is)
    (case c_x2 => k_is)
    (case k_x2 => k_is)
    (case a_x0 => k_is)
    (case i_x0 => k_is)
    (case l_x0 => k_is)
    (case c_x0 => k_is)
    (case k_x0 => k_is)
    (case a_x6 => k_is)
    (case i_x6 => k_is)
    (case l_x6 => k_is)
    (case c_x6 => k_is)
    (case k_x6 => k_is)
    (case a_law => k_is)
    (case l_law => k_is)
    (case c_law => k_is)
    (case k_law => k_is)
    (case lD => k_is)
    (case sD => rfl)
    (case z_ValueError => k_is)
    (case z_bool => k_is)
    (case z_int => k_is)
    (case z_isinstance => k_is)
    (case z_len => k_is)
    (case z_list => k_is)
    (case z_max => k_is)
    (case z_range => k_is)
    (case z_zip => k_is)
    (case g_MOST_BEDS => k_is)
    (case g_MOST_NEED => k_is)
    (case pg => k_is)
    (case hd => k_is)
    (case po => k_is)
    (case sa => k_is)
    (case mk => k_is)
    (case kc => k_is)
    (case nK => k_is)
    (case nS => k_is)
    (case aT => k_is)
    (case bT => k_is)
    (case cT => k_is)
    (case tT => k_is)
    (case aE0 => k_is)
    (case cE0 => k_is)
    (case tE0 => k_is)
    (case aE1 => k_is)
    (case cE1 => k_is)
    (case tE1 => k_is)
    (case aE2 => k_is)
    (case cE2 => k_is)
    (case tE2 => k_is)
    (case aE3 => k_is)
    (case cE3 => k_is)
    (case tE3 => k_is)
    (case aE4 => k_is)
    (case cE4 => k_is)
    (case tE4 => k_is)
    (case aE5 => k_is)
    (case cE5 => k_is)
    (case tE5 => k_is)
    (case aE6 => k_is)
    (case cE6 => k_is)
    (case tE6 => k_is)
    (case aE7 => k_is)
    (case cE7 => k_is)
    (case tE7 => k_is)
    (case aE8 => k_is)
    (case cE8 => k_is)
    (case tE8 => k_is)
    (case aE9 => k_is)
    (case cE9 => k_is)
    (case tE9 => k_is)
    (case aE10 => k_is)
    (case cE10 => k_is)
    (case tE10 => k_is)
    (case aE11 => k_is)
    (case cE11 => k_is)
    (case tE11 => k_is)
    (case xE2 => k_exc)
    (case xE3 => k_exc)
    (case xE4 => k_exc)
    (case r2g => k_is)
    (case r2n => k_is)
    (case r2c => k_is)
    (case r2b => k_is)
    (case r2o => k_is)
    (case r2t => k_is)
    (case r2v => k_is)
    (case s2_0 => k_is)
    (case n2_0 => rfl)
    (case s2_1 => k_is)
    (case n2_1 => rfl)
    (case s2_3 => k_is)
    (case n2_3 => rfl)
    (case s2_4 => k_is)
    (case n2_4 => rfl)
    (case s2_5 => k_is)
    (case n2_5 => rfl)
    (case s2_6 => k_is)
    (case n2_6 => rfl)
    (case s2_7 => k_is)
    (case n2_7 => rfl)
    (case s2_8 => k_is)
    (case n2_8 => rfl)
    (case s2_9 => k_is)
    (case n2_9 => rfl)
    (case s2_10 => k_is)
    (case n2_10 => rfl)
    (case s2_11 => k_is)
    (case n2_11 => rfl)
    (case r3g => k_is)
    (case r3n => k_is)
    (case r3c => k_is)
    (case r3b => k_is)
    (case r3o => k_is)
    (case r3t => k_is)
    (case r3v => k_is)
    (case s3_0 => k_is)
    (case n3_0 => rfl)
    (case s3_1 => k_is)
    (case n3_1 => rfl)
    (case s3_2 => k_is)
    (case n3_2 => rfl)
    (case s3_4 => k_is)
    (case n3_4 => rfl)
    (case s3_5 => k_is)
    (case n3_5 => rfl)
    (case s3_6 => k_is)
    (case n3_6 => rfl)
    (case s3_7 => k_is)
    (case n3_7 => rfl)
    (case s3_8 => k_is)
    (case n3_8 => rfl)
    (case s3_9 => k_is)
    (case n3_9 => rfl)
    (case s3_10 => k_is)
    (case n3_10 => rfl)
    (case s3_11 => k_is)
    (case n3_11 => rfl)
    (case r4g => k_is)
    (case r4n => k_is)
    (case r4c => k_is)
    (case r4b => k_is)
    (case r4o => k_is)
    (case r4t => k_is)
    (case r4v => k_is)
    (case s4_0 => k_is)
    (case n4_0 => rfl)
    (case s4_1 => k_is)
    (case n4_1 => rfl)
    (case s4_2 => k_is)
    (case n4_2 => rfl)
    (case s4_3 => k_is)
    (case n4_3 => rfl)
    (case s4_5 => k_is)
    (case n4_5 => rfl)
    (case s4_6 => k_is)
    (case n4_6 => rfl)
    (case s4_7 => k_is)
    (case n4_7 => rfl)
    (case s4_8 => k_is)
    (case n4_8 => rfl)
    (case s4_9 => k_is)
    (case n4_9 => rfl)
    (case s4_10 => k_is)
    (case n4_10 => rfl)
    (case s4_11 => k_is)
    (case n4_11 => rfl)
