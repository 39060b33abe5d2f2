import PyProof.Rows.All
import Wide.All
import OpenK.AllK
import Wide.FinOn
import Lean
import PyProof.EqAt
import PyProof.EqKinds
import PyProof.TupleCall
import PyProof.ZipIter
import PyProof.Rows.SumAny
import PyProof.Rows.SortWalk
import PyProof.NeKinds
import OpenK.KRaise
import PyProof.Rows.FStr
import PyProof.Rows.RegStrFacts
import PyProof.Rows.Own
import OpenK.KOwn
import PyProof.ExcArgsOwn
import PyProof.IsiBase
import PyProof.ExcAttrAll.ValueError
import KE.KLam
import KE.KTryMore
import PyProof.NsDelKeeps
import PySem.Challenge.RW_thawfront_k23_doors_of_years
set_option Elab.async false
set_option linter.all false
set_option maxRecDepth 100000
set_option maxHeartbeats 4000000
/-! THE HAND LAYER, for ints, bools, texts, own classes, LISTS and tuples (index, slices, in, append, pop ..), calls, loops. Paste it whole ahead of your own text; what your proof does not reach may be deleted. -/
namespace L2
open PySem PySem.Spec PyProof.Rows

abbrev Key := Sum Int Str
def keyIs : Key → Value → Bool
  | .inl k, v => Value.isInt k v
  | .inr x, v => Value.isStrOf x v
def keyH (w : World) : Key → Int
  | .inl k => hashInt k
  | .inr x => hashStr w x
theorem keyIs_shape : ∀ {k : Key} {v : Value}, keyIs k v = true → (∃ i t, k = Sum.inl i ∧ v = Value.int i t) ∨ (∃ x t, k = Sum.inr x ∧ v = Value.str x t)
  | .inl i, v, h => by
    obtain ⟨t, e⟩ := Value.isInt_shape (k := i) (v := v) h
    exact .inl ⟨i, t, rfl, e⟩
  | .inr x, v, h => by
    obtain ⟨t, e⟩ := Value.isStrOf_shape (x := x) (v := v) h
    exact .inr ⟨x, t, rfl, e⟩
theorem key_ll (a b : Int) : decide ((Sum.inl a : Key) = Sum.inl b) = (a == b) := by
  by_cases e : a = b
  · subst e; simp
  · have h : ¬ (Sum.inl a : Key) = Sum.inl b := fun q => e (Sum.inl.inj q)
    rw [decide_eq_false h]
    exact (beq_eq_false_iff_ne.mpr e).symm
theorem key_rr (a b : Str) : decide ((Sum.inr a : Key) = Sum.inr b) = decide (a = b) := by
  by_cases e : a = b
  · subst e; simp
  · have h : ¬ (Sum.inr a : Key) = Sum.inr b := fun q => e (Sum.inr.inj q)
    rw [decide_eq_false h, decide_eq_false e]
theorem key_lr (a : Int) (b : Str) : decide ((Sum.inl a : Key) = Sum.inr b) = false := decide_eq_false (fun q => nomatch q)
theorem key_rl (a : Str) (b : Int) : decide ((Sum.inr a : Key) = Sum.inl b) = false := decide_eq_false (fun q => nomatch q)

def mixKind (prog : Program) (w : World) : PySem.KeyKind prog w Key where
  is := keyIs
  hash := keyH w
  inj := fun v a b ha hb => by
    rcases keyIs_shape ha with ⟨i, t, rfl, rfl⟩ | ⟨x, t, rfl, rfl⟩
    · rcases keyIs_shape hb with ⟨j, u, rfl, e⟩ | ⟨y, u, rfl, e⟩
      · injection e with e1 _; rw [e1]
      · exact nomatch e
    · rcases keyIs_shape hb with ⟨j, u, rfl, e⟩ | ⟨y, u, rfl, e⟩
      · exact nomatch e
      · injection e with e1 _; rw [e1]
  byValue := fun k v h => by
    rcases keyIs_shape h with ⟨i, t, rfl, rfl⟩ | ⟨x, t, rfl, rfl⟩ <;> rfl
  pyHash := fun hv h => by
    rcases keyIs_shape hv with ⟨i, t, rfl, rfl⟩ | ⟨x, t, rfl, rfl⟩
    · exact wpAny_pyHash_int h
    · exact wpAny_pyHash_str h
  eqBool := fun hu hv h => by
    rcases keyIs_shape hu with ⟨i, t, rfl, rfl⟩ | ⟨x, t, rfl, rfl⟩
    · rcases keyIs_shape hv with ⟨j, u, rfl, rfl⟩ | ⟨y, u, rfl, rfl⟩
      · rw [key_ll] at h; exact wpAny_eqBool_int h
      · rw [key_lr] at h; exact SeqAt.EqAt.int_str i t y u _ _ _ _ h
    · rcases keyIs_shape hv with ⟨j, u, rfl, rfl⟩ | ⟨y, u, rfl, rfl⟩
      · rw [key_rl] at h; exact SeqAt.EqAt.str_int x t j u _ _ _ _ h
      · rw [key_rr] at h; exact wpAny_eqBool_str h
  «strs» := fun k x t v h => by
    rcases keyIs_shape h with ⟨i, u, rfl, e⟩ | ⟨y, u, rfl, e⟩
    · exact nomatch e
    · injection e with e1 _
      subst e1
      cases v <;> rfl

end L2

namespace L2
open PySem PySem.Spec PyProof.Rows

inductive V where
  | non | bl (b : Bool) | int (i : Int) | str (x : Str) | byt (b : Array UInt8) | flt (b : UInt64) | ref (a : Addr) | ty (n : String)
  deriving DecidableEq

def RelV : V → Value → Prop
  | .non, u => u = Value.none
  | .bl b, u => u = Value.bool b
  | .int i, u => ∃ t, u = Value.int i t
  | .str x, u => ∃ t, u = Value.str x t
  | .byt b, u => ∃ t, u = Value.bytes b t
  | .flt b, u => ∃ t, u = Value.float b t
  | .ref a, u => u = Value.ref a
  | .ty n, u => u = Value.type n

abbrev Vals : List V → List Value → Prop := Paired RelV
theorem Vals.length {xs : List V} {us : List Value} (r : Vals xs us) : xs.length = us.length := Paired.length r
theorem Vals.get : ∀ {xs : List V} {us : List Value} {i : Nat} {x : V}, Vals xs us → xs[i]? = some x → ∃ u, us[i]? = some u ∧ RelV x u
  | _, _, _, _, .nil, e => by simp at e
  | _, _, 0, _, .cons r _, e => by simp at e; subst e; exact ⟨_, rfl, r⟩
  | _, _, i + 1, x, .cons _ t, e => by
    obtain ⟨u, h1, h2⟩ := Vals.get (i := i) (x := x) t (by simpa using e)
    exact ⟨u, by simpa using h1, h2⟩
theorem Vals.set {x : V} {u : Value} (r : RelV x u) : ∀ {xs : List V} {us : List Value} (i : Nat), Vals xs us → Vals (xs.set i x) (us.set i u)
  | _, _, _, .nil => .nil
  | _, _, 0, .cons _ t => .cons r t
  | _, _, i + 1, .cons q t => .cons q (Vals.set r i t)
theorem Vals.append : ∀ {xs ys : List V} {us ws : List Value}, Vals xs us → Vals ys ws → Vals (xs ++ ys) (us ++ ws)
  | _, _, _, _, .nil, s => s
  | _, _, _, _, .cons r t, s => .cons r (Vals.append t s)
theorem Vals.take : ∀ {xs : List V} {us : List Value} (n : Nat), Vals xs us → Vals (xs.take n) (us.take n)
  | _, _, 0, _ => .nil
  | _, _, _ + 1, .nil => .nil
  | _, _, n + 1, .cons r t => .cons r (Vals.take n t)
theorem Vals.drop : ∀ {xs : List V} {us : List Value} (n : Nat), Vals xs us → Vals (xs.drop n) (us.drop n)
  | _, _, 0, r => r
  | _, _, _ + 1, .nil => .nil
  | _, _, n + 1, .cons _ t => Vals.drop n t
def RelO : Option V → Option Value → Prop
  | some v, some u => RelV v u
  | none, none => True
  | _, _ => False
def KV {κ : Type} : List (κ × V) → List (κ × Value) → Prop := Paired fun (p : κ × V) (q : κ × Value) => p.1 = q.1 ∧ RelV p.2 q.2

def kV : Key → V
  | .inl i => .int i
  | .inr x => .str x

inductive HO where
  /-- a list -/
  | lst (xs : List V)
  /-- a tuple (never changes) -/
  | tup (xs : List V)
  /-- a dict whose keys are ints and texts; one whose keys are tuples of ints and texts (the empty one is both) -/
  | dK (kvs : List (Key × V)) | dT (kvs : List (List Key × V))
  /-- a set of ints: its members, its size -/
  | set (S : Int → Bool) (n : Nat)
  /-- an instance of the class at C, its dict at dx, its attributes -/
  | ins (C dx : Addr) (fs : List (Str × V))
  /-- the dict of the instance at x -/
  | own (x : Addr)
  /-- the dict of an exception -/
  | xd (fs : List (Str × V))
  /-- a bound method, f of x -/
  | met (f x : Addr)
  /-- a range object lo, lo + 1, .. below hi -/
  | rng (lo hi : Int)
  /-- a thing that is known to the object (the script; a dict while a loop walks it): read, never written while it is so -/
  | frz (o : Obj) (u : HO)
  /-- a code object's table -/
  | tbl (ps : Array Value)
  /-- any other thing, by what is true of its one object (a def of one's own: SetO a S n := HO.ext fun h => ..) -/
  | ext (φ : Heap → Prop)

abbrev Hp := Addr → Option HO
def upd (H : Hp) (a : Addr) (o : HO) : Hp := fun b => if b = a then some o else H b
theorem upd_same {H : Hp} {a : Addr} {o : HO} : upd H a o a = some o := by unfold upd; rw [if_pos rfl]
theorem upd_ne {H : Hp} {a b : Addr} {o : HO} (h : b ≠ a) : upd H a o b = H b := by unfold upd; rw [if_neg h]
theorem upd_upd {H : Hp} {a : Addr} {o u : HO} : upd (upd H a o) a u = upd H a u := by
  funext b; unfold upd; split <;> rfl
theorem ne_of {H : Hp} {a b : Addr} {o u : HO} (h : H a = some o) (h' : H b = some u) (d : o ≠ u) : a ≠ b := by
  intro e; subst e; rw [h] at h'; exact d (Option.some.inj h')
theorem ne_of_none {H : Hp} {a b : Addr} {o : HO} (h : H a = some o) (h' : H b = none) : a ≠ b := by
  intro e; subst e; rw [h] at h'; cases h'

section
variable (P : Program) (w : World)
def ObjOk (H : Hp) (h : Heap) (a : Addr) : HO → Prop
  | .lst xs => xs.length ≤ sizeLine ∧ ∃ (its : List Value) (n : Nat), Vals xs its ∧ h.get? a = some { cls := .type "list", data := .seq its.toArray n }
  | .tup xs => xs.length ≤ sizeLine ∧ ∃ its : List Value, Vals xs its ∧ IsTup h a its.toArray
  | .dK kvs => kvs.length ≤ sizeLine ∧ (a == sysModules) = false ∧ ∃ vs, KV kvs vs ∧ h.DictOf (mixKind P w) a vs
  | .dT kvs => kvs.length ≤ sizeLine ∧ (a == sysModules) = false ∧ ∃ xs : List (List Key × Addr × Value),
      Paired (fun (p : List Key × V) (q : List Key × Addr × Value) => p.1 = q.1 ∧ H q.2.1 = some (.tup (p.1.map kV)) ∧ RelV p.2 q.2.2) kvs xs ∧
      ∃ o es ep, h.get? a = some o ∧ o.ExactDict ∧ o.data = .dict es ep ∧ es.toList = xs.map (entryOfKey (tupleKind (mixKind P w))) ∧ (xs.map (·.1)).Nodup
  | .set S n => h.SetOf (intKind P w) a S n
  | .ins C dx fs => H dx = some (.own a) ∧ fs.length ≤ 1000 ∧ dx ≠ a ∧ h.get? a = some (PySem.W.instObj C dx) ∧
      ∃ mA, h.Ns1 dx mA ∧ (∀ f, RelO (fs.lookup f) (mA f)) ∧ PySem.Within mA (fs.map (·.1))
  | .own _ => ∃ o, h.get? a = some o
  | .xd fs => ∃ mA, h.Ns1 a mA ∧ ∀ f, RelO (fs.lookup f) (mA f)
  | .rng lo hi => ∃ t u v, h.get? a = some { cls := .type "range", data := .fields #[.int lo t, .int hi u, .int 1 v] }
  | .frz o u => h.get? a = some o ∧ ObjOk H h a u
  | .tbl ps => h.get? a = some { cls := .none, data := .fields ps }
  | .met f x => h.get? a = some (PySem.W.methodObj (.ref f) (.ref x))
  | .ext φ => φ h ∧ (∃ o, h.get? a = some o) ∧ ∀ h1 h2 : Heap, φ h1 → (∀ o, h1.get? a = some o → h2.get? a = some o) → φ h2
def HOk (H : Hp) (h : Heap) : Prop := ∀ a o, H a = some o → ObjOk P w H h a o
end

section
variable {P : Program} {w : World} {H H' : Hp} {h h' : Heap} {a : Addr} {o : HO}
theorem ObjOk.lt (x : ObjOk P w H h a o) : a < h.objs.size := by
  cases o with
  | lst xs => obtain ⟨_, _, _, _, e⟩ := x; exact Heap.lt_size e
  | tup xs => obtain ⟨_, _, _, p⟩ := x; exact p.lt
  | dK kvs => obtain ⟨_, _, _, _, o, _, _, e, _⟩ := x; exact Heap.lt_size e
  | dT kvs => obtain ⟨_, _, _, _, o, _, _, e, _⟩ := x; exact Heap.lt_size e
  | set S n => obtain ⟨o, _, _, _, e, _⟩ := x; exact Heap.lt_size e
  | ins C dx fs => obtain ⟨_, _, _, e, _⟩ := x; exact Heap.lt_size e
  | own y => obtain ⟨_, e⟩ := x; exact Heap.lt_size e
  | xd fs => obtain ⟨_, ⟨_, _, _, e, _⟩, _⟩ := x; exact Heap.lt_size e
  | rng lo hi => obtain ⟨_, _, _, e⟩ := x; exact Heap.lt_size e
  | frz ob u => obtain ⟨e, _⟩ := x; exact Heap.lt_size e
  | tbl ps => exact Heap.lt_size (show h.get? a = some _ from x)
  | met f y => exact Heap.lt_size (show h.get? a = some _ from x)
  | ext φ => obtain ⟨_, ⟨_, e⟩, _⟩ := x; exact Heap.lt_size e
theorem Paired.mapP {α β : Type} {F G : α → β → Prop} : ∀ {l₁ : List α} {l₂ : List β}, Paired F l₁ l₂ → (∀ a b, F a b → G a b) → Paired G l₁ l₂
  | _, _, .nil, _ => .nil
  | _, _, .cons r t, f => .cons (f _ _ r) (Paired.mapP t f)
theorem ObjOk.stay (x : ObjOk P w H h a o) (k : ∀ b u, (b = a ∨ H b = some (.own a)) → h.get? b = some u → h'.get? b = some u)
    (ho : ∀ b, H b = some (.own a) → H' b = some (.own a)) (ht : ∀ b xs, H b = some (.tup xs) → H' b = some (.tup xs)) : ObjOk P w H' h' a o := by
  induction o with
  | lst xs => obtain ⟨z, its, n, r, e⟩ := x; exact ⟨z, its, n, r, k _ _ (.inl rfl) e⟩
  | tup xs => obtain ⟨z, its, r, ob, e, c⟩ := x; exact ⟨z, its, r, ob, k _ _ (.inl rfl) e, c⟩
  | dK kvs => obtain ⟨z, y, vs, r, ob, es, ep, e, c⟩ := x; exact ⟨z, y, vs, r, ob, es, ep, k _ _ (.inl rfl) e, c⟩
  | dT kvs =>
    obtain ⟨z, y, xs, r, ob, es, ep, e, c⟩ := x
    exact ⟨z, y, xs, Paired.mapP r fun p q z => ⟨z.1, ht _ _ z.2.1, z.2.2⟩, ob, es, ep, k _ _ (.inl rfl) e, c⟩
  | set S n => obtain ⟨ob, es, ep, t, e, c⟩ := x; exact ⟨ob, es, ep, t, k _ _ (.inl rfl) e, c⟩
  | ins C dx fs =>
    obtain ⟨d, z, ne, e, mA, ⟨od, es, ep, e2, c⟩, r⟩ := x
    exact ⟨ho _ d, z, ne, k _ _ (.inl rfl) e, mA, ⟨od, es, ep, k _ _ (.inr d) e2, c⟩, r⟩
  | own y => obtain ⟨ob, e⟩ := x; exact ⟨ob, k _ _ (.inl rfl) e⟩
  | xd fs => obtain ⟨mA, ⟨od, es, ep, e, c⟩, r⟩ := x; exact ⟨mA, ⟨od, es, ep, k _ _ (.inl rfl) e, c⟩, r⟩
  | rng lo hi => obtain ⟨t, u, v, e⟩ := x; exact ⟨t, u, v, k _ _ (.inl rfl) e⟩
  | frz ob u ih => obtain ⟨e, q⟩ := x; exact ⟨k _ _ (.inl rfl) e, ih q⟩
  | tbl ps =>
    have e : h.get? a = some { cls := .none, data := .fields ps } := x
    show h'.get? a = some { cls := .none, data := .fields ps }
    exact k a _ (.inl rfl) e
  | met f y =>
    have e : h.get? a = some (PySem.W.methodObj (.ref f) (.ref y)) := x
    show h'.get? a = some (PySem.W.methodObj (.ref f) (.ref y))
    exact k a _ (.inl rfl) e
  | ext φ => obtain ⟨p, ⟨o, e⟩, st⟩ := x; exact ⟨st _ _ p fun o q => k _ _ (.inl rfl) q, ⟨o, k _ _ (.inl rfl) e⟩, st⟩
theorem HOk.lt (x : HOk P w H h) (e : H a = some o) : a < h.objs.size := (x a o e).lt
theorem HOk.fresh (x : HOk P w H h) (e : h.objs.size ≤ a) : H a = none := by
  cases q : H a with
  | none => rfl
  | some u => exact absurd (Nat.lt_of_lt_of_le (x.lt q) e) (Nat.lt_irrefl _)
theorem HOk.kept (x : HOk P w H h) (k : ∀ b u, h.get? b = some u → h'.get? b = some u) : HOk P w H h' := fun a o e =>
  (x a o e).stay (fun b u _ q => k b u q) (fun _ q => q) fun _ _ q => q
theorem HOk.laid (x : HOk P w H h) (k : ∀ b u, h.get? b = some u → h'.get? b = some u) (hp : h.objs.size ≤ a) (new : ObjOk P w (upd H a o) h' a o) : HOk P w (upd H a o) h' := fun b u e => by
  have hn := x.fresh hp
  by_cases hb : b = a
  · subst hb; rw [upd_same] at e; cases e; exact new
  · rw [upd_ne hb] at e
    exact (x b u e).stay (fun c v _ q => k c v q) (fun c q => by rw [upd_ne (ne_of_none q hn)]; exact q) fun c xs q => by rw [upd_ne (ne_of_none q hn)]; exact q
end

def Rd (H : Hp) (a : Addr) (u : HO) : Prop := H a = some u ∨ ∃ o, H a = some (.frz o u)
theorem Rd.ok {P : Program} {w : World} {H : Hp} {h : Heap} {a : Addr} {u : HO} (r : Rd H a u) (x : HOk P w H h) : ObjOk P w H h a u := by
  rcases r with r | ⟨o, r⟩
  · exact x a u r
  · obtain ⟨_, q⟩ := x a _ r
    exact q
def Mut : Option HO → Prop
  | some (.lst _) => True
  | some (.dK _) => True
  | some (.dT _) => True
  | some (.set _ _) => True
  | some (.ins _ _ _) => True
  | some (.ext _) => True
  | _ => False
section
variable {P : Program} {w : World} {H : Hp} {h h' : Heap} {x e : Addr} {o' : HO}
theorem HOk.write (ok : HOk P w H h) (mu : Mut (H x)) (he : e = x ∨ H e = some (.own x)) (k : ∀ b u, b ≠ e → h.get? b = some u → h'.get? b = some u) (heo : ∃ u, h'.get? e = some u)
    (new : ObjOk P w (upd H x o') h' x o') : HOk P w (upd H x o') h' := fun b u q => by
  have nown : ∀ c y, H c = some (.own y) → c ≠ x := fun c y r z => by subst z; rw [r] at mu; exact mu
  have ntup : ∀ c xs, H c = some (.tup xs) → c ≠ x := fun c xs r z => by subst z; rw [r] at mu; exact mu
  by_cases hb : b = x
  · subst hb; rw [upd_same] at q; cases q; exact new
  · rw [upd_ne hb] at q
    by_cases hbe : b = e
    · have q' : H b = some (.own x) := by
        rcases he with z | z
        · exact absurd (hbe.trans z) hb
        · rw [hbe]; exact z
      rw [q] at q'; cases q'
      obtain ⟨v, hv⟩ := heo
      exact ⟨v, by rw [hbe]; exact hv⟩
    · refine (ok b u q).stay (fun c v hc r => k c v ?_ r) (fun c r => by rw [upd_ne (nown c b r)]; exact r) fun c xs r => by rw [upd_ne (ntup c xs r)]; exact r
      rcases hc with rfl | hc
      · exact hbe
      · rintro rfl
        rcases he with z | z
        · exact nown c b hc z
        · rw [hc] at z; cases z; exact hb rfl
end

/-! ### kept unless tracked; of the frames at fs (the callers') the slots may change (an exception that passes writes there); of the records at ex (iterators) nothing is said -/
structure Un (fs ex : List Addr) (H H' : Hp) (h h' : Heap) : Prop where
  keep : ∀ b o, h.get? b = some o → H b = none → b ∉ fs → b ∉ ex → h'.get? b = some o
  slot : ∀ b o, h.get? b = some o → H b = none → b ∈ fs → b ∉ ex → ∃ sl, h'.get? b = some { o with slots := sl }
  free : ∀ b o, h.get? b = some o → H b = none → b ∉ ex → H' b = none
  there : ∀ b o, h.get? b = some o → b ∉ ex → ∃ o', h'.get? b = some o'
  tups : ∀ b xs, H b = some (.tup xs) → H' b = some (.tup xs)
  frzs : ∀ b o u, H b = some (.frz o u) → H' b = some (.frz o u)
  tbls : ∀ b ps, H b = some (.tbl ps) → ∃ more, H' b = some (.tbl (ps ++ more))
section
variable {fs fs' ex ex' : List Addr} {H H1 H2 : Hp} {h h1 h2 h' : Heap} {a x e : Addr} {o : HO}
theorem Un.any (u : Un fs ex H H1 h h1) {b : Addr} {ob : Obj} (q : h.get? b = some ob) (n : H b = none) (hx : b ∉ ex) : ∃ sl, h1.get? b = some { ob with slots := sl } := by
  by_cases hb : b ∈ fs
  · exact u.slot b ob q n hb hx
  · exact ⟨ob.slots, u.keep b ob q n hb hx⟩
theorem Un.trans (a : Un fs ex H H1 h h1) (b : Un fs ex H1 H2 h1 h2) : Un fs ex H H2 h h2 where
  keep := fun c ob q n hc hx => b.keep c ob (a.keep c ob q n hc hx) (a.free c ob q n hx) hc hx
  slot := fun c ob q n hc hx => by
    obtain ⟨sl, e1⟩ := a.slot c ob q n hc hx
    obtain ⟨sl', e2⟩ := b.slot c _ e1 (a.free c ob q n hx) hc hx
    exact ⟨sl', e2⟩
  free := fun c ob q n hx => by
    obtain ⟨o', e1⟩ := a.there c ob q hx
    exact b.free c o' e1 (a.free c ob q n hx) hx
  there := fun c ob q hx => by
    obtain ⟨o', e1⟩ := a.there c ob q hx
    exact b.there c o' e1 hx
  tups := fun c xs q => b.tups c xs (a.tups c xs q)
  frzs := fun c ob xs q => b.frzs c ob xs (a.frzs c ob xs q)
  tbls := fun c ps q => by
    obtain ⟨m1, e1⟩ := a.tbls c ps q
    obtain ⟨m2, e2⟩ := b.tbls c _ e1
    exact ⟨m1 ++ m2, by rw [e2, Array.append_assoc]⟩
theorem Un.kept (k : ∀ b u, h.get? b = some u → h'.get? b = some u) : Un fs ex H H h h' :=
  ⟨fun b ob q _ _ _ => k b ob q, fun b ob q _ _ _ => ⟨ob.slots, k b ob q⟩, fun _ _ _ n _ => n, fun b ob q _ => ⟨ob, k b ob q⟩, fun _ _ q => q, fun _ _ _ q => q, fun _ ps q => ⟨#[], by rw [q]; simp⟩⟩
theorem Un.refl : Un fs ex H H h h := Un.kept fun _ _ q => q
theorem Un.laid (k : ∀ b u, h.get? b = some u → h'.get? b = some u) (hp : h.objs.size ≤ a) (hn : H a = none) : Un fs ex H (upd H a o) h h' where
  keep := fun b u q _ _ _ => k b u q
  slot := fun b u q _ _ _ => ⟨u.slots, k b u q⟩
  free := fun b u q n _ => by rw [upd_ne (Nat.ne_of_lt (Nat.lt_of_lt_of_le (Heap.lt_size q) hp))]; exact n
  there := fun b u q _ => ⟨u, k b u q⟩
  tups := fun b xs q => by rw [upd_ne (ne_of_none q hn)]; exact q
  frzs := fun b u xs q => by rw [upd_ne (ne_of_none q hn)]; exact q
  tbls := fun b ps q => ⟨#[], by rw [upd_ne (ne_of_none q hn), q]; simp⟩
theorem Un.write (mu : Mut (H x)) (he : e = x ∨ H e = some (.own x)) (k : ∀ b u, b ≠ e → h.get? b = some u → h'.get? b = some u) (heo : ∃ u, h'.get? e = some u) : Un fs ex H (upd H x o) h h' := by
  have hx : ∀ b, H b = none → b ≠ x := fun b n z => by subst z; rw [n] at mu; exact mu
  have hb : ∀ b, H b = none → b ≠ e := fun b n z => by
    subst z
    rcases he with r | r
    · exact hx b n r
    · rw [n] at r; cases r
  have hm : ∀ b u, H b = some u → ¬ Mut (some u) → b ≠ x := fun b u q nm z => by subst z; rw [q] at mu; exact nm mu
  refine ⟨fun b u q n _ _ => k b u (hb b n) q, fun b u q n _ _ => ⟨u.slots, k b u (hb b n) q⟩, fun b u q n _ => by rw [upd_ne (hx b n)]; exact n, fun b u q _ => ?_,
    fun b xs q => by rw [upd_ne (hm b _ q fun z => z)]; exact q, fun b u xs q => by rw [upd_ne (hm b _ q fun z => z)]; exact q, fun b ps q => ⟨#[], by rw [upd_ne (hm b _ q fun z => z), q]; simp⟩⟩
  by_cases hbe : b = e
  · subst hbe; exact heo
  · exact ⟨u, k b u hbe q⟩
end

/-! ### the heap without what is tracked -/
def trk (h : Heap) (H : Hp) : List Addr := (List.range h.objs.size).filter fun a => (H a).isSome
def hidT (h : Heap) (H : Hp) : Heap := PySem.W.hideAll h (trk h H)
theorem hidT_size (h : Heap) (H : Hp) : (hidT h H).objs.size = h.objs.size := PySem.W.hideAll_size _ _
theorem hidT_get {h : Heap} {H : Hp} {b : Addr} {o : Obj} (e : h.get? b = some o) (n : H b = none) : (hidT h H).get? b = some o :=
  PySem.W.hideAll_get _ e fun hm => by
    have q : (H b).isSome = true := (List.mem_filter.mp hm).2
    rw [n] at q; simp at q
theorem of_hidT {h : Heap} {H : Hp} {b : Addr} {o : Obj} (e : (hidT h H).get? b = some o) : h.get? b = some o ∧ H b = none := by
  have e' : h.get? b = some o := PySem.W.of_hideAll (trk h H) e
  refine ⟨e', ?_⟩
  cases q : H b with
  | none => rfl
  | some x =>
    have hm : b ∈ trk h H := List.mem_filter.mpr ⟨List.mem_range.mpr (Heap.lt_size e'), by simp [q]⟩
    have z : (hidT h H).get? b = none := PySem.W.hideAll_none (trk h H) hm
    rw [z] at e; cases e

/-! ### OpenK's ledger, filled with every new object but one -/
end L2

namespace L2
open PySem PySem.Spec PyProof.Rows

structure Mod (K : PySem.W.Frag) (mg : Str → Option Value) (base : Heap) : Prop where
  kin : K.In base
  glob : base.Ns mainGlobals mg
  blt : ∃ mb, base.Ns builtinsNs mb ∧ ∀ x : Str, x ≠ "__name__" → mb x = bootBuiltins x
  nolimit : base.NoLimit

structure Cx where
  prog : Program
  w : World
  K : PySem.W.Frag
  mg : Str → Option Value
  base : Heap
  A : Around
  N : List Str
  s₀ : Shared
  H₀ : Hp
  env : Env
  outer : List Env
  stack : List Env
  ex : List Addr
  fn : Str → Bool
  calm : Bool
  pn : List (Addr × Obj)
  xe : Value → Shared → Prop
def frs (l : List Env) : List Addr := l.filterMap (·.frame)
abbrev Cx.fs (X : Cx) : List Addr := frs X.outer

def Vis (sc : Scope) (x : Str) : Prop := sc.names.lookup x = some .local ∨ sc.names.lookup x = some .cell ∨ sc.names.lookup x = some .free
def Loc (sc : Scope) (x : Str) : Prop := sc.names.lookup x = some .local ∨ sc.names.lookup x = some .cell
def Look (env : Env) (h : Heap) (m : Str → Option Value) (x : Str) (u : Value) : Prop :=
  (env.kindOf x = some .local ∧ m x = some u) ∨ ((env.kindOf x = some .cell ∨ env.kindOf x = some .free) ∧ ∃ c, env.cells.lookup x = some c ∧ h.IsCell c (some u))

structure Cx.Ok (X : Cx) : Prop where
  mod : Mod X.K X.mg X.base
  kind : X.env.scope.kind = .function
  glob : X.env.globals = mainGlobals
  blt : X.env.builtins = builtinsNs
  above : X.s₀.heap.objs.size ≤ X.env.locals
  inj : ∀ x y c, X.env.cells.lookup x = some c → X.env.cells.lookup y = some c → x = y
  has : ∀ x, (X.env.kindOf x = some .cell ∨ X.env.kindOf x = some .free) → ∃ c, X.env.cells.lookup x = some c
  cab : ∀ x c, X.fn x = true → X.env.cells.lookup x = some c → X.s₀.heap.objs.size ≤ c
  hd : X.calm = true → X.A.handled = none
  frames : X.A.frames = some X.stack
  stk : X.stack = X.outer ∨ (X.stack = X.env :: X.outer ∧ X.env.frame = some X.env.locals)
  exf : ∀ b ∈ X.ex, b ≠ X.env.locals ∧ ∀ x c, X.env.cells.lookup x = some c → c ≠ b
  bs : ∀ b o, X.base.get? b = some o → X.s₀.heap.get? b = some o ∧ X.H₀ b = none
  bsz : X.base.objs.size ≤ X.s₀.heap.objs.size
  noex : ∀ b o, X.base.get? b = some o → b ∉ X.ex
  exfs : ∀ b ∈ X.ex, b ∉ X.fs
  funs : X.s₀.heap.FunFrames X.base X.outer
  frf : ∀ b ∈ X.fs, X.H₀ b = none

structure Inv (X : Cx) (pins : List (Addr × Obj)) (σ : List (Option V)) (H : Hp) (s : Shared) : Prop where
  ok : X.Ok
  os : s.os = X.s₀.os
  bare : AllBare s.gens
  base : Un X.fs X.ex X.H₀ H X.s₀.heap s.heap
  loc : ∃ m, s.heap.Ns X.env.locals m ∧ ∀ (i : Nat) (x : Str) (v : V), X.N[i]? = some x → σ[i]? = some (some v) → Vis X.env.scope x → ∃ u, RelV v u ∧ Look X.env s.heap m x u
  cell : ∀ x c, X.env.cells.lookup x = some c → ∃ v, s.heap.IsCell c v
  free : H X.env.locals = none
  freeC : ∀ x c, X.env.cells.lookup x = some c → H c = none
  pin : ∀ p ∈ X.pn ++ pins, s.heap.get? p.1 = some p.2 ∧ H p.1 = none ∧ p.1 ≠ X.env.locals ∧ p.1 ∉ X.fs ∧ ∀ v, p.2.data ≠ .cell v
  hok : HOk X.prog X.w H s.heap
  len : σ.length = X.N.length

section
variable {X : Cx} {pins : List (Addr × Obj)} {σ : List (Option V)} {H H' : Hp} {s : Shared} {h' : Heap}

theorem Cx.Ok.nofr (ok : X.Ok) {b : Addr} {o : Obj} (e : X.base.get? b = some o) : b ∉ X.fs := fun hb => by
  have := (ok.funs.mem hb).1
  rw [e] at this; cases this
theorem Inv.bs (I : Inv X pins σ H s) : ∀ b o, X.base.get? b = some o → s.heap.get? b = some o ∧ H b = none := fun b o e =>
  ⟨I.base.keep b o (I.ok.bs b o e).1 (I.ok.bs b o e).2 (I.ok.nofr e) (I.ok.noex b o e), I.base.free b o (I.ok.bs b o e).1 (I.ok.bs b o e).2 (I.ok.noex b o e)⟩
theorem Inv.bk (I : Inv X pins σ H s) : ∀ b o, X.base.get? b = some o → s.heap.get? b = some o := fun b o e => (I.bs b o e).1
theorem Inv.mod (I : Inv X pins σ H s) : Mod X.K X.mg X.base := I.ok.mod
theorem Inv.kIn (I : Inv X pins σ H s) : X.K.In s.heap := I.ok.mod.kin.keeps I.bk
theorem Inv.lt (I : Inv X pins σ H s) : X.env.locals < s.heap.objs.size := let ⟨_, hn, _⟩ := I.loc; hn.lt
theorem Inv.sz (I : Inv X pins σ H s) : X.s₀.heap.objs.size ≤ s.heap.objs.size := Nat.le_trans I.ok.above (Nat.le_of_lt I.lt)
theorem Inv.nofs (I : Inv X pins σ H s) {a : Addr} (h : s.heap.objs.size ≤ a) : a ∉ X.fs := fun hb => by
  obtain ⟨_, o, ho, _⟩ := I.ok.funs.mem hb
  exact absurd (Nat.lt_of_lt_of_le (Heap.lt_size ho) (Nat.le_trans I.sz h)) (Nat.lt_irrefl _)
theorem Inv.cne (I : Inv X pins σ H s) : ∀ x c, X.env.cells.lookup x = some c → c ≠ X.env.locals := fun x c e z => by
  obtain ⟨v, o, ho, hd⟩ := I.cell x c e
  obtain ⟨m, ⟨o', es, ep, ho', hd', _⟩, _⟩ := I.loc
  rw [z, ho'] at ho; cases ho; rw [hd'] at hd; cases hd
theorem Inv.funs (I : Inv X pins σ H s) : s.heap.FunFrames X.base X.outer := by
  have all : ∀ (l : List Env), (∀ b ∈ frs l, b ∈ X.fs) → X.s₀.heap.FunFrames X.base l → s.heap.FunFrames X.base l := by
    intro l
    induction l with
    | nil => intro _ _; trivial
    | cons env r ih =>
      intro hs hl
      obtain ⟨hk, ⟨L, o, hf, hn, ho, hd⟩, hr⟩ := hl
      have hL : L ∈ X.fs := hs L (by unfold frs; rw [List.filterMap_cons, hf]; exact List.mem_cons_self)
      obtain ⟨sl, e⟩ := I.base.slot L o ho (I.ok.frf L hL) hL fun z => I.ok.exfs L z hL
      exact ⟨hk, ⟨L, _, hf, hn, e, hd⟩, ih (fun b hb => hs b (by unfold frs; rw [List.filterMap_cons, hf]; exact List.mem_cons_of_mem _ hb)) hr⟩
  exact all X.outer (fun _ hb => hb) I.ok.funs

theorem Inv.stack (I : Inv X pins σ H s) : s.heap.FunFrames X.base X.stack := by
  rcases I.ok.stk with e | ⟨e, hf⟩
  · rw [e]; exact I.funs
  · rw [e]
    obtain ⟨m, hn, _⟩ := I.loc
    refine .cons (by rw [I.ok.kind]; decide) hf hn ?_ I.funs
    exact Heap.get?_none_of_le (Nat.le_trans I.ok.bsz I.ok.above)
theorem Inv.stkSub (I : Inv X pins σ H s) : ∀ b ∈ frs X.stack, b ∈ X.env.locals :: X.fs := fun b hb => by
  rcases I.ok.stk with e | ⟨e, hf⟩
  · rw [e] at hb; exact List.mem_cons_of_mem _ hb
  · rw [e] at hb
    unfold frs at hb
    rw [List.filterMap_cons, hf] at hb
    exact hb
theorem Inv.stkFree (I : Inv X pins σ H s) : ∀ b ∈ frs X.stack, H b = none := fun b hb => by
  rcases List.mem_cons.mp (I.stkSub b hb) with e | hb
  · rw [e]; exact I.free
  · obtain ⟨_, o, ho, _⟩ := I.ok.funs.mem hb
    exact I.base.free b o ho (I.ok.frf b hb) fun z => I.ok.exfs b z hb

theorem Inv.step {g' : Array GenState} {t' : Nat} {d' : Drawn} {ch : List Addr} (I : Inv X pins σ H s)
    (hch : ∀ b ∈ ch, (b ∈ X.ex ∨ X.s₀.heap.objs.size ≤ b) ∧ b ≠ X.env.locals ∧ (∀ x c, X.env.cells.lookup x = some c → c ≠ b) ∧ ∀ p ∈ X.pn ++ pins, p.1 ≠ b)
    (keep : ∀ b o, b ≠ X.env.locals → b ∉ X.fs → b ∉ ch → s.heap.get? b = some o → H b = none → h'.get? b = some o)
    (slot : ∀ b o, b ≠ X.env.locals → b ∈ X.fs → b ∉ ch → s.heap.get? b = some o → H b = none → ∃ sl, h'.get? b = some { o with slots := sl }) (free : ∀ b o, b ∉ ch → s.heap.get? b = some o → H b = none → H' b = none)
    (there : ∀ b o, b ∉ ch → s.heap.get? b = some o → ∃ o', h'.get? b = some o')
    (tups : ∀ b xs, H b = some (.tup xs) → H' b = some (.tup xs)) (frzs : ∀ b o u, H b = some (.frz o u) → H' b = some (.frz o u)) (tbls : ∀ b ps, H b = some (.tbl ps) → ∃ more, H' b = some (.tbl (ps ++ more)))
    (ns : ∀ m, s.heap.Ns X.env.locals m → h'.Ns X.env.locals m) (hok : HOk X.prog X.w H' h') (hg : AllBare g') :
    Inv X pins σ H' { s with heap := h', gens := g', drawn := d', toks := t' } := by
  have neL : ∀ b o, X.s₀.heap.get? b = some o → b ≠ X.env.locals := fun b o e => Nat.ne_of_lt (Nat.lt_of_lt_of_le (Heap.lt_size e) I.ok.above)
  have neC : ∀ b o, X.s₀.heap.get? b = some o → b ∉ X.ex → b ∉ ch := fun b o e hx hb => by
    rcases (hch b hb).1 with z | z
    · exact hx z
    · exact absurd (Nat.lt_of_lt_of_le (Heap.lt_size e) z) (Nat.lt_irrefl _)
  have cellK : ∀ x c, X.env.cells.lookup x = some c → ∀ v, s.heap.IsCell c v → h'.IsCell c v := fun x c e v ⟨o, ho, hd⟩ => by
    have nch : c ∉ ch := fun z => (hch c z).2.2.1 x c e rfl
    by_cases hc : c ∈ X.fs
    · obtain ⟨sl, q⟩ := slot c o (I.cne x c e) hc nch ho (I.freeC x c e)
      exact ⟨_, q, hd⟩
    · exact ⟨o, keep c o (I.cne x c e) hc nch ho (I.freeC x c e), hd⟩
  refine ⟨I.ok, I.os, hg, ⟨fun b o e n hb hx => ?_, fun b o e n hb hx => ?_, fun b o e n hx => ?_, fun b o e hx => ?_, fun b xs e => tups b xs (I.base.tups b xs e), fun b o xs e => frzs b o xs (I.base.frzs b o xs e), fun b ps e => ?_⟩, ?_, fun x c e => ?_, ?_, fun x c e => ?_, fun p hp => ?_, hok, I.len⟩
  · exact keep b o (neL b o e) hb (neC b o e hx) (I.base.keep b o e n hb hx) (I.base.free b o e n hx)
  · obtain ⟨sl, e1⟩ := I.base.slot b o e n hb hx
    obtain ⟨sl', e2⟩ := slot b _ (neL b o e) hb (neC b o e hx) e1 (I.base.free b o e n hx)
    exact ⟨sl', e2⟩
  · obtain ⟨o', e1⟩ := I.base.there b o e hx
    exact free b o' (neC b o e hx) e1 (I.base.free b o e n hx)
  · obtain ⟨o', e1⟩ := I.base.there b o e hx
    exact there b o' (neC b o e hx) e1
  · obtain ⟨m1, e1⟩ := I.base.tbls b ps e
    obtain ⟨m2, e2⟩ := tbls b _ e1
    exact ⟨m1 ++ m2, by rw [e2, Array.append_assoc]⟩
  · obtain ⟨m, hn, hl⟩ := I.loc
    refine ⟨m, ns m hn, fun i x v e1 e2 e3 => ?_⟩
    obtain ⟨u, r, l⟩ := hl i x v e1 e2 e3
    refine ⟨u, r, ?_⟩
    rcases l with l | ⟨k, c, e, z⟩
    · exact .inl l
    · exact .inr ⟨k, c, e, cellK x c e _ z⟩
  · obtain ⟨v, z⟩ := I.cell x c e
    exact ⟨v, cellK x c e v z⟩
  · obtain ⟨m, ⟨o, _, _, ho, _⟩, _⟩ := I.loc
    exact free _ o (fun z => (hch _ z).2.1 rfl) ho I.free
  · obtain ⟨v, o, ho, hd⟩ := I.cell x c e
    exact free c o (fun z => (hch c z).2.2.1 x c e rfl) ho (I.freeC x c e)
  · obtain ⟨e, n, ne, nf, d⟩ := I.pin p hp
    have nch : p.1 ∉ ch := fun z => (hch p.1 z).2.2.2 p hp rfl
    exact ⟨keep p.1 p.2 ne nf nch e n, free p.1 p.2 nch e n, ne, nf, d⟩
theorem Inv.un {t' : Nat} (I : Inv X pins σ H s) (u : Un X.fs [] H H' s.heap h') (hok : HOk X.prog X.w H' h') : Inv X pins σ H' { s with heap := h', toks := t' } := by
  obtain ⟨m, ⟨o, es, ep, ho, r⟩, _⟩ := id I.loc
  obtain ⟨sl, hL⟩ := u.any ho I.free (by simp)
  exact I.step (g' := s.gens) (d' := s.drawn) (ch := []) (fun _ z => nomatch z) (fun b o _ hb _ e n => u.keep b o e n hb (by simp)) (fun b o _ hb _ e n => u.slot b o e n hb (by simp)) (fun b o _ e n => u.free b o e n (by simp)) (fun b o _ e => u.there b o e (by simp)) u.tups u.frzs u.tbls (fun m' hm => by
    obtain ⟨o', es', ep', ho', r'⟩ := hm
    rw [ho] at ho'; cases ho'
    exact ⟨_, es', ep', hL, r'⟩) hok I.bare
theorem Inv.call {g' : Array GenState} {t' : Nat} {d' : Drawn} {ch : List Addr} (I : Inv X pins σ H s) (u : Un (frs X.stack) ch H H' s.heap h') (hok : HOk X.prog X.w H' h') (hg : AllBare g')
    (hch : ∀ b ∈ ch, (b ∈ X.ex ∨ X.s₀.heap.objs.size ≤ b) ∧ b ≠ X.env.locals ∧ (∀ x c, X.env.cells.lookup x = some c → c ≠ b) ∧ ∀ p ∈ X.pn ++ pins, p.1 ≠ b) :
    Inv X pins σ H' { s with heap := h', gens := g', drawn := d', toks := t' } := by
  obtain ⟨m, ⟨o, es, ep, ho, r⟩, _⟩ := id I.loc
  obtain ⟨sl, hL⟩ := u.any ho I.free fun z => (hch _ z).2.1 rfl
  exact I.step (ch := ch) hch (fun b o hL hb hc e n => u.keep b o e n (fun z => (List.mem_cons.mp (I.stkSub b z)).elim hL hb) hc) (fun b o _ _ hc e n => u.any e n hc) (fun b o hc e n => u.free b o e n hc) (fun b o hc e => u.there b o e hc) u.tups u.frzs u.tbls (fun m' hm => by
    obtain ⟨o', es', ep', ho', r'⟩ := hm
    rw [ho] at ho'; cases ho'
    exact ⟨_, es', ep', hL, r'⟩) hok hg
theorem Inv.turned {t' : Nat} {it : Addr} (I : Inv X pins σ H s) (k : ∀ b o, b ≠ it → s.heap.get? b = some o → h'.get? b = some o) (hn : H it = none) (hL : it ≠ X.env.locals)
    (h1 : it ∈ X.ex ∨ X.s₀.heap.objs.size ≤ it) (h2 : ∀ x c, X.env.cells.lookup x = some c → c ≠ it) (h3 : ∀ p ∈ X.pn ++ pins, p.1 ≠ it) : Inv X pins σ H { s with heap := h', toks := t' } := by
  have nit : ∀ b u, H b = some u → b ≠ it := fun b u e z => by rw [z, hn] at e; cases e
  refine I.step (g' := s.gens) (d' := s.drawn) (ch := [it]) (fun b hb => ?_) (fun b o _ _ hc e _ => k b o (fun z => hc (by simp [z])) e) (fun b o _ _ hc e _ => ⟨o.slots, k b o (fun z => hc (by simp [z])) e⟩) (fun _ _ _ _ n => n)
    (fun b o hc e => ⟨o, k b o (fun z => hc (by simp [z])) e⟩) (fun _ _ e => e) (fun _ _ _ e => e) (fun b ps e => ⟨#[], by rw [e]; simp⟩) (fun m hm => ?_) (fun b u e => ?_) I.bare
  · have e : b = it := by simpa using hb
    subst e
    exact ⟨h1, hL, h2, h3⟩
  · obtain ⟨o, es, ep, ho, r⟩ := hm
    exact ⟨o, es, ep, k _ o (Ne.symm hL) ho, r⟩
  · refine (I.hok b u e).stay (fun c v hc q => k c v ?_ q) (fun _ q => q) fun _ _ q => q
    rcases hc with z | z
    · rw [z]; exact nit b u e
    · exact nit c _ z
theorem Inv.tok (I : Inv X pins σ H s) (t : Nat) : Inv X pins σ H { s with toks := t } := I.un (h' := s.heap) (t' := t) Un.refl I.hok
theorem Inv.kept {t' : Nat} (I : Inv X pins σ H s) (k : ∀ b u, s.heap.get? b = some u → h'.get? b = some u) : Inv X pins σ H { s with heap := h', toks := t' } := I.un (Un.kept k) (I.hok.kept k)
theorem Inv.laid {a : Addr} {o : HO} {t' : Nat} (I : Inv X pins σ H s) (k : ∀ b u, s.heap.get? b = some u → h'.get? b = some u) (hp : s.heap.objs.size ≤ a) (new : ObjOk X.prog X.w (upd H a o) h' a o) :
    Inv X pins σ (upd H a o) { s with heap := h', toks := t' } := I.un (Un.laid k hp (I.hok.fresh hp)) (I.hok.laid k hp new)
theorem Inv.write {x e : Addr} {o : HO} {t' : Nat} (I : Inv X pins σ H s) (mu : Mut (H x)) (he : e = x ∨ H e = some (.own x)) (k : ∀ b u, b ≠ e → s.heap.get? b = some u → h'.get? b = some u) (heo : ∃ u, h'.get? e = some u)
    (new : ObjOk X.prog X.w (upd H x o) h' x o) : Inv X pins σ (upd H x o) { s with heap := h', toks := t' } := I.un (Un.write mu he k heo) (I.hok.write mu he k heo new)
theorem Inv.pins_of {pins' : List (Addr × Obj)} (I : Inv X pins σ H s) (h : ∀ p ∈ pins', s.heap.get? p.1 = some p.2 ∧ H p.1 = none ∧ p.1 ≠ X.env.locals ∧ p.1 ∉ X.fs ∧ ∀ v, p.2.data ≠ .cell v) : Inv X pins' σ H s :=
  ⟨I.ok, I.os, I.bare, I.base, I.loc, I.cell, I.free, I.freeC, fun p hp => (List.mem_append.mp hp).elim (fun z => I.pin p (List.mem_append_left _ z)) (h p), I.hok, I.len⟩

theorem nodup_ix {N : List Str} (hN : N.Nodup) {i j : Nat} {x : Str} (a : N[i]? = some x) (b : N[j]? = some x) : i = j := by
  obtain ⟨h1, e1⟩ := List.getElem?_eq_some_iff.mp a
  obtain ⟨h2, e2⟩ := List.getElem?_eq_some_iff.mp b
  exact (List.getElem_inj hN).mp (e1.trans e2.symm)

theorem store_ok2 {M : Model} {A : Around} {E : Value → Shared → Prop} {i : Nat} {x : Str} {v : V} {u : Value} {Q : Unit → Shared → Prop} (I : Inv X pins σ H s) (hN : X.N.Nodup) (hi : X.N[i]? = some x) (hx : Loc X.env.scope x) (r : RelV v u)
    (h : ∀ s', Inv X pins (σ.set i (some v)) H s' → (∃ a, Heap.SameBut a s.heap s'.heap ∧ (a = X.env.locals ∨ X.env.cells.lookup x = some a)) → Q () s') (hf : X.fn x = true ∨ X.env.scope.names.lookup x = some .local := by first | exact .inl rfl | exact .inr rfl | assumption) : wpAny M A (storeName X.env x u) Q E s := by
  obtain ⟨m, hn, hl⟩ := id I.loc
  have hcls : (X.env.scope.kind == .class || (X.env.scope.kind == .module && X.env.locals != X.env.globals)) = false := by rw [I.ok.kind]; rfl
  have hiσ : i < σ.length := by rw [I.len]; exact (List.getElem?_eq_some_iff.mp hi).1
  have cne := I.cne
  have tracked : ∀ {a : Addr} {h' : Heap}, (∃ o, s.heap.get? a = some o ∧ H a = none) → Heap.SameBut a s.heap h' → HOk X.prog X.w H h' := fun {a h'} ha hs b ob e => by
    obtain ⟨_, _, hfree⟩ := ha
    refine (I.hok b ob e).stay (fun c w' hc q => (hs.2 c ?_).trans q) (fun _ q => q) fun _ _ q => q
    rintro rfl
    rcases hc with rfl | hc
    · rw [hfree] at e; cases e
    · rw [hfree] at hc; cases hc
  rcases hx with hk | hk
  · refine wpAny_storeName_local hk hn (fun h' hn' hs => ?_) hcls
    obtain ⟨oL, _, _, hoL, _⟩ := id hn
    refine h _ ⟨I.ok, I.os, I.bare, ⟨fun b o e n hb hx => ?_, fun b o e n hb hx => ?_, I.base.free, fun b o e hx => ?_, I.base.tups, I.base.frzs, I.base.tbls⟩, ⟨_, hn', fun j y v' e1 e2 e3 => ?_⟩, fun y c e => ?_, I.free, I.freeC, fun p hp => ?_, tracked ⟨oL, hoL, I.free⟩ hs, by simpa using I.len⟩ ⟨_, hs, .inl rfl⟩
    · exact (hs.2 b (Nat.ne_of_lt (Nat.lt_of_lt_of_le (Heap.lt_size e) I.ok.above))).trans (I.base.keep b o e n hb hx)
    · obtain ⟨sl, e1⟩ := I.base.slot b o e n hb hx
      exact ⟨sl, (hs.2 b (Nat.ne_of_lt (Nat.lt_of_lt_of_le (Heap.lt_size e) I.ok.above))).trans e1⟩
    · obtain ⟨o', e1⟩ := I.base.there b o e hx
      exact ⟨o', (hs.2 b (Nat.ne_of_lt (Nat.lt_of_lt_of_le (Heap.lt_size e) I.ok.above))).trans e1⟩
    · by_cases hj : j = i
      · subst hj
        rw [hi] at e1; cases e1
        rw [List.getElem?_set_self hiσ] at e2
        cases e2
        exact ⟨u, r, .inl ⟨hk, by simp⟩⟩
      · rw [List.getElem?_set_ne (Ne.symm hj)] at e2
        obtain ⟨u', r', q⟩ := hl j y v' e1 e2 e3
        refine ⟨u', r', ?_⟩
        rcases q with ⟨k, e⟩ | ⟨k, c, e, z⟩
        · refine .inl ⟨k, ?_⟩
          have : y ≠ x := fun e => hj (nodup_ix hN e1 (e ▸ hi))
          simp [this, e]
        · exact .inr ⟨k, c, e, z.sameBut hs (cne y c e)⟩
    · obtain ⟨w', z⟩ := I.cell y c e
      exact ⟨w', z.sameBut hs (cne y c e)⟩
    · obtain ⟨e, n, ne, nf, d⟩ := I.pin p hp
      exact ⟨(hs.2 p.1 ne).trans e, n, ne, nf, d⟩
  · have hfn : X.fn x = true := by
      rcases hf with z | z
      · exact z
      · rw [z] at hk; cases hk
    obtain ⟨c, hc⟩ := I.ok.has x (.inl hk)
    obtain ⟨w', z⟩ := I.cell x c hc
    refine wpAny_storeName_cell I.ok.kind hk hc z (fun h' hc' hs => ?_)
    obtain ⟨oc, hoc, hocd⟩ := id z
    refine h { s with heap := h' } ⟨I.ok, I.os, I.bare, ⟨fun b o e n hb hx => ?_, fun b o e n hb hx => ?_, I.base.free, fun b o e hx => ?_, I.base.tups, I.base.frzs, I.base.tbls⟩, ⟨m, hn.sameBut hs (Ne.symm (cne x c hc)), fun j y v' e1 e2 e3 => ?_⟩, fun y c' e => ?_, I.free, I.freeC, fun p hp => ?_, tracked ⟨oc, hoc, I.freeC x c hc⟩ hs, by simpa using I.len⟩ ⟨c, hs, .inr hc⟩
    · exact (hs.2 b (Nat.ne_of_lt (Nat.lt_of_lt_of_le (Heap.lt_size e) (I.ok.cab x c hfn hc)))).trans (I.base.keep b o e n hb hx)
    · obtain ⟨sl, e1⟩ := I.base.slot b o e n hb hx
      exact ⟨sl, (hs.2 b (Nat.ne_of_lt (Nat.lt_of_lt_of_le (Heap.lt_size e) (I.ok.cab x c hfn hc)))).trans e1⟩
    · obtain ⟨o', e1⟩ := I.base.there b o e hx
      exact ⟨o', (hs.2 b (Nat.ne_of_lt (Nat.lt_of_lt_of_le (Heap.lt_size e) (I.ok.cab x c hfn hc)))).trans e1⟩
    · by_cases hj : j = i
      · subst hj
        rw [hi] at e1; cases e1
        rw [List.getElem?_set_self hiσ] at e2
        cases e2
        exact ⟨u, r, .inr ⟨.inl hk, c, hc, hc'⟩⟩
      · rw [List.getElem?_set_ne (Ne.symm hj)] at e2
        obtain ⟨u', r', q⟩ := hl j y v' e1 e2 e3
        refine ⟨u', r', ?_⟩
        rcases q with q | ⟨k, c', e, z'⟩
        · exact .inl q
        · refine .inr ⟨k, c', e, z'.sameBut hs ?_⟩
          rintro rfl
          exact hj (nodup_ix hN e1 (I.ok.inj _ _ _ e hc ▸ hi))
    · by_cases hcc : c' = c
      · subst hcc; exact ⟨_, hc'⟩
      · obtain ⟨w2, z2⟩ := I.cell y c' e
        exact ⟨w2, z2.sameBut hs hcc⟩
    · obtain ⟨e, n, ne, nf, d⟩ := I.pin p hp
      refine ⟨(hs.2 p.1 ?_).trans e, n, ne, nf, d⟩
      intro q
      rw [q, hoc] at e
      have q' : oc = p.2 := Option.some.inj e
      exact d w' (by rw [← q']; exact hocd)
theorem store_ok {M : Model} {A : Around} {E : Value → Shared → Prop} {i : Nat} {x : Str} {v : V} {u : Value} {Q : Unit → Shared → Prop} (I : Inv X pins σ H s) (hN : X.N.Nodup) (hi : X.N[i]? = some x) (hx : Loc X.env.scope x) (r : RelV v u)
    (h : ∀ s', Inv X pins (σ.set i (some v)) H s' → Q () s') (hf : X.fn x = true ∨ X.env.scope.names.lookup x = some .local := by first | exact .inl rfl | exact .inr rfl | assumption) : wpAny M A (storeName X.env x u) Q E s :=
  store_ok2 I hN hi hx r (fun s' I' _ => h s' I') hf
theorem Inv.call' {s' : Shared} {ch : List Addr} (I : Inv X pins σ H s) (ho : s'.os = s.os) (u : Un (frs X.stack) ch H H' s.heap s'.heap) (hok : HOk X.prog X.w H' s'.heap) (hg : AllBare s'.gens)
    (hch : ∀ b ∈ ch, (b ∈ X.ex ∨ X.s₀.heap.objs.size ≤ b) ∧ b ≠ X.env.locals ∧ (∀ x c, X.env.cells.lookup x = some c → c ≠ b) ∧ ∀ p ∈ X.pn ++ pins, p.1 ≠ b) : Inv X pins σ H' s' := by
  obtain ⟨h', g', d', t', o'⟩ := s'
  have e : o' = s.os := ho
  subst e
  exact I.call (g' := g') (t' := t') (d' := d') u hok hg hch
end

/-! ### the judgements -/
abbrev XK := Value → Option Addr → Hp → Prop
abbrev St := List (Option V)
abbrev VK := V → Hp → Prop
abbrev TE := St → Hp → VK → Prop
abbrev TT := St → Hp → (Bool → Hp → Prop) → Prop
abbrev TA := St → Hp → (List V → Hp → Prop) → Prop
structure Ends where
  nx : St → Hp → Prop
  rt : VK
  bk : St → Hp → Prop := fun _ _ => False
  ct : St → Hp → Prop := fun _ _ => False
abbrev TS := Ends → St → Hp → Prop

def EP (X : Cx) (pins : List (Addr × Obj)) (σ : St) (Q : VK) (u : Value) (s' : Shared) : Prop := ∃ v H', Inv X pins σ H' s' ∧ RelV v u ∧ Q v H'
def TP (X : Cx) (pins : List (Addr × Obj)) (σ : St) (Q : Bool → Hp → Prop) (b : Bool) (s' : Shared) : Prop := ∃ H', Inv X pins σ H' s' ∧ Q b H'
def AP (X : Cx) (pins : List (Addr × Obj)) (σ : St) (Q : List V → Hp → Prop) (us : List Value) (s' : Shared) : Prop := ∃ vs H', Inv X pins σ H' s' ∧ Vals vs us ∧ Q vs H'
def SP (X : Cx) (pins : List (Addr × Obj)) (D : Ends) (f : Flow) (s' : Shared) : Prop :=
  match f with
  | .next => ∃ σ' H', Inv X pins σ' H' s' ∧ D.nx σ' H'
  | .brk => ∃ σ' H', Inv X pins σ' H' s' ∧ D.bk σ' H'
  | .cont => ∃ σ' H', Inv X pins σ' H' s' ∧ D.ct σ' H'
  | .ret u => ∃ v σ' H', Inv X pins σ' H' s' ∧ RelV v u ∧ D.rt v H'

def PE (X : Cx) (e : Expr) (t : TE) : Prop :=
  ∀ (pins : List (Addr × Obj)) (s : Shared) (σ : St) (H : Hp) (Q : VK), Inv X pins σ H s → t σ H Q → wpAny (model X.prog X.w) X.A (eval e X.env) (EP X pins σ Q) X.xe s
def PT (X : Cx) (e : Expr) (t : TT) : Prop :=
  ∀ (pins : List (Addr × Obj)) (s : Shared) (σ : St) (H : Hp) (Q : Bool → Hp → Prop), Inv X pins σ H s → t σ H Q → wpAny (model X.prog X.w) X.A (isTrue e X.env (eval e X.env)) (TP X pins σ Q) X.xe s
def PW (X : Cx) (e : Expr) (t : TT) : Prop :=
  ∀ (whole : Sem Value) (pins : List (Addr × Obj)) (s : Shared) (σ : St) (H : Hp) (Q : Bool → Hp → Prop), Inv X pins σ H s → t σ H Q → wpAny (model X.prog X.w) X.A (isTrue e X.env whole) (TP X pins σ Q) X.xe s
theorem PW.pt {X : Cx} {e : Expr} {t : TT} (h : PW X e t) : PT X e t := h _
def PA (X : Cx) (es : List Expr) (t : TA) : Prop :=
  ∀ (pos : Pos) (pins : List (Addr × Obj)) (s : Shared) (σ : St) (H : Hp) (Q : List V → Hp → Prop), Inv X pins σ H s → t σ H Q → wpAny (model X.prog X.w) X.A (spliced (backTo pos (starEach es X.env))) (AP X pins σ Q) X.xe s
def PS (X : Cx) (st : Stmt) (t : TS) : Prop :=
  ∀ (pins : List (Addr × Obj)) (s : Shared) (σ : St) (H : Hp) (D : Ends), Inv X pins σ H s → t D σ H → wpAny (model X.prog X.w) X.A (exec st X.env) (SP X pins D) X.xe s
def PSs (X : Cx) (st : List Stmt) (t : TS) : Prop :=
  ∀ (pins : List (Addr × Obj)) (s : Shared) (σ : St) (H : Hp) (D : Ends), Inv X pins σ H s → t D σ H → wpAny (model X.prog X.w) X.A (execs st X.env) (SP X pins D) X.xe s
theorem thn {α : Type} {t : Sem α} {Q Q' : α → Shared → Prop} {M : Model} {A : Around} {E : Value → Shared → Prop} {s : Shared} (h : wpAny M A t Q E s) (hQ : ∀ a s, Q a s → Q' a s) : wpAny M A t Q' E s := wpAny_mono h hQ fun _ _ x => x
end L2

namespace L2
open PySem PySem.Spec PyProof.Rows
section
variable {X : Cx}

/-! ### names and constants -/
def tVar (i : Nat) : TE := fun σ H Q => ∃ v, σ[i]? = some (some v) ∧ Q v H
def tC (v : V) : TE := fun _ H Q => Q v H
theorem pe_var {i : Nat} {x : Str} {pos : Pos} (hN : X.N[i]? = some x) (hv : Vis X.env.scope x) (hd : (x == ("__debug__" : Str)) = false := by decide) (hcd : (x == ("__classdict__" : Str)) = false := by decide) : PE X (.Name x pos) (tVar i) := by
  intro pins s σ H Q I h
  obtain ⟨v, e, h⟩ := h
  obtain ⟨m, hn, hl⟩ := I.loc
  obtain ⟨u, r, l⟩ := hl i x v hN e hv
  have fin : EP X pins σ Q u s := ⟨v, H, I, r, h⟩
  rcases l with ⟨hk, hm⟩ | ⟨hk, c, hc, hcell⟩
  · exact wpAny_Name (wpAny_loadName_local I.ok.kind hk hn hm fin) hd
  · rcases hk with hk | hk
    · exact wpAny_Name (wpAny_loadName_cell I.ok.kind hk hc hcell fin) hd
    · exact wpAny_Name (wpAny_loadName_free I.ok.kind hk hc hcell fin hcd) hd
theorem pe_int {i j pos} : PE X (.Constant (.int i) j pos) (tC (.int i)) := fun _ _ _ H _ I h => wpAny_Constant_int ⟨.int i, H, I.tok _, ⟨_, rfl⟩, h⟩
theorem pe_bl {b j pos} : PE X (.Constant (.bool b) j pos) (tC (.bl b)) := fun _ _ _ H _ I h => Constant_bool ⟨.bl b, H, I, rfl, h⟩
theorem pe_str {x j pos} : PE X (.Constant (.str x) j pos) (tC (.str x)) := fun _ _ _ H _ I h => Calls.Constant_str ⟨.str x, H, I.tok _, ⟨_, rfl⟩, h⟩

def Gl (X : Cx) (x : Str) : Prop := X.env.kindOf x = some .globalImplicit
theorem ld_glob {E : Value → Shared → Prop} {pins : List (Addr × Obj)} {s : Shared} {σ : St} {H : Hp} {x : Str} {u : Value} {pos : Pos} {Q : Value → Shared → Prop} (I : Inv X pins σ H s) (hg : Gl X x) (hm : X.mg x = some u) (h : Q u s)
    (hd : (x == ("__debug__" : Str)) = false := by decide) : wpAny (model X.prog X.w) X.A (eval (.Name x pos) X.env) Q E s :=
  Calls.Name_function_global I.ok.kind hg (Calls.loadGlobal_global (by rw [I.ok.glob]; exact I.mod.glob.keeps I.bk) hm h) hd
theorem ld_blt {E : Value → Shared → Prop} {pins : List (Addr × Obj)} {s : Shared} {σ : St} {H : Hp} {x : Str} {u : Value} {pos : Pos} {Q : Value → Shared → Prop} (I : Inv X pins σ H s) (hg : Gl X x) (hm : X.mg x = none) (hv : bootBuiltins x = some u) (h : Q u s)
    (hn : x ≠ "__name__" := by decide) (hd : (x == ("__debug__" : Str)) = false := by decide) : wpAny (model X.prog X.w) X.A (eval (.Name x pos) X.env) Q E s := by
  obtain ⟨mb, h1, h2⟩ := I.mod.blt
  exact Calls.Name_function_global I.ok.kind hg (Calls.loadGlobal_builtin (by rw [I.ok.glob]; exact I.mod.glob.keeps I.bk) hm (by rw [I.ok.blt]; exact h1.keeps I.bk) ((h2 x hn).trans hv) h) hd
theorem pe_glob {x : Str} {v : V} {u : Value} {pos : Pos} (hg : Gl X x) (hm : X.mg x = some u) (r : RelV v u) (hd : (x == ("__debug__" : Str)) = false := by decide) : PE X (.Name x pos) (tC v) :=
  fun _ _ _ H _ I h => ld_glob I hg hm ⟨v, H, I, r, h⟩ hd
theorem pe_bltn {x : Str} {v : V} {u : Value} {pos : Pos} (hg : Gl X x) (hm : X.mg x = none) (hv : bootBuiltins x = some u) (r : RelV v u) (hn : x ≠ "__name__" := by decide) (hd : (x == ("__debug__" : Str)) = false := by decide) : PE X (.Name x pos) (tC v) :=
  fun _ _ _ H _ I h => ld_blt I hg hm hv ⟨v, H, I, r, h⟩ hn hd

/-! ### arithmetic -/
variable {a b : Expr} {ta tb : TE} {pos : Pos}
/-! ### comparisons -/
def tB (t : TE) : TT := fun σ H Q => t σ H fun x H1 => ∃ c, x = .bl c ∧ Q c H1
theorem pt_val {e : Expr} {t : TE} (h : PE X e t) (he : ∀ whole, isTrue e X.env whole = (do let v ← whole; standAt e.pos; holding [v] (truthy v)) := by intro _; rfl) : PT X e (tB t) := by
  intro pins s σ H Q I hw
  refine isTrue_plain (thn (h pins s σ H _ I hw) fun v s1 ⟨x, H1, I1, r1, q1⟩ => ?_) (he _)
  obtain ⟨d, rfl, q⟩ := q1
  cases r1
  exact wpAny_truthy_bool ⟨H1, I1, q⟩

/-! ### and, or, not -/
variable {tA tB' : TT} {rest : List Expr}
def tAnd (t u : TT) : TT := fun σ H Q => t σ H fun c H1 => if c = true then u σ H1 Q else Q false H1
def tOr (t u : TT) : TT := fun σ H Q => t σ H fun c H1 => if c = true then Q true H1 else u σ H1 Q
def tNot (t : TT) : TT := fun σ H Q => t σ H fun c H1 => Q (!c) H1
theorem pw_and1 (ha : PT X a tA) : PW X (.BoolOp .And [a] pos) tA := by
  intro wh pins s σ H Q I h
  refine isTrue_and (thn (ha pins s σ H Q I h) fun c s1 e => ?_)
  cases c with
  | true => exact isTrue_and_nil e
  | false => exact e
theorem pw_or1 (ha : PT X a tA) : PW X (.BoolOp .Or [a] pos) tA := by
  intro wh pins s σ H Q I h
  refine isTrue_or (thn (ha pins s σ H Q I h) fun c s1 e => ?_)
  cases c with
  | false => exact isTrue_or_nil e
  | true => exact e
theorem pw_and (ha : PT X a tA) (hb : PW X (.BoolOp .And (b :: rest) pos) tB') : PW X (.BoolOp .And (a :: b :: rest) pos) (tAnd tA tB') := by
  intro wh pins s σ H Q I h
  refine isTrue_and (thn (ha pins s σ H _ I h) fun c s1 ⟨H1, I1, q1⟩ => ?_)
  cases c with
  | true => exact hb wh pins s1 σ H1 Q I1 q1
  | false => exact ⟨H1, I1, q1⟩
theorem pw_or (ha : PT X a tA) (hb : PW X (.BoolOp .Or (b :: rest) pos) tB') : PW X (.BoolOp .Or (a :: b :: rest) pos) (tOr tA tB') := by
  intro wh pins s σ H Q I h
  refine isTrue_or (thn (ha pins s σ H _ I h) fun c s1 ⟨H1, I1, q1⟩ => ?_)
  cases c with
  | true => exact ⟨H1, I1, q1⟩
  | false => exact hb wh pins s1 σ H1 Q I1 q1
theorem pt_not (ha : PT X a tA) : PT X (.UnaryOp .Not a pos) (tNot tA) := by
  intro pins s σ H Q I h
  exact isTrue_not (ha pins s σ H (fun c H1 => Q (!c) H1) I h)
def tAndV (ta tb : TE) : TE := fun σ H Q => ta σ H fun x H1 => ∃ c, x = .bl c ∧ if c = true then tb σ H1 Q else Q (.bl false) H1
def tNotV (ta : TE) : TE := fun σ H Q => ta σ H fun x H1 => ∃ c, x = .bl c ∧ Q (.bl (!c)) H1
theorem pe_one {op} {t : TE} (h : PE X a t) : PE X (.BoolOp op [a] pos) t := fun pins s σ H Q I hw => BoolOp_one (h pins s σ H Q I hw)
theorem pe_and (ha : PE X a ta) (hb : PE X (.BoolOp .And (b :: rest) pos) tb) : PE X (.BoolOp .And (a :: b :: rest) pos) (tAndV ta tb) := by
  intro pins s σ H Q I h
  refine BoolOp_and (thn (ha pins s σ H _ I h) fun v s1 ⟨x, H1, I1, r1, q1⟩ => ?_)
  obtain ⟨c, rfl, q1⟩ := q1
  cases r1
  refine wpAny_truthy_bool ?_
  cases c with
  | true => exact hb pins s1 σ H1 Q I1 q1
  | false => exact ⟨.bl false, H1, I1, rfl, q1⟩
theorem pe_not (ha : PE X a ta) : PE X (.UnaryOp .Not a pos) (tNotV ta) := by
  intro pins s σ H Q I h
  refine UnaryOp_ (thn (ha pins s σ H _ I h) fun v s1 ⟨x, H1, I1, r1, q1⟩ => ?_)
  obtain ⟨c, rfl, q1⟩ := q1
  cases r1
  exact not_of (wpAny_truthy_bool ⟨.bl (!c), H1, I1, rfl, q1⟩)
def tIf (t : TT) (ta tb : TE) : TE := fun σ H Q => t σ H fun c H1 => if c = true then ta σ H1 Q else tb σ H1 Q
theorem pe_ifExp {c : Expr} (hc : PT X c tA) (ha : PE X a ta) (hb : PE X b tb) : PE X (.IfExp c a b pos) (tIf tA ta tb) := by
  intro pins s σ H Q I h
  refine wpAny_IfExp (thn (hc pins s σ H _ I h) fun d s1 ⟨H1, I1, q1⟩ => ?_)
  cases d with
  | true => exact ha pins s1 σ H1 Q I1 q1
  | false => exact hb pins s1 σ H1 Q I1 q1
end
end L2

namespace L2
open PySem PySem.Spec PyProof.Rows

/-! ### a list, a tuple that is read: tracked, frozen, or an object of the module -/
def SqL (K : PySem.W.Frag) (H : Hp) (a : Addr) (xs : List V) : Prop :=
  Rd H a (.lst xs) ∨
    ∃ (o : Obj) (its : Array Value) (n : Nat), K.lookup a = some o ∧ o.cls = .type "list" ∧ o.dict = none ∧ o.data = .seq its n ∧ its.size ≤ sizeLine ∧ Vals xs its.toList
def SqT (K : PySem.W.Frag) (H : Hp) (a : Addr) (xs : List V) : Prop :=
  Rd H a (.tup xs) ∨
    ∃ (o : Obj) (its : Array Value) (n : Nat), K.lookup a = some o ∧ o.cls = .type "tuple" ∧ o.data = .seq its n ∧ its.size ≤ sizeLine ∧ Vals xs its.toList
def absV : Value → Option V
  | .none => some .non
  | .bool b => some (.bl b)
  | .int i _ => some (.int i)
  | .str x _ => some (.str x)
  | .bytes b _ => some (.byt b)
  | .float b _ => some (.flt b)
  | .ref a => some (.ref a)
  | .type n => some (.ty n)
  | _ => none
theorem RelV.abs {x : V} {u : Value} (r : RelV x u) : absV u = some x := by
  cases x with
  | non => cases r; rfl
  | bl _ => cases r; rfl
  | int _ => obtain ⟨t, rfl⟩ := r; rfl
  | str _ => obtain ⟨t, rfl⟩ := r; rfl
  | byt _ => obtain ⟨t, rfl⟩ := r; rfl
  | flt _ => obtain ⟨t, rfl⟩ := r; rfl
  | ref _ => cases r; rfl
  | ty _ => cases r; rfl
theorem RelV.inj {x y : V} {u : Value} (r : RelV x u) (q : RelV y u) : x = y := Option.some.inj (r.abs.symm.trans q.abs)
theorem Vals.inj : ∀ {xs ys : List V} {us : List Value}, Vals xs us → Vals ys us → xs = ys
  | _, _, _, .nil, .nil => rfl
  | _, _, _, .cons r t, .cons r' t' => by rw [r.inj r', Vals.inj t t']
section
variable {X : Cx} {pins : List (Addr × Obj)} {σ : St} {H : Hp} {s : Shared} {a : Addr} {xs ys : List V}
theorem SqL.of {K : PySem.W.Frag} (h : H a = some (.lst xs)) : SqL K H a xs := .inl (.inl h)
theorem SqT.of {K : PySem.W.Frag} (h : H a = some (.tup xs)) : SqT K H a xs := .inl (.inl h)
theorem Inv.list (I : Inv X pins σ H s) (h : SqL X.K H a xs) : ∃ its : List Value, Vals xs its ∧ PlainL s.heap a its.toArray ∧ xs.length ≤ sizeLine := by
  rcases h with h | ⟨o, its, n, hk, hc, hd, hs, hz, r⟩
  · obtain ⟨z, its, n, r, e⟩ := h.ok I.hok
    exact ⟨its, r, ⟨_, n, e, rfl, rfl, rfl⟩, z⟩
  · refine ⟨its.toList, r, ⟨o, n, I.kIn a o hk, hc, hd, by simpa using hs⟩, ?_⟩
    have e := r.length
    simp only [Array.length_toList] at e
    omega
theorem Inv.tuple (I : Inv X pins σ H s) (h : SqT X.K H a xs) : ∃ its : List Value, Vals xs its ∧ IsTup s.heap a its.toArray ∧ xs.length ≤ sizeLine := by
  rcases h with h | ⟨o, its, n, hk, hc, hs, hz, r⟩
  · obtain ⟨z, its, r, p⟩ := h.ok I.hok
    exact ⟨its, r, p, z⟩
  · refine ⟨its.toList, r, ⟨o, I.kIn a o hk, hc, n, by simpa using hs⟩, ?_⟩
    have e := r.length
    simp only [Array.length_toList] at e
    omega
theorem Inv.list_inj (I : Inv X pins σ H s) (h : SqL X.K H a xs) (h' : SqL X.K H a ys) : xs = ys := by
  obtain ⟨its, r, ⟨o, n, e, _, _, d⟩, _⟩ := I.list h
  obtain ⟨its', r', ⟨o', n', e', _, _, d'⟩, _⟩ := I.list h'
  rw [e] at e'; cases e'
  rw [d] at d'
  injection d' with d1 _
  have : its = its' := by simpa using congrArg Array.toList d1
  subst this
  exact r.inj r'
end

/-! ### another wish about exceptions -/
abbrev Cx.wish (X : Cx) (E : Value → Shared → Prop) : Cx := { X with xe := E }
abbrev Cx.nox (X : Cx) : Cx := X.wish fun _ _ => False
theorem Cx.Ok.wish {X : Cx} (ok : X.Ok) (E : Value → Shared → Prop) : (X.wish E).Ok :=
  ⟨ok.mod, ok.kind, ok.glob, ok.blt, ok.above, ok.inj, ok.has, ok.cab, ok.hd, ok.frames, ok.stk, ok.exf, ok.bs, ok.bsz, ok.noex, ok.exfs, ok.funs, ok.frf⟩
theorem Cx.Ok.unwish {X : Cx} {E : Value → Shared → Prop} (ok : (X.wish E).Ok) : X.Ok :=
  ⟨ok.mod, ok.kind, ok.glob, ok.blt, ok.above, ok.inj, ok.has, ok.cab, ok.hd, ok.frames, ok.stk, ok.exf, ok.bs, ok.bsz, ok.noex, ok.exfs, ok.funs, ok.frf⟩
section
variable {X : Cx} {pins : List (Addr × Obj)} {σ : St} {H : Hp} {s : Shared} {E : Value → Shared → Prop}
theorem Inv.wish (I : Inv X pins σ H s) (E : Value → Shared → Prop) : Inv (X.wish E) pins σ H s := ⟨I.ok.wish E, I.os, I.bare, I.base, I.loc, I.cell, I.free, I.freeC, I.pin, I.hok, I.len⟩
theorem Inv.unwish (I : Inv (X.wish E) pins σ H s) : Inv X pins σ H s := ⟨I.ok.unwish, I.os, I.bare, I.base, I.loc, I.cell, I.free, I.freeC, I.pin, I.hok, I.len⟩
theorem SP.unwish {D : Ends} {f : Flow} {s' : Shared} (h : SP (X.wish E) pins D f s') : SP X pins D f s' := by
  cases f with
  | next => obtain ⟨σ', H', I, q⟩ := h; exact ⟨σ', H', I.unwish, q⟩
  | brk => obtain ⟨σ', H', I, q⟩ := h; exact ⟨σ', H', I.unwish, q⟩
  | cont => obtain ⟨σ', H', I, q⟩ := h; exact ⟨σ', H', I.unwish, q⟩
  | ret u => obtain ⟨v, σ', H', I, r, q⟩ := h; exact ⟨v, σ', H', I.unwish, r, q⟩
theorem PSs.nox {st : List Stmt} {t : TS} (h : PSs X.nox st t) : PSs X st t := fun pins s σ H D I hw =>
  wpAny_mono (h pins s σ H D (I.wish _) hw) (fun _ _ q => q.unwish) fun _ _ z => False.elim z
end

/-! ### blocks and small statements -/
section
variable {X : Cx} {st : Stmt} {rest : List Stmt} {t u : TS} {e : Expr} {te : TE} {pos : Pos}
def tNext : TS := fun D σ H => D.nx σ H
def tSeq (t u : TS) : TS := fun D σ H => t { D with nx := u D } σ H
theorem pss_nil : PSs X [] tNext := fun _ _ σ H _ I h => wpAny_execs_nil ⟨σ, H, I, h⟩
theorem pss_cons (h1 : PS X st t) (h2 : PSs X rest u) : PSs X (st :: rest) (tSeq t u) := by
  intro pins s σ H D I h
  refine wpAny_execs_cons (thn (h1 pins s σ H { D with nx := u D } I h) fun f s1 q => ?_)
  cases f with
  | next =>
    obtain ⟨σ', H', I', q⟩ := q
    exact h2 pins s1 σ' H' D I' q
  | ret v => exact q
  | brk => exact q
  | cont => exact q
theorem pss_one (h1 : PS X st t) : PSs X [st] t := by
  intro pins s σ H D I h
  refine wpAny_execs_cons (thn (h1 pins s σ H D I h) fun f s1 q => ?_)
  cases f with
  | next => exact wpAny_execs_nil q
  | ret v => exact q
  | brk => exact q
  | cont => exact q
theorem Inv.quiet {pins : List (Addr × Obj)} {σ : St} {H : Hp} {s : Shared} (I : Inv X pins σ H s) : interactive X.env = false := by simp [interactive, I.ok.kind]
def tDrop (te : TE) : TS := fun D σ H => te σ H fun _ H1 => D.nx σ H1
theorem ps_expr (he : PE X e te) (hs : swapsWith e none pos.line X.env = pure false := by rfl) : PS X (.Expr e pos) (tDrop te) := by
  intro pins s σ H D I h
  exact wpAny_Expr_any (thn (he pins s σ H _ I h) fun v s1 ⟨x, H1, I1, r1, q1⟩ => ⟨σ, H1, I1, q1⟩) I.quiet hs
def tRet (te : TE) : TS := fun D σ H => te σ H D.rt
theorem ps_ret (he : PE X e te) : PS X (.Return (some e) pos) (tRet te) := by
  intro pins s σ H D I h
  exact wpAny_Return_some (thn (he pins s σ H _ I h) fun v s1 ⟨x, H1, I1, r1, q1⟩ => ⟨x, σ, H1, I1, r1, q1⟩)
def tIfS (c : TT) (t u : TS) : TS := fun D σ H => c σ H fun b H1 => if b = true then t D σ H1 else u D σ H1
theorem ps_if {c : Expr} {a b : List Stmt} {tc : TT} (hc : PT X c tc) (ha : PSs X a t) (hb : PSs X b u) : PS X (.If c a b pos) (tIfS tc t u) := by
  intro pins s σ H D I h
  refine wpAny_If (thn (hc pins s σ H _ I h) fun d s1 ⟨H1, I1, q1⟩ => ?_)
  cases d with
  | true => exact ha pins s1 σ H1 D I1 q1
  | false => exact hb pins s1 σ H1 D I1 q1
def tNever : TS := fun _ _ _ => False
theorem ps_never : PS X st tNever := fun _ _ _ _ _ _ h => h.elim
theorem pss_never {sts : List Stmt} : PSs X sts tNever := fun _ _ _ _ _ _ h => h.elim
end

/-! ### targets -/
abbrev TG := V → St → Hp → (St → Hp → Prop) → Prop
abbrev TGs := List V → St → Hp → (St → Hp → Prop) → Prop
def PG (X : Cx) (target : Expr) (t : TG) : Prop :=
  ∀ (pins : List (Addr × Obj)) (s : Shared) (σ : St) (H : Hp) (v : V) (u : Value) (Q : St → Hp → Prop), Inv X pins σ H s → RelV v u → t v σ H Q →
    wpAny (model X.prog X.w) X.A (assign target X.env u) (fun _ s' => ∃ σ' H', Inv X pins σ' H' s' ∧ Q σ' H') X.xe s
def PGs (X : Cx) (ts : List Expr) (t : TGs) : Prop :=
  ∀ (pins : List (Addr × Obj)) (s : Shared) (σ : St) (H : Hp) (vs : List V) (us : List Value) (Q : St → Hp → Prop), Inv X pins σ H s → Vals vs us → t vs σ H Q →
    wpAny (model X.prog X.w) X.A (assignInOrder ((assignEach ts X.env).map (·.2)) us) (fun _ s' => ∃ σ' H', Inv X pins σ' H' s' ∧ Q σ' H') X.xe s
abbrev TSet := V → V → V → Hp → (Hp → Prop) → Prop
def PSet (X : Cx) (t : TSet) : Prop :=
  ∀ (pins : List (Addr × Obj)) (s : Shared) (σ : St) (H : Hp) (o i v : V) (ov iv u : Value) (Q : Hp → Prop), Inv X pins σ H s → RelV o ov → RelV i iv → RelV v u → t o i v H Q →
    wpAny (model X.prog X.w) X.A (setItem ov iv u) (fun _ s' => ∃ H', Inv X pins σ H' s' ∧ Q H') X.xe s
section
variable {X : Cx} {pos : Pos}
def gName (i : Nat) : TG := fun v σ H Q => Q (σ.set i (some v)) H
theorem pg_name {i : Nat} {x : Str} (hN : X.N.Nodup) (hi : X.N[i]? = some x) (hx : Loc X.env.scope x) (hf : X.fn x = true ∨ X.env.scope.names.lookup x = some .local := by first | exact .inl rfl | exact .inr rfl | assumption) : PG X (.Name x pos) (gName i) := by
  intro pins s σ H v u Q I r h
  exact wpAny_assign_Name (store_ok I hN hi hx r (fun s' I' => ⟨_, H, I', h⟩) hf)
def gNil : TGs := fun vs σ H Q => vs = [] ∧ Q σ H
def gCons (t : TG) (u : TGs) : TGs := fun vs σ H Q => ∃ v r, vs = v :: r ∧ t v σ H fun σ' H' => u r σ' H' Q
theorem pgs_nil : PGs X [] gNil := by
  intro pins s σ H vs us Q I r h
  obtain ⟨e, h⟩ := h
  subst e
  cases r
  exact assignInOrder_nil ⟨σ, H, I, h⟩
theorem pgs_cons {e : Expr} {es : List Expr} {t : TG} {u : TGs} (h1 : PG X e t) (h2 : PGs X es u)
    (hs : (assignEach (e :: es) X.env).map (·.2) = assign e X.env :: (assignEach es X.env).map (·.2) := by rfl) : PGs X (e :: es) (gCons t u) := by
  intro pins s σ H vs us Q I r h
  obtain ⟨v, vr, e1, h⟩ := h
  subst e1
  cases r with
  | cons r rr =>
    rw [hs]
    refine assignInOrder_cons (thn (h1 pins s σ H _ _ _ I r h) fun _ s1 ⟨σ1, H1, I1, q1⟩ => ?_)
    exact h2 pins s1 σ1 H1 _ _ Q I1 rr q1
def gTup (K : PySem.W.Frag) (n : Nat) (t : TGs) : TG := fun v σ H Q => ∃ a xs, v = .ref a ∧ SqT K H a xs ∧ xs.length = n ∧ t xs σ H Q
theorem pg_tup {es : List Expr} {k : Nat} {t : TGs} {n : Nat} (hc : X.calm = true) (h : PGs X es t)
    (hn : (assignEach es X.env).length = n := by rfl) (hst : (assignEach es X.env).findIdx? (·.1) = none := by rfl) : PG X (.Tuple es k pos) (gTup X.K n t) := by
  intro pins s σ H v u Q I r hw
  obtain ⟨a, xs, e1, hq, hl, hw⟩ := hw
  subst e1
  cases r
  obtain ⟨its, rv, ht, hz⟩ := I.tuple hq
  refine assign_Tuple_tuple (I.ok.hd hc) ht (by simp [hn, ← hl, rv.length]) hst fun h' hx => ?_
  have I1 : Inv X pins σ H { s with heap := h' } := I.kept (t' := s.toks) fun b o e => hx b o (Nat.ne_of_lt (Heap.lt_size e)) e
  exact h pins _ σ H xs _ Q I1 (by simpa using rv) hw
def gSub (to ti : TE) (t : TSet) : TG := fun v σ H Q => to σ H fun o H1 => ti σ H1 fun i H2 => t o i v H2 fun H3 => Q σ H3
theorem pg_sub {o i : Expr} {to ti : TE} {t : TSet} (ho : PE X o to) (hi : PE X i ti) (hs : PSet X t)
    (ha : ∀ v, assign (.Subscript o i pos) X.env v = (do
      let ov ← holding [v] (eval o X.env)
      let iv ← holding [v, ov] (eval i X.env)
      standAt pos
      holding [v, ov, iv] (setItem ov iv v)
      release [v, ov, iv] []) := by intro _; rfl) : PG X (.Subscript o i pos) (gSub to ti t) := by
  intro pins s σ H v u Q I r h
  rw [ha]
  refine wpAny_bind (wpAny_holding (thn (ho pins s σ H _ I h) fun ov s1 ⟨x, H1, I1, r1, q1⟩ => ?_))
  refine wpAny_bind (wpAny_holding (thn (hi pins s1 σ H1 _ I1 q1) fun iv s2 ⟨y, H2, I2, r2, q2⟩ => ?_))
  refine wpAny_bind (wpAny_standAt (wpAny_bind (wpAny_holding (thn (hs pins s2 σ H2 x y v ov iv u _ I2 r1 r2 r q2) fun _ s3 ⟨H3, I3, q3⟩ => ?_))))
  exact wpAny_release ⟨σ, H3, I3, q3⟩
def tAsg (te : TE) (g : TG) : TS := fun D σ H => te σ H fun x H1 => g x σ H1 D.nx
theorem ps_asg {tg e : Expr} {te : TE} {g : TG} (he : PE X e te) (hg : PG X tg g) (hs : swapsWithSole [tg] e pos.line X.env = pure false := by rfl) (hw : swappedStores [tg] e X.env = pure none := by rfl)
    (h1 : (assignEach [tg] X.env).map (·.2) = [assign tg X.env] := by rfl) : PS X (.Assign [tg] e pos) (tAsg te g) := by
  intro pins s σ H D I h
  refine wpAny_Assign_stores (thn (he pins s σ H _ I h) fun v s1 ⟨x, H1, I1, r1, q1⟩ => ?_) hs hw
  rw [h1]
  exact thn (hg pins s1 σ H1 x v _ I1 r1 q1) fun _ s2 q => q
theorem ps_set {i : Nat} {x : Str} {e : Expr} {te : TE} {pos' : Pos} (hN : X.N.Nodup) (hi : X.N[i]? = some x) (hx : Loc X.env.scope x) (he : PE X e te) (hs : swapsWith e (some (.Name x pos')) pos.line X.env = pure false := by rfl) (hf : X.fn x = true ∨ X.env.scope.names.lookup x = some .local := by first | exact .inl rfl | exact .inr rfl | assumption) :
    PS X (.Assign [.Name x pos'] e pos) (tAsg te (gName i)) := by
  intro pins s σ H D I h
  refine wpAny_Assign_Name (thn (he pins s σ H _ I h) fun v s1 ⟨y, H1, I1, r1, q1⟩ => ?_) hs
  exact store_ok I1 hN hi hx r1 (fun s2 I2 => ⟨_, H1, I2, q1⟩) hf
end

/-! ### while -/
section
variable {X : Cx} {pos : Pos}
def tWhile (c : TT) (tb : TS) : TS := fun D σ H => ∃ W : Nat → St → Hp → Prop, (∃ m, W m σ H) ∧ ∀ m σ H, W m σ H →
  c σ H fun b H1 => if b = true then ∃ N : St → Hp → Prop, (∀ σ' H', N σ' H' → ∃ m', m' < m ∧ W m' σ' H') ∧ tb { D with nx := N, ct := N, bk := D.nx } σ H1 else D.nx σ H1
theorem ps_while {c : Expr} {body : List Stmt} {tc : TT} {tb : TS} (hp : PassesOwn (model X.prog X.w) X.A X.env X.xe) (hc : PT X c tc) (hb : PSs X body tb) : PS X (.While c body [] pos) (tWhile tc tb) := by
  intro pins s σ H D I h
  obtain ⟨W, ⟨m0, w0⟩, turn⟩ := h
  refine wpAny_While (codeAny_whileLoop (fun n s' => ∃ σ' H', Inv X pins σ' H' s' ∧ W n σ' H') ?_ m0 ⟨σ, H, I, w0⟩)
  rintro n s1 ⟨σ1, H1, I1, w1⟩
  refine wpAny_passesOwn hp (thn (hc pins s1 σ1 H1 _ I1 (turn n σ1 H1 w1)) fun b s2 ⟨H2, I2, q2⟩ => ?_)
  cases b with
  | true =>
    obtain ⟨N, hN, q2⟩ := q2
    rw [if_pos rfl]
    refine wpAny_passesOwn hp (thn (hb pins s2 σ1 H2 _ I2 q2) fun f s3 q3 => ?_)
    cases f with
    | next =>
      obtain ⟨σ3, H3, I3, n3⟩ := q3
      obtain ⟨m', hm, w3⟩ := hN σ3 H3 n3
      exact ⟨m', hm, σ3, H3, I3, w3⟩
    | cont =>
      obtain ⟨σ3, H3, I3, n3⟩ := q3
      obtain ⟨m', hm, w3⟩ := hN σ3 H3 n3
      exact ⟨m', hm, σ3, H3, I3, w3⟩
    | brk => exact q3
    | ret v => exact q3
  | false =>
    rw [if_neg Bool.false_ne_true]
    exact wpAny_execs_nil ⟨σ1, H2, I2, q2⟩
end

/-! ### what a loop or a comprehension walks -/
structure It where
  go : Nat → Hp → Prop
  yld : Nat → Hp → V → Hp → Prop
  stop : Nat → Hp → Prop
def FpOk (X : Cx) (pins : List (Addr × Obj)) (H : Hp) (b : Addr) : Prop :=
  H b = none ∧ b ≠ X.env.locals ∧ b ∉ X.fs ∧ (b ∈ X.ex ∨ X.s₀.heap.objs.size ≤ b) ∧ (∀ x c, X.env.cells.lookup x = some c → c ≠ b) ∧ ∀ p ∈ X.pn ++ pins, p.1 ≠ b
theorem Inv.fpOk {X : Cx} {pins : List (Addr × Obj)} {σ : St} {H H' : Hp} {s : Shared} {b : Addr} (I : Inv X pins σ H s) (hb : s.heap.objs.size ≤ b) (hn : H' b = none) : FpOk X pins H' b := by
  refine ⟨hn, Nat.ne_of_gt (Nat.lt_of_lt_of_le I.lt hb), I.nofs hb, .inr (Nat.le_trans I.sz hb), fun x c e z => ?_, fun p hp z => ?_⟩
  · obtain ⟨v, q⟩ := I.cell x c e
    exact absurd (Nat.lt_of_lt_of_le q.lt (by rw [z]; exact hb)) (Nat.lt_irrefl _)
  · exact absurd (Nat.lt_of_lt_of_le (Heap.lt_size (I.pin p hp).1) (by rw [z]; exact hb)) (Nat.lt_irrefl _)
structure Turn (P : Program) (w : World) (K : PySem.W.Frag) (tg : Expr) (J : It) (fp : List Addr) (it : Addr) (tn : Nat → Heap → Prop) : Prop where
  mem : it ∈ fp
  obj : ∀ i h, tn i h → ∀ b ∈ fp, ∃ o, h.get? b = some o ∧ ∀ v, o.data ≠ .cell v
  keep : ∀ i h h', tn i h → (∀ b ∈ fp, ∀ o, h.get? b = some o → h'.get? b = some o) → tn i h'
  item : ∀ (X : Cx), X.prog = P → X.w = w → X.K = K → X.calm = true → ∀ (i : Nat) (pins : List (Addr × Obj)) (s : Shared) (σ : St) (H : Hp) (E : Value → Shared → Prop), Inv X pins σ H s → (∀ b ∈ fp, FpOk X pins H b) → tn i s.heap → J.go i H →
    wpAny (model P w) X.A (pyNext (.ref it)) (fun r s1 => ∃ u, r = some u ∧
      wpAny (model P w) X.A (letOwnedTupleGo tg (.ref it) u) (fun _ s2 => ∃ x H', Inv X pins σ H' s2 ∧ RelV x u ∧ J.yld i H x H' ∧ tn (i + 1) s2.heap ∧ ∀ b ∈ fp, H' b = none) E s1) E s
  done : ∀ (X : Cx), X.prog = P → X.w = w → X.K = K → X.calm = true → ∀ (i : Nat) (pins : List (Addr × Obj)) (s : Shared) (σ : St) (H : Hp) (E : Value → Shared → Prop), Inv X pins σ H s → (∀ b ∈ fp, FpOk X pins H b) → tn i s.heap → J.stop i H →
    wpAny (model P w) X.A (pyNext (.ref it)) (fun r s1 => r = none ∧ Inv X pins σ H s1) E s
  self : ∀ (A : Around) (i : Nat) (s : Shared) (Q : Value → Shared → Prop) (E : Value → Shared → Prop), tn i s.heap → Q (.ref it) s → wpAny (model P w) A (pyIter (.ref it)) Q E s
abbrev TI := St → Hp → (It → Hp → Prop) → Prop
def PIE (X : Cx) (pins : List (Addr × Obj)) (σ : St) (tg : Expr) (R : It → Hp → Prop) (itv : Value) (s2 : Shared) : Prop :=
  ∃ (it : Addr) (fp : List Addr) (tn : Nat → Heap → Prop) (J : It) (H' : Hp), itv = .ref it ∧ Inv X pins σ H' s2 ∧ Turn X.prog X.w X.K tg J fp it tn ∧ tn 0 s2.heap ∧ (∀ b ∈ fp, FpOk X pins H' b) ∧ R J H'
def PI (X : Cx) (tg iter : Expr) (wi : TI) : Prop :=
  ∀ (pins : List (Addr × Obj)) (s : Shared) (σ : St) (H : Hp) (R : It → Hp → Prop), Inv X pins σ H s → wi σ H R →
    wpAny (model X.prog X.w) X.A (eval iter X.env) (fun v s1 => wpAny (model X.prog X.w) X.A (pyIter v) (PIE X pins σ tg R) X.xe s1) X.xe s

theorem go_of {M : Model} {A : Around} {E : Value → Shared → Prop} {s : Shared} {tg : Expr} {it : Addr} {u : Value} {o : Obj} {n : String} {vs : Array Value} {Q : Unit → Shared → Prop} (ho : s.heap.get? it = some o) (hc : o.cls = .type n) (hd : o.data = .fields vs)
    (hn : ["enumerate", "zip", "dict_itemiterator", "dict_reverseitemiterator", "odict_iterator", "itertools.zip_longest", "itertools.pairwise"].contains n = false) (hQ : Q () s) : wpAny M A (letOwnedTupleGo tg (.ref it) u) Q E s := by
  unfold letOwnedTupleGo
  cases tg <;> first
    | exact wpAny_pure hQ
    | (cases u <;> first
        | exact wpAny_pure hQ
        | (refine wpAny_bind (wpAny_load ho ?_)
           rw [hc, hd]
           show wpAny M A (if (["enumerate", "zip", "dict_itemiterator", "dict_reverseitemiterator", "odict_iterator", "itertools.zip_longest", "itertools.pairwise"].contains n && vs[0]? == some (rawInt _)) = true then _ else _) Q E s
           rw [if_neg (by intro h; rw [hn, Bool.false_and] at h; cases h)]
           exact wpAny_pure hQ))

def Itl (K : PySem.W.Frag) (a : Addr) : It :=
  ⟨fun i H => ∃ xs x, SqL K H a xs ∧ xs[i]? = some x, fun i H x H' => H' = H ∧ ∀ xs, SqL K H a xs → xs[i]? = some x, fun i H => ∃ xs, SqL K H a xs ∧ xs.length ≤ i⟩
def Itr (lo : Int) (n : Nat) : It := ⟨fun i _ => i < n, fun i H x H' => H' = H ∧ x = .int (lo + i), fun i _ => n ≤ i⟩
theorem turn_list {P : Program} {w : World} {K : PySem.W.Frag} {tg : Expr} (a it : Addr) : Turn P w K tg (Itl K a) [it] it (fun i h => h.IsListIter it a i) where
  mem := by simp
  obj := fun i h st b hb => by
    have e : b = it := by simpa using hb
    subst e
    obtain ⟨o, e, c, d⟩ := st
    exact ⟨o, e, fun v z => by rw [d] at z; cases z⟩
  keep := fun i h h' st k => st.at fun o e => k it (by simp) o e
  item := by
    intro X hP hw hK hc i pins s σ H E I hf st hg
    subst hP hw hK
    obtain ⟨xs, x, hq, hx⟩ := hg
    obtain ⟨its, rv, p, hz⟩ := I.list hq
    obtain ⟨u, hu, ru⟩ := rv.get hx
    obtain ⟨f0, f1, f2, f3, f4, f5⟩ := hf it (by simp)
    refine wpAny_pyNext_list_item st p.isList (x := u) (by simpa using hu) fun h' st' sb => ?_
    have I1 : Inv X pins σ H { s with heap := h' } := I.turned (t' := s.toks) (fun b o hb e => (sb.2 b hb).trans e) f0 f1 f3 f4 f5
    obtain ⟨o, e, c, d⟩ := id st'
    exact ⟨u, rfl, go_of (s := { s with heap := h' }) e c d (by decide) ⟨x, H, I1, ru, ⟨rfl, fun ys hy => by rw [I.list_inj hy hq]; exact hx⟩, st', fun b hb => (hf b hb).1⟩⟩
  done := by
    intro X hP hw hK hc i pins s σ H E I hf st hg
    subst hP hw hK
    obtain ⟨xs, hq, hx⟩ := hg
    obtain ⟨its, rv, p, hz⟩ := I.list hq
    obtain ⟨f0, f1, f2, f3, f4, f5⟩ := hf it (by simp)
    have hl := rv.length
    exact wpAny_pyNext_list_end (I.ok.hd hc) st p.isList (by simp; omega) fun h' eb => ⟨rfl, I.turned (t' := s.toks) (fun b o hb e => eb b o hb e) f0 f1 f3 f4 f5⟩
  self := fun _ _ _ _ _ st h => wpAny_pyIter_listiter st h
theorem turn_range {P : Program} {w : World} {K : PySem.W.Frag} {tg : Expr} (it : Addr) (lo : Int) (n : Nat) : Turn P w K tg (Itr lo n) [it] it (fun i h => IsRangeIter h it (lo + (i : Nat) * 1) ((n : Int) - (i : Nat)) 1) where
  mem := by simp
  obj := fun i h st b hb => by
    have e : b = it := by simpa using hb
    subst e
    exact ⟨_, st, fun v z => by
      have z' : Data.fields _ = Data.cell v := z
      cases z'⟩
  keep := fun i h h' st k => k it (by simp) _ st
  item := by
    intro X hP hw hK hc i pins s σ H E I hf st hg
    subst hP hw hK
    obtain ⟨f0, f1, f2, f3, f4, f5⟩ := hf it (by simp)
    have W := Walks.range (prog := X.prog) (w := X.w) (I.ok.hd hc) it lo 1 n
    refine W.item i s _ _ hg st fun v h' tk hv st' kk => ?_
    obtain ⟨t, rfl⟩ := hv
    have I1 : Inv X pins σ H { s with heap := h', toks := tk } := I.turned (fun b o hb e => kk b o (by simpa using hb) e) f0 f1 f3 f4 f5
    refine ⟨_, rfl, go_of (s := { s with heap := h', toks := tk }) (n := "range_iterator") st' rfl rfl (by decide) ⟨.int (lo + i), H, I1, ⟨t, ?_⟩, ⟨rfl, rfl⟩, st', fun b hb => (hf b hb).1⟩⟩
    rw [Int.mul_one]
  done := by
    intro X hP hw hK hc i pins s σ H E I hf st hg
    subst hP hw hK
    obtain ⟨f0, f1, f2, f3, f4, f5⟩ := hf it (by simp)
    exact wpAny_pyNext_range_end (I.ok.hd hc) st (by have : n ≤ i := hg; omega) fun h' eb => ⟨rfl, I.turned (t' := s.toks) (fun b o hb e => eb b o hb e) f0 f1 f3 f4 f5⟩
  self := fun _ _ _ _ _ st h => wpAny_pyIter_rangeiter st h
end L2

namespace L2
open PySem PySem.Spec PyProof.Rows
section
variable {X : Cx} {tg : Expr}
def iList (K : PySem.W.Frag) (tl : TE) : TI := fun σ H R => tl σ H fun x H1 => ∃ a, x = .ref a ∧ (∃ xs, SqL K H1 a xs) ∧ R (Itl K a) H1
theorem pi_list {l : Expr} {tl : TE} (hl : PE X l tl) : PI X tg l (iList X.K tl) := by
  intro pins s σ H R I h
  refine thn (hl pins s σ H _ I h) fun v s1 ⟨x, H1, I1, r1, q1⟩ => ?_
  obtain ⟨a, e, ⟨xs, hq⟩, q⟩ := q1
  subst e
  cases r1
  obtain ⟨its, rv, p, hz⟩ := I1.list hq
  refine wpAny_pyIter_list p.isList ?_
  refine ⟨s1.heap.objs.size, [s1.heap.objs.size], _, _, H1, rfl, I1.kept (t' := s1.toks) fun b o e => Heap.get?_push_of_some _ e, turn_list a _, ⟨_, Heap.get?_push_size _ rfl, rfl, rfl⟩, fun b hb => ?_, q⟩
  have e : b = s1.heap.objs.size := by simpa using hb
  subst e
  exact I1.fpOk (Nat.le_refl _) (I1.hok.fresh (Nat.le_refl _))
theorem range_it {pins : List (Addr × Obj)} {σ : St} {H : Hp} {s : Shared} {R : It → Hp → Prop} {E : Value → Shared → Prop} {lo hi : Int} {t u v : Tok} {tk : Nat} (I : Inv X pins σ H s) (h1 : -(2 ^ 62) ≤ lo) (h2 : lo < 2 ^ 62) (h3 : -(2 ^ 62) ≤ hi) (h4 : hi < 2 ^ 62)
    (q : R (Itr lo (hi - lo).toNat) H) : wpAny (model X.prog X.w) X.A (pyIter (.ref s.heap.objs.size)) (PIE X pins σ tg R) E { s with heap := s.heap.push { cls := .type "range", data := .fields #[.int lo t, .int hi u, .int 1 v] }, toks := tk } := by
  refine wpAny_pyIter_range (IsRange.new ..) (small_one h1 h2 h3 h4) ?_
  have I1 : Inv X pins σ H { s with heap := s.heap.push { cls := .type "range", data := .fields #[.int lo t, .int hi u, .int 1 v] }, toks := tk } := I.kept fun b o e => Heap.get?_push_of_some _ e
  refine ⟨(s.heap.push { cls := .type "range", data := .fields #[.int lo t, .int hi u, .int 1 v] }).objs.size, [(s.heap.push { cls := .type "range", data := .fields #[.int lo t, .int hi u, .int 1 v] }).objs.size], _, _, H, rfl,
    I1.kept (t' := tk) fun b o e => Heap.get?_push_of_some _ e, turn_range _ lo (hi - lo).toNat, ?_, fun b hb => ?_, q⟩
  · have e1 : lo + ((0 : Nat) : Int) * 1 = lo := by simp
    have e2 : (((hi - lo).toNat : Nat) : Int) - ((0 : Nat) : Int) = Builtin.Range.rangeSize lo hi 1 := by rw [rangeSize_one]; split <;> omega
    show IsRangeIter _ _ (lo + ((0 : Nat) : Int) * 1) ((((hi - lo).toNat : Nat) : Int) - ((0 : Nat) : Int)) 1
    rw [e1, e2]
    exact Heap.get?_push_size _ rfl
  · have e : b = (s.heap.push { cls := .type "range", data := .fields #[.int lo t, .int hi u, .int 1 v] }).objs.size := by simpa using hb
    subst e
    exact I1.fpOk (Nat.le_refl _) (I1.hok.fresh (Nat.le_refl _))
def iRng1 (ta : TA) : TI := fun σ H R => ta σ H fun vs H1 => ∃ j : Int, vs = [.int j] ∧ -(2 ^ 62) ≤ j ∧ j < 2 ^ 62 ∧ R (Itr 0 j.toNat) H1
def iRng2 (ta : TA) : TI := fun σ H R => ta σ H fun vs H1 => ∃ i j : Int, vs = [.int i, .int j] ∧ (-(2 ^ 62) ≤ i ∧ i < 2 ^ 62 ∧ -(2 ^ 62) ≤ j ∧ j < 2 ^ 62) ∧ R (Itr i (j - i).toNat) H1
theorem pi_range1 {a : Expr} {ta : TA} {p pos : Pos} (hg : Gl X "range") (hm : X.mg "range" = none) (ha : PA X [a] ta) (hs : starEach [a] X.env = [(false, eval a X.env)] := by rfl) : PI X tg (.Call (.Name "range" p) [a] [] pos) (iRng1 ta) := by
  intro pins s σ H R I h
  refine Call_ (ld_blt I hg hm boot_range (PyProof.Rows.callWith_type1 (thn (ha pos pins s σ H _ I h) fun us s1 ⟨vs, H1, I1, r1, q1⟩ => ?_) hs rfl))
  obtain ⟨j, e, q1, q2, q⟩ := q1
  subst e
  cases r1 with
  | cons r rr =>
    cases rr
    obtain ⟨t, rfl⟩ := r
    exact call_range_1 (range_it I1 (by omega) (by omega) q1 q2 (by simpa using q))
theorem pi_range2 {a b : Expr} {ta : TA} {p pos : Pos} (hg : Gl X "range") (hm : X.mg "range" = none) (ha : PA X [a, b] ta) (hs : starEach [a, b] X.env = [(false, eval a X.env), (false, eval b X.env)] := by rfl) (hs2 : starEach [b] X.env = [(false, eval b X.env)] := by rfl) :
    PI X tg (.Call (.Name "range" p) [a, b] [] pos) (iRng2 ta) := by
  intro pins s σ H R I h
  refine Call_ (ld_blt I hg hm boot_range (PyProof.Rows.callWith_type1 (thn (ha pos pins s σ H _ I h) fun us s1 ⟨vs, H1, I1, r1, q1⟩ => ?_) (by rw [hs, hs2]) (by rw [hs2]; rfl)))
  obtain ⟨i, j, e, ⟨q1, q2, q3, q4⟩, q⟩ := q1
  subst e
  cases r1 with
  | cons r rr =>
    cases rr with
    | cons r' rr =>
      cases rr
      obtain ⟨t, rfl⟩ := r
      obtain ⟨t', rfl⟩ := r'
      exact call_range_2 (range_it I1 q1 q2 q3 q4 q)

/-! ### for -/
def tFor (wi : TI) (g : TG) (tb : TS) : TS := fun D σ H => wi σ H fun J H1 => ∃ W : Nat → Nat → St → Hp → Prop, (∃ m, W 0 m σ H1) ∧ ∀ i m σ H, W i m σ H →
  (J.stop i H ∧ D.nx σ H) ∨ (J.go i H ∧ ∃ N : St → Hp → Prop, (∀ σ' H', N σ' H' → ∃ m', m' < m ∧ W (i + 1) m' σ' H') ∧ ∀ x H', J.yld i H x H' → g x σ H' fun σ2 H2 => tb { D with nx := N, ct := N, bk := D.nx } σ2 H2)
def pinsAt (fp : List Addr) (h : Heap) : List (Addr × Obj) := fp.filterMap fun b => (h.get? b).map fun o => (b, o)
theorem mem_pinsAt {fp : List Addr} {h : Heap} {b : Addr} {o : Obj} (hb : b ∈ fp) (e : h.get? b = some o) : (b, o) ∈ pinsAt fp h := List.mem_filterMap.mpr ⟨b, hb, by rw [e]; rfl⟩
theorem of_pinsAt {fp : List Addr} {h : Heap} {p : Addr × Obj} (hp : p ∈ pinsAt fp h) : p.1 ∈ fp ∧ h.get? p.1 = some p.2 := by
  obtain ⟨b, hb, e⟩ := List.mem_filterMap.mp hp
  cases q : h.get? b with
  | none => rw [q] at e; cases e
  | some o =>
    rw [q] at e
    have e' : (b, o) = p := Option.some.inj e
    subst e'
    exact ⟨hb, q⟩
theorem Inv.pinned {pins : List (Addr × Obj)} {σ : St} {H : Hp} {s : Shared} {fp : List Addr} (I : Inv X pins σ H s) (hf : ∀ b ∈ fp, FpOk X pins H b) (ho : ∀ b ∈ fp, ∃ o, s.heap.get? b = some o ∧ ∀ v, o.data ≠ .cell v) : Inv X (pins ++ pinsAt fp s.heap) σ H s :=
  I.pins_of fun p hp => (List.mem_append.mp hp).elim (fun z => I.pin p (List.mem_append_right _ z)) fun z => by
    obtain ⟨hb, e⟩ := of_pinsAt z
    obtain ⟨f0, f1, f2, _⟩ := hf p.1 hb
    obtain ⟨o, e', d⟩ := ho p.1 hb
    rw [e] at e'; cases e'
    exact ⟨e, f0, f1, f2, d⟩
theorem Inv.unpinned {pins pl : List (Addr × Obj)} {σ : St} {H : Hp} {s : Shared} (I : Inv X (pins ++ pl) σ H s) : Inv X pins σ H s := I.pins_of fun p hp => I.pin p (List.mem_append_right _ (List.mem_append_left _ hp))
theorem ps_for {iter : Expr} {body : List Stmt} {wi : TI} {g : TG} {tb : TS} {pos : Pos} (hp : PassesOwn (model X.prog X.w) X.A X.env X.xe) (hc : X.calm = true) (hi : PI X tg iter wi) (hg : PG X tg g) (hb : PSs X body tb)
    (hs : ∀ x, foldedSetIterable iter X.env x = pure x := by intro _; rfl) : PS X (.For tg iter body [] pos) (tFor wi g tb) := by
  intro pins s σ H D I h
  refine wpAny_For (thn (hi pins s σ H _ I h) fun v s1 h1 => thn h1 fun itv s2 h2 => ?_) hs
  obtain ⟨it, fp, tn, J, H2, e, I2, T, st2, f2, W, ⟨m0, w0⟩, turn⟩ := h2
  subst e
  -- what stays true of the iterator's objects through the loop
  have stat : ∀ {H' : Hp}, (∀ b ∈ fp, H' b = none) → ∀ b ∈ fp, FpOk X pins H' b := fun hn b hb => ⟨hn b hb, (f2 b hb).2⟩
  refine codeAny_forLoop_any (fun n s' => ∃ i σ' H', Inv X pins σ' H' s' ∧ tn i s'.heap ∧ (∀ b ∈ fp, H' b = none) ∧ W i n σ' H') ?_ m0 ⟨0, σ, H2, I2, st2, fun b hb => (f2 b hb).1, w0⟩
  rintro n s3 ⟨i, σ3, H3, I3, st3, fr3, w3⟩
  rcases turn i n σ3 H3 w3 with ⟨stop, qn⟩ | ⟨go, N, hN, step⟩
  · refine wpAny_passesOwn hp (thn (T.done X rfl rfl rfl hc i pins s3 σ3 H3 X.xe I3 (stat fr3) st3 stop) fun r s4 ⟨hr, I4⟩ => ?_)
    subst hr
    exact wpAny_execs_nil ⟨σ3, H3, I4, qn⟩
  · refine wpAny_passesOwn hp (thn (T.item X rfl rfl rfl hc i pins s3 σ3 H3 X.xe I3 (stat fr3) st3 go) fun r s4 ⟨u, hr, h4⟩ => ?_)
    subst hr
    refine wpAny_passesOwn hp (thn h4 fun _ s5 ⟨x, H5, I5, r5, y5, st5, fr5⟩ => ?_)
    have I5' := I5.pinned (stat fr5) (T.obj _ _ st5)
    refine wpAny_passesOwn hp (thn (hg _ s5 σ3 H5 x u _ I5' r5 (step x H5 y5)) fun _ s6 ⟨σ6, H6, I6, q6⟩ => ?_)
    refine wpAny_passesOwn hp (thn (hb _ s6 σ6 H6 _ I6 q6) fun f s7 q7 => ?_)
    have again : ∀ {σ7 : St} {H7 : Hp}, Inv X (pins ++ pinsAt fp s5.heap) σ7 H7 s7 → N σ7 H7 → ∃ m, m < n ∧ ∃ i σ' H', Inv X pins σ' H' s7 ∧ tn i s7.heap ∧ (∀ b ∈ fp, H' b = none) ∧ W i m σ' H' := fun {σ7 H7} I7 n7 => by
      obtain ⟨m', hm, w7⟩ := hN σ7 H7 n7
      refine ⟨m', hm, i + 1, σ7, H7, I7.unpinned, T.keep _ _ _ st5 fun b hb o e => (I7.pin (b, o) (List.mem_append_right _ (List.mem_append_right _ (mem_pinsAt hb e)))).1, fun b hb => ?_, w7⟩
      obtain ⟨o, e, d⟩ := T.obj _ _ st5 b hb
      exact (I7.pin (b, o) (List.mem_append_right _ (List.mem_append_right _ (mem_pinsAt hb e)))).2.1
    cases f with
    | next => obtain ⟨σ7, H7, I7, n7⟩ := q7; exact again I7 n7
    | cont => obtain ⟨σ7, H7, I7, n7⟩ := q7; exact again I7 n7
    | brk => obtain ⟨σ7, H7, I7, q7⟩ := q7; exact ⟨σ7, H7, I7.unpinned, q7⟩
    | ret v => obtain ⟨x7, σ7, H7, I7, r7, q7⟩ := q7; exact ⟨x7, σ7, H7, I7.unpinned, r7, q7⟩
end

/-! ### the forms one uses -/
theorem for_list {K : PySem.W.Frag} {a : Addr} {xs : List V} {g : TG} {tb : TS} {D : Ends} {σ : St} {H : Hp} (Pv : Nat → St → Hp → Prop) (h0 : Pv 0 σ H) (hl : ∀ i σ H, i ≤ xs.length → Pv i σ H → SqL K H a xs)
    (hs : ∀ i x σ H, xs[i]? = some x → Pv i σ H → g x σ H fun σ2 H2 => tb { D with nx := Pv (i + 1), ct := Pv (i + 1), bk := D.nx } σ2 H2) (hd : ∀ σ H, Pv xs.length σ H → D.nx σ H) :
    ∃ W : Nat → Nat → St → Hp → Prop, (∃ m, W 0 m σ H) ∧ ∀ i m σ H, W i m σ H →
      ((Itl K a).stop i H ∧ D.nx σ H) ∨ ((Itl K a).go i H ∧ ∃ N : St → Hp → Prop, (∀ σ' H', N σ' H' → ∃ m', m' < m ∧ W (i + 1) m' σ' H') ∧ ∀ x H', (Itl K a).yld i H x H' → g x σ H' fun σ2 H2 => tb { D with nx := N, ct := N, bk := D.nx } σ2 H2) := by
  refine ⟨fun i m σ H => m = xs.length - i ∧ i ≤ xs.length ∧ Pv i σ H, ⟨xs.length, by simp, Nat.zero_le _, h0⟩, ?_⟩
  rintro i m σ H ⟨rfl, hi, p⟩
  have q := hl i σ H hi p
  by_cases hlt : i < xs.length
  · refine .inr ⟨⟨xs, xs[i], q, by simp [hlt]⟩, Pv (i + 1), fun σ' H' p' => ⟨xs.length - (i + 1), by omega, rfl, hlt, p'⟩, fun x H' y => ?_⟩
    obtain ⟨e, y⟩ := y
    subst e
    exact hs i x σ _ (y xs q) p
  · have e : i = xs.length := by omega
    subst e
    exact .inl ⟨⟨xs, q, Nat.le_refl _⟩, hd σ H p⟩
theorem for_range {lo : Int} {n : Nat} {g : TG} {tb : TS} {D : Ends} {σ : St} {H : Hp} (Pv : Nat → St → Hp → Prop) (h0 : Pv 0 σ H)
    (hs : ∀ i σ H, i < n → Pv i σ H → g (.int (lo + i)) σ H fun σ2 H2 => tb { D with nx := Pv (i + 1), ct := Pv (i + 1), bk := D.nx } σ2 H2) (hd : ∀ σ H, Pv n σ H → D.nx σ H) :
    ∃ W : Nat → Nat → St → Hp → Prop, (∃ m, W 0 m σ H) ∧ ∀ i m σ H, W i m σ H →
      ((Itr lo n).stop i H ∧ D.nx σ H) ∨ ((Itr lo n).go i H ∧ ∃ N : St → Hp → Prop, (∀ σ' H', N σ' H' → ∃ m', m' < m ∧ W (i + 1) m' σ' H') ∧ ∀ x H', (Itr lo n).yld i H x H' → g x σ H' fun σ2 H2 => tb { D with nx := N, ct := N, bk := D.nx } σ2 H2) := by
  refine ⟨fun i m σ H => m = n - i ∧ i ≤ n ∧ Pv i σ H, ⟨n, by simp, Nat.zero_le _, h0⟩, ?_⟩
  rintro i m σ H ⟨rfl, hi, p⟩
  by_cases hlt : i < n
  · refine .inr ⟨hlt, Pv (i + 1), fun σ' H' p' => ⟨n - (i + 1), by omega, rfl, hlt, p'⟩, fun x H' y => ?_⟩
    obtain ⟨e, y⟩ := y
    subst e y
    exact hs i σ _ hlt p
  · have e : i = n := by omega
    subst e
    exact .inl ⟨Nat.le_refl _, hd σ H p⟩
theorem while_by {c : TT} {tb : TS} {D : Ends} {σ : St} {H : Hp} (Pv : St → Hp → Prop) (μ : St → Hp → Nat) (h0 : Pv σ H)
    (hs : ∀ σ H, Pv σ H → c σ H fun b H1 => if b = true then tb { D with nx := fun σ' H' => Pv σ' H' ∧ μ σ' H' < μ σ H, ct := fun σ' H' => Pv σ' H' ∧ μ σ' H' < μ σ H, bk := D.nx } σ H1 else D.nx σ H1)
    (mono : ∀ σ H Q Q', (∀ b H1, Q b H1 → Q' b H1) → c σ H Q → c σ H Q') : tWhile c tb D σ H := by
  refine ⟨fun m σ H => m = μ σ H ∧ Pv σ H, ⟨_, rfl, h0⟩, ?_⟩
  rintro m σ H ⟨rfl, p⟩
  refine mono σ H _ _ (fun b H1 q => ?_) (hs σ H p)
  cases b with
  | true => exact ⟨_, fun σ' H' ⟨p', l⟩ => ⟨_, l, rfl, p'⟩, q⟩
  | false => exact q
end L2

namespace L2
open PySem PySem.Spec PyProof.Rows

abbrev R2 := V → V → Hp → VK → Prop
def OpR (X : Cx) (f : Value → Value → Sem Value) (r : R2) : Prop :=
  ∀ (pins : List (Addr × Obj)) (s : Shared) (σ : St) (H : Hp) (x y : V) (v u : Value) (Q : VK), Inv X pins σ H s → RelV x v → RelV y u → r x y H Q →
    wpAny (model X.prog X.w) X.A (f v u) (EP X pins σ Q) X.xe s
def UnR (X : Cx) (f : Value → Sem Value) (r : V → Hp → VK → Prop) : Prop :=
  ∀ (pins : List (Addr × Obj)) (s : Shared) (σ : St) (H : Hp) (x : V) (v : Value) (Q : VK), Inv X pins σ H s → RelV x v → r x H Q →
    wpAny (model X.prog X.w) X.A (f v) (EP X pins σ Q) X.xe s
def CallR (X : Cx) (f : Value) (r : List V → Hp → VK → Prop) : Prop :=
  ∀ (pins : List (Addr × Obj)) (s : Shared) (σ : St) (H : Hp) (xs : List V) (us : List Value) (Q : VK), Inv X pins σ H s → Vals xs us → r xs H Q →
    wpAny (model X.prog X.w) X.A (call f us) (EP X pins σ Q) X.xe s
def tOp (r : R2) (ta tb : TE) : TE := fun σ H Q => ta σ H fun x H1 => tb σ H1 fun y H2 => r x y H2 Q
def tUn (r : V → Hp → VK → Prop) (ta : TE) : TE := fun σ H Q => ta σ H fun x H1 => r x H1 Q
def rI (C : Int → Int → Prop) (g : Int → Int → V) : R2 := fun x y H Q => ∃ i j, x = .int i ∧ y = .int j ∧ C i j ∧ Q (g i j) H
def rI0 (g : Int → Int → V) : R2 := fun x y H Q => ∃ i j, x = .int i ∧ y = .int j ∧ Q (g i j) H
def rU (g : Int → V) : V → Hp → VK → Prop := fun x H Q => ∃ i, x = .int i ∧ Q (g i) H

section
variable {X : Cx} {a b c : Expr} {ta tb tc : TE} {pos : Pos}

theorem binT (ha : PE X a ta) (hb : PE X b tb) {pins : List (Addr × Obj)} {s : Shared} {σ : St} {H : Hp} {R : V → V → Hp → Prop} (I : Inv X pins σ H s)
    (h : ta σ H fun x H1 => tb σ H1 fun y H2 => R x y H2) {Q : Value → Shared → Prop} {f : Value → Value → Sem Value}
    (hf : ∀ v u s2 x y H2, Inv X pins σ H2 s2 → RelV x v → RelV y u → R x y H2 → wpAny (model X.prog X.w) X.A (f v u) Q X.xe s2) :
    wpAny (model X.prog X.w) X.A (eval a X.env) (fun v s₁ => wpAny (model X.prog X.w) X.A (eval b X.env) (fun u s₂ => wpAny (model X.prog X.w) X.A (f v u) Q X.xe s₂) X.xe s₁) X.xe s := by
  refine thn (ha pins s σ H _ I h) fun v s1 ⟨x, H1, I1, r1, q1⟩ => ?_
  refine thn (hb pins s1 σ H1 _ I1 q1) fun u s2 ⟨y, H2, I2, r2, q2⟩ => ?_
  exact hf v u s2 x y H2 I2 r1 r2 q2

theorem pe_op {op : Operator} {r : R2} (ho : OpR X (binaryOp op) r) (ha : PE X a ta) (hb : PE X b tb) : PE X (.BinOp a op b pos) (tOp r ta tb) := by
  intro pins s σ H Q I h
  exact wpAny_BinOp (binT ha hb I h fun v u s2 x y H2 I2 rx ry q => ho pins s2 σ H2 x y v u Q I2 rx ry q)
theorem pe_un {op : UnaryOp} {r : V → Hp → VK → Prop} (ho : UnR X (unaryOp op) r) (ha : PE X a ta) : PE X (.UnaryOp op a pos) (tUn r ta) := by
  intro pins s σ H Q I h
  exact UnaryOp_ (thn (ha pins s σ H _ I h) fun v s1 ⟨x, H1, I1, r1, q1⟩ => ho pins s1 σ H1 x v Q I1 r1 q1)
/-! ### ints -/
theorem opI {f : Value → Value → Sem Value} {C : Int → Int → Prop} {g : Int → Int → Int}
    (rule : ∀ (i j : Int) (t u : Tok) (s : Shared) (Q : Value → Shared → Prop) (E : Value → Shared → Prop), C i j → Q (.int (g i j) s.toks) { s with toks := s.toks + 1 } → wpAny (model X.prog X.w) X.A (f (.int i t) (.int j u)) Q E s) :
    OpR X f (rI C fun i j => .int (g i j)) := by
  intro pins s σ H x y v u Q I rx ry h
  obtain ⟨i, j, rfl, rfl, hc, q⟩ := h
  obtain ⟨t, rfl⟩ := rx
  obtain ⟨t', rfl⟩ := ry
  exact rule i j t t' s _ _ hc ⟨.int (g i j), H, I.tok _, ⟨_, rfl⟩, q⟩
theorem opI0 {f : Value → Value → Sem Value} {g : Int → Int → Int}
    (rule : ∀ (i j : Int) (t u : Tok) (s : Shared) (Q : Value → Shared → Prop) (E : Value → Shared → Prop), Q (.int (g i j) s.toks) { s with toks := s.toks + 1 } → wpAny (model X.prog X.w) X.A (f (.int i t) (.int j u)) Q E s) :
    OpR X f (rI0 fun i j => .int (g i j)) := by
  intro pins s σ H x y v u Q I rx ry h
  obtain ⟨i, j, rfl, rfl, q⟩ := h
  obtain ⟨t, rfl⟩ := rx
  obtain ⟨t', rfl⟩ := ry
  exact rule i j t t' s _ _ ⟨.int (g i j), H, I.tok _, ⟨_, rfl⟩, q⟩
theorem opB0 {f : Value → Value → Sem Value} {g : Int → Int → Bool}
    (rule : ∀ (i j : Int) (t u : Tok) (s : Shared) (Q : Value → Shared → Prop) (E : Value → Shared → Prop), Q (.bool (g i j)) s → wpAny (model X.prog X.w) X.A (f (.int i t) (.int j u)) Q E s) :
    OpR X f (rI0 fun i j => .bl (g i j)) := by
  intro pins s σ H x y v u Q I rx ry h
  obtain ⟨i, j, rfl, rfl, q⟩ := h
  obtain ⟨t, rfl⟩ := rx
  obtain ⟨t', rfl⟩ := ry
  exact rule i j t t' s _ _ ⟨.bl (g i j), H, I, rfl, q⟩

def CDiv (i j : Int) : Prop := 0 < j ∧ j < 1073741824
def CPow (i j : Int) : Prop := 0 ≤ j ∧ j ≤ 1000000 ∧ i.natAbs < 2 ^ 64
def CMul (i j : Int) : Prop := (-(2 ^ 64) < i ∧ i < 2 ^ 64) ∨ (-(2 ^ 64) < j ∧ j < 2 ^ 64)
theorem CMul.ok {i j : Int} (h : CMul i j) : IntMulOk i j := by
  rcases h with ⟨h1, h2⟩ | ⟨h1, h2⟩
  · exact .of_left (intBits_le_64 h1 h2)
  · exact .of_right (intBits_le_64 h1 h2)
theorem op_add : OpR X (binaryOp .Add) (rI0 fun i j => .int (i + j)) := opI0 fun _ _ _ _ _ _ _ q => add_int q
theorem op_sub : OpR X (binaryOp .Sub) (rI0 fun i j => .int (i - j)) := opI0 fun _ _ _ _ _ _ _ q => sub_int q
theorem op_mul : OpR X (binaryOp .Mult) (rI CMul fun i j => .int (i * j)) := opI fun _ _ _ _ _ _ _ hc q => mul_int q hc.ok
theorem op_fdiv : OpR X (binaryOp .FloorDiv) (rI CDiv fun i j => .int (i / j)) := opI fun i j _ _ _ _ _ hc q => by
  have h1 : (0 : Int) < j := hc.1
  have h2 : j < 1073741824 := hc.2
  exact floordiv_int (by omega) (by rw [Int.fdiv_eq_ediv_of_nonneg i (by omega)]; exact q) (.inl (PyProof.noPylong_small (by omega)))
theorem op_mod : OpR X (binaryOp .Mod) (rI (fun _ j => 0 < j) fun i j => .int (i % j)) := opI fun i j _ _ _ _ _ hc q => by
  have h1 : (0 : Int) < j := hc
  exact mod_int' (by omega) (by rw [Int.fmod_eq_emod_of_nonneg i (by omega)]; exact q)
theorem op_pow : OpR X (binaryOp .Pow) (rI CPow fun i j => .int (i ^ j.toNat)) := opI fun _ _ _ _ _ _ _ hc q => pow_int_small hc.1 hc.2.1 hc.2.2 q
theorem unI {f : Value → Sem Value} {g : Int → Int}
    (rule : ∀ (i : Int) (t : Tok) (s : Shared) (Q : Value → Shared → Prop) (E : Value → Shared → Prop), Q (.int (g i) s.toks) { s with toks := s.toks + 1 } → wpAny (model X.prog X.w) X.A (f (.int i t)) Q E s) :
    UnR X f (rU fun i => .int (g i)) := by
  intro pins s σ H x v Q I rx h
  obtain ⟨i, rfl, q⟩ := h
  obtain ⟨t, rfl⟩ := rx
  exact rule i t s _ _ ⟨.int (g i), H, I.tok _, ⟨_, rfl⟩, q⟩
theorem un_neg : UnR X (unaryOp .USub) (rU fun i => .int (-i)) := unI fun _ _ _ _ _ q => neg_int q
/-! ### bools among ints: n += (a < b) -/
end

/-! ### comparisons -/
def scal : V → V → Bool
  | .non, .non => true | .non, .int _ => true | .int _, .non => true | .non, .bl _ => true | .bl _, .non => true | .non, .str _ => true | .str _, .non => true
  | .int _, .int _ => true | .bl _, .bl _ => true | .str _, .str _ => true | .byt _, .byt _ => true
  | .int _, .str _ => true | .str _, .int _ => true | .bl _, .str _ => true | .str _, .bl _ => true
  | _, _ => false
def rEq : R2 := fun x y H Q => scal x y = true ∧ Q (.bl (decide (x = y))) H
theorem dec_int {i j : Int} : decide (V.int i = V.int j) = (i == j) := by
  rw [Bool.eq_iff_iff]
  simp
theorem dec_bl {i j : Bool} : decide (V.bl i = V.bl j) = (i == j) := by
  rw [Bool.eq_iff_iff]
  simp
theorem dec_str {i j : Str} : decide (V.str i = V.str j) = (i == j) := by
  rw [Bool.eq_iff_iff]
  simp
theorem dec_byt {i j : Array UInt8} : decide (V.byt i = V.byt j) = (i.toList == j.toList) := by
  rw [Bool.eq_iff_iff]
  cases i
  cases j
  simp

section
variable {X : Cx} {a b c : Expr} {ta tb tc : TE} {pos : Pos}
theorem fin_bl {pins : List (Addr × Obj)} {σ : St} {H : Hp} {s : Shared} {Q : VK} {k k' : Bool} (I : Inv X pins σ H s) (q : Q (.bl k) H) (e : k = k') : EP X pins σ Q (.bool k') s := by
  subst e
  exact ⟨.bl k, H, I, rfl, q⟩
theorem op_eq : OpR X (compareOp .Eq) rEq := by
  intro pins s σ H x y v u Q I rx ry h
  obtain ⟨hs, q⟩ := h
  cases x with
  | non =>
    cases rx
    cases y with
    | non => cases ry; exact PySem.EqNone.eq_none_none (fin_bl I q (by simp))
    | bl j => cases ry; exact PySem.EqNone.eq_none_bool (fin_bl I q (by simp))
    | int j => obtain ⟨t', rfl⟩ := ry; exact PySem.EqNone.eq_none_int (fin_bl I q (by simp))
    | str j => obtain ⟨t', rfl⟩ := ry; exact PySem.EqNone.eq_none_str (fin_bl I q (by simp))
    | _ => exact absurd (show false = true from hs) Bool.false_ne_true
  | bl i =>
    cases rx
    cases y with
    | non => cases ry; exact PySem.EqNone.eq_bool_none (fin_bl I q (by simp))
    | bl j => cases ry; exact eq_bool (fin_bl I q dec_bl)
    | str j => obtain ⟨t', rfl⟩ := ry; exact PySem.EqMixed.eq_bool_str (fin_bl I q (by simp))
    | _ => exact absurd (show false = true from hs) Bool.false_ne_true
  | int i =>
    obtain ⟨t, rfl⟩ := rx
    cases y with
    | non => cases ry; exact PySem.EqNone.eq_int_none (fin_bl I q (by simp))
    | int j => obtain ⟨t', rfl⟩ := ry; exact eq_int (fin_bl I q dec_int)
    | str j => obtain ⟨t', rfl⟩ := ry; exact PySem.EqMixed.eq_int_str (fin_bl I q (by simp))
    | _ => exact absurd (show false = true from hs) Bool.false_ne_true
  | str i =>
    obtain ⟨t, rfl⟩ := rx
    cases y with
    | non => cases ry; exact PySem.EqNone.eq_str_none (fin_bl I q (by simp))
    | bl j => cases ry; exact PySem.EqMixed.eq_str_bool (fin_bl I q (by simp))
    | int j => obtain ⟨t', rfl⟩ := ry; exact PySem.EqMixed.eq_str_int (fin_bl I q (by simp))
    | str j => obtain ⟨t', rfl⟩ := ry; exact eq_str (fin_bl I q dec_str)
    | _ => exact absurd (show false = true from hs) Bool.false_ne_true
  | byt i =>
    obtain ⟨t, rfl⟩ := rx
    cases y with
    | byt j => obtain ⟨t', rfl⟩ := ry; exact PySem.W.eq_bytes (fin_bl I q dec_byt)
    | _ => exact absurd (show false = true from hs) Bool.false_ne_true
  | _ => cases y <;> exact absurd (show false = true from hs) Bool.false_ne_true
theorem op_lt : OpR X (compareOp .Lt) (rI0 fun i j => .bl (decide (i < j))) := opB0 fun _ _ _ _ _ _ _ q => lt_int q
theorem op_gt : OpR X (compareOp .Gt) (rI0 fun i j => .bl (decide (j < i))) := opB0 fun _ _ _ _ _ _ _ q => gt_int q
theorem nomark (b : Expr) {op : CmpOp} (h : op ≠ .In := by decide) (h2 : op ≠ .NotIn := by decide) : behindInMarks op b = false := by
  have e1 : (op == CmpOp.In) = false := by cases op <;> first | rfl | exact absurd rfl h
  have e2 : (op == CmpOp.NotIn) = false := by cases op <;> first | rfl | exact absurd rfl h2
  cases b <;> simp [behindInMarks, e1, e2]
theorem pe_cmpR {op : CmpOp} {r : R2} (ho : OpR X (compareOp op) r) (ha : PE X a ta) (hb : PE X b tb) (hm : behindInMarks op b = false) : PE X (.Compare a [op] [b] pos) (tOp r ta tb) := by
  intro pins s σ H Q I h
  exact wpAny_Compare1 (binT ha hb I h fun v u s2 x y H2 I2 rx ry q => ho pins s2 σ H2 x y v u Q I2 rx ry q) hm
def tTest (t : TE) : TT := fun σ H Q => t σ H fun x H' => ∃ k, x = .bl k ∧ Q k H'
theorem pt_cmpR {op : CmpOp} {r : R2} (ho : OpR X (compareOp op) r) (ha : PE X a ta) (hb : PE X b tb) (hm : behindInMarks op b = false) : PT X (.Compare a [op] [b] pos) (tTest (tOp r ta tb)) := by
  intro pins s σ H Q I h
  refine wpAny_isTrue_Compare1 (thn (ha pins s σ H _ I h) fun v s1 ⟨x, H1, I1, r1, q1⟩ => thn (hb pins s1 σ H1 _ I1 q1) fun u s2 ⟨y, H2, I2, r2, q2⟩ =>
    thn (ho pins s2 σ H2 x y v u _ I2 r1 r2 q2) fun c s3 ⟨z, H3, I3, r3, k, e, q3⟩ => ?_) hm
  subst e
  cases r3
  exact wpAny_truthy_bool ⟨H3, I3, q3⟩
/-! ### truth -/
theorem line63 : (sizeLine : Nat) < 2 ^ 63 := by rw [sizeLine_eq]; decide
/-! ### strs and bytes -/
/-! ### scalar builtins, by CallR -/
theorem vals1 {x : V} {us : List Value} (r : Vals [x] us) : ∃ u, us = [u] ∧ RelV x u := by
  cases r with
  | cons r1 r2 => cases r2; exact ⟨_, rfl, r1⟩
theorem vals2 {x y : V} {us : List Value} (r : Vals [x, y] us) : ∃ u w', us = [u, w'] ∧ RelV x u ∧ RelV y w' := by
  cases r with
  | cons r1 r2 =>
    cases r2 with
    | cons r3 r4 => cases r4; exact ⟨_, _, rfl, r1, r3⟩
theorem call_abs : CallR X (.builtin "abs") (fun xs H Q => ∃ i, xs = [.int i] ∧ Q (.int (if i < 0 then -i else i)) H) := by
  intro pins s σ H xs us Q I r h
  obtain ⟨i, rfl, q⟩ := h
  obtain ⟨u, rfl, t, rfl⟩ := vals1 r
  exact call_abs_int fun u tk => ⟨.int (if i < 0 then -i else i), H, I.tok _, ⟨_, rfl⟩, q⟩
theorem call_max2 (hc : X.calm = true) : CallR X (.builtin "max") (fun xs H Q => ∃ i j, xs = [.int i, .int j] ∧ Q (.int (if j > i then j else i)) H) := by
  intro pins s σ H xs us Q I r h
  obtain ⟨i, j, rfl, q⟩ := h
  obtain ⟨u, w', rfl, ⟨t, rfl⟩, ⟨t', rfl⟩⟩ := vals2 r
  refine max_two_ints (I.ok.hd hc) fun h' tk k => ⟨_, H, I.kept k, ?_, q⟩
  by_cases hj : j > i
  · rw [if_pos hj, if_pos hj]; exact ⟨_, rfl⟩
  · rw [if_neg hj, if_neg hj]; exact ⟨_, rfl⟩
theorem call_min2 (hc : X.calm = true) : CallR X (.builtin "min") (fun xs H Q => ∃ i j, xs = [.int i, .int j] ∧ Q (.int (if j < i then j else i)) H) := by
  intro pins s σ H xs us Q I r h
  obtain ⟨i, j, rfl, q⟩ := h
  obtain ⟨u, w', rfl, ⟨t, rfl⟩, ⟨t', rfl⟩⟩ := vals2 r
  refine min_two_ints (I.ok.hd hc) fun h' tk k => ⟨_, H, I.kept k, ?_, q⟩
  by_cases hj : j < i
  · rw [if_pos hj, if_pos hj]; exact ⟨_, rfl⟩
  · rw [if_neg hj, if_neg hj]; exact ⟨_, rfl⟩
theorem call_int1 : CallR X (.type "int") (fun xs H Q => (∃ i, xs = [.int i] ∧ Q (.int i) H) ∨ ∃ k, xs = [.bl k] ∧ Q (.int (if k then 1 else 0)) H) := by
  intro pins s σ H xs us Q I r h
  rcases h with ⟨i, rfl, q⟩ | ⟨k, rfl, q⟩
  · obtain ⟨u, rfl, t, rfl⟩ := vals1 r
    exact call_int_int ⟨.int i, H, I, ⟨_, rfl⟩, q⟩
  · obtain ⟨u, rfl, r1⟩ := vals1 r
    cases r1
    exact call_int_bool ⟨.int (if k then 1 else 0), H, I.tok _, ⟨_, rfl⟩, q⟩
end
end L2

namespace L2
open PySem PySem.Spec PyProof.Rows

/-! ### an instance, its attributes a map -/
structure ObjM (h : Heap) (x dx C : Addr) (mA : Str → Option Value) : Prop where
  obj : h.get? x = some (PySem.W.instObj C dx)
  ns : h.Ns1 dx mA
  ne : dx ≠ x

theorem lookIn_ns {h : Heap} {dx : Addr} {mA : Str → Option Value} (n : h.Ns1 dx mA) : ∃ od, h.get? dx = some od ∧ ∀ name, PySem.W.lookIn name od = some (mA name) := by
  obtain ⟨o, es, ep, ho, hd, hk, _, hm⟩ := n
  refine ⟨o, ho, fun name => ?_⟩
  have e := hm name
  unfold nsFind findBy at e
  rw [← Array.find?_toList] at e
  unfold PySem.W.lookIn
  rw [hd]
  dsimp only
  split
  · rename_i y q
    rw [q] at e
    exact congrArg some e
  · rename_i q
    rw [q] at e
    have a : es.toList.any (·.refKey) = false := by
      rw [List.any_eq_false]
      intro y hy
      obtain ⟨z, t, hkey⟩ := hk y (Array.mem_toList_iff.mp hy)
      simp [DictEntry.refKey, hkey]
    have a' : ¬ es.toList.any (·.refKey) = true := by rw [a]; exact Bool.false_ne_true
    rw [if_neg a']
    exact congrArg some e

theorem ObjM.look {h : Heap} {x dx C : Addr} {mA : Str → Option Value} (I : ObjM h x dx C mA) : ∃ od, PySem.W.InstAt h x (PySem.W.instObj C dx) C (some od) ∧ ∀ name, PySem.W.lookIn name od = some (mA name) :=
  let ⟨od, ho, hl⟩ := lookIn_ns I.ns
  ⟨od, ⟨I.obj, rfl, rfl, ho⟩, hl⟩


/-! ### the attributes as a list of pairs -/
section
variable {P : Program} {w : World} {H H' : Hp} {h h' : Heap} {a C dx : Addr} {fs fs' : List (Str × V)}
theorem ins_get (hok : HOk P w H h) (e : H a = some (.ins C dx fs)) : ∃ mA, ObjM h a dx C mA ∧ (∀ f, RelO (fs.lookup f) (mA f)) ∧ PySem.Within mA (fs.map (·.1)) ∧ fs.length ≤ 1000 ∧ H dx = some (.own a) := by
  obtain ⟨d, z, ne, ob, mA, n, r, q⟩ := (show ObjOk P w H h a (.ins C dx fs) from hok a _ e)
  exact ⟨mA, ⟨ob, n, ne⟩, r, q, z, d⟩
end

/-! ### what of the text a class must have -/
structure Cls (K : PySem.W.Frag) (C : Addr) : Prop where
  pg : PySem.W.plainGet K C Str.empty = true
  hd : PySem.W.hasDictIn K C = true
  po : PySem.W.plainOver K C = true
  sa : PySem.W.findIn K (.ref C) "__setattr__" = some (some (.builtin "object.__setattr__"))
theorem Cls.get {K : PySem.W.Frag} {C : Addr} (c : Cls K C) (f : Str) : PySem.W.plainGet K C f = true := c.pg

/-! ### readings and rules -/

/-! ### isinstance -/
section
variable {X : Cx} {pins : List (Addr × Obj)} {σ : St} {H : Hp} {s : Shared} {A : Around} {E : Value → Shared → Prop} {Q : Value → Shared → Prop} {c : Value} {b : Bool}
inductive TyOf (K : PySem.W.Frag) (H : Hp) : V → Value → Prop where
  | non : TyOf K H .non (.type "NoneType")
  | bl (x : Bool) : TyOf K H (.bl x) (.type "bool")
  | int (i : Int) : TyOf K H (.int i) (.type "int")
  | str (x : Str) : TyOf K H (.str x) (.type "str")
  | flt (x : UInt64) : TyOf K H (.flt x) (.type "float")
  | lst {a : Addr} {xs : List V} (e : H a = some (.lst xs)) : TyOf K H (.ref a) (.type "list")
  | frz {a : Addr} {o : Obj} {xs : List V} (e : H a = some (.frz o (.lst xs))) : TyOf K H (.ref a) (.type "list")
  | tup {a : Addr} {xs : List V} (e : H a = some (.tup xs)) : TyOf K H (.ref a) (.type "tuple")
  | dK {a : Addr} {kvs : List (Key × V)} (e : H a = some (.dK kvs)) : TyOf K H (.ref a) (.type "dict")
  | dT {a : Addr} {kvs : List (List Key × V)} (e : H a = some (.dT kvs)) : TyOf K H (.ref a) (.type "dict")
  | ins {a C dx : Addr} {fs : List (Str × V)} (e : H a = some (.ins C dx fs)) (cl : Cls K C) (ha : PySem.W.findIn K (.ref C) "__class__" = some (some (.builtin "object.__class__")))
      (hn : PySem.W.specialIn K (.builtin "object.__class__") "__get__" = some (some (.builtin "getset_descriptor.__get__"))) (htk : PySem.W.takesIn K (.builtin "object.__class__") = some true)
      (hm : PySem.W.mroIn K C (.type "object") = some true) : TyOf K H (.ref a) (.ref C)
theorem isinst_ok {x : V} {u t : Value} (I : Inv X pins σ H s) (rx : RelV x u) (ty : TyOf X.K H x t) (e : PySem.W.kitOne X.K t c = some b) (h : ∀ tk, Q (.bool b) { s with toks := tk }) :
    wpAny (model X.prog X.w) A (call (.builtin "isinstance") [u, c]) Q E s := by
  cases ty with
  | non => cases (show u = Value.none from rx); exact PySem.W.kia_one PySem.W.kitx_none I.kIn True.intro e (fun z => nomatch z) h
  | bl y => cases (show u = Value.bool y from rx); exact PySem.W.kia_one PySem.W.kitx_bool I.kIn True.intro e (fun z => nomatch z) h
  | int i => obtain ⟨t, q⟩ := (show ∃ t, u = Value.int i t from rx); cases q; exact PySem.W.kia_one PySem.W.kitx_int I.kIn True.intro e (fun z => nomatch z) h
  | str y => obtain ⟨t, q⟩ := (show ∃ t, u = Value.str y t from rx); cases q; exact PySem.W.kia_one PySem.W.kitx_str I.kIn True.intro e (fun z => nomatch z) h
  | flt y => obtain ⟨t, q⟩ := (show ∃ t, u = Value.float y t from rx); cases q; exact PySem.W.kia_one PySem.W.kitx_float I.kIn True.intro e (fun z => nomatch z) h
  | @lst a xs ea =>
    cases (show u = Value.ref a from rx)
    obtain ⟨_, _, n, _, h1⟩ := (show ObjOk X.prog X.w H s.heap a (.lst xs) from I.hok a _ ea)
    exact PySem.W.kia_one PySem.W.kitx_list I.kIn ⟨_, h1, rfl⟩ e (fun z => nomatch z) h
  | @frz a ob xs ea =>
    cases (show u = Value.ref a from rx)
    obtain ⟨_, _, _, n, _, h1⟩ := (show ObjOk X.prog X.w H s.heap a (.frz ob (.lst xs)) from I.hok a _ ea)
    exact PySem.W.kia_one PySem.W.kitx_list I.kIn ⟨_, h1, rfl⟩ e (fun z => nomatch z) h
  | @tup a xs ea =>
    cases (show u = Value.ref a from rx)
    obtain ⟨_, _, _, p⟩ := (show ObjOk X.prog X.w H s.heap a (.tup xs) from I.hok a _ ea)
    obtain ⟨o, h1, h2, _⟩ := p
    exact PySem.W.kia_one PySem.W.kitx_tuple I.kIn ⟨o, h1, h2⟩ e (fun z => nomatch z) h
  | @dK a kvs ea =>
    cases (show u = Value.ref a from rx)
    obtain ⟨_, _, vs, _, p⟩ := (show ObjOk X.prog X.w H s.heap a (.dK kvs) from I.hok a _ ea)
    obtain ⟨o, es, ep, h1, h2, _⟩ := p
    exact PySem.W.kia_one PySem.W.kitx_dict I.kIn ⟨o, h1, h2.1⟩ e (fun z => nomatch z) h
  | @dT a kvs ea =>
    cases (show u = Value.ref a from rx)
    obtain ⟨_, _, xs, _, o, es, ep, h1, h2, _⟩ := (show ObjOk X.prog X.w H s.heap a (.dT kvs) from I.hok a _ ea)
    exact PySem.W.kia_one PySem.W.kitx_dict I.kIn ⟨o, h1, h2.1⟩ e (fun z => nomatch z) h
  | @ins a C dx fs ea cl ha hn htk hm =>
    cases (show u = Value.ref a from rx)
    obtain ⟨mA, O, _⟩ := ins_get I.hok ea
    obtain ⟨od, J, _⟩ := O.look
    exact PySem.W.kia_one (PySem.W.kitx_own (cl.get _) cl.hd ha hn htk hm) I.kIn J e (fun z => nomatch z) h
end
end L2

namespace L2
open PySem PySem.Spec PyProof.Rows

/-! ### room -/
structure Room (k : Nat) (A : Around) : Prop where
  hd : A.handled = none
  dp : A.depth + 3 * k + 5 < recursionLimit
  un : A.units + 16 * k + 200 < cLine
theorem Room.mono {j k : Nat} {A : Around} (r : Room k A) (h : j ≤ k) : Room j A := ⟨r.hd, by have := r.dp; omega, by have := r.un; omega⟩
theorem Room.deeper {k : Nat} {A : Around} (r : Room (k + 1) A) (env : Env) : Room k (A.deeper env) :=
  ⟨r.hd, by have := r.dp; show A.depth + 1 + 3 * k + 5 < _; omega, by have := r.un; show A.units + 3 + 16 * k + 200 < _; omega⟩
theorem Room.depth {k : Nat} {A : Around} (r : Room k A) : A.depth < recursionLimit := by have := r.dp; omega
theorem Room.units {k : Nat} {A : Around} (r : Room k A) : A.units + 64 < cLine := by have := r.un; omega
theorem Room.units0 {k : Nat} {A : Around} (r : Room k A) : A.units < cLine := by have := r.un; omega

/-! ### argument lists and displays -/
def tNil : TA := fun _ H Q => Q [] H
def tCons (ta : TE) (tr : TA) : TA := fun σ H Q => ta σ H fun x H1 => tr σ H1 fun xs H2 => Q (x :: xs) H2
section
variable {X : Cx} {e : Expr} {es : List Expr} {te : TE} {t : TA} {pos : Pos}
theorem pa_nil : PA X [] tNil := fun _ _ _ _ H Q I h => Calls.spliced_nil ⟨[], H, I, .nil, h⟩
theorem pa_cons (ha : PE X e te) (hr : PA X es t) (hs : starEach (e :: es) X.env = (false, eval e X.env) :: starEach es X.env := by rfl) : PA X (e :: es) (tCons te t) := by
  intro pos pins s σ H Q I h
  rw [hs]
  show wpAny _ _ (spliced ((false, eval e X.env) :: backTo pos (starEach es X.env))) _ _ s
  refine Calls.spliced_cons (thn (ha pins s σ H _ I h) fun u s1 ⟨x, H1, I1, r1, q1⟩ => ?_)
  exact thn (hr pos pins s1 σ H1 _ I1 q1) fun us s2 ⟨xs, H2, I2, r2, q2⟩ => ⟨x :: xs, H2, I2, .cons r1 r2, q2⟩

def tTup (t : TA) : TE := fun σ H Q => t σ H fun xs H1 => xs.length ≤ sizeLine ∧ ∀ p, H1 p = none → Q (.ref p) (upd H1 p (.tup xs))
def tLst (t : TA) : TE := fun σ H Q => t σ H fun xs H1 => xs.length ≤ sizeLine ∧ ∀ p, H1 p = none → Q (.ref p) (upd H1 p (.lst xs))
theorem pe_tup {x1} (h : PA X es t) : PE X (.Tuple es x1 pos) (tTup t) := by
  intro pins s σ H Q I hq
  refine wpAny_Tuple_spliced (thn (h pos pins s σ H _ I hq) fun us s1 ⟨xs, H1, I1, r, z, q⟩ => ⟨by rw [← r.length]; exact z, ?_⟩)
  have hf : H1 s1.heap.objs.size = none := I1.hok.fresh (Nat.le_refl _)
  refine ⟨.ref s1.heap.objs.size, upd H1 s1.heap.objs.size (.tup xs), I1.laid (t' := s1.toks) (fun b u e => Heap.get?_push_of_some _ e) (Nat.le_refl _) ?_, rfl, q _ hf⟩
  exact ⟨z, us, r, ⟨_, Heap.get?_push_size _ rfl, rfl, _, rfl⟩⟩
theorem pe_lst (h : PA X es t) : PE X (.List es pos) (tLst t) := by
  intro pins s σ H Q I hq
  refine wpAny_List_spliced (thn (h pos pins s σ H _ I hq) fun us s1 ⟨xs, H1, I1, r, z, q⟩ => ⟨by rw [← r.length]; exact z, ?_⟩)
  have hf : H1 s1.heap.objs.size = none := I1.hok.fresh (Nat.le_refl _)
  refine ⟨.ref s1.heap.objs.size, upd H1 s1.heap.objs.size (.lst xs), I1.laid (t' := s1.toks) (fun b u e => Heap.get?_push_of_some _ e) (Nat.le_refl _) ?_, rfl, q _ hf⟩
  exact ⟨z, us, 0, r, Heap.get?_push_size _ rfl⟩
end

/-! ### what a def promises -/
abbrev Sp := List V → Hp → VK → XK → Prop
abbrev CXT := List Env → Hp → Shared → XK → Value → Shared → Prop

structure Env0 (P : Program) (w : World) (K : PySem.W.Frag) (mg : Str → Option Value) (base : Heap) (A : Around) (outer : List Env) (s : Shared) (H : Hp) : Prop where
  frames : A.frames = some outer
  mod : Mod K mg base
  bs : ∀ b o, base.get? b = some o → s.heap.get? b = some o ∧ H b = none
  bsz : base.objs.size ≤ s.heap.objs.size
  funs : s.heap.FunFrames base outer
  frf : ∀ b ∈ frs outer, H b = none
  hok : HOk P w H s.heap
  bare : AllBare s.gens
def CE (outer : List Env) (P : Program) (w : World) (H : Hp) (s : Shared) (Q : VK) (u : Value) (s' : Shared) : Prop :=
  ∃ v H', s'.os = s.os ∧ AllBare s'.gens ∧ Un (frs outer) [] H H' s.heap s'.heap ∧ HOk P w H' s'.heap ∧ RelV v u ∧ Q v H'
def CR (CX : CXT) (outer : List Env) (P : Program) (w : World) (H : Hp) (s : Shared) (Q : VK) (E : XK) (r : Result) (s' : Shared) : Prop :=
  match r with
  | .ok (.ret u) => CE outer P w H s Q u s'
  | .ok _ => False
  | .error e => CX outer H s E e s'
structure FnOk (P : Program) (w : World) (K : PySem.W.Frag) (mg : Str → Option Value) (base : Heap) (CX : CXT) (k : Nat) (f : Addr) (fd : FuncData) (ps : List Str) (sp : Sp) : Prop where
  len : ∀ vs H Q E, sp vs H Q E → vs.length = ps.length
  run : ∀ (A : Around) (outer : List Env) (s : Shared) (H : Hp) (args : Args) (us : List Value) (vs : List V) (Q : VK) (E : XK), Room k A → Env0 P w K mg base A outer s H → BindsTo s fd args (ps.zip us) → Vals vs us → sp vs H Q E →
    codeAny (model P w) A (.call (.ref f) args) (CR CX outer P w H s Q E) s
section
variable {X : Cx} {pins : List (Addr × Obj)} {σ : St} {H : Hp} {s s' : Shared}
theorem Inv.env0 (I : Inv X pins σ H s) : Env0 X.prog X.w X.K X.mg X.base X.A X.stack s H :=
  ⟨I.ok.frames, I.ok.mod, I.bs, Nat.le_trans I.ok.bsz I.sz, I.stack, I.stkFree, I.hok, I.bare⟩
theorem Inv.after {Q : VK} {u : Value} (I : Inv X pins σ H s) (h : CE X.stack X.prog X.w H s Q u s') : EP X pins σ Q u s' := by
  obtain ⟨v, H', os, bare, un, hok, r, q⟩ := h
  obtain ⟨hh, g, d, t, os'⟩ := s'
  obtain rfl : os' = s.os := os
  exact ⟨v, H', I.call (h' := hh) (g' := g) (d' := d) (t' := t) (ch := []) un hok bare (fun b z => absurd z (by simp)), r, q⟩
end

/-! ### calls -/
def tCall (sp : Sp) (dvs : List V) (E : XK) (t : TA) : TE := fun σ H Q => t σ H fun vs H1 => sp (vs ++ dvs) H1 Q E
def Binds (K : PySem.W.Frag) (fd : FuncData) (ps : List Str) (ds : List Value) : Prop :=
  ∀ (s : Shared) (us : List Value), K.In s.heap → (us ++ ds).length = ps.length → BindsTo s fd ⟨us, []⟩ (ps.zip (us ++ ds))
theorem Binds.all {K : PySem.W.Frag} {fd : FuncData} {ps : List Str} (h : ∀ us : List Value, us.length = ps.length → bindArgs fd ⟨us, []⟩ = pure (ps.zip us)) : Binds K fd ps [] := fun s us _ hl => by
  rw [List.append_nil] at hl ⊢
  exact .of_eq (h us hl)

def Passes (CX : CXT) (X : Cx) (E : XK) : Prop := ∀ (pins : List (Addr × Obj)) (σ : St) (H : Hp) (s : Shared) (e : Value) (s' : Shared), Inv X pins σ H s → CX X.stack H s E e s' → X.xe e s'

section
variable {X : Cx} {CX : CXT} {k : Nat} {f C : Addr} {fd : FuncData} {ps : List Str} {sp : Sp} {dvs : List V} {ds : List Value} {E : XK} {x m : Str} {p pos apos : Pos} {e o : Expr} {es : List Expr} {ta : TE} {t : TA}

theorem run_fn {pins : List (Addr × Obj)} {σ : St} {H : Hp} {s : Shared} {Q : VK} {us : List Value} {vs : List V} (F : FnOk X.prog X.w X.K X.mg X.base CX k f fd ps sp) (hr : Room k X.A) (hb : Binds X.K fd ps ds) (hd : Vals dvs ds) (hx : Passes CX X E)
    (I : Inv X pins σ H s) (r : Vals vs us) (h : sp (vs ++ dvs) H Q E) : wpAny (model X.prog X.w) X.A (call (.ref f) us) (EP X pins σ Q) X.xe s := by
  have r2 : Vals (vs ++ dvs) (us ++ ds) := r.append hd
  have hl : (us ++ ds).length = ps.length := by rw [← r2.length]; exact F.len _ _ _ _ h
  refine wpAny_call (codeAny_mono (F.run X.A X.stack s H ⟨us, []⟩ (us ++ ds) (vs ++ dvs) Q E hr I.env0 (hb s us I.kIn hl) r2 h) fun r s' hq => ?_)
  cases r with
  | error e => exact hx pins σ H s e s' I hq
  | ok fl =>
    cases fl with
    | ret u => exact I.after hq
    | next => exact False.elim hq
    | brk => exact False.elim hq
    | cont => exact False.elim hq

theorem pe_call (F : FnOk X.prog X.w X.K X.mg X.base CX k f fd ps sp) (hr : Room k X.A) (hg : Gl X x) (hm : X.mg x = some (.ref f)) (hk : PySem.W.keepIn X.K (.ref f) = true) (hb : Binds X.K fd ps ds) (hd : Vals dvs ds) (hx : Passes CX X E)
    (ha : PA X (e :: es) t) (hdb : (x == ("__debug__" : Str)) = false := by decide) (he : starEach (e :: es) X.env = (false, eval e X.env) :: starEach es X.env := by rfl) (hpl : (backTo pos (starEach es X.env)).any (·.1) = false := by rfl) :
    PE X (.Call (.Name x p) (e :: es) [] pos) (tCall sp dvs E t) := by
  intro pins s σ H Q I h
  refine wpAny_Call_Name_kw (ld_glob I hg hm ?_ hdb)
  refine PySem.W.callWith_K (h₀ := X.base) I.ok.mod.kin hk (thn (ha pos pins s σ H _ I h) fun us s1 ⟨vs, H1, I1, r, q⟩ => ⟨I1.kIn, ?_⟩) he hpl
  exact run_fn F hr hb hd hx I1 r q
end

/-! ### keywords -/

/-! ### a def's body keeps its promise -/
structure FnScope (N P : List Str) (sc : Scope) : Prop where
  kind : sc.kind = .function
  co : sc.isCoroutine = false
  gen : sc.isGenerator = false
  nd : N.Nodup
  pre : N.take P.length = P
  par : ∀ x ∈ P, sc.names.lookup x = some .local ∨ sc.names.lookup x = some .cell
  nofree : ∀ y ∈ sc.names, y.2 ≠ .free

theorem bindL_out {kindOf : Str → Option NameKind} {x : Str} : ∀ {binds : List (Str × Value)} {m : Str → Option Value}, (∀ v, (x, v) ∉ binds) → bindL kindOf binds m x = m x
  | [], _, _ => rfl
  | (n, v) :: r, m, h => by
    unfold bindL
    rw [bindL_out fun w hw => h w (List.mem_cons_of_mem _ hw)]
    split
    · have : x ≠ n := by rintro rfl; exact h v List.mem_cons_self
      simp [this]
    · rfl
theorem bindC_out {kindOf : Str → Option NameKind} {x : Str} : ∀ {binds : List (Str × Value)} {m : Str → Option Value}, (∀ v, (x, v) ∉ binds) → bindC kindOf binds m x = m x
  | [], _, _ => rfl
  | (n, v) :: r, m, h => by
    unfold bindC
    rw [bindC_out fun w hw => h w (List.mem_cons_of_mem _ hw)]
    split
    · rfl
    · have : x ≠ n := by rintro rfl; exact h v List.mem_cons_self
      simp [this]
theorem bindL_get {kindOf : Str → Option NameKind} {x : Str} {v : Value} : ∀ {P : List Str} {vs : List Value} {i : Nat} {m : Str → Option Value}, P.Nodup → P[i]? = some x → vs[i]? = some v → kindOf x = some .local →
    bindL kindOf (P.zip vs) m x = some v
  | [], _, _, _, _, h, _, _ => by simp at h
  | _ :: _, [], _, _, _, _, h, _ => by simp at h
  | p :: P, w :: vs, 0, m, nd, h1, h2, hk => by
    simp at h1 h2; subst h1; subst h2
    show bindL kindOf ((p, w) :: P.zip vs) m p = _
    unfold bindL
    rw [bindL_out fun v hv => (List.nodup_cons.mp nd).1 (List.of_mem_zip hv).1, if_pos hk]
    simp
  | p :: P, w :: vs, i + 1, m, nd, h1, h2, hk => by
    show bindL kindOf ((p, w) :: P.zip vs) m x = _
    unfold bindL
    exact bindL_get (i := i) (List.nodup_cons.mp nd).2 (by simpa using h1) (by simpa using h2) hk
theorem bindC_get {kindOf : Str → Option NameKind} {x : Str} {v : Value} : ∀ {P : List Str} {vs : List Value} {i : Nat} {m : Str → Option Value}, P.Nodup → P[i]? = some x → vs[i]? = some v → kindOf x ≠ some .local →
    bindC kindOf (P.zip vs) m x = some v
  | [], _, _, _, _, h, _, _ => by simp at h
  | _ :: _, [], _, _, _, _, h, _ => by simp at h
  | p :: P, w :: vs, 0, m, nd, h1, h2, hk => by
    simp at h1 h2; subst h1; subst h2
    show bindC kindOf ((p, w) :: P.zip vs) m p = _
    unfold bindC
    rw [bindC_out fun v hv => (List.nodup_cons.mp nd).1 (List.of_mem_zip hv).1, if_neg hk]
    simp
  | p :: P, w :: vs, i + 1, m, nd, h1, h2, hk => by
    show bindC kindOf ((p, w) :: P.zip vs) m x = _
    unfold bindC
    exact bindC_get (i := i) (List.nodup_cons.mp nd).2 (by simpa using h1) (by simpa using h2) hk

def start (N : List Str) (vs : List V) : St := vs.map some ++ List.replicate (N.length - vs.length) none

def cxOf (CX : CXT) (P : Program) (w : World) (K : PySem.W.Frag) (mg : Str → Option Value) (base : Heap) (N : List Str) (qual : Str) (scope : Scope) (f : Addr) (cd : Value) (A : Around) (outer : List Env) (s : Shared) (H : Hp) (E : XK) : Cx where
  prog := P
  w := w
  K := K
  mg := mg
  base := base
  A := A.deeper (envOfC qual scope s.heap.objs.size f cd)
  N := N
  s₀ := s
  H₀ := H
  env := envOfC qual scope s.heap.objs.size f cd
  outer := outer
  stack := envOfC qual scope s.heap.objs.size f cd :: outer
  ex := []
  calm := true
  fn := fun _ => true
  pn := []
  xe := fun e s' => wpAny (model P w) (A.deeper (envOfC qual scope s.heap.objs.size f cd)) (leaving (envOfC qual scope s.heap.objs.size f cd) e) (fun _ s'' => CX outer H s E e s'') (fun e' s'' => CX outer H s E e' s'') s'

theorem cell_has {sc : Scope} {n : Nat} {x : Str} (h : sc.names.lookup x = some .cell) : ∃ c, (cellsFrom n sc.names []).lookup x = some c := by
  have q := PySem.W.cellsFrom_some sc.names n [] (.inl h)
  exact Option.isSome_iff_exists.mp q

theorem inv_start {CX : CXT} {P : Program} {w : World} {K : PySem.W.Frag} {mg : Str → Option Value} {base : Heap} {N ps : List Str} {qual : Str} {scope : Scope} {f : Addr} {cd : Value} {A : Around} {outer : List Env} {s s1 : Shared} {H : Hp} {E : XK} {us : List Value} {vs : List V}
    (S : FnScope N ps scope) (hd : A.handled = none) (e0 : Env0 P w K mg base A outer s H) (hl : vs.length = ps.length) (r : Vals vs us)
    (x : InCallC s s.heap.objs.size (bindL (envOfC qual scope s.heap.objs.size f cd).kindOf (ps.zip us) fun _ => none) (cellsFrom (s.heap.objs.size + 1) scope.names []) (bindC (envOfC qual scope s.heap.objs.size f cd).kindOf (ps.zip us) fun _ => none) s1) :
    Inv (cxOf CX P w K mg base N qual scope f cd A outer s H E) [] (start N vs) H s1 := by
  have hpl : ps.length ≤ N.length := by have := congrArg List.length S.pre; rw [List.length_take] at this; omega
  obtain ⟨h1, tk, rfl, hk⟩ := x.done
  have noA : ∀ b : Addr, b ∉ (cxOf CX P w K mg base N qual scope f cd A outer s H E).ex := fun b z => absurd (show b ∈ ([] : List Addr) from z) (by simp)
  refine ⟨⟨e0.mod, S.kind, rfl, rfl, Nat.le_refl _, fun y z c h1 h2 => ?_, fun y hy => ?_, fun y c _ h => ?_, fun _ => hd, Around.frames_deeper e0.frames, .inr ⟨rfl, rfl⟩, fun b z => absurd z (noA b), e0.bs, e0.bsz, fun b _ _ => noA b, fun b z => absurd z (noA b), e0.funs, e0.frf⟩,
    rfl, e0.bare, Un.kept hk, ⟨_, x.toInCall.ns, fun i y v h1 h2 h3 => ?_⟩, fun y c h => ⟨_, x.cell y c h⟩, e0.hok.fresh (Nat.le_refl _), fun y c h => ?_, fun p hp => absurd (show p ∈ ([] : List (Addr × Obj)) from hp) (by simp), e0.hok.kept hk, ?_⟩
  · exact name_of_addr x.apart (PySem.mem_of_lookup h1) (PySem.mem_of_lookup h2)
  · have hy : scope.names.lookup y = some .cell ∨ scope.names.lookup y = some .free := hy
    rcases hy with hy | hy
    · exact cell_has hy
    · exact absurd rfl (S.nofree _ (PySem.mem_of_lookup hy))
  · exact Nat.le_of_lt (x.above y c (PySem.mem_of_lookup h))
  · have hi : i < vs.length := by
      unfold start at h2
      by_cases hi : i < vs.length
      · exact hi
      · rw [List.getElem?_append_right (by simpa using hi)] at h2
        rw [List.getElem?_replicate] at h2
        split at h2 <;> cases h2
    have ha : vs[i]? = some v := by
      unfold start at h2
      rw [List.getElem?_append_left (by simpa using hi), List.getElem?_map] at h2
      cases e : vs[i]? with
      | none => rw [e] at h2; cases h2
      | some a => rw [e] at h2; cases h2; rfl
    obtain ⟨u, hu, rv⟩ := r.get ha
    have hp : ps[i]? = some y := by
      rw [← S.pre, List.getElem?_take_of_lt (by omega)]; exact h1
    have ndP : ps.Nodup := by rw [← S.pre]; exact S.nd.sublist (List.take_sublist _ _)
    refine ⟨u, rv, ?_⟩
    rcases S.par y (List.mem_of_getElem? hp) with k | k
    · exact .inl ⟨k, bindL_get ndP hp hu k⟩
    · obtain ⟨c, e⟩ := cell_has (n := s.heap.objs.size + 1) k
      refine .inr ⟨.inl k, c, e, ?_⟩
      have q := x.cell y c e
      rw [bindC_get ndP hp hu (by show scope.names.lookup y ≠ _; rw [k]; decide)] at q
      exact q
  · exact e0.hok.fresh (Nat.le_of_lt (x.above y c (PySem.mem_of_lookup h)))
  · unfold start
    show _ = N.length
    rw [List.length_append, List.length_map, List.length_replicate]
    omega

theorem fn_of {CX : CXT} {P : Program} {w : World} {K : PySem.W.Frag} {mg : Str → Option Value} {base : Heap} {k : Nat} {f : Addr} {name qual : Str} {params : Arguments} {body : List Stmt} {scope : Scope} {dV kV doc pm cdv ct oc : Value} {an od : Option Addr}
    {osl : Array (Option Value)} {N ps : List Str} {sp : Sp} (lk : K.lookup f = some ⟨oc, od, .func (PySem.W.fnOf name qual params body scope dV kV doc pm an cdv ct), osl⟩) (hcd : PySem.W.codeIn K cdv qual = true) (S : FnScope N ps scope)
    (len : ∀ vs H Q E, sp vs H Q E → vs.length = ps.length)
    (hbody : ∀ (A : Around) (outer : List Env) (s : Shared) (H : Hp) (vs : List V) (Q : VK) (E : XK), Room k (A.deeper (envOfC qual scope s.heap.objs.size f cdv)) → sp vs H Q E →
      ∃ t, PSs (cxOf CX P w K mg base N qual scope f cdv A outer s H E) body t ∧ t { nx := fun _ H' => Q .non H', rt := Q } (start N vs) H) :
    FnOk P w K mg base CX (k + 1) f (PySem.W.fnOf name qual params body scope dV kV doc pm an cdv ct) ps sp := by
  refine ⟨len, fun A outer s H args us vs Q E hr e0 hb r hsp => ?_⟩
  have hl := len _ _ _ _ hsp
  have KX : K.In s.heap := e0.mod.kin.keeps fun b o e => (e0.bs b o e).1
  have lim : s.heap.NoLimit := e0.mod.nolimit.keeps fun b o e => (e0.bs b o e).1
  have hkind : ∀ y ∈ ps.zip us, scope.names.lookup y.1 = some .local ∨ (scope.names.lookup y.1 = some .cell ∧ ((cellsFrom (s.heap.objs.size + 1) scope.names []).lookup y.1).isSome = true) := fun ⟨n, v⟩ hy => by
    rcases S.par n (List.of_mem_zip hy).1 with q | q
    · exact .inl q
    · exact .inr ⟨q, PySem.W.cellsFrom_some _ _ _ (.inl q)⟩
  refine codeAny_call_function hr.depth (KX _ _ lk) rfl S.co S.gen rfl (PySem.W.codeRec_of KX hcd) (hb _ _ _ _ ?_)
  refine wpAny_newFunctionEnv_cells S.kind hkind fun env he s1 x => ?_
  subst he
  refine ⟨lim.keeps x.toInCall.keep, codeAny_func ?_⟩
  obtain ⟨t, ht, hq⟩ := hbody A outer s H vs Q E (hr.deeper _) hsp
  have I : Inv (cxOf CX P w K mg base N qual scope f cdv A outer s H E) [] (start N vs) H s1 := inv_start S hr.hd e0 hl r x
  refine wpAny_mono (ht [] s1 (start N vs) H _ I hq) (fun fl s' hs => ?_) fun e s' hs => hs
  have fin : ∀ {σ' : St} {H' : Hp} {v : V} {u : Value}, Inv (cxOf CX P w K mg base N qual scope f cdv A outer s H E) [] σ' H' s' → RelV v u → Q v H' → CE outer P w H s Q u s' :=
    fun {σ' H' v u} J rv q => ⟨v, H', J.os, J.bare, J.base, J.hok, rv, q⟩
  cases fl with
  | ret u =>
    obtain ⟨v, σ', H', J, rv, q⟩ := hs
    exact fin J rv q
  | next =>
    obtain ⟨σ', H', J, q⟩ := hs
    exact fin (v := V.non) (u := Value.none) J rfl q
  | brk =>
    obtain ⟨_, _, _, q⟩ := hs
    exact False.elim q
  | cont =>
    obtain ⟨_, _, _, q⟩ := hs
    exact False.elim q
end L2

namespace L2
open PySem PySem.Spec PyProof.Rows
section
variable {X : Cx} {x : Str} {p pos : Pos} {e : Expr} {es : List Expr} {t : TA} {id T : String} {r : List V → Hp → VK → Prop}

def tCB (r : List V → Hp → VK → Prop) (t : TA) : TE := fun σ H Q => t σ H fun vs H1 => r vs H1 Q
theorem pe_callB (hc : CallR X (.builtin id) r) (hg : Gl X x) (hm : X.mg x = none) (hv : bootBuiltins x = some (.builtin id)) (ha : PA X (e :: es) t) (hn : x ≠ "__name__" := by decide) (hdb : (x == ("__debug__" : Str)) = false := by decide)
    (he : starEach (e :: es) X.env = (false, eval e X.env) :: starEach es X.env := by rfl) (hpl : (backTo pos (starEach es X.env)).any (·.1) = false := by rfl) : PE X (.Call (.Name x p) (e :: es) [] pos) (tCB r t) := by
  intro pins s σ H Q I h
  refine wpAny_Call_Name_kw (ld_blt I hg hm hv ?_ hn hdb)
  exact PyProof.Rows.callWith_builtin1 (thn (ha pos pins s σ H _ I h) fun us s1 ⟨vs, H1, I1, r1, q1⟩ => hc pins s1 σ H1 vs us Q I1 r1 q1) he hpl
theorem pe_callTy (hc : CallR X (.type T) r) (hg : Gl X x) (hm : X.mg x = none) (hv : bootBuiltins x = some (.type T)) (ha : PA X (e :: es) t) (hn : x ≠ "__name__" := by decide) (hdb : (x == ("__debug__" : Str)) = false := by decide)
    (he : starEach (e :: es) X.env = (false, eval e X.env) :: starEach es X.env := by rfl) (hpl : (backTo pos (starEach es X.env)).any (·.1) = false := by rfl) : PE X (.Call (.Name x p) (e :: es) [] pos) (tCB r t) := by
  intro pins s σ H Q I h
  refine wpAny_Call_Name_kw (ld_blt I hg hm hv ?_ hn hdb)
  exact PyProof.Rows.callWith_type1 (thn (ha pos pins s σ H _ I h) fun us s1 ⟨vs, H1, I1, r1, q1⟩ => hc pins s1 σ H1 vs us Q I1 r1 q1) he hpl
end
end L2

namespace HT
open PySem PyProof.Rows


section
variable {prog : Program} {w : World} {A : Around} {E : Value → Shared → Prop} {s : Shared}

/-! ### t[a:b], not the whole -/
def sIx (n d : Nat) : Option Int → Nat
  | none => d
  | some v => if v < 0 then (v + (n : Int)).toNat else min v.toNat n
end
end HT

namespace L2
open PySem PySem.Spec PyProof.Rows

/-! ### the parts of a slice -/
abbrev TO := St → Hp → (Option Int → Hp → Prop) → Prop
def PO (X : Cx) (e : Option Expr) (t : TO) : Prop :=
  ∀ (pins : List (Addr × Obj)) (s : Shared) (σ : St) (H : Hp) (Q : Option Int → Hp → Prop), Inv X pins σ H s → t σ H Q →
    wpAny (model X.prog X.w) X.A (evalPart e X.env) (fun u s' => ∃ o H', Inv X pins σ H' s' ∧ IsPart u o ∧ Q o H') X.xe s
def tNoPart : TO := fun _ H Q => Q none H
def tPart (t : TE) : TO := fun σ H Q => t σ H fun x H1 => ∃ i, x = .int i ∧ Q (some i) H1

theorem intsAre_of {ns : List Int} : ∀ {us : List Value}, Vals (ns.map V.int) us → IntsAre us ns := by
  induction ns with
  | nil => intro us r; rw [List.map_nil] at r; cases r; exact .nil
  | cons n ns ih =>
    intro us r
    rw [List.map_cons] at r
    cases r with
    | cons r1 r2 =>
      obtain ⟨t, e⟩ := r1
      subst e
      exact .cons n t (ih r2)

section
variable {X : Cx} {e : Expr} {te : TE} {lo hi : Option Expr} {tl th : TO} {pos p2 : Pos}

theorem po_none : PO X none tNoPart := by
  intro pins s σ H Q I h
  rw [evalPart_none]
  exact wpAny_pure ⟨none, H, I, .none, h⟩
theorem po_some (h : PE X e te) : PO X (some e) (tPart te) := by
  intro pins s σ H Q I hw
  rw [evalPart_some]
  refine thn (h pins s σ H _ I hw) fun u s1 ⟨x, H1, I1, r1, q1⟩ => ?_
  obtain ⟨i, rfl, q⟩ := q1
  obtain ⟨t, rfl⟩ := r1
  exact ⟨some i, H1, I1, .int i t, q⟩

def SlR (X : Cx) (r : V → Option Int → Option Int → Hp → VK → Prop) : Prop :=
  ∀ (pins : List (Addr × Obj)) (s : Shared) (σ : St) (H : Hp) (x : V) (v vl vu : Value) (lo hi : Option Int) (sl : Addr) (Q : VK), Inv X pins σ H s → RelV x v → s.heap.IsSliceOf sl vl vu .none → IsPart vl lo → IsPart vu hi → r x lo hi H Q →
    ∃ T id, typeLookup (.type T) "__getitem__" = pure (some (.builtin id)) ∧ s.TypeIs v T ∧ wpAny (model X.prog X.w) X.A (getItem v (.ref sl)) (EP X pins σ Q) X.xe s
def tSl (r : V → Option Int → Option Int → Hp → VK → Prop) (te : TE) (tl th : TO) : TE := fun σ H Q => te σ H fun x H1 => tl σ H1 fun l H2 => th σ H2 fun u H3 => r x l u H3 Q
theorem pe_slice {r : V → Option Int → Option Int → Hp → VK → Prop} (hr : SlR X r) (he : PE X e te) (hl : PO X lo tl) (hu : PO X hi th) : PE X (.Subscript e (.Slice lo hi none p2) pos) (tSl r te tl th) := by
  intro pins s σ H Q I h
  refine Subscript_ (thn (he pins s σ H _ I h) fun v s1 ⟨x, H1, I1, r1, q1⟩ => ?_)
  refine wpAny_Slice (thn (hl pins s1 σ H1 _ I1 q1) fun vl s2 ⟨l, H2, I2, pl, q2⟩ => thn (hu pins s2 σ H2 _ I2 q2) fun vu s3 ⟨u, H3, I3, pu, q3⟩ => ?_)
  rw [evalPart_none]
  refine wpAny_pure ?_
  have I4 : Inv X pins σ H3 { s3 with heap := s3.heap.push { cls := .type "slice", data := .fields #[vl, vu, .none] } } := I3.kept (t' := s3.toks) fun b ob q => Heap.get?_push_of_some _ q
  obtain ⟨T, id, hT, ht, hg⟩ := hr pins { s3 with heap := s3.heap.push { cls := .type "slice", data := .fields #[vl, vu, .none] } } σ H3 x v vl vu l u s3.heap.objs.size Q I4 r1 (Heap.IsSliceOf.new ..) pl pu q3
  show wpAny (model X.prog X.w) X.A (subscriptTail e (.Slice lo hi none p2) v (.ref s3.heap.objs.size)) (EP X pins σ Q) X.xe { s3 with heap := s3.heap.push { cls := .type "slice", data := .fields #[vl, vu, .none] } }
  exact tail_any (ops := [.ref s3.heap.objs.size, v]) ht hT hg (by with_unfolding_all rfl)

def cutV (xs : List V) (lo hi : Option Int) : List V := (xs.drop (HT.sIx xs.length 0 lo)).take (HT.sIx xs.length xs.length hi - HT.sIx xs.length 0 lo)
theorem cutV_length (xs : List V) (lo hi : Option Int) : (cutV xs lo hi).length ≤ xs.length := by
  unfold cutV
  rw [List.length_take, List.length_drop]
  omega
/-! ### t < u, t + u -/
end
end L2

namespace L2
open PySem PySem.Spec PyProof.Rows

/-! ### places -/
def ixN (n : Nat) (i : Int) : Option Nat := if 0 ≤ i then (if i < n then some i.toNat else none) else if -(n : Int) ≤ i then some (i + n).toNat else none
def atI {α : Type} (xs : List α) (i : Int) : Option α := (ixN xs.length i).bind fun j => xs[j]?
theorem ixN_seq {n : Nat} {i : Int} {j : Nat} (h : ixN n i = some j) : seqIndex? i n = some j ∧ j < n ∧ -(n : Int) ≤ i ∧ i < n := by
  unfold ixN at h
  by_cases h0 : 0 ≤ i
  · rw [if_pos h0] at h
    by_cases h1 : i < n
    · rw [if_pos h1] at h
      have e : i.toNat = j := Option.some.inj h
      exact ⟨by rw [seqIndex_of h0 h1, e], by omega, by omega, h1⟩
    · rw [if_neg h1] at h; cases h
  · rw [if_neg h0] at h
    by_cases h1 : -(n : Int) ≤ i
    · rw [if_pos h1] at h
      have e : (i + n).toNat = j := Option.some.inj h
      exact ⟨by rw [seqIndex_neg (by omega) h1, e], by omega, h1, by omega⟩
    · rw [if_neg h1] at h; cases h
theorem atI_get {α : Type} {xs : List α} {i : Int} {v : α} (h : atI xs i = some v) : ∃ j, seqIndex? i xs.length = some j ∧ xs[j]? = some v ∧ j < xs.length ∧ -(xs.length : Int) ≤ i ∧ i < xs.length := by
  unfold atI at h
  cases e : ixN xs.length i with
  | none => rw [e] at h; cases h
  | some j =>
    rw [e] at h
    obtain ⟨h1, h2, h3, h4⟩ := ixN_seq e
    exact ⟨j, h1, h, h2, h3, h4⟩
theorem atI_nat {α : Type} {xs : List α} {j : Nat} {v : α} (h : xs[j]? = some v) : atI xs (j : Int) = some v := by
  have hj : j < xs.length := (List.getElem?_eq_some_iff.mp h).1
  have e : ixN xs.length (j : Int) = some j := by
    unfold ixN
    rw [if_pos (by omega), if_pos (by omega)]; simp
  unfold atI; rw [e]; exact h
/-! ### what may be subscripted -/
def PlainIx (b : Expr) : Prop := ∀ o i, subscripted b false o i = operate [o, i] (getItem o i)
def IxR (X : Cx) (r : R2) : Prop :=
  ∀ (value slice : Expr) (pins : List (Addr × Obj)) (s : Shared) (σ : St) (H : Hp) (x y : V) (v u : Value) (Q : VK), Inv X pins σ H s → RelV x v → RelV y u → r x y H Q →
    subscripted slice false v u = operate [v, u] (getItem v u) → wpAny (model X.prog X.w) X.A (subscriptTail value slice v u) (EP X pins σ Q) X.xe s
def MtR (X : Cx) (id : String) (r : V → List V → Hp → VK → Prop) : Prop :=
  ∀ (pins : List (Addr × Obj)) (s : Shared) (σ : St) (H : Hp) (x : V) (xs : List V) (v : Value) (us : List Value) (Q : VK), Inv X pins σ H s → RelV x v → Vals xs us → r x xs H Q →
    wpAny (model X.prog X.w) X.A (call (.builtin id) (v :: us)) (EP X pins σ Q) X.xe s
section
variable {X : Cx} {a b : Expr} {ta tb : TE} {pos : Pos}
theorem pe_ix {r : R2} (hr : IxR X r) (ha : PE X a ta) (hb : PE X b tb) (hs : PlainIx b) : PE X (.Subscript a b pos) (tOp r ta tb) := by
  intro pins s σ H Q I h
  exact Subscript_ (binT ha hb I h fun v u s2 x y H2 I2 rx ry q => hr a b pins s2 σ H2 x y v u Q I2 rx ry q (hs _ _))

def rIxL (K : PySem.W.Frag) : R2 := fun x y H Q => ∃ p xs i v, x = .ref p ∧ y = .int i ∧ SqL K H p xs ∧ atI xs i = some v ∧ Q v H
def rIxT (K : PySem.W.Frag) : R2 := fun x y H Q => ∃ p xs i v, x = .ref p ∧ y = .int i ∧ SqT K H p xs ∧ atI xs i = some v ∧ Q v H
theorem ix_list : IxR X (rIxL X.K) := by
  intro value slice pins s σ H x y v u Q I rx ry h hs
  obtain ⟨p, xs, i, z, rfl, rfl, hq, he, q⟩ := h
  cases rx
  obtain ⟨t, rfl⟩ := ry
  obtain ⟨its, r, pl, hz⟩ := I.list hq
  obtain ⟨j, h1, h2, h3, h4, h5⟩ := atI_get he
  obtain ⟨w, ew, rw'⟩ := r.get h2
  have hl := r.length
  have hn := line63
  have fin : EP X pins σ Q w s := ⟨z, H, I, rw', q⟩
  by_cases h0 : 0 ≤ i
  · have hj : i.toNat = j := by
      rw [seqIndex_of h0 h5] at h1
      exact Option.some.inj h1
    exact item_listR pl.isList h0 (by omega) (by rw [hj]; simpa using ew) fin hs
  · have hj : (i + (its.toArray.size : Int)).toNat = j := by
      rw [seqIndex_neg (by omega) h4] at h1
      rw [List.size_toArray, ← hl]
      exact Option.some.inj h1
    exact subscriptTail_builtinR (x := w) pl.isList.typeIs slot_list_getitem.lookup
      (wpAny_getItem_list_neg (Q := fun r s' => r = w ∧ EP X pins σ Q r s') pl.isList (by omega) (by rw [List.size_toArray] <;> omega) (by omega) (by rw [hj]; simpa using ew) ⟨rfl, fin⟩) hs
theorem ix_tup : IxR X (rIxT X.K) := by
  intro value slice pins s σ H x y v u Q I rx ry h hs
  obtain ⟨p, xs, i, z, rfl, rfl, hq, he, q⟩ := h
  cases rx
  obtain ⟨t, rfl⟩ := ry
  obtain ⟨its, r, pl, hz⟩ := I.tuple hq
  obtain ⟨j, h1, h2, h3, h4, h5⟩ := atI_get he
  obtain ⟨w, ew, rw'⟩ := r.get h2
  have hl := r.length
  have hn := line63
  have fin : EP X pins σ Q w s := ⟨z, H, I, rw', q⟩
  exact subscriptTail_builtinR (x := w) pl.typeIs slot_tuple_getitem.lookup
    (getItem_tuple (j := j) (Q := fun r s' => r = w ∧ EP X pins σ Q r s') pl (by omega) (by omega) (by rw [List.size_toArray, ← hl]; exact h1) (by simpa using ew) ⟨rfl, fin⟩) hs
/-! ### xs[i] = v, any sign -/
theorem mapSeq_set (its : List Value) (n j : Nat) (u : Value) : Obj.mapSeq (·.setIfInBounds j u) { cls := .type "list", data := .seq its.toArray n } = { cls := .type "list", data := .seq (its.set j u).toArray n } := by
  simp [Obj.mapSeq]
theorem Inv.lst {pins : List (Addr × Obj)} {σ : St} {H : Hp} {s : Shared} {p : Addr} {xs : List V} (I : Inv X pins σ H s) (h : H p = some (.lst xs)) :
    ∃ (its : List Value) (n : Nat), Vals xs its ∧ s.heap.get? p = some { cls := .type "list", data := .seq its.toArray n } ∧ xs.length ≤ sizeLine := by
  obtain ⟨z, its, n, r, e⟩ := I.hok p _ h
  exact ⟨its, n, r, e, z⟩
theorem Inv.lstUpd {pins : List (Addr × Obj)} {σ : St} {H : Hp} {s : Shared} {p : Addr} {xs ys : List V} {its its' : List Value} {n n' : Nat} {f : Obj → Obj} (I : Inv X pins σ H s) (h : H p = some (.lst xs))
    (ho : s.heap.get? p = some { cls := .type "list", data := .seq its.toArray n }) (hf : f { cls := .type "list", data := .seq its.toArray n } = { cls := .type "list", data := .seq its'.toArray n' }) (r : Vals ys its') (hz : ys.length ≤ sizeLine) (t : Nat) :
    Inv X pins σ (upd H p (.lst ys)) { s with heap := s.heap.update p f, toks := t } := by
  have e : (s.heap.update p f).get? p = some { cls := .type "list", data := .seq its'.toArray n' } := by
    rw [Heap.get?_update_self f ho (by rw [hf] <;> rfl), hf]
  refine I.write (x := p) (e := p) (by rw [h]; trivial) (.inl rfl) (fun b u hb q => (Heap.get?_update_other _ _ (Ne.symm hb)).trans q) ⟨_, e⟩ ?_
  exact ⟨hz, its', n', r, e⟩
def rSetL : V → V → V → Hp → (Hp → Prop) → Prop := fun o i v H Q => ∃ p xs k j, o = .ref p ∧ i = .int k ∧ H p = some (.lst xs) ∧ ixN xs.length k = some j ∧ Q (upd H p (.lst (xs.set j v)))
theorem set_list : PSet X rSetL := by
  intro pins s σ H o i v ov iv u Q I ro ri rv h
  obtain ⟨p, xs, k, j, rfl, rfl, hp, hj, q⟩ := h
  cases ro
  obtain ⟨t, rfl⟩ := ri
  obtain ⟨its, n, r, ho, hz⟩ := I.lst hp
  obtain ⟨h1, h2, h3, h4⟩ := ixN_seq hj
  have hl := r.length
  have hn := line63
  have I' : Inv X pins σ (upd H p (.lst (xs.set j v))) { s with heap := s.heap.update p (Obj.mapSeq (·.setIfInBounds j u)) } :=
    I.lstUpd hp ho (mapSeq_set its n j u) (r.set rv j) (by rw [List.length_set]; exact hz) s.toks
  by_cases h0 : 0 ≤ k
  · have hk : k.toNat = j := by
      rw [seqIndex_of h0 h4] at h1
      exact Option.some.inj h1
    exact PySem.W.ki_setAt ho h0 (by omega) (by rw [List.size_toArray, ← hl]; exact h4) (by rw [hk]; exact ⟨_, I', q⟩)
  · have hk : (k + (its.toArray.size : Int)).toNat = j := by
      rw [seqIndex_neg (by omega) h3] at h1
      rw [List.size_toArray, ← hl]
      exact Option.some.inj h1
    exact PySem.W.ki_setBack ho (by omega) (by rw [List.size_toArray, ← hl]; exact h3) (by omega) (by rw [hk]; exact ⟨_, I', q⟩)

/-! ### slices -/
theorem slice_bounds (lo hi : Option Int) (n : Nat) : (sliceBounds lo hi none n).1 = ((HT.sIx n 0 lo : Nat) : Int) ∧ (sliceBounds lo hi none n).2.1 = ((HT.sIx n n hi : Nat) : Int) ∧ (sliceBounds lo hi none n).2.2 = 1 := by
  refine ⟨?_, ?_, rfl⟩
  · cases lo with
    | none => simp [sliceBounds, HT.sIx]
    | some i =>
      simp only [sliceBounds, HT.sIx, Option.getD_none, show (1 : Int) > 0 by decide, if_true]
      by_cases h : i < 0
      · simp only [h, if_true] <;> omega
      · simp only [h, if_false] <;> omega
  · cases hi with
    | none => simp [sliceBounds, HT.sIx]
    | some i =>
      simp only [sliceBounds, HT.sIx, Option.getD_none, show (1 : Int) > 0 by decide, if_true]
      by_cases h : i < 0
      · simp only [h, if_true] <;> omega
      · simp only [h, if_false] <;> omega
theorem slicePick_cut (its : List Value) (lo hi : Option Int) : slicePick its.toArray lo hi none = ((its.drop (HT.sIx its.length 0 lo)).take (HT.sIx its.length its.length hi - HT.sIx its.length 0 lo)).toArray := by
  obtain ⟨h1, h2, h3⟩ := slice_bounds lo hi its.toArray.size
  unfold slicePick
  rw [h1, h2, h3]
  simp only [sliceRange_one, pick_run, List.size_toArray] <;> rfl
def rSlL (K : PySem.W.Frag) : V → Option Int → Option Int → Hp → VK → Prop := fun x lo hi H Q => ∃ a xs, x = .ref a ∧ SqL K H a xs ∧ ∀ p, H p = none → Q (.ref p) (upd H p (.lst (cutV xs lo hi)))
theorem sl_list : SlR X (rSlL X.K) := by
  intro pins s σ H x v vl vu lo hi sl Q I rx hs pl pu h
  obtain ⟨a, xs, rfl, hx, q⟩ := h
  cases rx
  obtain ⟨its, r, ht, hz⟩ := I.list hx
  have hlen := r.length
  refine ⟨"list", _, slot_list_getitem.lookup, ht.isList.typeIs, ?_⟩
  refine wpAny_getItem_list_slice ht.isList hs pl pu .none (by simp) ?_ (by rw [List.size_toArray] <;> omega)
  rw [slicePick_cut, ← hlen]
  refine ⟨.ref s.heap.objs.size, _, I.laid (t' := s.toks) (o := .lst (cutV xs lo hi)) (fun b ob q => Heap.get?_push_of_some _ q) (Nat.le_refl _) ?_, rfl, q _ (I.hok.fresh (Nat.le_refl _))⟩
  exact ⟨Nat.le_trans (cutV_length xs lo hi) hz, _, 0, (r.drop (HT.sIx xs.length 0 lo)).take (HT.sIx xs.length xs.length hi - HT.sIx xs.length 0 lo), Heap.get?_push_size _ rfl⟩

/-! ### in, not in: flat items -/
def flatV : V → Bool
  | .non => true
  | .bl _ => true
  | .int _ => true
  | .str _ => true
  | _ => false
def eqV : V → V → Bool
  | .non, .non => true
  | .bl a, .bl b => a == b
  | .bl a, .int b => (if a then 1 else 0) == b
  | .int a, .bl b => a == (if b then 1 else 0)
  | .int a, .int b => a == b
  | .str a, .str b => a == b
  | _, _ => false
theorem eqAt_V {A : Around} {s : Shared} {y x : V} {u v : Value} (ry : RelV y u) (rx : RelV x v) (fy : flatV y = true) (fx : flatV x = true) : SeqAt.EqAt A s u v (eqV y x) := by
  cases y with
  | non =>
    cases ry
    cases x with
    | non => cases rx; exact SeqAt.EqAt.same _
    | bl b => cases rx; exact SeqAt.EqAt.none_bool b
    | int b => obtain ⟨t, rfl⟩ := rx; exact SeqAt.EqAt.none_int b t
    | str b => obtain ⟨t, rfl⟩ := rx; exact SeqAt.EqAt.none_str b t
    | _ => exact absurd (show false = true from fx) Bool.false_ne_true
  | bl a =>
    cases ry
    cases x with
    | non => cases rx; exact SeqAt.EqAt.bool_none a
    | bl b => cases rx; exact SeqAt.EqAt.bool_bool a b
    | int b => obtain ⟨t, rfl⟩ := rx; exact SeqAt.EqAt.bool_int a b t
    | str b => obtain ⟨t, rfl⟩ := rx; exact SeqAt.EqAt.bool_str a b t
    | _ => exact absurd (show false = true from fx) Bool.false_ne_true
  | int a =>
    obtain ⟨t', rfl⟩ := ry
    cases x with
    | non => cases rx; exact SeqAt.EqAt.int_none a t'
    | bl b => cases rx; exact SeqAt.EqAt.int_bool a t' b
    | int b => obtain ⟨t, rfl⟩ := rx; exact SeqAt.EqAt.int_int a t' b t
    | str b => obtain ⟨t, rfl⟩ := rx; exact SeqAt.EqAt.int_str a t' b t
    | _ => exact absurd (show false = true from fx) Bool.false_ne_true
  | str a =>
    obtain ⟨t', rfl⟩ := ry
    cases x with
    | non => cases rx; exact SeqAt.EqAt.str_none a t'
    | bl b => cases rx; exact SeqAt.EqAt.str_bool a t' b
    | int b => obtain ⟨t, rfl⟩ := rx; exact SeqAt.EqAt.str_int a t' b t
    | str b => obtain ⟨t, rfl⟩ := rx; exact SeqAt.EqAt.str_str a t' b t
    | _ => exact absurd (show false = true from fx) Bool.false_ne_true
  | _ => exact absurd (show false = true from fy) Bool.false_ne_true
def eqU (x : V) (u : Value) : Bool := match u with
  | .none => eqV .non x
  | .bool b => eqV (.bl b) x
  | .int i _ => eqV (.int i) x
  | .str z _ => eqV (.str z) x
  | _ => false
theorem eqU_of {x y : V} {u : Value} (r : RelV y u) (f : flatV y = true) : eqU x u = eqV y x := by
  cases y with
  | non => cases r; rfl
  | bl b => cases r; rfl
  | int i => obtain ⟨t, rfl⟩ := r; rfl
  | str z => obtain ⟨t, rfl⟩ := r; rfl
  | _ => exact absurd (show false = true from f) Bool.false_ne_true
theorem any_eqU {x : V} : ∀ {xs : List V} {us : List Value}, Vals xs us → xs.all flatV = true → us.any (eqU x) = xs.any fun y => eqV y x
  | _, _, .nil, _ => rfl
  | y :: xs, u :: us, .cons r t, f => by
    rw [List.all_cons, Bool.and_eq_true] at f
    rw [List.any_cons, List.any_cons, eqU_of r f.1, any_eqU t f.2]
theorem mem_eqAt {A : Around} {s : Shared} {x : V} {v : Value} (rx : RelV x v) (fx : flatV x = true) : ∀ {xs : List V} {us : List Value}, Vals xs us → xs.all flatV = true → ∀ u ∈ us, SeqAt.EqAt A s u v (eqU x u)
  | _, _, .nil, _ => fun u hu => by cases hu
  | y :: xs, u :: us, .cons r t, f => fun u' hu => by
    rw [List.all_cons, Bool.and_eq_true] at f
    rcases List.mem_cons.mp hu with rfl | hu
    · rw [eqU_of r f.1]; exact eqAt_V r rx f.1 fx
    · exact mem_eqAt rx fx t f.2 u' hu
def inV (x : V) (xs : List V) : Bool := xs.any fun y => eqV y x
def rIn (K : PySem.W.Frag) (neg : Bool) : R2 := fun x y H Q => ∃ p xs, y = .ref p ∧ (SqL K H p xs ∨ SqT K H p xs) ∧ flatV x = true ∧ xs.all flatV = true ∧ Q (.bl (if neg then !inV x xs else inV x xs)) H
theorem op_in_seq : OpR X (compareOp .In) (rIn X.K false) := by
  intro pins s σ H x y v u Q I rx ry h
  obtain ⟨p, xs, rfl, hq, fx, fs, q⟩ := h
  cases ry
  rcases hq with hq | hq
  · obtain ⟨its, r, pl, hz⟩ := I.list hq
    refine SeqAt.in_listAt (eqU x) pl.isList (fun w hw => mem_eqAt rx fx r fs w (by simpa using hw)) ⟨.bl _, H, I, rfl, ?_⟩
    rw [show its.toArray.any (eqU x) = its.any (eqU x) by simp, any_eqU r fs]
    exact q
  · obtain ⟨its, r, pl, hz⟩ := I.tuple hq
    refine SeqAt.in_tupleAt (eqU x) pl (fun w hw => mem_eqAt rx fx r fs w (by simpa using hw)) ⟨.bl _, H, I, rfl, ?_⟩
    rw [show its.toArray.any (eqU x) = its.any (eqU x) by simp, any_eqU r fs]
    exact q
/-! ### len, list(x), tuple(x) of any list or tuple that is read -/
theorem call_len_seq : CallR X (.builtin "len") (fun xs H Q => ∃ p ys, xs = [.ref p] ∧ (SqL X.K H p ys ∨ SqT X.K H p ys) ∧ Q (.int ys.length) H) := by
  intro pins s σ H xs us Q I r h
  obtain ⟨p, ys, rfl, hq, q⟩ := h
  obtain ⟨u, rfl, rx⟩ := vals1 r
  cases rx
  have hn := line63
  rcases hq with hq | hq
  · obtain ⟨its, r', pl, hz⟩ := I.list hq
    have hlen := r'.length
    exact Calls.call_len_list pl.isList (by simp only [List.size_toArray] <;> omega) ⟨.int ys.length, H, I.tok _, ⟨s.toks + 1, by rw [List.size_toArray, hlen]⟩, q⟩
  · obtain ⟨its, r', pl, hz⟩ := I.tuple hq
    have hlen := r'.length
    exact len_tuple pl (by simp only [List.size_toArray] <;> omega) ⟨.int ys.length, H, I.tok _, ⟨s.toks + 1, by rw [List.size_toArray, hlen]⟩, q⟩
theorem call_list_of : CallR X (.type "list") (fun xs H Q => ∃ p ys, xs = [.ref p] ∧ (SqL X.K H p ys ∨ SqT X.K H p ys) ∧ ∀ l, H l = none → Q (.ref l) (upd H l (.lst ys))) := by
  intro pins s σ H xs us Q I r h
  obtain ⟨p, ys, rfl, hq, q⟩ := h
  obtain ⟨u, rfl, rx⟩ := vals1 r
  cases rx
  have fin : ∀ (its : List Value), Vals ys its → ys.length ≤ sizeLine → ∀ (h' : Heap) (c' : Nat), (∀ b o', s.heap.get? b = some o' → h'.get? b = some o') →
      h'.get? s.heap.objs.size = some { cls := .type "list", dict := none, data := .seq its.toArray c', slots := #[] } → EP X pins σ Q (.ref s.heap.objs.size) { s with heap := h' } := fun its r' hz h' c' kp e =>
    ⟨.ref s.heap.objs.size, _, I.laid (t' := s.toks) kp (Nat.le_refl _) (show ObjOk X.prog X.w _ h' _ (.lst ys) from ⟨hz, its, c', r', e⟩), rfl, q _ (I.hok.fresh (Nat.le_refl _))⟩
  rcases hq with hq | hq
  · obtain ⟨its, r', pl, hz⟩ := I.list hq
    have hlen := r'.length
    obtain ⟨o, ho, hc, n, hd⟩ := pl.isList
    exact call_list_seq p (.inl rfl) ho hc hd (fun h' c' kp e => fin its r' hz h' c' kp e) (by simp only [List.size_toArray] <;> omega)
  · obtain ⟨its, r', pl, hz⟩ := I.tuple hq
    have hlen := r'.length
    obtain ⟨o, ho, hc, n, hd⟩ := pl
    exact call_list_seq p (.inr rfl) ho hc hd (fun h' c' kp e => fin its r' hz h' c' kp e) (by simp only [List.size_toArray] <;> omega)
/-! ### the call of a builtin's method: o.m(..) -/
def tyV (K : PySem.W.Frag) (T : String) (x : V) (H : Hp) : Prop := match x with
  | .str _ => T = "str"
  | .int _ => T = "int"
  | .ref p => (T = "list" ∧ ∃ xs, SqL K H p xs) ∨ (T = "tuple" ∧ ∃ o, K.lookup p = some o ∧ o.cls = .type "tuple" ∧ o.dict = none) ∨
      (T = "dict" ∧ ((∃ kvs, H p = some (.dK kvs)) ∨ ∃ kvs, H p = some (.dT kvs))) ∨ (T = "set" ∧ ∃ S n, H p = some (.set S n))
  | _ => False
theorem tyV_is {pins : List (Addr × Obj)} {σ : St} {H : Hp} {s : Shared} {T : String} {x : V} {v : Value} (I : Inv X pins σ H s) (r : RelV x v) (ty : tyV X.K T x H) :
    s.TypeIs v T ∧ ∀ a, v = .ref a → ∃ ob, s.heap.get? a = some ob ∧ ob.dict = none := by
  cases x with
  | str z =>
    obtain ⟨t, rfl⟩ := r
    cases (show T = "str" from ty)
    exact ⟨typeIs_str s z t, fun _ e => nomatch e⟩
  | int i =>
    obtain ⟨t, rfl⟩ := r
    cases (show T = "int" from ty)
    exact ⟨typeIs_int s i t, fun _ e => nomatch e⟩
  | ref p =>
    cases r
    rcases ty with ⟨rfl, xs, hq⟩ | ⟨rfl, o, hk, hc, hd⟩ | ⟨rfl, hk⟩ | ⟨rfl, S, n, hk⟩
    · obtain ⟨its, _, pl, _⟩ := I.list hq
      refine ⟨pl.isList.typeIs, fun a e => ?_⟩
      cases e
      obtain ⟨o, n, e, c, hd, _⟩ := pl
      exact ⟨o, e, hd⟩
    · refine ⟨⟨o, I.kIn p o hk, hc⟩, fun a e => ?_⟩
      cases e
      exact ⟨o, I.kIn _ o hk, hd⟩
    · have z : ∃ o, s.heap.get? p = some o ∧ o.ExactDict := by
        rcases hk with ⟨kvs, hk⟩ | ⟨kvs, hk⟩
        · obtain ⟨_, _, _, _, o, _, _, e, ex, _⟩ := I.hok p _ hk
          exact ⟨o, e, ex⟩
        · obtain ⟨_, _, _, _, o, _, _, e, ex, _⟩ := I.hok p _ hk
          exact ⟨o, e, ex⟩
      obtain ⟨o, e, ex⟩ := z
      refine ⟨⟨o, e, ex.1⟩, fun a e2 => ?_⟩
      cases e2
      exact ⟨o, e, ex.2.1⟩
    · obtain ⟨o, _, _, _, e, ex, _⟩ := I.hok p _ hk
      refine ⟨⟨o, e, ex.1⟩, fun a e2 => ?_⟩
      cases e2
      exact ⟨o, e, ex.2.1⟩
  | _ => exact False.elim ty
def tBM (K : PySem.W.Frag) (T : String) (r : V → List V → Hp → VK → Prop) (to : TE) (t : TA) : TE := fun σ H Q => to σ H fun x H1 => tyV K T x H1 ∧ t σ H1 fun xs H2 => r x xs H2 Q
variable {o e : Expr} {es : List Expr} {to : TE} {t : TA} {name : Str} {apos cpos : Pos} {T id : String} {r : V → List V → Hp → VK → Prop}
theorem pe_bm (pa : PlainAttrs T) (slot : Slot T name id) (hty : typeOf (.builtin id) = pure (.type "method_descriptor")) (hm : MtR X id r) (ho : PE X o to) (ha : PA X (e :: es) t)
    (hbase : attributeBase o name X.env (eval o X.env) = eval o X.env := by rfl)
    (hfew : ((backTo cpos (starEach (e :: es) X.env)).all (fun x => !x.1) && (backToKw cpos (keywordEach [] X.env)).all (fun x => x.1.isSome)
      && decide ((e :: es).length + ([] : List Keyword).length + (if ([] : List Keyword).isEmpty then 0 else 1) < 30)) = true := by rfl)
    (hline : (apos.endLine == cpos.line) = true := by rfl) (hs : starEach (e :: es) X.env = (false, eval e X.env) :: starEach es X.env := by rfl) (hplain : (backTo cpos (starEach es X.env)).any (·.1) = false := by rfl) :
    PE X (.Call (.Attribute o name apos) (e :: es) [] cpos) (tBM X.K T r to t) := by
  intro pins s σ H Q I h
  refine wpAny_Call_method_late hbase hfew hline rfl (thn (ho pins s σ H _ I h) fun v s1 ⟨x, H1, I1, r1, ty, q1⟩ => ?_)
  obtain ⟨h1, h2⟩ := tyV_is I1 r1 ty
  refine ⟨T, id, pa, slot, hty, h1, h2, ?_⟩
  have hA := ha cpos pins s1 σ H1 _ I1 q1
  rw [hs] at hA ⊢
  refine Calls.callWith_builtin (by show (false || (backTo cpos (starEach es X.env)).any (·.1)) = false; rw [hplain] <;> rfl) (Calls.evalArgs_plain ?_)
  exact thn hA fun us s2 ⟨vs, H2, I2, r2, q2⟩ => hm pins s2 σ H2 x vs v us Q I2 r1 r2 q2
/- xs.append(e), list.index on a module's tuple .. are MtR facts of 06m -/
end
end L2

namespace L2
open PySem PySem.Spec PyProof.Rows

def MtM (X : Cx) (id : String) (r : V → List V → Hp → VK → Prop) : Prop :=
  ∀ (pins : List (Addr × Obj)) (s : Shared) (σ : St) (H : Hp) (x : V) (xs : List V) (v : Value) (us : List Value) (Q : VK), Inv X pins σ H s → RelV x v → Vals xs us → r x xs H Q →
    wpAny (model X.prog X.w) X.A (call (.builtin id) (v :: us)) (EP X pins σ Q) X.xe s

/-! ### lists of values -/
theorem Vals.one : ∀ {x : V} {us : List Value}, Vals [x] us → ∃ u, us = [u] ∧ RelV x u
  | _, _, .cons r .nil => ⟨_, rfl, r⟩
theorem Vals.two : ∀ {x y : V} {us : List Value}, Vals [x, y] us → ∃ u v, us = [u, v] ∧ RelV x u ∧ RelV y v
  | _, _, _, .cons r (.cons q .nil) => ⟨_, _, rfl, r, q⟩
theorem Vals.reverse {xs : List V} {us : List Value} (h : Vals xs us) : Vals xs.reverse us.reverse := by
  induction h with
  | nil => exact .nil
  | cons r t ih => rw [List.reverse_cons, List.reverse_cons]; exact Vals.append ih (.cons r .nil)
theorem Vals.rep {xs : List V} {us : List Value} (h : Vals xs us) : ∀ k : Nat, Vals (List.replicate k xs).flatten (List.replicate k us).flatten
  | 0 => .nil
  | k + 1 => by
    rw [List.replicate_succ, List.replicate_succ, List.flatten_cons, List.flatten_cons]
    exact Vals.append h (Vals.rep h k)
theorem foldl_rep (its : List Value) : ∀ (k : Nat) (acc : List Value),
    List.foldl (fun x1 x2 => x1 ++ x2) acc.toArray (List.replicate k its.toArray) = (acc ++ (List.replicate k its).flatten).toArray
  | 0, acc => by simp
  | k + 1, acc => by
    have e : acc.toArray ++ its.toArray = (acc ++ its).toArray := by simp
    have e2 : (acc ++ its) ++ (List.replicate k its).flatten = acc ++ (List.replicate (k + 1) its).flatten := by
      rw [List.replicate_succ, List.flatten_cons, List.append_assoc]
    rw [← e2, ← foldl_rep its k (acc ++ its), ← e, List.replicate_succ, List.foldl_cons]

section
variable {X : Cx} {pins : List (Addr × Obj)} {σ : St} {H : Hp} {s : Shared} {l b : Addr} {xs ys zs : List V}

/-! ### the two steps: a tracked list is rewritten, a new list is laid -/
theorem Inv.lset {its its' : List Value} {n : Nat} {f : Array Value → Array Value} {t' : Nat} (I : Inv X pins σ H s) (hH : H l = some (.lst xs))
    (e : s.heap.get? l = some { cls := .type "list", data := .seq its.toArray n }) (hf : f its.toArray = its'.toArray) (hv : Vals ys its') (hz : ys.length ≤ sizeLine) :
    Inv X pins σ (upd H l (.lst ys)) { s with heap := s.heap.update l (Obj.mapSeq f), toks := t' } := by
  have q := PySem.IsL.update e f
  rw [hf] at q
  refine I.write (x := l) (e := l) (by rw [hH]; exact trivial) (.inl rfl) (fun b' u hb hu => (Heap.get?_update_other s.heap (Obj.mapSeq f) (Ne.symm hb)).trans hu) ⟨_, q⟩ ?_
  exact ⟨hz, its', _, hv, q⟩
theorem Inv.lnew {its : List Value} {t' : Nat} (I : Inv X pins σ H s) (hv : Vals ys its) (hz : ys.length ≤ sizeLine) :
    Inv X pins σ (upd H s.heap.objs.size (.lst ys)) { s with heap := s.heap.push { cls := .type "list", data := .seq its.toArray }, toks := t' } :=
  I.laid (fun _ _ q => Heap.get?_push_of_some _ q) (Nat.le_refl _) ⟨hz, its, 0, hv, Heap.get?_push_size _ rfl⟩
theorem Inv.fresh (I : Inv X pins σ H s) : H s.heap.objs.size = none := I.hok.fresh (Nat.le_refl _)
theorem Inv.lstM (I : Inv X pins σ H s) (hH : H l = some (.lst xs)) : xs.length ≤ sizeLine ∧ ∃ (its : List Value) (n : Nat), Vals xs its ∧ xs.length = its.length ∧ s.heap.get? l = some { cls := .type "list", data := .seq its.toArray n } := by
  obtain ⟨z, its, n, r, e⟩ := I.hok l _ hH
  exact ⟨z, its, n, r, r.length, e⟩

theorem notLongL {n : Nat} (h : n ≤ sizeLine) : Builtin.List.listTooLong n = false := by
  unfold Builtin.List.listTooLong
  exact decide_eq_false (by omega)
end

section
variable {X : Cx}

/-! ### methods -/
def rAppend : V → List V → Hp → VK → Prop := fun x vs H Q => ∃ l xs y, x = .ref l ∧ vs = [y] ∧ H l = some (.lst xs) ∧ xs.length < sizeLine ∧ Q .non (upd H l (.lst (xs ++ [y])))
theorem mt_append : MtM X "list.append" rAppend := by
  intro pins s σ H x vs v us Q I rx rv h
  obtain ⟨l, xs, y, rfl, rfl, hH, hz, q⟩ := h
  cases rx
  obtain ⟨u, rfl, ru⟩ := rv.one
  obtain ⟨z, its, n, r, hl, e⟩ := I.lstM hH
  refine call_meets F.slot_list_append ⟨_, e, rfl⟩ F.entry_list_append (F.args_list_append_2 _ _) (PySem.list_append l its.toArray n u (by rw [List.size_toArray]; omega)) ⟨e, ?_⟩
  refine ⟨.non, _, I.lset (its' := its ++ [u]) hH e (by simp) (r.append (.cons ru .nil)) ?_, rfl, q⟩
  rw [List.length_append, List.length_singleton]
  omega

/-! ### list + list, list += list, list * int -/
def rCat : R2 := fun x y H Q => ∃ l b xs zs, x = .ref l ∧ y = .ref b ∧ H l = some (.lst xs) ∧ H b = some (.lst zs) ∧ xs.length + zs.length ≤ sizeLine ∧ ∀ p, H p = none → Q (.ref p) (upd H p (.lst (xs ++ zs)))
theorem op_cat : OpR X (binaryOp .Add) rCat := by
  intro pins s σ H x y v u Q I rx ry h
  obtain ⟨l, b, xs, zs, rfl, rfl, hH, hB, hz, q⟩ := h
  cases rx
  cases ry
  obtain ⟨z, its, n, r, hl, e⟩ := I.lstM hH
  obtain ⟨z2, its2, n2, r2, hl2, e2⟩ := I.lstM hB
  refine PySem.P.add_list e e2 ?_ (by rw [List.size_toArray, List.size_toArray]; omega)
  have ea : its.toArray ++ its2.toArray = (its ++ its2).toArray := by simp
  rw [ea]
  exact ⟨.ref _, _, I.lnew (t' := s.toks) (r.append r2) (by rw [List.length_append]; omega), rfl, q _ I.fresh⟩
def rRep : R2 := fun x y H Q => ∃ l k xs, x = .ref l ∧ y = .int k ∧ H l = some (.lst xs) ∧ -(2 ^ 63) ≤ k ∧ k < 2 ^ 63 ∧ xs.length * k.toNat ≤ sizeLine ∧
  ∀ p, H p = none → Q (.ref p) (upd H p (.lst (List.replicate k.toNat xs).flatten))
theorem len_rep {α : Type} (xs : List α) (k : Nat) : (List.replicate k xs).flatten.length = k * xs.length := by
  induction k with
  | zero => simp
  | succ k ih => rw [List.replicate_succ, List.flatten_cons, List.length_append, ih, Nat.succ_mul, Nat.add_comm]
theorem op_rep : OpR X (binaryOp .Mult) rRep := by
  intro pins s σ H x y v u Q I rx ry h
  obtain ⟨l, k, xs, rfl, rfl, hH, h1, h2, hz, q⟩ := h
  cases rx
  obtain ⟨t, rfl⟩ := ry
  obtain ⟨z, its, n, r, hl, e⟩ := I.lstM hH
  have hlen : its.toArray.size * k.toNat ≤ sizeLine := by rw [List.size_toArray, ← hl]; exact hz
  have hcap : ¬ its.toArray.size * k.toNat > (2 ^ 63 - 1) / 8 := by
    have : (sizeLine : Nat) ≤ (2 ^ 63 - 1) / 8 := by decide
    omega
  have hfit : ¬ (!Builtin.List.listFitsIndex k) = true := by
    rw [fitsIndex_both h1 h2]
    exact Bool.false_ne_true
  have hlong : ¬ Builtin.List.listTooLong (its.toArray.size * k.toNat) = true := by
    rw [notLongL hlen]
    exact Bool.false_ne_true
  have hnew : List.foldl (fun x1 x2 => x1 ++ x2) #[] (List.replicate (if its.toArray.isEmpty = true then 0 else k.toNat) its.toArray) = (List.replicate k.toNat its).flatten.toArray := by
    have f0 : ∀ m : Nat, List.foldl (fun x1 x2 => x1 ++ x2) #[] (List.replicate m its.toArray) = (List.replicate m its).flatten.toArray := fun m => by
      have := foldl_rep its m []
      rw [List.nil_append] at this
      exact this
    rw [f0]
    cases its with
    | nil => simp
    | cons a r' => rw [if_neg (by simp)]
  refine wpAny_binaryOp_repeat_ref (T := "list") (U := "int") (by decide) ⟨_, e, rfl⟩ (fun s' => typeIs_int s' k t) noFill_list_mul F.fills_int_mul F.slot_int_rmul repeat_list F.slot_int_index.lookup
    (call_meets F.slot_int_rmul (typeIs_int s k t) F.entry_int_rmul (F.args_int_rmul_2 _ _) (int___rmul___int_list k t l its.toArray n)
      ⟨e, rfl, ⟨_, e, rfl⟩, call_meets F.slot_list_mul ⟨_, e, rfl⟩ F.entry_list_mul (F.args_list_mul_2 _ _) (AutoListH.list___mul___list_int_3 l its.toArray n k t hfit hcap hlong) ⟨e, ?_⟩⟩)
  rw [hnew]
  exact ⟨.ref _, _, I.lnew (t' := s.toks) (r.rep k.toNat) (by rw [len_rep, Nat.mul_comm]; exact hz), rfl, q _ I.fresh⟩

/-! ### del xs[i] -/
end

/-! ### xs[a:b] = ys -/
section
variable {prog : Program} {w : World} {A : Around} {E : Value → Shared → Prop} {s : Shared}
set_option maxRecDepth 100000 in
end

end L2

namespace Att
open PySem PySem.W PySem.Calls PyProof.Rows

/-! ### the script -/
theorem ints_of_wellAll {P : Params} {h : Heap} : ∀ (ns : List Int) (vs : List Value), WellAll P h vs (ns.map WData.int) → IntsAre vs ns := by
  intro ns
  induction ns with
  | nil =>
    intro vs w
    rw [List.map_nil] at w
    cases w
    exact .nil
  | cons n ns ih =>
    intro vs w
    rw [List.map_cons] at w
    cases w with
    | cons a b =>
      cases a
      exact .cons _ _ (ih _ b)

theorem script_of {l : OpenLaw} {n : Nat} (hn : l.most = some n) {P : Params} {h : Heap} {args : List WData} {vals : List Value}
    (hpre : l.row.toRowW.claim.pre args = true) (hwl : WellAll P h vals args) :
    ∃ a vs ns, vals = [Value.ref a] ∧ args = [WData.list (ns.map WData.int)] ∧ h.get? a = some { cls := .type "list", data := .seq vs.toArray } ∧ IntsAre vs ns ∧ ns.length ≤ n := by
  have hsh : WShape.hasAll [] args [.list .int] = true := (pre_splitW hpre).1
  have hc : l.pre.holds [] { args := args } = true := (pre_splitW hpre).2
  obtain ⟨d, r, rfl, h1, h2⟩ := hasAllW_cons hsh
  obtain rfl := hasAllW_nil h2
  obtain ⟨xs, rfl, h3⟩ := hasW_list h1
  obtain ⟨ns, rfl⟩ := items_int h3
  have hlen : ns.length ≤ n := by
    unfold OpenLaw.pre at hc
    have h4 : (WTm.not (.lt (.lit (.int (n : Int))) (.len (.arg 0)))).holds [] { args := [.list (ns.map .int)] } = true := by
      have h4 := (holds_andW hc).1
      rw [hn] at h4
      exact h4
    have h5 := condW_of h4 (w_not (w_lt w_lit (w_len_list (w_arg rfl))))
    rw [List.length_map] at h5
    refine Nat.le_of_not_lt fun q => ?_
    have q' : (n : Int) < ((ns.length : Nat) : Int) := by omega
    first
      | (rw [decide_eq_true q'] at h5; exact absurd h5 (by decide))
      | (simp at h5; omega)
  cases hwl with
  | cons w1 w2 =>
    cases w2
    cases w1 with
    | list ho hall => exact ⟨_, _, ns, rfl, rfl, ho, ints_of_wellAll ns _ hall, hlen⟩

theorem post_true (l : OpenLaw) (args : List WData) : l.row.toRowW.claim.post args (.bool true) args = true :=
  postW_of (r := l.row.toRowW) (X := (true == true))
    (show WShape.has [] (.bool true) .bool = true by first | rfl | decide | simp [WShape.has, WShape.arms, WShape.armsAll])
    (show (WTm.eq .res (.lit (.bool true))).value [] { args := args, res := some (.bool true), after := args } = some (.bool (true == true)) from w_eq_bool (w_res rfl) w_lit) rfl

/-! ### the attachment: holds_open's last premise (the goal 'hc' behind k_head) from a wpAny of the law's body -/
theorem attach_call {l : OpenLaw} {n : Nat} {q : Program} {loose : List Str} {XP : (Str → Option Value) → Heap → Prop} {YP : World → Heap → Prop} {d : DefRec}
    (hn : l.most = some n) (hdf : d.params.defaults = [])
    (call : ∀ (w : World) (s₀ s₁ : Shared) (mg mb : Str → Option Value) (fa : Addr) (o : Obj) (pm cd doc : Value) (a : Addr) (vs : List Value) (ns : List Int),
      Ground q loose [] XP w s₀ mg mb s₁.heap → YP w s₁.heap →
      s₁.heap.get? fa = some o → o.data = .func (docDef d.name d.params d.body d.scope pm cd doc) → s₁.heap.CodeRec cd d.name → mg d.name = some (.ref fa) →
      s₁.heap.get? a = some { cls := .type "list", data := .seq vs.toArray } → IntsAre vs ns → ns.length ≤ n → s₁.gens = #[] →
      codeAny (model l.prog w) callerA (.call (.ref fa) ⟨[.ref a], []⟩) (fun r s' => r = .ok (.ret (.bool true)) ∧ OldK s₁.heap s'.heap ∧ s'.os = s₁.os ∧ AllBare s'.gens) s₁) :
    WalkO q loose XP YP l.row.toRowW d [] (fun f vs => PySem.call f vs) := by
  intro w s₀ s₁ mg mb G Y fa o pm cd doc dV kV ho hd hcd hD hmg hg args vals as hpre hlay hrd hwl hlo
  obtain rfl : dV = .none := Dflts.none hD hdf
  obtain rfl : kV = .none := Dflts.noKw hD
  obtain ⟨a, vs, ns, rfl, rfl, hobj, hints, hlen⟩ := script_of hn hpre hwl
  refine enter_call (codeAny_mono (call w s₀ s₁ mg mb fa o pm cd doc a vs ns G Y ho (fd_plain hd) hcd hmg hobj hints hlen hg) fun r s' hq => ?_)
  obtain ⟨rfl, h2, h3, h4⟩ := hq
  exact ⟨.inl ⟨.bool true, .bool true, [], rfl, fun _ => rfl, .bool true, post_true l _, fun _ => ⟨List.Pairwise.nil, fun _ hm => (nomatch hm)⟩⟩, h2, h3, h4⟩

/-! ### rules over ANY heap (no ledger) from facts about the written part K: the library's own take a ledger (News) for what they write -/
section
variable {prog : Program} {w : World} {A : Around} {E : Value → Shared → Prop} {s : Shared} {K : Frag}

/-! the whole heap as the ledger: makes every rule that writes through a ledger a rule over any heap -/
end
end Att

namespace L2
open PySem PySem.Spec PyProof.Rows

theorem vals_ints : ∀ {vs : List Value} {ns : List Int}, IntsAre vs ns → Vals (ns.map V.int) vs
  | _, _, .nil => .nil
  | _, _, .cons n t h => .cons ⟨t, rfl⟩ (vals_ints h)

end L2


/- THE LAST THEOREM (shape; LID, My.* are yours):
   My.Adr: a structure of the addresses that your layer names (classes, functions); My.Txt K t: a structure (Prop) of the equations over K;
   My.txt_mk : {K} {implicit addresses ..} (e1 : nsIn K mainGlobals "law" = some (some (.ref f))) (e2 : K.lookup f = some ⟨oc, od, .func (fnOf "law" "law" params body scope dV kV doc pm an cdv ct), sl⟩) (e3 : codeIn K cdv "law" = true) .. : ∃ t, My.Txt K t

set_option maxRecDepth 100000 in
set_option maxHeartbeats 0 in
theorem PySem.Challenge.cw_LID_holds : PySem.Challenge.rw_LID.Holds := by
  w_on; o_law; k_head; (case hw => w_witness2)
  k_fill
  refine L2.walk_of (l := PySem.Challenge.rw_LID) (n := 63) (k := 40) (x := "script") (CX := fun w => ..) (sp := fun _ => My.sp_law) rfl (by decide) rfl ⟨rfl, by decide, by decide⟩ (fun w h Y => PySem.W.kIn_of Y) ?F ?S ?C
  case F =>
    intro w mg fa h KX G hmg
    have T : ∃ t, My.Txt (L2.KOf KX) t := by
      dsimp only [L2.KOf]                          -- K must stand as «<heap const> w.params» for k_is
      refine' My.txt_mk ?e1 ?e2 ?e3 ..
      (case e1 => PySem.W.k_is)                    -- in the order: a name -> its address -> its object -> its parts
      (case e2 => PySem.W.k_is)
      ..
    obtain ⟨t, T⟩ := T
    have e0 := hmg.symm.trans (PySem.W.mg_of KX G T.law)
    cases e0                                       -- fa is the law's own address
    exact ⟨_, fun s u => .of_eq rfl, fun base kb nb => My.law_fn T kb nb⟩     -- if «.of_eq rfl» comes too early: refine' ⟨_, ?b, fun base kb nb => My.law_fn T kb nb⟩; exact fun s u => .of_eq rfl
  case S => exact fun w H a ns hl hO hS => ..
  case C => exact ..
(the tactic k_is has no namespace: write k_is) -/

/-! SHORT WORDS over the layer: a def of the text, its body, what a loop and a test want. -/
namespace L2
open PySem PySem.Spec PyProof.Rows

/-! ### the text by places -/
def defArgs (s : Stmt) : Arguments := match s with
  | .FunctionDef _ a _ _ _ _ _ _ _ _ => a
  | _ => { posonlyargs := [], args := [], vararg := none, kwonlyargs := [], kw_defaults := [], kwarg := none, defaults := [] }
def defBody (s : Stmt) : List Stmt := match s with
  | .FunctionDef _ _ b _ _ _ _ _ _ _ => b
  | _ => []
def defScope (s : Stmt) : Scope := match s with
  | .FunctionDef _ _ _ _ _ _ sc _ _ _ => sc
  | _ => { kind := .function, names := [], isGenerator := false, isCoroutine := false }

/-! ### no exception leaves a def -/
abbrev CX0 : CXT := fun _ _ _ _ _ _ => False
abbrev E0 : XK := fun _ _ _ => False
theorem pass0 {X : Cx} : Passes CX0 X E0 := fun _ _ _ _ _ _ _ h => h.elim

/-! ### a def (or method) of the text as it stands behind the top -/
structure Fun (K : PySem.W.Frag) (x qual : Str) (st : Stmt) (f : Addr) (fd : FuncData) : Prop where
  ex : ∃ (oc : Value) (od : Option Addr) (kV doc pm : Value) (an : Option Addr) (cdv ct : Value) (osl : Array (Option Value)),
    fd = PySem.W.fnOf x qual (defArgs st) (defBody st) (defScope st) .none kV doc pm an cdv ct ∧ K.lookup f = some ⟨oc, od, .func fd, osl⟩ ∧ PySem.W.codeIn K cdv qual = true
  kp : PySem.W.keepIn K (.ref f) = true
section
variable {P : Program} {w : World} {K : PySem.W.Frag} {mg : Str → Option Value} {base : Heap}
theorem Fun.ok {x qual : Str} {st : Stmt} {f : Addr} {fd : FuncData} {N ps : List Str} {k : Nat} {sp : Sp} (F : Fun K x qual st f fd) (S : FnScope N ps (defScope st)) (len : ∀ vs H Q E, sp vs H Q E → vs.length = ps.length)
    (hbody : ∀ (cdv : Value) (A : Around) (outer : List Env) (s : Shared) (H : Hp) (vs : List V) (Q : VK) (E : XK), Room k (A.deeper (envOfC qual (defScope st) s.heap.objs.size f cdv)) → sp vs H Q E →
      ∃ t, PSs (cxOf CX0 P w K mg base N qual (defScope st) f cdv A outer s H E).nox (defBody st) t ∧ t { nx := fun _ H' => Q .non H', rt := Q } (start N vs) H) : FnOk P w K mg base CX0 (k + 1) f fd ps sp := by
  obtain ⟨oc, od, kV, doc, pm, an, cdv, ct, osl, rfl, lk, hcd⟩ := F.ex
  refine fn_of lk hcd S len fun A outer s H vs Q E hr hsp => ?_
  obtain ⟨t, h, q⟩ := hbody cdv A outer s H vs Q E hr hsp
  exact ⟨t, h.nox, q⟩
theorem Fun.binds {x qual : Str} {st : Stmt} {f : Addr} {fd : FuncData} {ps : List Str} (F : Fun K x qual st f fd)
    (h : ∀ (kV doc pm : Value) (an : Option Addr) (cdv ct : Value) (us : List Value), us.length = ps.length → bindArgs (PySem.W.fnOf x qual (defArgs st) (defBody st) (defScope st) .none kV doc pm an cdv ct) ⟨us, []⟩ = pure (ps.zip us)) : Binds K fd ps [] := by
  obtain ⟨oc, od, kV, doc, pm, an, cdv, ct, osl, rfl, lk, hcd⟩ := F.ex
  exact .all (h kV doc pm an cdv ct)
theorem fun_mk {x qual : Str} {st : Stmt} {f : Addr} {oc : Value} {od an : Option Addr} {osl : Array (Option Value)} {kV doc pm cdv ct : Value} (l : K.lookup f = some ⟨oc, od, .func (PySem.W.fnOf x qual (defArgs st) (defBody st) (defScope st) .none kV doc pm an cdv ct), osl⟩)
    (c : PySem.W.codeIn K cdv qual = true) (k : PySem.W.keepIn K (.ref f) = true) : Fun K x qual st f (PySem.W.fnOf x qual (defArgs st) (defBody st) (defScope st) .none kV doc pm an cdv ct) := ⟨⟨oc, od, kV, doc, pm, an, cdv, ct, osl, rfl, l, c⟩, k⟩
end
theorem hu_of {A : Around} {k : Nat} (hr : Room k A) : A.units + 1 < cLine := Nat.lt_of_le_of_lt (Nat.add_le_add_left (by decide : 1 ≤ 64) _) hr.units
/-! ### expressions in short: the name that stands in the i-th slot -/
section
variable {X : Cx}
theorem pv (i : Nat) {x : Str} {pos : Pos} (hN : X.N[i]? = some x := by rfl) (hv : Vis X.env.scope x := by first | exact Or.inl rfl | exact Or.inr (Or.inl rfl) | exact Or.inr (Or.inr rfl)) (hd : (x == ("__debug__" : Str)) = false := by decide)
    (hcd : (x == ("__classdict__" : Str)) = false := by decide) : PE X (.Name x pos) (tVar i) := pe_var hN hv hd hcd
end

/-! ### tests -/
theorem iteF {A B : Prop} (h : B) : if false = true then A else B := by
  rw [if_neg Bool.false_ne_true]
  exact h
theorem iteT {A B : Prop} (h : A) : if true = true then A else B := by
  rw [if_pos rfl]
  exact h
theorem ite2 {c A B : Prop} [Decidable c] (h1 : c → A) (h2 : ¬ c → B) : if c then A else B := by
  by_cases h : c
  · rw [if_pos h]
    exact h1 h
  · rw [if_neg h]
    exact h2 h
/-! ### heaps -/
def Same (H H' : Hp) : Prop := ∀ b o, H b = some o → H' b = some o
theorem Same.refl (H : Hp) : Same H H := fun _ _ h => h
theorem Same.trans {H H1 H2 : Hp} (a : Same H H1) (b : Same H1 H2) : Same H H2 := fun c o h => b c o (a c o h)
theorem Same.free {H H' : Hp} (e : Same H H') {l : Addr} (h : H' l = Option.none) : H l = Option.none := by
  cases q : H l with
  | none => rfl
  | some o =>
    rw [e l o q] at h
    cases h
theorem Same.seq {K : PySem.W.Frag} {H H' : Hp} {a : Addr} {xs : List V} (e : Same H H') (h : SqL K H a xs) : SqL K H' a xs := by
  rcases h with (h | ⟨o, h⟩) | h
  · exact .inl (.inl (e _ _ h))
  · exact .inl (.inr ⟨o, e _ _ h⟩)
  · exact .inr h

end L2

/-! COMPREHENSIONS over the hand layer: one clause, any target, at most one test; no exception leaves the block. -/
namespace L2
open PySem PySem.Spec PyProof.Rows

abbrev NoX : Value → Shared → Prop := fun _ _ => False
abbrev ifsRun (ifs : List Expr) (env : Env) : Sem Bool :=
  forIn ifs true fun c r => if r = true then do let ok ← isTrue c env (eval c env); pure (ForInStep.yield ok) else pure (ForInStep.yield r)

theorem compLoop_any {prog : Program} {w : World} {A : Around} {R : Result → Shared → Prop} {s : Shared} {elt target iter : Expr} {ifs : List Expr} {scope : Scope} {pos : Pos} {it acc : Value} {env : Env} (I : Nat → Shared → Prop)
    (turn : ∀ n s, I n s → wpAny (model prog w) A (pyNext it) (fun r s₁ => match r with
      | none => R (.ok .next) s₁
      | some v => wpAny (model prog w) A (letOwnedTupleGo target it v) (fun _ s₁' => wpAny (model prog w) A (assign target env v) (fun _ s₂ =>
          wpAny (model prog w) A (ifsRun ifs env) (fun ok s₃ =>
            if ok = true then wpAny (model prog w) A (eval elt env) (fun x s₄ =>
              wpAny (model prog w) A (call (.builtin "list.append") [acc, x]) (fun _ s₅ => ∃ m, m < n ∧ I m s₅) NoX s₄) NoX s₃
            else ∃ m, m < n ∧ I m s₃) NoX s₂) NoX s₁') NoX s₁) NoX s)
    (n : Nat) (h : I n s) : codeAny (model prog w) A (.compLoop (.ListComp elt [⟨target, iter, ifs, 0⟩] scope pos) 0 it acc env) R s := by
  refine codeAny_loop rfl I (fun n s hI => ?_) n h
  show wpAny _ A ((compTurn (.ListComp elt [⟨target, iter, ifs, 0⟩] scope pos) 0 it acc env).onRaise (fun x => do noteFrame x env; theTreesLotGoes x)) _ _ s
  refine wpAny_noted ?_
  rw [compTurn_list]
  refine wpAny_bind (wpAny_standAt (wpAny_bind (wpAny_mono (turn n s hI) (fun r s₁ h₁ => ?_) fun _ _ h' => h'.elim)))
  cases r with
  | none => exact wpAny_pure h₁
  | some v =>
    refine wpAny_bind (wpAny_mono h₁ (fun _ s₁' h₁' => ?_) fun _ _ h' => h'.elim)
    refine wpAny_bind (wpAny_mono h₁' (fun _ s₂ h₂ => wpAny_bind (wpAny_mono h₂ (fun ok s₃ h₃ => ?_) fun _ _ h' => h'.elim)) fun _ _ h' => h'.elim)
    cases ok with
    | false => exact wpAny_pure ⟨rfl, h₃⟩
    | true =>
      exact wpAny_bind (wpAny_bind (wpAny_mono h₃ (fun x s₄ h₄ => wpAny_bind (wpAny_mono h₄ (fun _ s₅ h₅ => wpAny_pure (wpAny_pure ⟨rfl, h₅⟩)) fun _ _ h' => h'.elim)) fun _ _ h' => h'.elim))

def clos (names : List (Str × NameKind)) (cells : List (Str × Addr)) : List (Str × Addr) :=
  names.foldl (fun cs y => if y.2 == .free then (y.1, (cells.lookup y.1).getD 0) :: cs else cs) []
theorem closureFor_of {scope : Scope} {env : Env} (h : ∀ y ∈ scope.names, y.2 = .free → ∃ c, env.cells.lookup y.1 = some c) : closureFor scope env = pure (clos scope.names env.cells) := by
  have all : ∀ (names : List (Str × NameKind)) (cs : List (Str × Addr)), (∀ y ∈ names, y.2 = .free → ∃ c, env.cells.lookup y.1 = some c) →
      (forIn (m := Sem) names cs fun (y : Str × NameKind) (r : List (Str × Addr)) => if (y.2 == NameKind.free) = true then do let c ← cellOf env y.1; pure (ForInStep.yield ((y.1, c) :: r)) else pure (ForInStep.yield r)) =
        pure (names.foldl (fun cs y => if y.2 == .free then (y.1, (env.cells.lookup y.1).getD 0) :: cs else cs) cs) := by
    intro names
    induction names with
    | nil => intro cs _; rfl
    | cons y r ih =>
      intro cs hy
      rw [List.forIn_cons]
      by_cases hk : y.2 = .free
      · obtain ⟨c, hc⟩ := hy y List.mem_cons_self hk
        have hb : (y.2 == NameKind.free) = true := by simp [hk]
        rw [if_pos hb, List.foldl_cons, if_pos hb, hc]
        have e : cellOf env y.1 = pure c := by unfold cellOf; rw [hc]
        rw [e]
        exact ih _ fun z hz => hy z (List.mem_cons_of_mem _ hz)
      · have hb : ¬ (y.2 == NameKind.free) = true := by simpa using hk
        rw [if_neg hb, List.foldl_cons, if_neg hb]
        exact ih _ fun z hz => hy z (List.mem_cons_of_mem _ hz)
  unfold closureFor
  have e := all scope.names [] h
  exact (congrArg (fun z => z >>= fun cs => pure cs) e).trans rfl
theorem clos_mem {cells : List (Str × Addr)} : ∀ (names : List (Str × NameKind)) (cs : List (Str × Addr)) {p : Str × Addr},
    p ∈ names.foldl (fun cs y => if y.2 == .free then (y.1, (cells.lookup y.1).getD 0) :: cs else cs) cs → p ∈ cs ∨ (p.2 = (cells.lookup p.1).getD 0 ∧ (p.1, NameKind.free) ∈ names)
  | [], cs, p, h => .inl h
  | (n, k) :: r, cs, p, h => by
    rw [List.foldl_cons] at h
    rcases clos_mem r _ h with h | ⟨h1, h2⟩
    · by_cases hk : k = .free
      · subst hk
        rw [if_pos (by rfl)] at h
        rcases List.mem_cons.mp h with e | h
        · subst e
          exact .inr ⟨rfl, List.mem_cons_self⟩
        · exact .inl h
      · rw [if_neg (by simpa using hk)] at h
        exact .inl h
    · exact .inr ⟨h1, List.mem_cons_of_mem _ h2⟩
theorem clos_keep {cells : List (Str × Addr)} {x : Str} : ∀ (names : List (Str × NameKind)) (cs : List (Str × Addr)), ((∃ p ∈ cs, p.1 = x) ∨ (x, NameKind.free) ∈ names) →
    ∃ p ∈ names.foldl (fun cs y => if y.2 == .free then (y.1, (cells.lookup y.1).getD 0) :: cs else cs) cs, p.1 = x
  | [], cs, h => by
    rcases h with h | h
    · exact h
    · simp at h
  | (n, k) :: r, cs, h => by
    rw [List.foldl_cons]
    refine clos_keep r _ ?_
    rcases h with ⟨p, hp, e⟩ | h
    · refine .inl ⟨p, ?_, e⟩
      split
      · exact List.mem_cons_of_mem _ hp
      · exact hp
    · rcases List.mem_cons.mp h with e | h
      · cases e
        exact .inl ⟨_, by rw [if_pos (by rfl)]; exact List.mem_cons_self, rfl⟩
      · exact .inr h
theorem lookup_some_of {β : Type} {x : Str} : ∀ {l : List (Str × β)}, (∃ p ∈ l, p.1 = x) → ∃ c, l.lookup x = some c
  | [], h => by obtain ⟨p, hp, _⟩ := h; simp at hp
  | (n, b) :: r, h => by
    rw [List.lookup_cons]
    by_cases hx : x = n
    · subst hx
      exact ⟨b, by simp⟩
    · have hb : (x == n) = false := by simpa using hx
      rw [hb]
      refine lookup_some_of ?_
      obtain ⟨p, hp, e⟩ := h
      rcases List.mem_cons.mp hp with z | z
      · subst z; exact absurd e.symm hx
      · exact ⟨p, z, e⟩
theorem clos_lookup {names : List (Str × NameKind)} {cells : List (Str × Addr)} {x : Str} {c : Addr} (h : (clos names cells).lookup x = some c) : c = (cells.lookup x).getD 0 ∧ (x, NameKind.free) ∈ names := by
  have hm := PySem.mem_of_lookup h
  rcases clos_mem names [] hm with z | z
  · simp at z
  · exact z
theorem clos_has {names : List (Str × NameKind)} {cells : List (Str × Addr)} {x : Str} (h : (x, NameKind.free) ∈ names) : ∃ c, (clos names cells).lookup x = some c :=
  lookup_some_of (clos_keep names [] (.inr h))
theorem relabel_lookup {env : Env} {x : Str} {k : NameKind} : ∀ {names : List (Str × NameKind)},
    (names.map fun (n, k) => if (k == NameKind.free && env.scope.kind == .function && env.kindOf n == some .cell) then (n, NameKind.cell) else (n, k)).lookup x = some k → ∃ k', (x, k') ∈ names ∧ (k' = k ∨ k' = .free)
  | [], h => by simp at h
  | (n, k0) :: r, h => by
    have h : List.lookup x ((if (k0 == NameKind.free && env.scope.kind == .function && env.kindOf n == some .cell) = true then (n, NameKind.cell) else (n, k0)) :: _) = _ := h
    by_cases hx : x = n
    · subst hx
      by_cases hc : (k0 == NameKind.free && env.scope.kind == .function && env.kindOf x == some .cell) = true
      · have : k0 = .free := by
          simp only [Bool.and_eq_true, beq_iff_eq] at hc
          exact hc.1.1
        exact ⟨k0, List.mem_cons_self, .inr this⟩
      · rw [if_neg hc] at h
        simp only [List.lookup_cons, beq_self_eq_true] at h
        exact ⟨k0, List.mem_cons_self, .inl (Option.some.inj h)⟩
    · have hb : (x == n) = false := by simpa using hx
      have ih := @relabel_lookup env x k r
      by_cases hc : (k0 == NameKind.free && env.scope.kind == .function && env.kindOf n == some .cell) = true
      · rw [if_pos hc] at h
        simp only [List.lookup_cons, hb] at h
        obtain ⟨k', h1, h2⟩ := ih h
        exact ⟨k', List.mem_cons_of_mem _ h1, h2⟩
      · rw [if_neg hc] at h
        simp only [List.lookup_cons, hb] at h
        obtain ⟨k', h1, h2⟩ := ih h
        exact ⟨k', List.mem_cons_of_mem _ h1, h2⟩

abbrev compN (X : Cx) (T : List Str) (js : List Nat) : List Str := T ++ js.map fun j => X.N.getD j ""
abbrev compSt (T : List Str) (js : List Nat) (σ : St) : St := T.map (fun _ => none) ++ js.map fun j => σ.getD j none
abbrev cxComp (X : Cx) (T : List Str) (js : List Nat) (scope : Scope) (fp : List Addr) (pl : List (Addr × Obj)) (s : Shared) (H : Hp) : Cx :=
  { X with N := compN X T js, s₀ := s, H₀ := H, env := compEnvC scope (clos scope.names X.env.cells) s.heap.objs.size X.env, outer := X.stack, stack := X.stack, ex := fp, fn := fun _ => false, pn := X.pn ++ pl, xe := NoX }
structure CompScope (X : Cx) (T : List Str) (js : List Nat) (scope : Scope) : Prop where
  kind : scope.kind = .function
  nocell : ∀ y ∈ scope.names, y.2 ≠ .cell
  loc : ∀ y ∈ scope.names, y.2 = .local → scope.names.lookup y.1 = some .local
  free : ∀ y ∈ scope.names, y.2 = .free → X.env.kindOf y.1 = some .cell ∨ X.env.kindOf y.1 = some .free
  caps : ∀ j ∈ js, (X.N.getD j "", NameKind.free) ∈ scope.names
  capk : ∀ j ∈ js, (compEnvC scope (clos scope.names X.env.cells) 0 X.env).kindOf (X.N.getD j "") = some .cell ∨ (compEnvC scope (clos scope.names X.env.cells) 0 X.env).kindOf (X.N.getD j "") = some .free

section
variable {X : Cx} {T : List Str} {js : List Nat} {scope : Scope}
theorem CompScope.cells (S : CompScope X T js scope) (ok : X.Ok) {x : Str} {c : Addr} (h : (clos scope.names X.env.cells).lookup x = some c) : X.env.cells.lookup x = some c := by
  obtain ⟨h1, h2⟩ := clos_lookup h
  obtain ⟨c', hc⟩ := ok.has x (S.free _ h2 rfl)
  rw [hc] at h1
  rw [hc, h1]; rfl
theorem CompScope.ok (S : CompScope X T js scope) {pins : List (Addr × Obj)} {σ : St} {H : Hp} {s : Shared} {fp : List Addr} (I : Inv X pins σ H s) (hf : ∀ b ∈ fp, FpOk X pins H b) (ho : ∀ b ∈ fp, b < s.heap.objs.size) :
    (cxComp X T js scope fp pins s H).Ok := by
  have ok := I.ok
  refine ⟨ok.mod, S.kind, ok.glob, ok.blt, Nat.le_refl _, fun x y c h1 h2 => ok.inj x y c (S.cells ok h1) (S.cells ok h2), fun x hx => ?_, fun x c h => (nomatch h), ok.hd, ok.frames, .inl rfl, fun b hb => ⟨Nat.ne_of_lt (ho b hb), fun x c h => (hf b hb).2.2.2.2.1 x c (S.cells ok h)⟩,
    I.bs, Nat.le_trans ok.bsz I.sz, fun b o e hb => ?_, fun b hb hs => ?_, I.stack, I.stkFree⟩
  · have hx' : (relabel scope X.env).names.lookup x = some .cell ∨ (relabel scope X.env).names.lookup x = some .free := hx
    have go : ∀ k, (relabel scope X.env).names.lookup x = some k → (k = .cell ∨ k = .free) → ∃ c, (clos scope.names X.env.cells).lookup x = some c := fun k e hk => by
      obtain ⟨k', h1, h2⟩ := relabel_lookup e
      refine clos_has ?_
      rcases h2 with z | z
      · rcases hk with q | q
        · exact absurd (z.trans q) (S.nocell _ h1)
        · rw [z, q] at h1; exact h1
      · rw [z] at h1; exact h1
    rcases hx' with e | e
    · exact go _ e (.inl rfl)
    · exact go _ e (.inr rfl)
  · rcases (hf b hb).2.2.2.1 with z | z
    · exact ok.noex b o e z
    · exact absurd (Nat.lt_of_lt_of_le (Heap.lt_size e) (Nat.le_trans ok.bsz z)) (Nat.lt_irrefl _)
  · have f := hf b hb
    rcases List.mem_cons.mp (I.stkSub b hs) with z | z
    · exact f.2.1 z
    · exact f.2.2.1 z
theorem CompScope.inv (S : CompScope X T js scope) {pins : List (Addr × Obj)} {σ : St} {H : Hp} {s : Shared} {fp : List Addr} {h' : Heap} {m : Str → Option Value} {tk : Nat} (I : Inv X pins σ H s) (hf : ∀ b ∈ fp, FpOk X pins H b) (ho : ∀ b ∈ fp, b < s.heap.objs.size)
    (hn : h'.Ns s.heap.objs.size m) (hk : ∀ b o, s.heap.get? b = some o → h'.get? b = some o) :
    Inv (cxComp X T js scope fp pins s H) [] (compSt T js σ) H { s with heap := h', toks := tk } := by
  have ok := I.ok
  refine ⟨S.ok I hf ho, rfl, I.bare, Un.kept hk, ⟨m, hn, fun i x v h1 h2 h3 => ?_⟩, fun x c h => ?_, I.hok.fresh (Nat.le_refl _), fun x c h => I.freeC x c (S.cells ok h), fun p hp => ?_, I.hok.kept hk, ?_⟩
  · have hi : T.length ≤ i := by
      by_cases hi : i < T.length
      · have h2 : (T.map (fun _ => (none : Option V)) ++ js.map fun j => σ.getD j none)[i]? = some (some v) := h2
        rw [List.getElem?_append_left (by simpa using hi), List.getElem?_map] at h2
        cases e : T[i]? with
        | none => rw [e] at h2; cases h2
        | some z => rw [e] at h2; cases h2
      · omega
    have h2 : (T.map (fun _ => (none : Option V)) ++ js.map fun j => σ.getD j none)[i]? = some (some v) := h2
    rw [List.getElem?_append_right (by simpa using hi), List.getElem?_map] at h2
    have h1 : (T ++ js.map fun j => X.N.getD j "")[i]? = some x := h1
    rw [List.getElem?_append_right hi, List.getElem?_map] at h1
    rw [List.length_map] at h2
    cases e : js[i - T.length]? with
    | none => rw [e] at h2; cases h2
    | some j =>
      rw [e] at h1 h2
      have h1 : X.N.getD j "" = x := Option.some.inj h1
      have h2 : σ.getD j none = some v := Option.some.inj h2
      have hj : j ∈ js := List.mem_of_getElem? e
      have hσ : σ[j]? = some (some v) := by
        rw [List.getD_eq_getElem?_getD] at h2
        cases q : σ[j]? with
        | none => rw [q] at h2; cases h2
        | some z => rw [q] at h2; exact congrArg some h2
      have hjN : j < X.N.length := by
        rw [← I.len]
        exact (List.getElem?_eq_some_iff.mp hσ).1
      have hN : X.N[j]? = some x := by
        rw [← h1, List.getD_eq_getElem?_getD, List.getElem?_eq_getElem hjN]; rfl
      have hkx : X.env.kindOf x = some .cell ∨ X.env.kindOf x = some .free := by
        have := S.free _ (S.caps j hj) rfl
        rw [h1] at this
        exact this
      obtain ⟨m0, _, hl⟩ := I.loc
      have vis : Vis X.env.scope x := by
        rcases hkx with q | q
        · exact .inr (.inl q)
        · exact .inr (.inr q)
      obtain ⟨u, r, l⟩ := hl j x v hN hσ vis
      refine ⟨u, r, .inr ⟨?_, ?_⟩⟩
      · have := S.capk j hj
        rw [h1] at this
        exact this
      · rcases l with ⟨q, _⟩ | ⟨_, c, hc, z⟩
        · rcases hkx with z | z
          · rw [z] at q; cases q
          · rw [z] at q; cases q
        · obtain ⟨c', hc'⟩ := clos_has (cells := X.env.cells) (S.caps j hj)
          rw [h1] at hc'
          have e1 := S.cells ok hc'
          rw [hc] at e1
          cases e1
          obtain ⟨oc, hoc, hd⟩ := z
          exact ⟨c, hc', oc, hk _ _ hoc, hd⟩
  · obtain ⟨v, oc, hoc, hd⟩ := I.cell x c (S.cells ok h)
    exact ⟨v, oc, hk _ _ hoc, hd⟩
  · have hp : p ∈ (X.pn ++ pins) ++ [] := hp
    rw [List.append_nil] at hp
    obtain ⟨e, n, ne, nf, d⟩ := I.pin p hp
    refine ⟨hk _ _ e, n, Nat.ne_of_lt (Heap.lt_size e), fun hs => ?_, d⟩
    rcases List.mem_cons.mp (I.stkSub _ hs) with z | z
    · exact ne z
    · exact nf z
  · simp
end

/-! ### the tests of a clause -/
def PIf (X : Cx) (ifs : List Expr) (t : TT) : Prop :=
  ∀ (pins : List (Addr × Obj)) (s : Shared) (σ : St) (H : Hp) (Q : Bool → Hp → Prop), Inv X pins σ H s → t σ H Q → wpAny (model X.prog X.w) X.A (ifsRun ifs X.env) (TP X pins σ Q) X.xe s
def tNoIf : TT := fun _ H Q => Q true H
theorem pif_nil {X : Cx} : PIf X [] tNoIf := fun pins s σ H Q I h => wpAny_tests_nil ⟨H, I, h⟩
theorem pif_one {X : Cx} {c : Expr} {t : TT} (hc : PT X c t) : PIf X [c] t := fun pins s σ H Q I h => wpAny_tests_one (hc pins s σ H Q I h)

/-! ### the reading: W by the turn and a measure over the block's own names and the heap; the list grows at p -/
def CompR (J : It) (p : Addr) (Q : VK) (g : TG) (ti : TT) (te : TE) (σ0 : St) (H0 : Hp) : Prop :=
  ∃ W : Nat → Nat → St → Hp → Prop, (∃ m, W 0 m σ0 H0) ∧
  ∀ i m σ H, W i m σ H → (J.stop i H ∧ Q (.ref p) H) ∨ (J.go i H ∧ ∃ N : St → Hp → Prop, (∀ σ' H', N σ' H' → ∃ m', m' < m ∧ W (i + 1) m' σ' H') ∧ ∀ x H', J.yld i H x H' → g x σ H' fun σ2 H2 =>
    ti σ2 H2 fun b H3 => if b = true then te σ2 H3 fun v H4 => ∃ xs, H4 p = some (.lst xs) ∧ xs.length < sizeLine ∧ N σ2 (upd H4 p (.lst (xs ++ [v]))) else N σ2 H3)
def tComp (T : List Str) (js : List Nat) (wi : TI) (g : TG) (ti : TT) (te : TE) : TE := fun σ H Q => wi σ H fun J H1 => ∀ p, H1 p = none → CompR J p Q g ti te (compSt T js σ) (upd H1 p (.lst []))

section
variable {X : Cx} {T : List Str} {js : List Nat} {scope : Scope} {elt tg iter : Expr} {ifs : List Expr} {wi : TI} {g : TG} {ti : TT} {te : TE} {pos : Pos}
theorem comp_core {pins : List (Addr × Obj)} {σ : St} {H1 : Hp} {s2 : Shared} {Q : VK} {it : Addr} {fp : List Addr} {tn : Nat → Heap → Prop} {J : It} {E : Value → Shared → Prop} {RR : Value → Addr → Result → Shared → Prop}
    (hc : X.calm = true) (S : CompScope X T js scope)
    (hb : ∀ fp pl s H, PG (cxComp X T js scope fp pl s H) tg g ∧ PIf (cxComp X T js scope fp pl s H) ifs ti ∧ PE (cxComp X T js scope fp pl s H) elt te)
    (I : Inv X pins σ H1 s2) (Tn : Turn X.prog X.w X.K tg J fp it tn) (st0 : tn 0 s2.heap) (hf : ∀ b ∈ fp, FpOk X pins H1 b)
    (hq : ∀ p, H1 p = none → CompR J p Q g ti te (compSt T js σ) (upd H1 p (.lst [])))
    (hR : ∀ (D C : Addr) (s' : Shared) (H' : Hp) (m : Str → Option Value), Inv X pins σ H' s' → Q (.ref D) H' → s'.heap.Ns C m → H' C = none → C ≠ X.env.locals → X.s₀.heap.objs.size ≤ C → (∀ x c, X.env.cells.lookup x = some c → c ≠ C) → (∀ p ∈ X.pn ++ pins, p.1 ≠ C) →
      RR (.ref D) C (.ok .next) s') :
    wpAny (model X.prog X.w) X.A (newList []) (fun acc s₃ => wpAny (model X.prog X.w) X.A (newFunctionEnv scope X.env.globals (clos scope.names X.env.cells) [] X.env.qual none .none (some X.env)) (fun cenv s₄ =>
      codeAny (model X.prog X.w) X.A (.compStart (.ListComp elt [⟨tg, iter, ifs, 0⟩] scope pos) 0 (.ref it) acc { cenv with scope := relabel scope X.env }) (RR acc cenv.locals) s₄) E s₃) E s2 := by
  refine wpAny_newObj_type (wpAny_newFunctionEnv S.nocell (by intro y hy; simp at hy) (fun h₁ hns₁ hsb₁ => ?_) S.kind)
  dsimp only at hns₁ hsb₁ ⊢
  have I2 := I.lnew (its := []) (ys := []) (t' := s2.toks) .nil (Nat.zero_le _)
  have hD : H1 s2.heap.objs.size = none := I.fresh
  obtain ⟨W, ⟨m0, w0⟩, turn⟩ := hq s2.heap.objs.size hD
  generalize hs3 : ({ s2 with heap := s2.heap.push { cls := .type "list", data := .seq ([] : List Value).toArray }, toks := s2.toks } : Shared) = s3 at I2
  have hh3 : s3.heap = s2.heap.push { cls := .type "list", data := .seq ([] : List Value).toArray } := by rw [← hs3]
  generalize hDD : s2.heap.objs.size = D at *
  have hC : s3.heap.objs.size = D + 1 := by rw [hh3, Heap.size_push, hDD]
  have ho : ∀ b ∈ fp, b < D := fun b hb => by
    obtain ⟨o, e, _⟩ := Tn.obj _ _ st0 b hb
    rw [← hDD]
    exact Heap.lt_size e
  have hf3 : ∀ b ∈ fp, FpOk X pins (upd H1 D (.lst [])) b := fun b hb => ⟨by rw [upd_ne (Nat.ne_of_lt (ho b hb))]; exact (hf b hb).1, (hf b hb).2⟩
  have ho3 : ∀ b ∈ fp, b < s3.heap.objs.size := fun b hb => by rw [hC]; exact Nat.lt_succ_of_lt (ho b hb)
  have kk : ∀ b o, s3.heap.get? b = some o → h₁.get? b = some o := fun b o e => hsb₁.extBut b o (by rw [← hh3]; exact Nat.ne_of_lt (Heap.lt_size e)) (Heap.get?_push_of_some _ (by rw [← hh3]; exact e))
  obtain ⟨mC, hns⟩ : ∃ m, h₁.Ns s3.heap.objs.size m := ⟨_, by rw [hh3]; exact hns₁⟩
  have I3 := S.inv (tk := s2.toks + ([] : List (Str × Value)).length) I2 hf3 ho3 hns kk
  have Xc : ∀ fp pl s H, (cxComp X T js scope fp pl s H).calm = true := fun _ _ _ _ => hc
  obtain ⟨bG, bI, bE⟩ := hb fp pins s3 (upd H1 D (.lst []))
  have fpOk : ∀ {H' : Hp}, (∀ b ∈ fp, H' b = none) → ∀ b ∈ fp, FpOk (cxComp X T js scope fp pins s3 (upd H1 D (.lst []))) [] H' b := fun hn b hb => by
    obtain ⟨f0, f1, f2, f3, f4, f5⟩ := hf3 b hb
    refine ⟨hn b hb, Nat.ne_of_lt (ho3 b hb), fun hs => ?_, .inl hb, fun x c h => f4 x c (S.cells I.ok h), fun p hp => ?_⟩
    · rcases List.mem_cons.mp (I2.stkSub _ hs) with z | z
      · exact f1 z
      · exact f2 z
    · have hp : p ∈ (X.pn ++ pins) ++ [] := hp
      rw [List.append_nil] at hp
      exact f5 p hp
  have st3 : tn 0 h₁ := Tn.keep _ _ _ st0 fun b hb o e => kk b o (by rw [hh3]; exact Heap.get?_push_of_some _ e)
  have eEnv : ({ newEnv scope (s2.heap.push { cls := .type "list", data := .seq ([] : List Value).toArray }).objs.size X.env.globals (clos scope.names X.env.cells) X.env.qual none .none (some X.env) builtinsNs with scope := relabel scope X.env } : Env) = compEnvC scope (clos scope.names X.env.cells) s3.heap.objs.size X.env := by
    rw [hh3]; rfl
  have eC : (newEnv scope (s2.heap.push { cls := .type "list", data := .seq ([] : List Value).toArray }).objs.size X.env.globals (clos scope.names X.env.cells) X.env.qual none .none (some X.env) builtinsNs).locals = s3.heap.objs.size := by
    rw [hh3]; rfl
  have nfin : ∀ {s' : Shared} {σ' : St} {H' : Hp}, Inv (cxComp X T js scope fp pins s3 (upd H1 D (.lst []))) [] σ' H' s' → Q (.ref D) H' → RR (.ref D) s3.heap.objs.size (.ok .next) s' := fun {s' σ' H'} J' q => by
    have I4 : Inv X pins σ H' s' := I2.call' (ch := fp) J'.os J'.base J'.hok J'.bare fun b hb => ⟨(hf3 b hb).2.2.2.1, (hf3 b hb).2.1, (hf3 b hb).2.2.2.2.1, (hf3 b hb).2.2.2.2.2⟩
    obtain ⟨m', hn', _⟩ := J'.loc
    refine hR D s3.heap.objs.size s' H' m' I4 q hn' J'.free (Nat.ne_of_gt I2.lt) I2.sz (fun x c h => ?_) (fun p hp => ?_)
    · obtain ⟨v, z⟩ := I2.cell x c h
      exact Nat.ne_of_lt z.lt
    · exact Nat.ne_of_lt (Heap.lt_size (I2.pin p hp).1)
  have loop : codeAny (model X.prog X.w) X.A (.compLoop (.ListComp elt [⟨tg, iter, ifs, 0⟩] scope pos) 0 (.ref it) (.ref D) (compEnvC scope (clos scope.names X.env.cells) s3.heap.objs.size X.env)) (RR (.ref D) s3.heap.objs.size)
      { s3 with heap := h₁, toks := s2.toks + ([] : List (Str × Value)).length } := by
    refine compLoop_any (fun n s' => ∃ i σ' H', Inv (cxComp X T js scope fp pins s3 (upd H1 D (.lst []))) [] σ' H' s' ∧ tn i s'.heap ∧ (∀ b ∈ fp, H' b = none) ∧ W i n σ' H') ?_ m0 ⟨0, _, _, I3, st3, fun b hb => (hf3 b hb).1, w0⟩
    rintro n s4 ⟨i, σ4, H4, I4, st4, fr4, w4⟩
    rcases turn i n σ4 H4 w4 with ⟨stop, qn⟩ | ⟨go, N, hN, step⟩
    · refine thn (Tn.done (cxComp X T js scope fp pins s3 (upd H1 D (.lst []))) rfl rfl rfl hc i [] s4 σ4 H4 NoX I4 (fpOk fr4) st4 stop) fun r s5 ⟨hr, I5⟩ => ?_
      subst hr
      exact nfin I5 qn
    · refine thn (Tn.item (cxComp X T js scope fp pins s3 (upd H1 D (.lst []))) rfl rfl rfl hc i [] s4 σ4 H4 NoX I4 (fpOk fr4) st4 go) fun r s5 ⟨u, hr, h5⟩ => ?_
      subst hr
      refine thn h5 fun _ s6 ⟨x, H6, I6, r6, y6, st6, fr6⟩ => ?_
      have I6' := I6.pinned (fpOk fr6) (Tn.obj _ _ st6)
      refine thn (bG _ s6 σ4 H6 x u _ I6' r6 (step x H6 y6)) fun _ s7 ⟨σ7, H7, I7, q7⟩ => ?_
      refine thn (bI _ s7 σ7 H7 _ I7 q7) fun ok s8 ⟨H8, I8, q8⟩ => ?_
      have again : ∀ {s9 : Shared} {σ9 : St} {H9 : Hp}, Inv (cxComp X T js scope fp pins s3 (upd H1 D (.lst []))) ([] ++ pinsAt fp s6.heap) σ9 H9 s9 → N σ9 H9 →
          ∃ m, m < n ∧ ∃ i σ' H', Inv (cxComp X T js scope fp pins s3 (upd H1 D (.lst []))) [] σ' H' s9 ∧ tn i s9.heap ∧ (∀ b ∈ fp, H' b = none) ∧ W i m σ' H' := fun {s9 σ9 H9} I9 n9 => by
        obtain ⟨m', hm, w9⟩ := hN σ9 H9 n9
        refine ⟨m', hm, i + 1, σ9, H9, I9.unpinned, Tn.keep _ _ _ st6 fun b hb o e => (I9.pin (b, o) (List.mem_append_right _ (List.mem_append_right _ (mem_pinsAt hb e)))).1, fun b hb => ?_, w9⟩
        obtain ⟨o, e, d⟩ := Tn.obj _ _ st6 b hb
        exact (I9.pin (b, o) (List.mem_append_right _ (List.mem_append_right _ (mem_pinsAt hb e)))).2.1
      cases ok with
      | false =>
        rw [if_neg Bool.false_ne_true] at q8 ⊢
        exact again I8 q8
      | true =>
        rw [if_pos rfl] at q8 ⊢
        refine thn (bE _ s8 σ7 H8 _ I8 q8) fun v s9 ⟨y, H9, I9, r9, q9⟩ => ?_
        obtain ⟨xs, hx, hz, q9⟩ := q9
        refine thn (mt_append _ s9 σ7 H9 (.ref D) [y] (.ref D) [v] (fun _ H10 => N σ7 H10) I9 rfl (.cons r9 .nil) ⟨D, xs, y, rfl, rfl, hx, hz, q9⟩) fun _ s10 ⟨_, H10, I10, _, n10⟩ => ?_
        exact again I10 n10
  have es : ({ s2 with heap := h₁, toks := s2.toks + ([] : List (Str × Value)).length } : Shared) = { s3 with heap := h₁, toks := s2.toks + ([] : List (Str × Value)).length } := by rw [← hs3]
  rw [eEnv, eC, es]
  exact codeAny_compStart_list loop (Tn.self X.A 0 _ _ _ st3 loop)

theorem pe_comp (hc : X.calm = true) (S : CompScope X T js scope) (hi : PI X tg iter wi)
    (hb : ∀ fp pl s H, PG (cxComp X T js scope fp pl s H) tg g ∧ PIf (cxComp X T js scope fp pl s H) ifs ti ∧ PE (cxComp X T js scope fp pl s H) elt te)
    (hs : ∀ x, foldedSetIterable iter X.env x = pure x := by intro _; rfl) : PE X (.ListComp elt [⟨tg, iter, ifs, 0⟩] scope pos) (tComp T js wi g ti te) := by
  intro pins s σ H Q I h
  rw [eval_ListComp]
  refine wpAny_comprehension_free (use := none) (cl := clos scope.names X.env.cells) rfl hs (closureFor_of fun y hy hk => I.ok.has y.1 (S.free y hy hk)) S.kind S.loc ?_
  show wpAny (model X.prog X.w) X.A (eval iter X.env) _ _ s
  refine thn (hi pins s σ H _ I h) fun v s1 h1 => thn h1 fun itv s2 h2 => ?_
  obtain ⟨it, fp, tn, J, H2, e, I2, Tn, st2, f2, hq⟩ := h2
  subst e
  refine comp_core (E := X.xe) (RR := fun acc C => compPost (model X.prog X.w) X.A X.xe none (EP X pins σ Q) acc C) hc S hb I2 Tn st2 f2 hq ?_
  intro D C s' H' m I' q hn hC hCL hCs hCc hCp
  refine ⟨m, hn, fun h' hs' => ?_⟩
  exact ⟨.ref D, H', I'.turned (t' := s'.toks) (fun b o hb e => hs'.extBut b o hb e) hC hCL (.inr hCs) hCc hCp, rfl, q⟩
theorem ps_setC {i : Nat} {y : Str} {py spos : Pos} (hc : X.calm = true) (hN : X.N.Nodup) (hyi : X.N[i]? = some y) (hy : X.env.scope.names.lookup y = some .local) (S : CompScope X T js scope) (hi : PI X tg iter wi)
    (hb : ∀ fp pl s H, PG (cxComp X T js scope fp pl s H) tg g ∧ PIf (cxComp X T js scope fp pl s H) ifs ti ∧ PE (cxComp X T js scope fp pl s H) elt te)
    (hsw : swapsWith (.ListComp elt [⟨tg, iter, ifs, 0⟩] scope pos) (some (.Name y py)) spos.line X.env = pure true := by rfl)
    (hs : ∀ x, foldedSetIterable iter X.env x = pure x := by intro _; rfl) : PS X (.Assign [.Name y py] (.ListComp elt [⟨tg, iter, ifs, 0⟩] scope pos) spos) (tAsg (tComp T js wi g ti te) (gName i)) := by
  intro pins s σ H D I h
  rw [exec_Assign_Name_used _ _ _ _ hsw]
  refine wpAny_bind (wpAny_standAt (wpAny_bind ?_))
  show wpAny _ X.A (do let _ ← comprehension (.ListComp elt [⟨tg, iter, ifs, 0⟩] scope pos) scope X.env _ (newList []) false (eval iter X.env) (some (assign (.Name y py) X.env))) _ _ s
  refine wpAny_bind (wpAny_mono (wpAny_comprehension_free (use := some (assign (.Name y py) X.env)) (cl := clos scope.names X.env.cells) (Q := fun _ s' => SP X pins D .next s') (E := X.xe) rfl hs (closureFor_of fun y hy hk => I.ok.has y.1 (S.free y hy hk)) S.kind S.loc
    ?_) (fun _ s' hq => wpAny_pure (wpAny_pure hq)) fun _ _ e => e)
  refine thn (hi pins s σ H _ I h) fun v s1 h1 => thn h1 fun itv s2 h2 => ?_
  obtain ⟨it, fp, tn, J, H2, e, I2, Tn, st2, f2, hq⟩ := h2
  subst e
  refine comp_core (E := X.xe) (Q := fun x H1 => gName i x σ H1 D.nx) (RR := fun acc C => compPost (model X.prog X.w) X.A X.xe (some (assign (.Name y py) X.env)) (fun _ s' => SP X pins D .next s') acc C) hc S hb I2 Tn st2 f2 hq ?_
  intro Da C s' H' m I' q hn hC hCL hCs hCc hCp
  show wpAny _ X.A (assign (.Name y py) X.env (.ref Da)) _ _ _
  refine wpAny_assign_Name (store_ok2 I' hN hyi (.inl hy) (v := .ref Da) rfl (fun s3 I3 hsb => ?_) (.inr hy))
  obtain ⟨a, hsb, ha⟩ := hsb
  have haC : a ≠ C := by
    rcases ha with z | z
    · rw [z]; exact Ne.symm hCL
    · exact hCc _ _ z
  refine ⟨m, hn.sameBut hsb (Ne.symm haC), fun h' hs' => ?_⟩
  exact ⟨_, H', I3.turned (t' := s3.toks) (fun b o hb e => hs'.extBut b o hb e) hC hCL (.inr hCs) hCc hCp, q⟩
end
end L2

namespace L2
open PySem PySem.Spec PyProof.Rows
/-! ### a range that goes down by ones -/
def Itd (hi : Int) (n : Nat) : It := ⟨fun i _ => i < n, fun i H x H' => H' = H ∧ x = .int (hi - i), fun i _ => n ≤ i⟩
theorem turn_rangeD {P : Program} {w : World} {K : PySem.W.Frag} {tg : Expr} (it : Addr) (hi : Int) (n : Nat) : Turn P w K tg (Itd hi n) [it] it (fun i h => IsRangeIter h it (hi + (i : Nat) * (-1)) ((n : Int) - (i : Nat)) (-1)) where
  mem := by simp
  obj := fun i h st b hb => by
    have e : b = it := by simpa using hb
    subst e
    exact ⟨_, st, fun v z => by
      have z' : Data.fields _ = Data.cell v := z
      cases z'⟩
  keep := fun i h h' st k => k it (by simp) _ st
  item := by
    intro X hP hw hK hc i pins s σ H E I hf st hg
    subst hP hw hK
    obtain ⟨f0, f1, f2, f3, f4, f5⟩ := hf it (by simp)
    have W := Walks.range (prog := X.prog) (w := X.w) (I.ok.hd hc) it hi (-1) n
    refine W.item i s _ _ hg st fun v h' tk hv st' kk => ?_
    obtain ⟨t, rfl⟩ := hv
    have I1 : Inv X pins σ H { s with heap := h', toks := tk } := I.turned (fun b o hb e => kk b o (by simpa using hb) e) f0 f1 f3 f4 f5
    refine ⟨_, rfl, go_of (s := { s with heap := h', toks := tk }) (n := "range_iterator") st' rfl rfl (by decide) ⟨.int (hi - i), H, I1, ⟨t, ?_⟩, ⟨rfl, rfl⟩, st', fun b hb => (hf b hb).1⟩⟩
    rw [show hi + (i : Int) * (-1) = hi - i by omega]
  done := by
    intro X hP hw hK hc i pins s σ H E I hf st hg
    subst hP hw hK
    obtain ⟨f0, f1, f2, f3, f4, f5⟩ := hf it (by simp)
    exact wpAny_pyNext_range_end (I.ok.hd hc) st (by have : n ≤ i := hg; omega) fun h' eb => ⟨rfl, I.turned (t' := s.toks) (fun b o hb e => eb b o hb e) f0 f1 f3 f4 f5⟩
  self := fun _ _ _ _ _ st h => wpAny_pyIter_rangeiter st h
theorem rangeSize_down (a b : Int) : Builtin.Range.rangeSize a b (-1) = (((a - b).toNat : Nat) : Int) := by
  unfold Builtin.Range.rangeSize
  rw [if_neg (by decide)]
  split
  · rw [show -(-1 : Int) = 1 by decide, Int.ediv_one]; omega
  · omega
theorem small_down {a b : Int} (ha : -(2 ^ 62) ≤ a) (ha' : a < 2 ^ 62) (hb : -(2 ^ 62) ≤ b) (hb' : b < 2 ^ 62) : Builtin.Range.small a b (-1) = true := by
  unfold Builtin.Range.small
  rw [rangeSize_down]
  simp only [Builtin.Range.rangeFitsLong, Bool.and_eq_true, Bool.or_eq_true, decide_eq_true_eq, beq_iff_eq, show ¬ ((-1 : Int) > 0) by decide, if_false]
  omega
section
variable {X : Cx} {tg : Expr}
theorem range_itD {pins : List (Addr × Obj)} {σ : St} {H : Hp} {s : Shared} {R : It → Hp → Prop} {E : Value → Shared → Prop} {lo hi : Int} {t u v : Tok} {tk : Nat} (I : Inv X pins σ H s) (h1 : -(2 ^ 62) ≤ lo) (h2 : lo < 2 ^ 62) (h3 : -(2 ^ 62) ≤ hi) (h4 : hi < 2 ^ 62)
    (q : R (Itd lo (lo - hi).toNat) H) : wpAny (model X.prog X.w) X.A (pyIter (.ref s.heap.objs.size)) (PIE X pins σ tg R) E { s with heap := s.heap.push { cls := .type "range", data := .fields #[.int lo t, .int hi u, .int (-1) v] }, toks := tk } := by
  refine wpAny_pyIter_range (IsRange.new ..) (small_down h1 h2 h3 h4) ?_
  have I1 : Inv X pins σ H { s with heap := s.heap.push { cls := .type "range", data := .fields #[.int lo t, .int hi u, .int (-1) v] }, toks := tk } := I.kept fun b o e => Heap.get?_push_of_some _ e
  refine ⟨(s.heap.push { cls := .type "range", data := .fields #[.int lo t, .int hi u, .int (-1) v] }).objs.size, [(s.heap.push { cls := .type "range", data := .fields #[.int lo t, .int hi u, .int (-1) v] }).objs.size], _, _, H, rfl,
    I1.kept (t' := tk) fun b o e => Heap.get?_push_of_some _ e, turn_rangeD _ lo (lo - hi).toNat, ?_, fun b hb => ?_, q⟩
  · have e1 : lo + ((0 : Nat) : Int) * (-1) = lo := by simp
    have e2 : (((lo - hi).toNat : Nat) : Int) - ((0 : Nat) : Int) = Builtin.Range.rangeSize lo hi (-1) := by rw [rangeSize_down]; simp
    show IsRangeIter _ _ (lo + ((0 : Nat) : Int) * (-1)) ((((lo - hi).toNat : Nat) : Int) - ((0 : Nat) : Int)) (-1)
    rw [e1, e2]
    exact Heap.get?_push_size _ rfl
  · have e : b = (s.heap.push { cls := .type "range", data := .fields #[.int lo t, .int hi u, .int (-1) v] }).objs.size := by simpa using hb
    subst e
    exact I1.fpOk (Nat.le_refl _) (I1.hok.fresh (Nat.le_refl _))
def iRngD (ta : TA) : TI := fun σ H R => ta σ H fun vs H1 => ∃ i j : Int, vs = [.int i, .int j, .int (-1)] ∧ (-(2 ^ 62) ≤ i ∧ i < 2 ^ 62 ∧ -(2 ^ 62) ≤ j ∧ j < 2 ^ 62) ∧ R (Itd i (i - j).toNat) H1
theorem pi_rangeD {a b c : Expr} {ta : TA} {p pos : Pos} (hg : Gl X "range") (hm : X.mg "range" = none) (ha : PA X [a, b, c] ta) (hs : starEach [a, b, c] X.env = [(false, eval a X.env), (false, eval b X.env), (false, eval c X.env)] := by rfl)
    (hs2 : starEach [b, c] X.env = [(false, eval b X.env), (false, eval c X.env)] := by rfl) :
    PI X tg (.Call (.Name "range" p) [a, b, c] [] pos) (iRngD ta) := by
  intro pins s σ H R I h
  refine Call_ (ld_blt I hg hm boot_range (PyProof.Rows.callWith_type1 (thn (ha pos pins s σ H _ I h) fun us s1 ⟨vs, H1, I1, r1, q1⟩ => ?_) (by rw [hs, hs2]) (by rw [hs2]; rfl)))
  obtain ⟨i, j, e, ⟨q1, q2, q3, q4⟩, q⟩ := q1
  subst e
  cases r1 with
  | cons r rr =>
    cases rr with
    | cons r' rr =>
      cases rr with
      | cons r'' rr =>
        cases rr
        obtain ⟨t, rfl⟩ := r
        obtain ⟨t', rfl⟩ := r'
        obtain ⟨t'', rfl⟩ := r''
        exact call_range_3 (by decide) (range_itD I1 q1 q2 q3 q4 q) (.inl (PyProof.noPylong_small (by decide)))
end
theorem for_rangeD {hi : Int} {n : Nat} {g : TG} {tb : TS} {D : Ends} {σ : St} {H : Hp} (Pv : Nat → St → Hp → Prop) (h0 : Pv 0 σ H)
    (hs : ∀ i σ H, i < n → Pv i σ H → g (.int (hi - i)) σ H fun σ2 H2 => tb { D with nx := Pv (i + 1), ct := Pv (i + 1), bk := D.nx } σ2 H2) (hd : ∀ σ H, Pv n σ H → D.nx σ H) :
    ∃ W : Nat → Nat → St → Hp → Prop, (∃ m, W 0 m σ H) ∧ ∀ i m σ H, W i m σ H →
      ((Itd hi n).stop i H ∧ D.nx σ H) ∨ ((Itd hi n).go i H ∧ ∃ N : St → Hp → Prop, (∀ σ' H', N σ' H' → ∃ m', m' < m ∧ W (i + 1) m' σ' H') ∧ ∀ x H', (Itd hi n).yld i H x H' → g x σ H' fun σ2 H2 => tb { D with nx := N, ct := N, bk := D.nx } σ2 H2) := by
  refine ⟨fun i m σ H => m = n - i ∧ i ≤ n ∧ Pv i σ H, ⟨n, by simp, Nat.zero_le _, h0⟩, ?_⟩
  rintro i m σ H ⟨rfl, hi', p⟩
  by_cases hlt : i < n
  · refine .inr ⟨hlt, Pv (i + 1), fun σ' H' p' => ⟨n - (i + 1), by omega, rfl, hlt, p'⟩, fun x H' y => ?_⟩
    obtain ⟨e, y⟩ := y
    subst e y
    exact hs i σ _ hlt p
  · have e : i = n := by omega
    subst e
    exact .inl ⟨Nat.le_refl _, hd σ H p⟩

/-! ### zip of two lists, unpacked -/
def Itz (K : PySem.W.Frag) (a b : Addr) : It :=
  ⟨fun i H => ∃ xs ys x y, SqL K H a xs ∧ SqL K H b ys ∧ xs[i]? = some x ∧ ys[i]? = some y,
   fun i H v H' => ∃ t x y, v = .ref t ∧ H t = none ∧ H' = upd H t (.tup [x, y]) ∧ (∀ xs, SqL K H a xs → xs[i]? = some x) ∧ ∀ ys, SqL K H b ys → ys[i]? = some y,
   fun i H => ∃ xs ys, SqL K H a xs ∧ SqL K H b ys ∧ (xs.length ≤ i ∨ ys.length ≤ i)⟩
theorem Inv.turnedL {X : Cx} {pins : List (Addr × Obj)} {σ : St} {H : Hp} {s : Shared} {h' : Heap} {t' : Nat} {ch : List Addr} (I : Inv X pins σ H s) (hch : ∀ b ∈ ch, FpOk X pins H b)
    (k : ∀ b o, b ∉ ch → s.heap.get? b = some o → h'.get? b = some o) : Inv X pins σ H { s with heap := h', toks := t' } := by
  have nit : ∀ b u, H b = some u → b ∉ ch := fun b u e z => by rw [(hch b z).1] at e; cases e
  refine I.step (g' := s.gens) (d' := s.drawn) (ch := ch) (fun b hb => ?_) (fun b o _ _ hc e _ => k b o hc e) (fun b o _ _ hc e _ => ⟨o.slots, k b o hc e⟩) (fun _ _ _ _ n => n)
    (fun b o hc e => ⟨o, k b o hc e⟩) (fun _ _ e => e) (fun _ _ _ e => e) (fun b ps e => ⟨#[], by rw [e]; simp⟩) (fun m hm => ?_) (fun b u e => ?_) I.bare
  · obtain ⟨f0, f1, f2, f3, f4, f5⟩ := hch b hb
    exact ⟨f3, f1, f4, f5⟩
  · obtain ⟨o, es, ep, ho, r⟩ := hm
    exact ⟨o, es, ep, k _ o (fun z => (hch _ z).2.1 rfl) ho, r⟩
  · refine (I.hok b u e).stay (fun c v hc q => k c v ?_ q) (fun _ q => q) fun _ _ q => q
    rcases hc with z | z
    · rw [z]; exact nit b u e
    · exact nit c _ z
theorem SqL.ne {X : Cx} {pins : List (Addr × Obj)} {σ : St} {H : Hp} {s : Shared} {a b : Addr} {xs : List V} {o : Obj} {n : String} (I : Inv X pins σ H s) (h : SqL X.K H a xs) (e : s.heap.get? b = some o) (hc : o.cls = .type n) (hn : n ≠ "list") : a ≠ b := by
  rintro rfl
  obtain ⟨its, r, ⟨o', n', e', c', _, _⟩, _⟩ := I.list h
  rw [e] at e'
  cases e'
  rw [hc] at c'
  cases c'
  exact hn rfl
structure ZipSt (z TI TO i1 i2 a b : Addr) (i : Nat) (h : Heap) : Prop where
  hz : IsZip h z TI TO .none
  hTI : IsPair h TI (.ref i1) (.ref i2)
  hTO : ∃ x y, IsPair h TO x y
  h1 : h.IsListIter i1 a i
  h2 : h.IsListIter i2 b i
structure ZipNe (z TI TO i1 i2 : Addr) : Prop where
  TIz : TI ≠ z
  TOz : TO ≠ z
  i1z : i1 ≠ z
  i2z : i2 ≠ z
  TITO : TI ≠ TO
  TIi1 : TI ≠ i1
  TIi2 : TI ≠ i2
  TOi1 : TO ≠ i1
  TOi2 : TO ≠ i2
  i12 : i1 ≠ i2
theorem turn_zip {P : Program} {w : World} {K : PySem.W.Frag} {es : List Expr} {k : Nat} {tp : Pos} (z TI TO i1 i2 a b : Addr) (N : ZipNe z TI TO i1 i2) :
    Turn P w K (.Tuple es k tp) (Itz K a b) [z, TI, TO, i1, i2] z (ZipSt z TI TO i1 i2 a b) where
  mem := by simp
  obj := fun i h st c hc => by
    obtain ⟨x, y, hTO⟩ := st.hTO
    obtain ⟨o1, e1, c1, d1⟩ := st.h1
    obtain ⟨o2, e2, c2, d2⟩ := st.h2
    have hc : c = z ∨ c = TI ∨ c = TO ∨ c = i1 ∨ c = i2 := by simpa using hc
    rcases hc with rfl | rfl | rfl | rfl | rfl
    · exact ⟨_, st.hz, fun v q => by have q' : Data.fields _ = Data.cell v := q; cases q'⟩
    · exact ⟨_, st.hTI, fun v q => by have q' : Data.seq _ _ = Data.cell v := q; cases q'⟩
    · exact ⟨_, hTO, fun v q => by have q' : Data.seq _ _ = Data.cell v := q; cases q'⟩
    · exact ⟨_, e1, fun v q => by rw [d1] at q; cases q⟩
    · exact ⟨_, e2, fun v q => by rw [d2] at q; cases q⟩
  keep := fun i h h' st k => by
    obtain ⟨x, y, hTO⟩ := st.hTO
    exact ⟨k z (by simp) _ st.hz, k TI (by simp) _ st.hTI, ⟨x, y, k TO (by simp) _ hTO⟩, st.h1.at fun o e => k i1 (by simp) o e, st.h2.at fun o e => k i2 (by simp) o e⟩
  item := by
    intro X hP hw hK hc i pins s σ H E I hf st hg
    subst hP hw hK
    obtain ⟨xs, ys, x, y, hqa, hqb, hx, hy⟩ := hg
    obtain ⟨its, rv, p, hz⟩ := I.list hqa
    obtain ⟨jts, rw', q, hz'⟩ := I.list hqb
    obtain ⟨u, hu, ru⟩ := rv.get hx
    obtain ⟨v, hv, rv'⟩ := rw'.get hy
    obtain ⟨x0, y0, hTO⟩ := st.hTO
    obtain ⟨o1, e1, c1, d1⟩ := id st.h1
    obtain ⟨o2, e2, c2, d2⟩ := id st.h2
    have D : ZipApart z TI TO i1 i2 a b := ⟨N.TIz, N.TOz, N.i1z, N.i2z, N.TITO, N.TIi1, N.TIi2, N.TOi1, N.TOi2, N.i12, SqL.ne I hqa st.hz rfl (by decide), SqL.ne I hqa hTO rfl (by decide), SqL.ne I hqa e1 c1 (by decide), SqL.ne I hqa e2 c2 (by decide),
      SqL.ne I hqb st.hz rfl (by decide), SqL.ne I hqb hTO rfl (by decide), SqL.ne I hqb e1 c1 (by decide), SqL.ne I hqb e2 c2 (by decide)⟩
    refine wpAny_pyNext_zip_item D st.hz st.hTI hTO st.h1 st.h2 p.isList q.isList (x := u) (y := v) (by simpa using hu) (by simpa using hv) fun h' a1 a2 a3 a4 a5 a6 kk => ?_
    have lt : ∀ {c : Addr} {o : Obj}, s.heap.get? c = some o → c ≠ s.heap.objs.size := fun e => Nat.ne_of_lt (Heap.lt_size e)
    refine ⟨_, rfl, wpAny_letOwnedTupleGo_zip a1 fun h'' hz'' hs'' => ?_⟩
    have hfr : H s.heap.objs.size = none := I.fresh
    have I1 : Inv X pins σ H { s with heap := h'', toks := s.toks } := I.turnedL (t' := s.toks) (ch := [z, TI, TO, i1, i2]) hf fun c o hc e => by
      simp only [List.mem_cons, List.not_mem_nil, or_false, not_or] at hc
      exact hs''.extBut c o hc.1 (kk c o hc.1 hc.2.2.1 hc.2.2.2.1 hc.2.2.2.2 e)
    have hT : h''.get? s.heap.objs.size = some { cls := .type "tuple", data := .seq #[u, v] } := hs''.extBut _ _ (Ne.symm (lt st.hz)) a5
    have hsz : h''.objs.size = s.heap.objs.size + 1 := by rw [hs''.1, a6]
    -- the pair is tracked
    have I2 : Inv X pins σ (upd H s.heap.objs.size (.tup [x, y])) { s with heap := h'', toks := s.toks } := by
      refine I.step (g' := s.gens) (d' := s.drawn) (ch := [z, TI, TO, i1, i2]) (fun c hc => ⟨(hf c hc).2.2.2.1, (hf c hc).2.1, (hf c hc).2.2.2.2.1, (hf c hc).2.2.2.2.2⟩) (fun c o _ _ hc e _ => ?_) (fun c o _ _ hc e _ => ⟨o.slots, ?_⟩) (fun c o _ e n => by rw [upd_ne (lt e)]; exact n)
        (fun c o hc e => ⟨o, ?_⟩) (fun c ts e => by rw [upd_ne (ne_of_none e hfr)]; exact e) (fun c o ts e => by rw [upd_ne (ne_of_none e hfr)]; exact e) (fun c ps e => ⟨#[], by rw [upd_ne (ne_of_none e hfr), e]; simp⟩) (fun m hm => ?_) (fun c o e => ?_) I.bare
      · simp only [List.mem_cons, List.not_mem_nil, or_false, not_or] at hc
        exact hs''.extBut c o hc.1 (kk c o hc.1 hc.2.2.1 hc.2.2.2.1 hc.2.2.2.2 e)
      · simp only [List.mem_cons, List.not_mem_nil, or_false, not_or] at hc
        exact hs''.extBut c o hc.1 (kk c o hc.1 hc.2.2.1 hc.2.2.2.1 hc.2.2.2.2 e)
      · simp only [List.mem_cons, List.not_mem_nil, or_false, not_or] at hc
        exact hs''.extBut c o hc.1 (kk c o hc.1 hc.2.2.1 hc.2.2.2.1 hc.2.2.2.2 e)
      · obtain ⟨o, es', ep, ho, r⟩ := hm
        have nl := fun c (hc : c ∈ [z, TI, TO, i1, i2]) => (hf c hc).2.1
        exact ⟨o, es', ep, hs''.extBut _ _ (Ne.symm (nl z (by simp))) (kk _ o (Ne.symm (nl z (by simp))) (Ne.symm (nl TO (by simp))) (Ne.symm (nl i1 (by simp))) (Ne.symm (nl i2 (by simp))) ho), r⟩
      · by_cases hc : c = s.heap.objs.size
        · subst hc
          rw [upd_same] at e
          cases e
          exact ⟨by show 2 ≤ sizeLine; decide, [u, v], .cons ru (.cons rv' .nil), ⟨_, hT, rfl, _, rfl⟩⟩
        · rw [upd_ne hc] at e
          have := I1.hok c o e
          exact this.stay (fun d o' _ q => q) (fun d q => by rw [upd_ne (ne_of_none q hfr)]; exact q) fun d ts q => by rw [upd_ne (ne_of_none q hfr)]; exact q
    refine ⟨.ref s.heap.objs.size, upd H s.heap.objs.size (.tup [x, y]), I2, rfl, ⟨_, x, y, rfl, hfr, rfl, fun xs' hx' => ?_, fun ys' hy' => ?_⟩, ?_, fun c hc => ?_⟩
    · rw [I.list_inj hx' hqa]; exact hx
    · rw [I.list_inj hy' hqb]; exact hy
    · exact ⟨hz'', hs''.extBut _ _ N.TIz (kk _ _ N.TIz N.TITO N.TIi1 N.TIi2 st.hTI), ⟨_, _, hs''.extBut _ _ N.TOz a2⟩, a3.extBut hs''.extBut N.i1z, a4.extBut hs''.extBut N.i2z⟩
    · have hne : c ≠ s.heap.objs.size := by
        have hc : c = z ∨ c = TI ∨ c = TO ∨ c = i1 ∨ c = i2 := by simpa using hc
        rcases hc with rfl | rfl | rfl | rfl | rfl
        · exact lt st.hz
        · exact lt st.hTI
        · exact lt hTO
        · exact lt e1
        · exact lt e2
      rw [upd_ne hne]
      exact (hf c hc).1
  done := by
    intro X hP hw hK hc i pins s σ H E I hf st hg
    subst hP hw hK
    obtain ⟨xs, ys, hqa, hqb, hx⟩ := hg
    obtain ⟨its, rv, p, hz⟩ := I.list hqa
    obtain ⟨jts, rw', q, hz'⟩ := I.list hqb
    obtain ⟨x0, y0, hTO⟩ := st.hTO
    obtain ⟨o1, e1, c1, d1⟩ := id st.h1
    obtain ⟨o2, e2, c2, d2⟩ := id st.h2
    have D : ZipApart z TI TO i1 i2 a b := ⟨N.TIz, N.TOz, N.i1z, N.i2z, N.TITO, N.TIi1, N.TIi2, N.TOi1, N.TOi2, N.i12, SqL.ne I hqa st.hz rfl (by decide), SqL.ne I hqa hTO rfl (by decide), SqL.ne I hqa e1 c1 (by decide), SqL.ne I hqa e2 c2 (by decide),
      SqL.ne I hqb st.hz rfl (by decide), SqL.ne I hqb hTO rfl (by decide), SqL.ne I hqb e1 c1 (by decide), SqL.ne I hqb e2 c2 (by decide)⟩
    have l1 := rv.length
    have l2 := rw'.length
    refine wpAny_pyNext_zip_end (I.ok.hd hc) D st.hz st.hTI hTO st.h1 st.h2 p.isList q.isList (by
      rcases hx with hx | hx
      · exact .inl (by simp; omega)
      · exact .inr (by simp; omega)) fun h' kk => ⟨rfl, I.turnedL (t' := s.toks) (ch := [z, TI, TO, i1, i2]) hf fun c o hc e => ?_⟩
    simp only [List.mem_cons, List.not_mem_nil, or_false, not_or] at hc
    exact kk c o hc.1 hc.2.2.1 hc.2.2.2.1 hc.2.2.2.2 e
  self := fun _ _ _ _ _ st h => wpAny_pyIter_zip st.hz h
section
variable {X : Cx} {es : List Expr} {k : Nat} {tp : Pos}
def iZip (K : PySem.W.Frag) (ta : TA) : TI := fun σ H R => ta σ H fun vs H1 => ∃ a b, vs = [.ref a, .ref b] ∧ (∃ xs, SqL K H1 a xs) ∧ (∃ ys, SqL K H1 b ys) ∧ R (Itz K a b) H1
theorem pi_zip {a b : Expr} {ta : TA} {p pos : Pos} (hg : Gl X "zip") (hm : X.mg "zip" = none) (ha : PA X [a, b] ta) (hs : starEach [a, b] X.env = [(false, eval a X.env), (false, eval b X.env)] := by rfl) (hs2 : starEach [b] X.env = [(false, eval b X.env)] := by rfl)
    (hv : bootBuiltins "zip" = some (.type "zip") := by first | rfl | decide +kernel) :
    PI X (.Tuple es k tp) (.Call (.Name "zip" p) [a, b] [] pos) (iZip X.K ta) := by
  intro pins s σ H R I h
  refine Call_ (ld_blt I hg hm hv (PyProof.Rows.callWith_type1 (thn (ha pos pins s σ H _ I h) fun us s1 ⟨vs, H1, I1, r1, q1⟩ => ?_) (by rw [hs, hs2]) (by rw [hs2]; rfl)))
  obtain ⟨a, b, e, ⟨xs, hqa⟩, ⟨ys, hqb⟩, q⟩ := q1
  subst e
  obtain ⟨u, v, rfl, ru, rv⟩ := r1.two
  obtain rfl : u = Value.ref a := ru
  obtain rfl : v = Value.ref b := rv
  obtain ⟨its, rvx, p1, hz⟩ := I1.list hqa
  obtain ⟨jts, rwx, p2, hz'⟩ := I1.list hqb
  refine call_zip_2 p1.isList p2.isList fun h' a1 a2 a3 a4 a5 a6 kk => ?_
  refine wpAny_pyIter_zip (s := { s1 with heap := h' }) a1 ?_
  have I2 : Inv X pins σ H1 { s1 with heap := h' } := I1.kept (t' := s1.toks) kk
  refine ⟨s1.heap.objs.size + 4, [s1.heap.objs.size + 4, s1.heap.objs.size + 2, s1.heap.objs.size + 3, s1.heap.objs.size, s1.heap.objs.size + 1], _, _, H1, rfl, I2, turn_zip (s1.heap.objs.size + 4) (s1.heap.objs.size + 2) (s1.heap.objs.size + 3) s1.heap.objs.size (s1.heap.objs.size + 1) a b ?_, ⟨a1, a2, ⟨_, _, a3⟩, a4, a5⟩, fun c hc => ?_, q⟩
  · refine ⟨?_, ?_, ?_, ?_, ?_, ?_, ?_, ?_, ?_, ?_⟩ <;> (show (_ : Nat) ≠ _; omega)
  · have hge : s1.heap.objs.size ≤ c := by
      simp only [List.mem_cons, List.not_mem_nil, or_false] at hc
      rcases hc with rfl | rfl | rfl | rfl | rfl
      · exact Nat.le_add_right _ _
      · exact Nat.le_add_right _ _
      · exact Nat.le_add_right _ _
      · exact Nat.le_refl _
      · exact Nat.le_add_right _ _
    exact I1.fpOk hge (I1.hok.fresh hge)
end
end L2

namespace L2
open PySem PySem.Spec PyProof.Rows
/-! ### a, b = a list -/
section
variable {prog : Program} {w : World} {A : Around} {E : Value → Shared → Prop}
theorem draw_list {it l : Addr} {items : Array Value} (hne : l ≠ it) : ∀ (n i : Nat) (s : Shared) (Q : List Value → Shared → Prop), s.heap.IsListIter it l i → s.heap.IsList l items → i + n ≤ items.size →
    (∀ h', h'.IsListIter it l (i + n) → Heap.SameBut it s.heap h' → Q ((items.toList.drop i).take n) { s with heap := h' }) → wpAny (model prog w) A (draw (.ref it) n) Q E s
  | 0, i, s, Q, hit, _, _, hQ => by
    show wpAny _ _ (pure []) Q E s
    exact wpAny_pure (by simpa using hQ s.heap hit (Heap.SameBut.refl ..))
  | n + 1, i, s, Q, hit, ht, hle, hQ => by
    have hlt : i < items.size := by omega
    show wpAny _ _ (pyNext (.ref it) >>= _) Q E s
    refine wpAny_bind (wpAny_pyNext_list_item hit ht (x := items[i]) (by simp [hlt]) fun h₁ hit₁ hs₁ => ?_)
    refine wpAny_bind (wpAny_holding (draw_list hne n (i + 1) _ _ hit₁ (ht.extBut hs₁.extBut hne) (by omega) fun h₂ hit₂ hs₂ => wpAny_pure ?_))
    have hd : items.toList.drop i = items[i] :: items.toList.drop (i + 1) := by simp [List.drop_eq_getElem_cons, hlt]
    have := hQ h₂ (by rw [show i + (n + 1) = i + 1 + n by omega]; exact hit₂) (hs₁.trans hs₂)
    rw [hd, List.take_succ_cons] at this
    exact this
theorem unpackItems_list {s : Shared} {l : Addr} {items : Array Value} {Q : List Value → Shared → Prop} (hh : A.handled = none) (ht : s.heap.IsList l items)
    (hQ : ∀ h', Heap.ExtBut s.heap.objs.size s.heap h' → Q items.toList { s with heap := h' }) : wpAny (model prog w) A (unpackItems (.ref l) items.size none) Q E s := by
  have hlt : l ≠ s.heap.objs.size := by obtain ⟨o, ho, _⟩ := ht; exact Nat.ne_of_lt (Heap.lt_size ho)
  unfold unpackItems
  refine wpAny_bind ?_
  unfold notIterableAtAll
  refine wpAny_bind (wpAny_specialOf ht.typeIs slot_list_iter.lookup ?_)
  refine wpAny_pure ?_
  simp only [Bool.false_eq_true, if_false]
  refine wpAny_bind (wpAny_holding (wpAny_pyIter_list ht ?_))
  refine wpAny_bind (wpAny_holding (draw_list hlt items.size 0 _ _ ⟨_, Heap.get?_push_size _ rfl, rfl, rfl⟩ (ht.push _) (by omega) fun h₁ hit₁ hs₁ => ?_))
  have hall : List.take items.size (List.drop 0 items.toList) = items.toList := by
    rw [List.drop_zero]; exact List.take_of_length_le (by simp)
  rw [hall]
  rw [if_neg (by simp)]
  have ht₁ : h₁.IsList l items := (ht.push _).extBut hs₁.extBut hlt
  refine wpAny_bind (wpAny_holding (wpAny_pyNext_list_end hh hit₁ ht₁ (by simp) fun h₂ he₂ => ?_))
  simp only [Option.isSome_none, Bool.false_eq_true, if_false]
  refine wpAny_pure (hQ h₂ fun b o hb e => he₂ b o hb (hs₁.extBut b o hb (Heap.get?_push_of_some _ e)))
end
section
variable {X : Cx} {pos : Pos}
def gTupL (K : PySem.W.Frag) (n : Nat) (t : TGs) : TG := fun v σ H Q => ∃ a xs, v = .ref a ∧ SqL K H a xs ∧ xs.length = n ∧ t xs σ H Q
theorem pg_tupL {es : List Expr} {k : Nat} {t : TGs} {n : Nat} (hc : X.calm = true) (h : PGs X es t)
    (hn : (assignEach es X.env).length = n := by rfl) (hst : (assignEach es X.env).findIdx? (·.1) = none := by rfl) : PG X (.Tuple es k pos) (gTupL X.K n t) := by
  intro pins s σ H v u Q I r hw
  obtain ⟨a, xs, e1, hq, hl, hw⟩ := hw
  subst e1
  cases r
  obtain ⟨its, rv, ht, hz⟩ := I.list hq
  rw [assign_Tuple]
  refine wpAny_bind (wpAny_standAt ?_)
  unfold unpack
  have e : (assignEach es X.env).length = its.toArray.size := by simp [hn, ← hl, rv.length]
  rw [e, hst]
  refine wpAny_bind (wpAny_holding (unpackItems_list (I.ok.hd hc) ht.isList fun h' hx => ?_))
  have I1 : Inv X pins σ H { s with heap := h' } := I.kept (t' := s.toks) fun b o e => hx b o (Nat.ne_of_lt (Heap.lt_size e)) e
  exact h pins _ σ H xs _ Q I1 (by simpa using rv) hw
end
/-! ### isinstance -/
section
variable {X : Cx}
theorem call_isinst : CallR X (.builtin "isinstance") (fun xs H Q => ∃ x c t b, xs = [x, c] ∧ TyOf X.K H x t ∧ ((∃ T, c = .ty T ∧ PySem.W.kitOne X.K t (.type T) = some b) ∨ ∃ C, c = .ref C ∧ PySem.W.kitOne X.K t (.ref C) = some b) ∧ Q (.bl b) H) := by
  intro pins s σ H xs us Q I r h
  obtain ⟨x, c, t, b, rfl, ty, hk, q⟩ := h
  obtain ⟨u, v, rfl, ru, rv⟩ := r.two
  rcases hk with ⟨T, rfl, hk⟩ | ⟨C, rfl, hk⟩
  · cases (show v = Value.type T from rv)
    exact isinst_ok I ru ty hk fun tk => ⟨.bl b, H, I.tok tk, rfl, q⟩
  · cases (show v = Value.ref C from rv)
    exact isinst_ok I ru ty hk fun tk => ⟨.bl b, H, I.tok tk, rfl, q⟩
end
theorem kit_ii (K : PySem.W.Frag) : PySem.W.kitOne K (.type "int") (.type "int") = some true := by
  unfold PySem.W.kitOne; rw [if_pos (by decide +kernel)]
theorem kit_ib (K : PySem.W.Frag) : PySem.W.kitOne K (.type "int") (.type "bool") = some false := by
  unfold PySem.W.kitOne PySem.W.kitCls
  rw [if_neg (by decide +kernel)]
  show (if PySem.W.kitMeta "bool" = true then PySem.W.subIn K (.type "int") (.type "bool") else none) = some false
  rw [if_pos (by decide +kernel)]
  first | rfl | decide +kernel
end L2

namespace L2
open PySem PySem.Spec PyProof.Rows
/-! ### a comprehension's names, decided over the written scopes -/
abbrev CompOkP (outer : List (Str × NameKind)) (N : List Str) (js : List Nat) (scope : Scope) : Prop :=
  scope.kind = .function ∧ (∀ y ∈ scope.names, y.2 ≠ .cell) ∧ (∀ y ∈ scope.names, y.2 = .local → scope.names.lookup y.1 = some .local) ∧
  (∀ y ∈ scope.names, y.2 = .free → outer.lookup y.1 = some .cell ∨ outer.lookup y.1 = some .free) ∧
  (∀ j ∈ js, (N.getD j "", NameKind.free) ∈ scope.names) ∧
  ∀ j ∈ js, (scope.names.map fun (y : Str × NameKind) => if (y.2 == NameKind.free && outer.lookup y.1 == some .cell) = true then (y.1, NameKind.cell) else (y.1, y.2)).lookup (N.getD j "") = some .cell ∨
    (scope.names.map fun (y : Str × NameKind) => if (y.2 == NameKind.free && outer.lookup y.1 == some .cell) = true then (y.1, NameKind.cell) else (y.1, y.2)).lookup (N.getD j "") = some .free
theorem CompScope.of {X : Cx} {T : List Str} {js : List Nat} {scope : Scope} (outer : List (Str × NameKind)) (N : List Str) (h1 : X.env.scope.names = outer) (hk : X.env.scope.kind = .function) (h2 : X.N = N) (h : CompOkP outer N js scope) : CompScope X T js scope := by
  obtain ⟨a, b, c, d, e, f⟩ := h
  subst h1 h2
  refine ⟨a, b, c, d, e, fun j hj => ?_⟩
  have z : (compEnvC scope (clos scope.names X.env.cells) 0 X.env).kindOf (X.N.getD j "") = (scope.names.map fun (y : Str × NameKind) => if (y.2 == NameKind.free && X.env.scope.names.lookup y.1 == some .cell) = true then (y.1, NameKind.cell) else (y.1, y.2)).lookup (X.N.getD j "") := by
    show (scope.names.map fun (n, k) => if (k == NameKind.free && X.env.scope.kind == .function && X.env.kindOf n == some .cell) then (n, NameKind.cell) else (n, k)).lookup (X.N.getD j "") = _
    rw [hk]
    congr 1
    refine List.map_congr_left fun y _ => ?_
    obtain ⟨n, k⟩ := y
    show (if (k == NameKind.free && (ScopeKind.function == ScopeKind.function) && X.env.kindOf n == some NameKind.cell) = true then _ else _) = _
    rw [show (ScopeKind.function == ScopeKind.function) = true from rfl, Bool.and_true]
    rfl
  rw [z]
  exact f j hj
/-! ### a def of the text with its promise, to be called -/
structure Ok (P : Program) (w : World) (K : PySem.W.Frag) (mg : Str → Option Value) (base : Heap) (x : Str) (ps : List Str) (k : Nat) (sp : Sp) : Prop where
  ex : ∃ f fd, FnOk P w K mg base CX0 k f fd ps sp ∧ Binds K fd ps [] ∧ mg x = some (.ref f) ∧ PySem.W.keepIn K (.ref f) = true
section
variable {X : Cx} {k j : Nat} {ps : List Str} {sp : Sp} {x : Str} {p pos : Pos} {e : Expr} {es : List Expr} {t : TA}
theorem pe_callO (O : Ok X.prog X.w X.K X.mg X.base x ps k sp) (hr : Room j X.A) (ha : PA X (e :: es) t) (hg : Gl X x := by rfl) (hj : k ≤ j := by decide) (hdb : (x == ("__debug__" : Str)) = false := by decide) (he : starEach (e :: es) X.env = (false, eval e X.env) :: starEach es X.env := by rfl) (hpl : (backTo pos (starEach es X.env)).any (·.1) = false := by rfl) :
    PE X (.Call (.Name x p) (e :: es) [] pos) (tCall sp [] E0 t) := by
  obtain ⟨f, fd, F, b, m, kp⟩ := O.ex
  exact pe_call F (hr.mono hj) hg m kp b .nil pass0 ha hdb he hpl
end
/-! ### built-in names in short -/
section
variable {X : Cx} {p pos : Pos} {a b : Expr} {ta tb : TE} {t : TA}
theorem pe_len (hm : X.mg "len" = none) (ha : PE X a ta) (hg : Gl X "len" := by rfl) (hs : starEach [a] X.env = (false, eval a X.env) :: starEach [] X.env := by rfl) : PE X (.Call (.Name "len" p) [a] [] pos) (tCB (fun xs H Q => ∃ p ys, xs = [.ref p] ∧ (SqL X.K H p ys ∨ SqT X.K H p ys) ∧ Q (.int ys.length) H) (tCons ta tNil)) :=
  pe_callB call_len_seq hg hm (by decide +kernel) (pa_cons ha pa_nil hs) (by decide) (by decide) hs rfl
theorem pe_isinst (hm : X.mg "isinstance" = none) (ha : PE X a ta) (hb : PE X b tb) (hg : Gl X "isinstance" := by rfl) (hs : starEach [a, b] X.env = (false, eval a X.env) :: starEach [b] X.env := by rfl) (hs2 : starEach [b] X.env = (false, eval b X.env) :: starEach [] X.env := by rfl) :
    PE X (.Call (.Name "isinstance" p) [a, b] [] pos) (tCB (fun xs H Q => ∃ x c t b, xs = [x, c] ∧ TyOf X.K H x t ∧ ((∃ T, c = .ty T ∧ PySem.W.kitOne X.K t (.type T) = some b) ∨ ∃ C, c = .ref C ∧ PySem.W.kitOne X.K t (.ref C) = some b) ∧ Q (.bl b) H) (tCons ta (tCons tb tNil))) :=
  pe_callB call_isinst hg hm (by decide +kernel) (pa_cons ha (pa_cons hb pa_nil hs2) hs) (by decide) (by decide) hs (by rw [hs2]; rfl)
theorem pe_min (hc : X.calm = true) (hm : X.mg "min" = none) (ha : PE X a ta) (hb : PE X b tb) (hg : Gl X "min" := by rfl) (hs : starEach [a, b] X.env = (false, eval a X.env) :: starEach [b] X.env := by rfl) (hs2 : starEach [b] X.env = (false, eval b X.env) :: starEach [] X.env := by rfl) :
    PE X (.Call (.Name "min" p) [a, b] [] pos) (tCB (fun xs H Q => ∃ i j, xs = [.int i, .int j] ∧ Q (.int (if j < i then j else i)) H) (tCons ta (tCons tb tNil))) :=
  pe_callB (call_min2 hc) hg hm (by decide +kernel) (pa_cons ha (pa_cons hb pa_nil hs2) hs) (by decide) (by decide) hs (by rw [hs2]; rfl)
theorem pe_max (hc : X.calm = true) (hm : X.mg "max" = none) (ha : PE X a ta) (hb : PE X b tb) (hg : Gl X "max" := by rfl) (hs : starEach [a, b] X.env = (false, eval a X.env) :: starEach [b] X.env := by rfl) (hs2 : starEach [b] X.env = (false, eval b X.env) :: starEach [] X.env := by rfl) :
    PE X (.Call (.Name "max" p) [a, b] [] pos) (tCB (fun xs H Q => ∃ i j, xs = [.int i, .int j] ∧ Q (.int (if i < j then j else i)) H) (tCons ta (tCons tb tNil))) :=
  pe_callB (call_max2 hc) hg hm (by decide +kernel) (pa_cons ha (pa_cons hb pa_nil hs2) hs) (by decide) (by decide) hs (by rw [hs2]; rfl)
theorem pe_list (hm : X.mg "list" = none) (ha : PE X a ta) (hg : Gl X "list" := by rfl) (hs : starEach [a] X.env = (false, eval a X.env) :: starEach [] X.env := by rfl) : PE X (.Call (.Name "list" p) [a] [] pos) (tCB (fun xs H Q => ∃ p ys, xs = [.ref p] ∧ (SqL X.K H p ys ∨ SqT X.K H p ys) ∧ ∀ l, H l = none → Q (.ref l) (upd H l (.lst ys))) (tCons ta tNil)) :=
  pe_callTy call_list_of hg hm (by decide +kernel) (pa_cons ha pa_nil hs) (by decide) (by decide) hs rfl
theorem pe_ty {T : String} {x : Str} (hm : X.mg x = none) (hg : Gl X x := by rfl) (hv : bootBuiltins x = some (.type T) := by first | rfl | decide +kernel) (hn : x ≠ "__name__" := by decide) (hd : (x == ("__debug__" : Str)) = false := by decide) : PE X (.Name x pos) (tC (.ty T)) := pe_bltn hg hm hv rfl hn hd
end
/-! ### the same with the written part by its name (within a comprehension's block) -/
section
variable {X : Cx} {p pos : Pos} {a b : Expr} {ta tb : TE} {t : TA}
theorem ix_listK (K : PySem.W.Frag) (h : X.K = K := by rfl) : IxR X (rIxL K) := h ▸ ix_list
theorem op_in_seqK (K : PySem.W.Frag) (h : X.K = K := by rfl) : OpR X (compareOp .In) (rIn K false) := h ▸ op_in_seq
theorem pg_tupK (K : PySem.W.Frag) {es : List Expr} {k : Nat} {t : TGs} {n : Nat} (hc : X.calm = true) (hp : PGs X es t) (h : X.K = K := by rfl)
    (hn : (assignEach es X.env).length = n := by rfl) (hst : (assignEach es X.env).findIdx? (·.1) = none := by rfl) : PG X (.Tuple es k pos) (gTup K n t) := by
  subst h
  exact pg_tup hc hp hn hst
end
end L2

namespace L2
open PySem PySem.Spec PyProof.Rows
/-! ### a comprehension's reading, by a word over the turn -/
abbrev CompT (p : Addr) (g : TG) (ti : TT) (te : TE) (x : V) (N : St → Hp → Prop) (σ : St) (H : Hp) : Prop :=
  g x σ H fun σ2 H2 => ti σ2 H2 fun b H3 => if b = true then te σ2 H3 fun v H4 => ∃ xs, H4 p = some (.lst xs) ∧ xs.length < sizeLine ∧ N σ2 (upd H4 p (.lst (xs ++ [v]))) else N σ2 H3
section
variable {p : Addr} {Q : VK} {g : TG} {ti : TT} {te : TE} {σ0 : St} {H0 : Hp}
theorem comp_range {lo : Int} {n : Nat} (Pv : Nat → St → Hp → Prop) (h0 : Pv 0 σ0 H0) (hs : ∀ i σ H, i < n → Pv i σ H → CompT p g ti te (.int (lo + i)) (Pv (i + 1)) σ H) (hd : ∀ σ H, Pv n σ H → Q (.ref p) H) : CompR (Itr lo n) p Q g ti te σ0 H0 := by
  unfold CompR
  refine ⟨fun i m σ H => m = n - i ∧ i ≤ n ∧ Pv i σ H, ⟨n, by simp, Nat.zero_le _, h0⟩, ?_⟩
  rintro i m σ H ⟨rfl, hi', q⟩
  by_cases hlt : i < n
  · refine .inr ⟨hlt, Pv (i + 1), fun σ' H' p' => ⟨n - (i + 1), by omega, rfl, hlt, p'⟩, fun x H' y => ?_⟩
    obtain ⟨e, y⟩ := y
    subst e y
    exact hs i σ _ hlt q
  · have e : i = n := by omega
    subst e
    exact .inl ⟨Nat.le_refl _, hd σ H q⟩
theorem comp_list {K : PySem.W.Frag} {a : Addr} {xs : List V} (Pv : Nat → St → Hp → Prop) (h0 : Pv 0 σ0 H0) (hl : ∀ i σ H, i ≤ xs.length → Pv i σ H → SqL K H a xs)
    (hs : ∀ i x σ H, xs[i]? = some x → Pv i σ H → CompT p g ti te x (Pv (i + 1)) σ H) (hd : ∀ σ H, Pv xs.length σ H → Q (.ref p) H) : CompR (Itl K a) p Q g ti te σ0 H0 := by
  unfold CompR
  refine ⟨fun i m σ H => m = xs.length - i ∧ i ≤ xs.length ∧ Pv i σ H, ⟨xs.length, by simp, Nat.zero_le _, h0⟩, ?_⟩
  rintro i m σ H ⟨rfl, hi, q⟩
  have q' := hl i σ H hi q
  by_cases hlt : i < xs.length
  · refine .inr ⟨⟨xs, xs[i], q', by simp [hlt]⟩, Pv (i + 1), fun σ' H' p' => ⟨xs.length - (i + 1), by omega, rfl, hlt, p'⟩, fun x H' y => ?_⟩
    obtain ⟨e, y⟩ := y
    subst e
    exact hs i x σ _ (y xs q') q
  · have e : i = xs.length := by omega
    subst e
    exact .inl ⟨⟨xs, q', Nat.le_refl _⟩, hd σ H q⟩
theorem comp_zip {K : PySem.W.Frag} {a b : Addr} {xs ys : List V} (hxy : xs.length = ys.length) (Pv : Nat → St → Hp → Prop) (h0 : Pv 0 σ0 H0) (hl : ∀ i σ H, i ≤ xs.length → Pv i σ H → SqL K H a xs ∧ SqL K H b ys)
    (hs : ∀ i x y t σ H, xs[i]? = some x → ys[i]? = some y → Pv i σ H → H t = none → CompT p g ti te (.ref t) (Pv (i + 1)) σ (upd H t (.tup [x, y]))) (hd : ∀ σ H, Pv xs.length σ H → Q (.ref p) H) : CompR (Itz K a b) p Q g ti te σ0 H0 := by
  unfold CompR
  refine ⟨fun i m σ H => m = xs.length - i ∧ i ≤ xs.length ∧ Pv i σ H, ⟨xs.length, by simp, Nat.zero_le _, h0⟩, ?_⟩
  rintro i m σ H ⟨rfl, hi, q⟩
  obtain ⟨q1, q2⟩ := hl i σ H hi q
  by_cases hlt : i < xs.length
  · refine .inr ⟨⟨xs, ys, xs[i], ys[i]'(by omega), q1, q2, by simp [hlt], by simp [show i < ys.length by omega]⟩, Pv (i + 1), fun σ' H' p' => ⟨xs.length - (i + 1), by omega, rfl, hlt, p'⟩, fun x H' y => ?_⟩
    obtain ⟨t, u, v, rfl, ht, rfl, y1, y2⟩ := y
    exact hs i u v t σ H (y1 xs q1) (y2 ys q2) q ht
  · have e : i = xs.length := by omega
    subst e
    exact .inl ⟨⟨xs, ys, q1, q2, .inl (Nat.le_refl _)⟩, hd σ H q⟩
end
theorem compT_one {p : Addr} {te : TE} {x : V} {N : St → Hp → Prop} {σ : St} {H : Hp} {i : Nat} (h : te (σ.set i (some x)) H fun v H4 => ∃ xs, H4 p = some (.lst xs) ∧ xs.length < sizeLine ∧ N (σ.set i (some x)) (upd H4 p (.lst (xs ++ [v])))) : CompT p (gName i) tNoIf te x N σ H := by
  show (if true = true then (te (σ.set i (some x)) H fun v H4 => ∃ xs, H4 p = some (.lst xs) ∧ xs.length < sizeLine ∧ N (σ.set i (some x)) (upd H4 p (.lst (xs ++ [v])))) else N (σ.set i (some x)) H)
  rw [if_pos rfl]
  exact h
theorem compT_two {K : PySem.W.Frag} {p t : Addr} {te : TE} {x y : V} {N : St → Hp → Prop} {σ : St} {H : Hp} {i j : Nat} (ht : SqT K H t [x, y])
    (h : te ((σ.set i (some x)).set j (some y)) H fun v H4 => ∃ xs, H4 p = some (.lst xs) ∧ xs.length < sizeLine ∧ N ((σ.set i (some x)).set j (some y)) (upd H4 p (.lst (xs ++ [v])))) : CompT p (gTup K 2 (gCons (gName i) (gCons (gName j) gNil))) tNoIf te (.ref t) N σ H := by
  refine ⟨t, [x, y], rfl, ht, rfl, x, [y], rfl, y, [], rfl, rfl, ?_⟩
  show (if true = true then (te ((σ.set i (some x)).set j (some y)) H fun v H4 => ∃ xs, H4 p = some (.lst xs) ∧ xs.length < sizeLine ∧ N ((σ.set i (some x)).set j (some y)) (upd H4 p (.lst (xs ++ [v])))) else N ((σ.set i (some x)).set j (some y)) H)
  rw [if_pos rfl]
  exact h
theorem seq_cut {t r : TS} {D : Ends} {σ : St} {H : Hp} (M : St → Hp → Prop) (h : ∀ nx : St → Hp → Prop, (∀ σ' H', M σ' H' → nx σ' H') → t { D with nx := nx } σ H) (hr : ∀ σ' H', M σ' H' → r D σ' H') : tSeq t r D σ H := h _ hr
/-! ### heaps that only grow -/
theorem Same.upd {H : Hp} {p : Addr} {o : HO} (h : H p = none) : Same H (upd H p o) := fun b u e => by rw [upd_ne (ne_of_none e h)]; exact e
theorem Same.tup {K : PySem.W.Frag} {H H' : Hp} {a : Addr} {xs : List V} (e : Same H H') (h : SqT K H a xs) : SqT K H' a xs := by
  rcases h with (h | ⟨o, h⟩) | h
  · exact .inl (.inl (e _ _ h))
  · exact .inl (.inr ⟨o, e _ _ h⟩)
  · exact .inr h
theorem SqL.upd {K : PySem.W.Frag} {H : Hp} {a p : Addr} {o : HO} {xs : List V} (h : SqL K H a xs) (hp : H p = none) : SqL K (L2.upd H p o) a xs := (Same.upd hp).seq h
theorem getI {ns : List Int} {i : Nat} (h : i < ns.length) : (ns.map V.int)[i]? = some (.int (ns.getD i 0)) := by
  rw [List.getElem?_map, List.getElem?_eq_getElem h, List.getD_eq_getElem?_getD, List.getElem?_eq_getElem h]; rfl
theorem atI_int {ns : List Int} {i : Nat} (h : i < ns.length) : atI (ns.map V.int) (i : Int) = some (.int (ns.getD i 0)) := atI_nat (getI h)
theorem getI_some {ns : List Int} {i : Nat} {x : V} (h : (ns.map V.int)[i]? = some x) : i < ns.length ∧ x = .int (ns.getD i 0) := by
  have hi : i < ns.length := by simpa using (List.getElem?_eq_some_iff.mp h).1
  rw [getI hi] at h
  exact ⟨hi, (Option.some.inj h).symm⟩
theorem sz1000 {n : Nat} (h : n ≤ 100000) : n < sizeLine := Nat.lt_of_le_of_lt h (by decide)
theorem sz1000' {n : Nat} (h : n ≤ 100000) : n ≤ sizeLine := Nat.le_of_lt (sz1000 h)
end L2

/-! the mathematics, in plain Lean -/
namespace Tf
open PySem L2
structure Beds (needs heats : List Int) : Prop where
  len : heats.length = needs.length
  lo : 1 ≤ needs.length
  hi : needs.length ≤ 50
  need : ∀ i, i < needs.length → 1 ≤ needs.getD i 0 ∧ needs.getD i 0 ≤ 200
  heat : ∀ i, i < needs.length → 0 ≤ heats.getD i 0 ∧ heats.getD i 0 ≤ needs.getD i 0
theorem take_map_succ {β : Type} {f : Int → β} {fs : List Int} {i : Nat} (h : i < fs.length) : (fs.take (i + 1)).map f = (fs.take i).map f ++ [f (fs.getD i 0)] := by
  rw [List.take_add_one, List.getElem?_eq_getElem h, List.map_append, List.getD_eq_getElem?_getD, List.getElem?_eq_getElem h]; rfl
theorem range_map_succ {β : Type} {f : Nat → β} {i : Nat} : (List.range (i + 1)).map f = (List.range i).map f ++ [f i] := by
  rw [List.range_succ, List.map_append]; rfl
theorem getD_map {f : Int → Int} {fs : List Int} {i : Nat} (h : i < fs.length) : (fs.map f).getD i 0 = f (fs.getD i 0) := by
  simp [List.getD_eq_getElem?_getD, List.getElem?_map, List.getElem?_eq_getElem h]
theorem getD_rangeMap {f : Nat → Int} {n i : Nat} (h : i < n) : ((List.range n).map f).getD i 0 = f i := by
  simp [List.getD_eq_getElem?_getD, List.getElem?_map, List.getElem?_range h]
theorem getD_mem {fs : List Int} {i : Nat} (h : i < fs.length) : fs.getD i 0 ∈ fs := by
  rw [List.getD_eq_getElem?_getD, List.getElem?_eq_getElem h]; exact List.getElem_mem h
theorem list_ext_getD {xs ys : List Int} (hl : xs.length = ys.length) (h : ∀ i, i < xs.length → xs.getD i 0 = ys.getD i 0) : xs = ys := by
  refine List.ext_getElem hl fun i h1 h2 => ?_
  have := h i h1
  rw [List.getD_eq_getElem?_getD, List.getD_eq_getElem?_getD, List.getElem?_eq_getElem h1, List.getElem?_eq_getElem h2] at this
  exact this
theorem base_at (z : Int) : ∃ b : Int, atI [V.int 3, V.int 12, V.int 200] (z % 3) = some (.int b) ∧ 0 < b ∧ b ≤ 200 := by
  have h1 := Int.emod_nonneg z (show (3 : Int) ≠ 0 by decide)
  have h2 := Int.emod_lt_of_pos z (show (0 : Int) < 3 by decide)
  have h3 : z % 3 = 0 ∨ z % 3 = 1 ∨ z % 3 = 2 := by omega
  rcases h3 with e | e | e <;> rw [e]
  · exact ⟨3, rfl, by decide, by decide⟩
  · exact ⟨12, rfl, by decide, by decide⟩
  · exact ⟨200, rfl, by decide, by decide⟩
theorem many_nat (z m : Int) (hm : 0 < m) : ∃ n : Nat, 1 + z % m = (n : Int) ∧ 1 ≤ n ∧ (n : Int) ≤ m := by
  have h1 := Int.emod_nonneg z (show m ≠ 0 by omega)
  have h2 := Int.emod_lt_of_pos z hm
  exact ⟨(1 + z % m).toNat, by omega, by omega, by omega⟩
end Tf
namespace Tf
open PySem L2
/-! ### slices -/
theorem sIx_lo {n : Nat} {i : Int} (h0 : 0 ≤ i) (h1 : i ≤ n) (d : Nat) : HT.sIx n d (some i) = i.toNat := by
  simp only [HT.sIx]
  rw [if_neg (by omega)]
  omega
theorem cut_take {xs : List V} {k : Nat} (h : k ≤ xs.length) : cutV xs none (some (k : Int)) = xs.take k := by
  unfold cutV
  rw [sIx_lo (by omega) (by omega)]
  simp [HT.sIx]
theorem cut_drop {xs : List V} {k : Nat} (h : k ≤ xs.length) : cutV xs (some (k : Int)) none = xs.drop k := by
  unfold cutV
  rw [sIx_lo (by omega) (by omega)]
  simp only [HT.sIx, Int.toNat_natCast]
  rw [List.take_of_length_le]
  simp
/-! ### thawed beds, the front -/
end Tf

namespace L2
open PySem PySem.Spec PyProof.Rows
section
variable {X : Cx} {p pos : Pos} {a b : Expr} {ta tb : TE}
theorem call_sum (hc : X.calm = true) : CallR X (.builtin "sum") (fun vs H Q => ∃ (p : Addr) (ns : List Int), vs = [.ref p] ∧ SqL X.K H p (ns.map V.int) ∧ Q (.int ns.sum) H) := by
  intro pins s σ H vs us Q I r h
  obtain ⟨p, ns, rfl, hq, q⟩ := h
  obtain ⟨u, rfl, rx⟩ := r.one
  cases rx
  obtain ⟨its, rv, pl, hz⟩ := I.list hq
  have hi := intsAre_of rv
  have key : ∀ items : Array Value, s.heap.IsList p items → AllInts items → (∀ h' tk t', (∀ b o, s.heap.get? b = some o → h'.get? b = some o) → EP X pins σ Q (.int (numsOf items.toList).sum t') { s with heap := h', toks := tk }) →
      wpAny (model X.prog X.w) X.A (call (.builtin "sum") [.ref p]) (EP X pins σ Q) X.xe s := fun items hl hall h => by
    obtain ⟨xs, rfl⟩ := hall.items
    rw [nums_intItems] at h
    refine sum_intListG (I.ok.hd hc) hl fun h' tk t' hk => ?_
    have := h h' tk t' hk
    rw [preSum_eq, List.take_of_length_le (by simp)]; exact this
  refine key its.toArray pl.isList hi.allInts fun h' tk t' hk => ?_
  rw [show its.toArray.toList = its from rfl, hi.numsOf]
  exact ⟨.int ns.sum, H, I.kept hk, ⟨_, rfl⟩, q⟩
theorem pe_sum (hc : X.calm = true) (hm : X.mg "sum" = none) (ha : PE X a ta) (hg : Gl X "sum" := by rfl) (hs : starEach [a] X.env = (false, eval a X.env) :: starEach [] X.env := by rfl) : PE X (.Call (.Name "sum" p) [a] [] pos) (tCB (fun vs H Q => ∃ (p : Addr) (ns : List Int), vs = [.ref p] ∧ SqL X.K H p (ns.map V.int) ∧ Q (.int ns.sum) H) (tCons ta tNil)) :=
  pe_callB (call_sum hc) hg hm (by decide +kernel) (pa_cons ha pa_nil hs) (by decide) (by decide) hs rfl
theorem pe_gint {x : Str} {i : Int} (h : ∃ t, X.mg x = some (.int i t)) (hg : Gl X x := by rfl) (hd : (x == ("__debug__" : Str)) = false := by decide) : PE X (.Name x pos) (tC (.int i)) := by
  obtain ⟨t, h⟩ := h
  exact pe_glob hg h ⟨t, rfl⟩ hd
end
theorem Same.set {H H2 : Hp} {p : Addr} {o : HO} (s : Same H H2) (hp : H p = none) : Same H (L2.upd H2 p o) := fun b u e => by rw [upd_ne (ne_of_none e hp)]; exact s b u e
theorem comp_zip_ints {K : PySem.W.Frag} {a b p : Addr} {Q : VK} {te : TE} {xs ys : List Int} {H1 : Hp} {caps : St} (f : Int → Int → Int) (hl : xs.length = ys.length) (hz : xs.length ≤ 1000) (hA : SqL K H1 a (xs.map V.int)) (hB : SqL K H1 b (ys.map V.int)) (hp : H1 p = none)
    (ht : ∀ (x y : Int) (H : Hp) (Q' : VK), Q' (.int (f x y)) H → te (some (.int x) :: some (.int y) :: caps) H Q')
    (q : ∀ H', Same H1 H' → H' p = some (.lst ((List.zipWith f xs ys).map V.int)) → Q (.ref p) H') :
    CompR (Itz K a b) p Q (gTup K 2 (gCons (gName 0) (gCons (gName 1) gNil))) tNoIf te (none :: none :: caps) (upd H1 p (.lst [])) := by
  refine comp_zip (xs := xs.map V.int) (ys := ys.map V.int) (by simpa using hl) (fun i σ H2 => (∃ v w, σ = v :: w :: caps) ∧ Same H1 H2 ∧ H2 p = some (.lst (((List.zipWith f xs ys).take i).map V.int))) ?_ ?_ ?_ ?_
  · exact ⟨⟨_, _, rfl⟩, Same.upd hp, by rw [List.take_zero]; exact upd_same⟩
  · rintro i σ H2 _ ⟨_, s2, _⟩
    exact ⟨s2.seq hA, s2.seq hB⟩
  · rintro i x y t σ H2 hx hy ⟨⟨v, w, rfl⟩, s2, h2⟩ ft
    obtain ⟨hi, rfl⟩ := getI_some hx
    obtain ⟨hi', rfl⟩ := getI_some hy
    refine compT_two (SqT.of upd_same) (ht _ _ _ _ ?_)
    have npt : p ≠ t := ne_of_none h2 ft
    refine ⟨_, by rw [upd_ne npt]; exact h2, sz1000 (by rw [List.length_map, List.length_take]; omega), ⟨_, _, rfl⟩, (s2.trans (Same.upd ft)).set hp, ?_⟩
    rw [upd_same]
    have hlt : i < (List.zipWith f xs ys).length := by rw [List.length_zipWith]; omega
    have e : (List.zipWith f xs ys).getD i 0 = f (xs.getD i 0) (ys.getD i 0) := by
      simp only [List.getD_eq_getElem?_getD, List.getElem?_zipWith, List.getElem?_eq_getElem hi, List.getElem?_eq_getElem hi', Option.getD_some]
    rw [Tf.take_map_succ (f := V.int) hlt, e]
  · rintro σ H2 ⟨_, s2, h2⟩
    rw [List.length_map, List.take_of_length_le (by rw [List.length_zipWith]; omega)] at h2
    exact q H2 s2 h2
end L2
namespace Tf
open PySem L2
/-! ### a season's units shared out from the top -/
def leftAt (rs : List Int) (a : Int) (i : Nat) : Int := max 0 (a - (rs.drop i).sum)
def shareAt (rs : List Int) (a : Int) (i : Nat) : Int := min (leftAt rs a (i + 1)) (rs.getD i 0)
theorem drop_sum {rs : List Int} {i : Nat} (h : i < rs.length) : (rs.drop i).sum = rs.getD i 0 + (rs.drop (i + 1)).sum := by
  rw [List.drop_eq_getElem_cons h, List.sum_cons, List.getD_eq_getElem?_getD, List.getElem?_eq_getElem h]; rfl
theorem leftAt_top {rs : List Int} {a : Int} {n : Nat} (h : rs.length ≤ n) (ha : 0 ≤ a) : leftAt rs a n = a := by
  unfold leftAt
  rw [List.drop_of_length_le h, List.sum_nil]; omega
theorem leftAt_nonneg (rs : List Int) (a : Int) (i : Nat) : 0 ≤ leftAt rs a i := by unfold leftAt; omega
theorem leftAt_step {rs : List Int} {a : Int} {i : Nat} (h : i < rs.length) (h0 : 0 ≤ rs.getD i 0) : leftAt rs a i = leftAt rs a (i + 1) - shareAt rs a i := by
  unfold shareAt leftAt
  rw [drop_sum h]; omega
theorem share_bounds {rs : List Int} {a : Int} {i : Nat} (h0 : 0 ≤ rs.getD i 0) : 0 ≤ shareAt rs a i ∧ shareAt rs a i ≤ rs.getD i 0 := by
  have := leftAt_nonneg rs a (i + 1)
  unfold shareAt; omega
def shares (rs : List Int) (a : Int) : List Int := (List.range rs.length).map (shareAt rs a)
theorem shares_len (rs : List Int) (a : Int) : (shares rs a).length = rs.length := by unfold shares; simp
theorem shares_at {rs : List Int} {a : Int} {i : Nat} (h : i < rs.length) : (shares rs a).getD i 0 = shareAt rs a i := by unfold shares; exact getD_rangeMap h
def rooms (needs heats : List Int) : List Int := List.zipWith (fun n h => n - h) needs heats
def warmL (needs heats : List Int) (a : Int) : List Int := List.zipWith (fun h s => h + s) heats (shares (rooms needs heats) a)
def coldL (heats : List Int) (a : Int) : List Int := List.zipWith (fun h s => h - s) heats (shares heats a)
theorem getD_zipWith {f : Int → Int → Int} {xs ys : List Int} {i : Nat} (h1 : i < xs.length) (h2 : i < ys.length) : (List.zipWith f xs ys).getD i 0 = f (xs.getD i 0) (ys.getD i 0) := by
  simp only [List.getD_eq_getElem?_getD, List.getElem?_zipWith, List.getElem?_eq_getElem h1, List.getElem?_eq_getElem h2, Option.getD_some]
theorem rooms_len {needs heats : List Int} (h : heats.length = needs.length) : (rooms needs heats).length = needs.length := by unfold rooms; rw [List.length_zipWith]; omega
theorem rooms_at {needs heats : List Int} (h : heats.length = needs.length) {i : Nat} (hi : i < needs.length) : (rooms needs heats).getD i 0 = needs.getD i 0 - heats.getD i 0 := getD_zipWith hi (by omega)
theorem warmL_len {needs heats : List Int} {a : Int} (h : heats.length = needs.length) : (warmL needs heats a).length = needs.length := by unfold warmL; rw [List.length_zipWith, shares_len, rooms_len h]; omega
theorem warmL_at {needs heats : List Int} {a : Int} (h : heats.length = needs.length) {i : Nat} (hi : i < needs.length) : (warmL needs heats a).getD i 0 = heats.getD i 0 + shareAt (rooms needs heats) a i := by
  unfold warmL
  rw [getD_zipWith (by omega) (by rw [shares_len, rooms_len h]; exact hi), shares_at (by rw [rooms_len h]; exact hi)]
theorem coldL_len {heats : List Int} {a : Int} : (coldL heats a).length = heats.length := by unfold coldL; rw [List.length_zipWith, shares_len]; omega
theorem coldL_at {heats : List Int} {a : Int} {i : Nat} (hi : i < heats.length) : (coldL heats a).getD i 0 = heats.getD i 0 - shareAt heats a i := by
  unfold coldL
  rw [getD_zipWith hi (by rw [shares_len]; exact hi), shares_at hi]
theorem set_range {n k : Nat} {f : Nat → Int} {v : Int} : ((List.range n).map f).set k v = (List.range n).map fun i => if i = k then v else f i := by
  refine List.ext_getElem (by simp) fun i h1 h2 => ?_
  rw [List.getElem_set]
  simp only [List.getElem_map, List.getElem_range]
  by_cases h : k = i
  · rw [if_pos h, if_pos h.symm]
  · rw [if_neg h, if_neg (Ne.symm h)]
theorem list_range (xs : List Int) : xs = (List.range xs.length).map fun i => xs.getD i 0 :=
  list_ext_getD (by simp) fun i hi => by rw [getD_rangeMap hi]
theorem range_congr {n : Nat} {f g : Nat → Int} (h : ∀ i, i < n → f i = g i) : (List.range n).map f = (List.range n).map g :=
  List.map_congr_left fun i hi => h i (List.mem_range.mp hi)
theorem setI {xs : List Int} {k : Nat} {v : Int} : (xs.map V.int).set k (.int v) = (xs.set k v).map V.int := by rw [List.map_set]
theorem sum_bounds : ∀ {xs : List Int}, (∀ x ∈ xs, 1 ≤ x ∧ x ≤ 200) → (xs.length : Int) ≤ xs.sum ∧ xs.sum ≤ 200 * (xs.length : Int)
  | [], _ => by simp
  | x :: xs, h => by
    have h1 := h x List.mem_cons_self
    have h2 := sum_bounds (xs := xs) fun y hy => h y (List.mem_cons_of_mem _ hy)
    rw [List.sum_cons, List.length_cons]
    omega
theorem mem_getD {xs : List Int} {x : Int} (h : x ∈ xs) : ∃ i, i < xs.length ∧ xs.getD i 0 = x := by
  obtain ⟨i, hi, e⟩ := List.mem_iff_getElem.mp h
  exact ⟨i, hi, by rw [List.getD_eq_getElem?_getD, List.getElem?_eq_getElem hi]; exact e⟩
theorem Beds.sum {needs heats : List Int} (B : Beds needs heats) : 1 ≤ needs.sum ∧ needs.sum ≤ 10000 := by
  have h := sum_bounds (xs := needs) fun x hx => by
    obtain ⟨i, hi, e⟩ := mem_getD hx
    rw [← e]
    exact B.need i hi
  have h1 := B.lo
  have h2 := B.hi
  omega
end Tf
namespace L2
open PySem
theorem ixN_nat {n k : Nat} (h : k < n) : ixN n (k : Int) = some k := by
  unfold ixN
  rw [if_pos (by omega), if_pos (by omega), Int.toNat_natCast]
end L2

namespace L2
open PySem PySem.Spec PyProof.Rows
/-! ### two lists of the same values are equal -/
def eqOk : V → Bool
  | .non => true
  | .bl _ => true
  | .int _ => true
  | .str _ => true
  | .ref _ => true
  | _ => false
theorem eq_sameV {A : Around} {s : Shared} {x : V} {u v : Value} (h : eqOk x = true) (ru : RelV x u) (rv : RelV x v) : SeqAt.EqAt A s u v true := by
  cases x with
  | non => cases ru; cases rv; exact SeqAt.EqAt.same _
  | bl b => cases ru; cases rv; exact SeqAt.EqAt.same _
  | int i =>
    obtain ⟨t, rfl⟩ := ru
    obtain ⟨t', rfl⟩ := rv
    have := SeqAt.EqAt.int_int (A := A) (s := s) i t i t'
    rw [beq_self_eq_true] at this
    exact this
  | str z =>
    obtain ⟨t, rfl⟩ := ru
    obtain ⟨t', rfl⟩ := rv
    have := SeqAt.EqAt.str_str (A := A) (s := s) z t z t'
    rw [beq_self_eq_true] at this
    exact this
  | ref a => cases ru; cases rv; exact SeqAt.EqAt.same _
  | byt _ => cases h
  | flt _ => cases h
  | ty _ => cases h
theorem Vals.at {xs : List V} {us : List Value} (r : Vals xs us) {j : Nat} (h : j < us.length) : ∃ x, xs[j]? = some x ∧ RelV x us[j] := by
  have hx : j < xs.length := by rw [r.length]; exact h
  obtain ⟨u, e, ru⟩ := r.get (List.getElem?_eq_getElem hx)
  rw [List.getElem?_eq_getElem h] at e
  exact ⟨_, List.getElem?_eq_getElem hx, by rw [Option.some.inj e]; exact ru⟩
end L2
namespace Tf
open PySem L2
/-! ### seasons -/
def kindS (b : Bool) : Str := if b = true then "warm" else "cold"
theorem kind_warm (b : Bool) : decide (V.str (kindS b) = V.str "warm") = b := by
  cases b
  · exact decide_eq_false (fun h => absurd (V.str.inj h) (by decide +kernel))
  · exact decide_eq_true rfl
structure SeasAt (H : Hp) (ts : List Addr) (ss : List (Bool × Int)) : Prop where
  len : ts.length = ss.length
  at' : ∀ (i : Nat) (z : Bool × Int), ss[i]? = some z → ∃ t, ts[i]? = some t ∧ H t = some (.tup [.str (kindS z.1), .int z.2])
theorem SeasAt.same {H H' : Hp} {ts : List Addr} {ss : List (Bool × Int)} (S : SeasAt H ts ss) (h : Same H H') : SeasAt H' ts ss :=
  ⟨S.len, fun i z e => let ⟨t, e1, e2⟩ := S.at' i z e; ⟨t, e1, h _ _ e2⟩⟩
theorem SeasAt.nil (H : Hp) : SeasAt H [] [] := ⟨rfl, fun i z e => by simp at e⟩
theorem SeasAt.snoc {H : Hp} {ts : List Addr} {ss : List (Bool × Int)} (S : SeasAt H ts ss) {t : Addr} {z : Bool × Int} (h : H t = some (.tup [.str (kindS z.1), .int z.2])) : SeasAt H (ts ++ [t]) (ss ++ [z]) := by
  refine ⟨by simp [S.len], fun i y e => ?_⟩
  by_cases hi : i < ss.length
  · rw [List.getElem?_append_left hi] at e
    obtain ⟨t', e1, e2⟩ := S.at' i y e
    exact ⟨t', by rw [List.getElem?_append_left (by rw [S.len]; exact hi)]; exact e1, e2⟩
  · rw [List.getElem?_append_right (by omega)] at e
    have hi0 : i - ss.length = 0 := by
      have := (List.getElem?_eq_some_iff.mp e).1
      simp at this
      omega
    rw [hi0] at e
    have e : z = y := by simpa using e
    subst e
    refine ⟨t, ?_, h⟩
    rw [List.getElem?_append_right (by rw [S.len]; omega), S.len, hi0]
    rfl
structure HeatsOk (needs heats : List Int) : Prop where
  len : heats.length = needs.length
  lo : ∀ i, i < needs.length → 0 ≤ heats.getD i 0
  hi : ∀ i, i < needs.length → heats.getD i 0 ≤ needs.getD i 0
theorem Beds.ok {needs heats : List Int} (B : Beds needs heats) : HeatsOk needs heats := ⟨B.len, fun i h => (B.heat i h).1, fun i h => (B.heat i h).2⟩
theorem HeatsOk.rooms0 {needs heats : List Int} (h : HeatsOk needs heats) : ∀ i, i < (rooms needs heats).length → 0 ≤ (rooms needs heats).getD i 0 := fun i hi => by
  rw [rooms_len h.len] at hi
  rw [rooms_at h.len hi]
  have := h.hi i hi
  omega
theorem HeatsOk.warm {needs heats : List Int} (h : HeatsOk needs heats) (m : Int) : HeatsOk needs (warmL needs heats m) := by
  refine ⟨warmL_len h.len, fun i hi => ?_, fun i hi => ?_⟩
  all_goals
    rw [warmL_at h.len hi]
    have b := share_bounds (a := m) (h.rooms0 i (by rw [rooms_len h.len]; exact hi))
    rw [rooms_at h.len hi] at b
    have := h.lo i hi
    omega
theorem HeatsOk.cold {needs heats : List Int} (h : HeatsOk needs heats) (m : Int) : HeatsOk needs (coldL heats m) := by
  refine ⟨by rw [coldL_len, h.len], fun i hi => ?_, fun i hi => ?_⟩
  all_goals
    rw [coldL_at (by rw [h.len]; exact hi)]
    have b := share_bounds (a := m) (h.lo i hi)
    have := h.hi i hi
    omega
def seasL (needs heats : List Int) (z : Bool × Int) : List Int := if z.1 = true then warmL needs heats z.2 else coldL heats z.2
def seasLeft (needs heats : List Int) (z : Bool × Int) : Int := if z.1 = true then leftAt (rooms needs heats) z.2 0 else leftAt heats z.2 0
theorem HeatsOk.seas {needs heats : List Int} (h : HeatsOk needs heats) (z : Bool × Int) : HeatsOk needs (seasL needs heats z) := by
  unfold seasL
  split
  · exact h.warm _
  · exact h.cold _
structure Sums where
  heats : List Int
  room : Int
  heat : Int
def stepS (needs : List Int) (s : Sums) (z : Bool × Int) : Sums :=
  ⟨seasL needs s.heats z, if z.1 = true then s.room + seasLeft needs s.heats z else s.room, if z.1 = true then s.heat else s.heat + seasLeft needs s.heats z⟩
def passL (needs heats : List Int) (ss : List (Bool × Int)) : Sums := ss.foldl (stepS needs) ⟨heats, 0, 0⟩
theorem passL_snoc (needs heats : List Int) (ss : List (Bool × Int)) (z : Bool × Int) : passL needs heats (ss ++ [z]) = stepS needs (passL needs heats ss) z := by
  unfold passL
  rw [List.foldl_append]; rfl
theorem passL_ok {needs heats : List Int} (h : HeatsOk needs heats) (ss : List (Bool × Int)) : HeatsOk needs (passL needs heats ss).heats := by
  have : ∀ (ss : List (Bool × Int)) (s : Sums), HeatsOk needs s.heats → HeatsOk needs (ss.foldl (stepS needs) s).heats := by
    intro ss
    induction ss with
    | nil => intro s h; exact h
    | cons z ss ih => intro s h; exact ih _ (h.seas z)
  exact this ss _ h
theorem take_snoc {α : Type} {ss : List α} {i : Nat} {z : α} (h : ss[i]? = some z) : ss.take (i + 1) = ss.take i ++ [z] := by
  rw [List.take_add_one, h]; rfl
end Tf

namespace Tf
open PySem L2
def clampI (x l m : Int) : Int := if x < l then l else if m < x then m else x
end Tf
namespace L2
theorem none_of {H H' : Hp} {t : PySem.Addr} (s : Same H H') (h : H' t = none) : H t = none := by
  cases e : H t with
  | none => rfl
  | some o => exact absurd ((s _ _ e).symm.trans h) (by simp)
end L2
namespace Tf
theorem clamp_mono {x y l m : Int} (h : l ≤ m) (e : x ≤ y) : clampI x l m ≤ clampI y l m := by
  unfold clampI
  repeat' split
  all_goals omega
theorem clamp_joined {x d1 l1 m1 d2 l2 m2 : Int} (h1 : l1 ≤ m1) (h2 : l2 ≤ m2) :
    clampI (x + (d1 + d2)) (clampI (l1 + d2) l2 m2) (clampI (m1 + d2) l2 m2) = clampI (clampI (x + d1) l1 m1 + d2) l2 m2 := by
  unfold clampI
  repeat' split
  all_goals omega
end Tf

namespace Tf
open PySem L2
/-! ### rules of three numbers -/
structure Rl where
  d : Int
  l : Int
  m : Int
abbrev Rl.vs (r : Rl) : List V := [.int r.d, .int r.l, .int r.m]
def Rl.Ok (r : Rl) : Prop := r.l ≤ r.m
def Rl.ap (r : Rl) (x : Int) : Int := clampI (x + r.d) r.l r.m
def Rl.jn (a b : Rl) : Rl := ⟨a.d + b.d, b.ap a.l, b.ap a.m⟩
theorem Rl.jn_ok {a b : Rl} (ha : a.Ok) (hb : b.Ok) : (a.jn b).Ok := clamp_mono hb (by have : a.l ≤ a.m := ha; omega)
theorem Rl.ap_jn {a b : Rl} (ha : a.Ok) (hb : b.Ok) (x : Int) : (a.jn b).ap x = b.ap (a.ap x) := clamp_joined ha hb
theorem Rl.jn_assoc {a b c : Rl} (hb : b.Ok) (hc : c.Ok) : (a.jn b).jn c = a.jn (b.jn c) := by
  have e : ∀ x, (b.jn c).ap x = c.ap (b.ap x) := Rl.ap_jn hb hc
  show (⟨a.d + b.d + c.d, c.ap (b.ap a.l), c.ap (b.ap a.m)⟩ : Rl) = ⟨a.d + (b.d + c.d), (b.jn c).ap a.l, (b.jn c).ap a.m⟩
  rw [e, e, Int.add_assoc]
def Rl.rep (r : Rl) : Nat → Rl
  | 0 => r
  | n + 1 => (r.rep n).jn r
theorem Rl.rep_ok {r : Rl} (h : r.Ok) : ∀ n, (r.rep n).Ok
  | 0 => h
  | n + 1 => Rl.jn_ok (Rl.rep_ok h n) h
theorem Rl.rep_add {r : Rl} (h : r.Ok) (a : Nat) : ∀ b, (r.rep a).jn (r.rep b) = r.rep (a + b + 1)
  | 0 => rfl
  | b + 1 => by
    show (r.rep a).jn ((r.rep b).jn r) = (r.rep (a + b + 1)).jn r
    rw [← Rl.jn_assoc (Rl.rep_ok h b) h, Rl.rep_add h a b]
end Tf
namespace Tf
open PySem L2
/-! ### seasons as rules of a depth -/
def stepH (full h : Int) (z : Bool × Int) : Int := if z.1 = true then min full (h + z.2) else max 0 (h - z.2)
def stepsH (full h : Int) (ss : List (Bool × Int)) : Int := ss.foldl (stepH full) h
def addS (ss : List (Bool × Int)) : Int := ss.foldl (fun t z => t + if z.1 = true then z.2 else -z.2) 0
def seasR (full : Int) (z : Bool × Int) : Rl := if z.1 = true then ⟨z.2, min full z.2, full⟩ else ⟨-z.2, 0, max 0 (full - z.2)⟩
def rowR (full : Int) (ss : List (Bool × Int)) : Rl := ⟨addS ss, stepsH full 0 ss, stepsH full full ss⟩
theorem stepsH_snoc (full h : Int) (ss : List (Bool × Int)) (z : Bool × Int) : stepsH full h (ss ++ [z]) = stepH full (stepsH full h ss) z := by unfold stepsH; rw [List.foldl_append]; rfl
theorem addS_snoc (ss : List (Bool × Int)) (z : Bool × Int) : addS (ss ++ [z]) = addS ss + if z.1 = true then z.2 else -z.2 := by unfold addS; rw [List.foldl_append]; rfl
theorem addS_append (a b : List (Bool × Int)) : addS (a ++ b) = addS a + addS b := by
  have go : ∀ (b : List (Bool × Int)) (t : Int), b.foldl (fun t z => t + if z.1 = true then z.2 else -z.2) t = t + b.foldl (fun t z => t + if z.1 = true then z.2 else -z.2) 0 := by
    intro b
    induction b with
    | nil => intro t; show t = t + 0; omega
    | cons z b ih => intro t; rw [List.foldl_cons, List.foldl_cons, ih, ih (0 + _)]; omega
  unfold addS
  rw [List.foldl_append, go]
theorem stepH_in {full h : Int} {z : Bool × Int} (hz : 0 ≤ z.2) (h0 : 0 ≤ h) (h1 : h ≤ full) : 0 ≤ stepH full h z ∧ stepH full h z ≤ full := by
  unfold stepH; split <;> omega
theorem stepsH_in {full h : Int} {ss : List (Bool × Int)} (hz : ∀ z ∈ ss, 0 ≤ z.2) (h0 : 0 ≤ h) (h1 : h ≤ full) : 0 ≤ stepsH full h ss ∧ stepsH full h ss ≤ full := by
  induction ss generalizing h with
  | nil => exact ⟨h0, h1⟩
  | cons z ss ih =>
    have := stepH_in (hz z (List.mem_cons_self ..)) h0 h1
    exact ih (fun y hy => hz y (List.mem_cons_of_mem _ hy)) this.1 this.2
theorem stepH_mono {full h k : Int} {z : Bool × Int} (e : h ≤ k) : stepH full h z ≤ stepH full k z := by unfold stepH; split <;> omega
theorem stepsH_mono {full h k : Int} (ss : List (Bool × Int)) (e : h ≤ k) : stepsH full h ss ≤ stepsH full k ss := by
  induction ss generalizing h k with
  | nil => exact e
  | cons z ss ih => exact ih (stepH_mono e)
theorem rowR_ok {full : Int} (hf : 0 ≤ full) (ss : List (Bool × Int)) : (rowR full ss).Ok := stepsH_mono ss hf
theorem seasR_ok {full : Int} {z : Bool × Int} (hf : 0 ≤ full) (hz : 0 ≤ z.2) : (seasR full z).Ok := by
  unfold seasR Rl.Ok; split <;> (dsimp only; omega)
theorem seasR_ap {full h : Int} {z : Bool × Int} (hz : 0 ≤ z.2) (h0 : 0 ≤ h) (h1 : h ≤ full) : (seasR full z).ap h = stepH full h z := by
  unfold seasR stepH Rl.ap clampI
  by_cases e : z.1 = true
  · rw [if_pos e, if_pos e]; dsimp only; repeat' split
    all_goals omega
  · rw [if_neg e, if_neg e]; dsimp only; repeat' split
    all_goals omega
theorem rowR_snoc {full : Int} {ss : List (Bool × Int)} {z : Bool × Int} (hf : 0 ≤ full) (hs : ∀ z ∈ ss, 0 ≤ z.2) (hz : 0 ≤ z.2) : rowR full (ss ++ [z]) = (rowR full ss).jn (seasR full z) := by
  have a := stepsH_in hs (Int.le_refl 0) hf
  have b := stepsH_in hs hf (Int.le_refl full)
  show (⟨addS (ss ++ [z]), stepsH full 0 (ss ++ [z]), stepsH full full (ss ++ [z])⟩ : Rl) = ⟨addS ss + (seasR full z).d, (seasR full z).ap (stepsH full 0 ss), (seasR full z).ap (stepsH full full ss)⟩
  rw [seasR_ap hz a.1 a.2, seasR_ap hz b.1 b.2, addS_snoc, stepsH_snoc, stepsH_snoc]
  congr 1
  unfold seasR
  split <;> rfl
theorem rowR_ap {full h : Int} {ss : List (Bool × Int)} (hz : ∀ z ∈ ss, 0 ≤ z.2) (h0 : 0 ≤ h) (h1 : h ≤ full) : (rowR full ss).ap h = stepsH full h ss := by
  have key : ∀ n, ∀ ss : List (Bool × Int), ss.length = n → (∀ z ∈ ss, 0 ≤ z.2) → (rowR full ss).ap h = stepsH full h ss := by
    intro n
    induction n with
    | zero =>
      intro ss hl _
      cases ss with
      | nil => show clampI (h + 0) 0 full = h; unfold clampI; repeat' split
               all_goals omega
      | cons _ _ => cases hl
    | succ n ih =>
      intro ss hl hz
      have hne : ss ≠ [] := by intro e; rw [e] at hl; cases hl
      obtain ⟨b, z, rfl⟩ : ∃ b z, ss = b ++ [z] := ⟨ss.dropLast, ss.getLast hne, (List.dropLast_concat_getLast hne).symm⟩
      have hb : ∀ z ∈ b, 0 ≤ z.2 := fun y hy => hz y (List.mem_append_left _ hy)
      have hz' : 0 ≤ z.2 := hz z (by simp)
      have i1 := stepsH_in hb h0 h1
      rw [rowR_snoc (by omega) hb hz', Rl.ap_jn (rowR_ok (by omega) b) (seasR_ok (by omega) hz'), ih b (by simpa using hl) hb, seasR_ap hz' i1.1 i1.2, stepsH_snoc]
  exact key _ ss rfl hz
theorem SeasAt.take {H : Hp} {ts : List Addr} {ss : List (Bool × Int)} (S : SeasAt H ts ss) (k : Nat) : SeasAt H (ts.take k) (ss.take k) := by
  refine ⟨by rw [List.length_take, List.length_take, S.len], fun i z e => ?_⟩
  have hi : i < k := by have := (List.getElem?_eq_some_iff.mp e).1; rw [List.length_take] at this; omega
  rw [List.getElem?_take_of_lt hi] at e
  obtain ⟨t, e1, e2⟩ := S.at' i z e
  exact ⟨t, by rw [List.getElem?_take_of_lt hi]; exact e1, e2⟩
end Tf
namespace Tf
open PySem L2
theorem SeasAt.item {H : Hp} {ts : List Addr} {ss : List (Bool × Int)} (S : SeasAt H ts ss) {i : Nat} {x : V} (h : (ts.map V.ref)[i]? = some x) : ∃ t z, x = .ref t ∧ ss[i]? = some z ∧ H t = some (.tup [.str (kindS z.1), .int z.2]) := by
  rw [List.getElem?_map] at h
  cases e : ts[i]? with
  | none => rw [e] at h; cases h
  | some t =>
    rw [e] at h
    have hi : i < ss.length := by rw [← S.len]; exact (List.getElem?_eq_some_iff.mp e).1
    obtain ⟨t', e1, e2⟩ := S.at' i _ (List.getElem?_eq_getElem hi)
    rw [e] at e1
    cases e1
    exact ⟨t, _, (Option.some.inj h).symm, List.getElem?_eq_getElem hi, e2⟩
end Tf

namespace Tf
open PySem L2
/-! ### the heat down to a place -/
def down (hs : List Int) (i : Nat) : Int := (hs.drop i).sum
theorem down_step {hs : List Int} {i : Nat} (h : i < hs.length) : down hs i = hs.getD i 0 + down hs (i + 1) := drop_sum h
theorem down_end {hs : List Int} {i : Nat} (h : hs.length ≤ i) : down hs i = 0 := by unfold down; rw [List.drop_of_length_le h]; rfl
theorem down_ind {P : Nat → Prop} (n : Nat) (h0 : P n) (hs : ∀ i, i < n → P (i + 1) → P i) : ∀ i, i ≤ n → P i := by
  have go : ∀ k i, i + k = n → P i := by
    intro k
    induction k with
    | zero => intro i e; rw [show i = n by omega]; exact h0
    | succ k ih => intro i e; exact hs i (by omega) (ih (i + 1) (by omega))
  exact fun i hi => go (n - i) i (by omega)
theorem down_rooms {needs heats : List Int} (hl : heats.length = needs.length) : ∀ i, i ≤ needs.length → down (rooms needs heats) i = down needs i - down heats i := by
  refine down_ind _ ?_ fun i hi ih => ?_
  · rw [down_end (by rw [rooms_len hl]; omega), down_end (by omega), down_end (by omega)]; omega
  · rw [down_step (hs := rooms needs heats) (i := i) (by rw [rooms_len hl]; exact hi), down_step (hs := needs) (i := i) hi, down_step (hs := heats) (i := i) (by omega), ih, rooms_at hl hi]; omega
theorem leftAt_down (rs : List Int) (a : Int) (i : Nat) : leftAt rs a i = max 0 (a - down rs i) := rfl
theorem HeatsOk.down {needs heats : List Int} (h : HeatsOk needs heats) : ∀ i, i ≤ needs.length → 0 ≤ Tf.down heats i ∧ Tf.down heats i ≤ Tf.down needs i := by
  refine down_ind _ ?_ fun i hi ih => ?_
  · rw [down_end (by have := h.len; omega), down_end (Nat.le_refl _)]; omega
  · have hl := h.len
    have a := h.lo i hi
    have b := h.hi i hi
    rw [down_step hi, down_step (by omega)]; omega
theorem down_warm {needs heats : List Int} {a : Int} (h : HeatsOk needs heats) (ha : 0 ≤ a) : ∀ i, i ≤ needs.length → down (warmL needs heats a) i = min (down needs i) (down heats i + a) := by
  refine down_ind _ ?_ fun i hi ih => ?_
  · rw [down_end (by rw [warmL_len h.len]; omega), down_end (Nat.le_refl _), down_end (by rw [h.len]; omega)]; omega
  · have hl := h.len
    have b := h.hi i hi
    have b0 := h.lo i hi
    have d1 := h.down (i + 1) hi
    rw [down_step (by rw [warmL_len hl]; omega), ih, warmL_at hl hi, down_step hi, down_step (show i < heats.length by omega)]
    unfold shareAt
    rw [leftAt_down, down_rooms hl (i + 1) hi, rooms_at hl hi]
    omega
theorem down_cold {needs heats : List Int} {a : Int} (h : HeatsOk needs heats) (ha : 0 ≤ a) : ∀ i, i ≤ needs.length → down (coldL heats a) i = max 0 (down heats i - a) := by
  refine down_ind _ ?_ fun i hi ih => ?_
  · rw [down_end (by rw [coldL_len, h.len]; omega), down_end (by rw [h.len]; omega)]; omega
  · have hl := h.len
    have b0 := h.lo i hi
    have d1 := h.down (i + 1) hi
    rw [down_step (by rw [coldL_len]; omega), ih, coldL_at (by omega), down_step (show i < heats.length by omega)]
    unfold shareAt
    rw [leftAt_down]
    omega
theorem down_seas {needs heats : List Int} {z : Bool × Int} (h : HeatsOk needs heats) (hz : 0 ≤ z.2) {i : Nat} (hi : i ≤ needs.length) : down (seasL needs heats z) i = stepH (down needs i) (down heats i) z := by
  unfold seasL stepH
  split
  · exact down_warm h hz i hi
  · exact down_cold h hz i hi
theorem down_pass {needs heats : List Int} {ss : List (Bool × Int)} (h : HeatsOk needs heats) (hz : ∀ z ∈ ss, 0 ≤ z.2) {i : Nat} (hi : i ≤ needs.length) : down (passL needs heats ss).heats i = stepsH (down needs i) (down heats i) ss := by
  have go : ∀ (ss : List (Bool × Int)) (s : Sums), (∀ z ∈ ss, 0 ≤ z.2) → HeatsOk needs s.heats → down (ss.foldl (stepS needs) s).heats i = stepsH (down needs i) (down s.heats i) ss := by
    intro ss
    induction ss with
    | nil => intro s _ _; rfl
    | cons z ss ih =>
      intro s hz h
      have h1 := ih (stepS needs s z) (fun y hy => hz y (List.mem_cons_of_mem _ hy)) (h.seas z)
      rw [List.foldl_cons, h1]
      show stepsH _ (down (seasL needs s.heats z) i) ss = stepsH _ (stepH _ _ z) ss
      rw [down_seas h (hz z (List.mem_cons_self ..)) hi]
  exact go ss _ hz h
theorem down_ext {a b : List Int} (hl : a.length = b.length) (h : ∀ i, i ≤ a.length → down a i = down b i) : a = b := by
  refine List.ext_getElem hl fun i h1 h2 => ?_
  have e1 := h i (by omega)
  have e2 := h (i + 1) h1
  rw [down_step h1, down_step h2, e2] at e1
  have g1 : a.getD i 0 = a[i] := by rw [List.getD_eq_getElem?_getD, List.getElem?_eq_getElem h1]; rfl
  have g2 : b.getD i 0 = b[i] := by rw [List.getD_eq_getElem?_getD, List.getElem?_eq_getElem h2]; rfl
  rw [g1, g2] at e1
  omega
theorem seasLeft_down {needs heats : List Int} {z : Bool × Int} (h : HeatsOk needs heats) : seasLeft needs heats z = if z.1 = true then max 0 (z.2 - (down needs 0 - down heats 0)) else max 0 (z.2 - down heats 0) := by
  unfold seasLeft
  split
  · rw [leftAt_down, down_rooms h.len 0 (Nat.zero_le _)]
  · rw [leftAt_down]
end Tf
namespace Tf
def yearsH (full h : Int) (ss : List (Bool × Int)) : Nat → Int
  | 0 => h
  | n + 1 => stepsH full (yearsH full h ss n) ss
theorem yearsH_in {full h : Int} {ss : List (Bool × Int)} (hz : ∀ z ∈ ss, 0 ≤ z.2) (h0 : 0 ≤ h) (h1 : h ≤ full) : ∀ n, 0 ≤ yearsH full h ss n ∧ yearsH full h ss n ≤ full
  | 0 => ⟨h0, h1⟩
  | n + 1 => stepsH_in hz (yearsH_in hz h0 h1 n).1 (yearsH_in hz h0 h1 n).2
theorem rep_ap {full h : Int} {ss : List (Bool × Int)} (hf : 0 ≤ full) (hz : ∀ z ∈ ss, 0 ≤ z.2) (h0 : 0 ≤ h) (h1 : h ≤ full) : ∀ n, ((rowR full ss).rep n).ap h = yearsH full h ss (n + 1)
  | 0 => rowR_ap hz h0 h1
  | n + 1 => by
    have i := yearsH_in hz h0 h1 (n + 1)
    show (((rowR full ss).rep n).jn (rowR full ss)).ap h = _
    rw [Rl.ap_jn (Rl.rep_ok (rowR_ok hf ss) n) (rowR_ok hf ss), rep_ap hf hz h0 h1 n, rowR_ap hz i.1 i.2]
    rfl
end Tf

namespace Tf
open PySem L2
structure RulesAt (H : Hp) (ts : List Addr) (Rs : List Rl) : Prop where
  len : ts.length = Rs.length
  at' : ∀ (i : Nat) (R : Rl), Rs[i]? = some R → ∃ t, ts[i]? = some t ∧ H t = some (.tup R.vs)
theorem RulesAt.same {H H' : Hp} {ts : List Addr} {Rs : List Rl} (S : RulesAt H ts Rs) (h : Same H H') : RulesAt H' ts Rs :=
  ⟨S.len, fun i z e => let ⟨t, e1, e2⟩ := S.at' i z e; ⟨t, e1, h _ _ e2⟩⟩
theorem RulesAt.nil (H : Hp) : RulesAt H [] [] := ⟨rfl, fun i z e => by simp at e⟩
theorem RulesAt.snoc {H : Hp} {ts : List Addr} {ss : List Rl} (S : RulesAt H ts ss) {t : Addr} {z : Rl} (h : H t = some (.tup z.vs)) : RulesAt H (ts ++ [t]) (ss ++ [z]) := by
  refine ⟨by simp [S.len], fun i y e => ?_⟩
  by_cases hi : i < ss.length
  · rw [List.getElem?_append_left hi] at e
    obtain ⟨t', e1, e2⟩ := S.at' i y e
    exact ⟨t', by rw [List.getElem?_append_left (by rw [S.len]; exact hi)]; exact e1, e2⟩
  · rw [List.getElem?_append_right (by omega)] at e
    have hi0 : i - ss.length = 0 := by
      have := (List.getElem?_eq_some_iff.mp e).1
      simp at this
      omega
    rw [hi0] at e
    have e : z = y := by simpa using e
    subst e
    refine ⟨t, ?_, h⟩
    rw [List.getElem?_append_right (by rw [S.len]; omega), S.len, hi0]
    rfl
theorem RulesAt.ix {H : Hp} {ts : List Addr} {Rs : List Rl} (S : RulesAt H ts Rs) {i : Nat} {R : Rl} (h : Rs[i]? = some R) : ∃ t, atI (ts.map V.ref) (i : Int) = some (.ref t) ∧ H t = some (.tup R.vs) := by
  obtain ⟨t, e1, e2⟩ := S.at' i R h
  exact ⟨t, atI_nat (by rw [List.getElem?_map, e1]; rfl), e2⟩
end Tf
namespace Tf
open PySem L2
theorem cut_dropG {xs : List V} {k : Nat} : cutV xs (some (k : Int)) none = xs.drop k := by
  by_cases h : k ≤ xs.length
  · exact cut_drop h
  · rw [List.drop_of_length_le (by omega)]
    have e : HT.sIx xs.length 0 (some (k : Int)) = xs.length := by
      simp only [HT.sIx]
      rw [if_neg (by omega)]
      omega
    unfold cutV
    rw [e, List.drop_length, List.take_nil]
theorem cut_takeG {xs : List V} {k : Nat} : cutV xs none (some (k : Int)) = xs.take k := by
  by_cases h : k ≤ xs.length
  · exact cut_take h
  · rw [List.take_of_length_le (by omega)]
    have e : HT.sIx xs.length xs.length (some (k : Int)) = xs.length := by
      simp only [HT.sIx]
      rw [if_neg (by omega)]
      omega
    unfold cutV
    rw [e]
    simp [HT.sIx]
end Tf

namespace Tf
open PySem L2
/-! ### years that come again, over the beds -/
def yearsL (needs heats : List Int) (ss : List (Bool × Int)) : Nat → Sums
  | 0 => ⟨heats, 0, 0⟩
  | n + 1 => ss.foldl (stepS needs) (yearsL needs heats ss n)
theorem fold_ok {needs : List Int} : ∀ (ss : List (Bool × Int)) (s : Sums), HeatsOk needs s.heats → HeatsOk needs (ss.foldl (stepS needs) s).heats := by
  intro ss
  induction ss with
  | nil => intro s h; exact h
  | cons z ss ih => intro s h; exact ih _ (h.seas z)
theorem yearsL_ok {needs heats : List Int} (h : HeatsOk needs heats) (ss : List (Bool × Int)) : ∀ n, HeatsOk needs (yearsL needs heats ss n).heats
  | 0 => h
  | n + 1 => fold_ok ss _ (yearsL_ok h ss n)
theorem down_fold {needs : List Int} {i : Nat} (hi : i ≤ needs.length) : ∀ (ss : List (Bool × Int)) (s : Sums), (∀ z ∈ ss, 0 ≤ z.2) → HeatsOk needs s.heats → down (ss.foldl (stepS needs) s).heats i = stepsH (down needs i) (down s.heats i) ss := by
  intro ss
  induction ss with
  | nil => intro s _ _; rfl
  | cons z ss ih =>
    intro s hz h
    have h1 := ih (stepS needs s z) (fun y hy => hz y (List.mem_cons_of_mem _ hy)) (h.seas z)
    rw [List.foldl_cons, h1]
    show stepsH _ (down (seasL needs s.heats z) i) ss = stepsH _ (stepH _ _ z) ss
    rw [down_seas h (hz z (List.mem_cons_self ..)) hi]
theorem down_years {needs heats : List Int} {ss : List (Bool × Int)} (h : HeatsOk needs heats) (hz : ∀ z ∈ ss, 0 ≤ z.2) {i : Nat} (hi : i ≤ needs.length) : ∀ n, down (yearsL needs heats ss n).heats i = yearsH (down needs i) (down heats i) ss n
  | 0 => rfl
  | n + 1 => by
    show down (ss.foldl (stepS needs) (yearsL needs heats ss n)).heats i = stepsH _ (yearsH _ _ ss n) ss
    rw [down_fold hi ss _ hz (yearsL_ok h ss n), down_years h hz hi n]
end Tf
namespace Tf
open PySem L2
theorem yearsH_mid {full h : Int} {ss : List (Bool × Int)} (hf : 0 ≤ full) (hz : ∀ z ∈ ss, 0 ≤ z.2) (h0 : 0 ≤ h) (h1 : h ≤ full) : ∀ n : Nat, yearsH full h ss (n + 1) = clampI (stepsH full h ss + n * addS ss) (stepsH full 0 ss) (stepsH full full ss)
  | 0 => by
    have a := stepsH_mono (full := full) ss h0
    have b := stepsH_mono (full := full) ss h1
    show stepsH full h ss = _
    rw [show (((0 : Nat) : Int)) * addS ss = 0 by rw [show (((0 : Nat) : Int)) = 0 from rfl, Int.zero_mul]]
    unfold clampI
    repeat' split
    all_goals omega
  | n + 1 => by
    have ih := yearsH_mid hf hz h0 h1 n
    have i := yearsH_in hz h0 h1 (n + 1)
    have a := stepsH_mono (full := full) ss h0
    have b := stepsH_mono (full := full) ss h1
    have e3 : ((n + 1 : Nat) : Int) * addS ss = n * addS ss + addS ss := by rw [show ((n + 1 : Nat) : Int) = (n : Int) + 1 by omega, Int.add_mul, Int.one_mul]
    have e4 : (0 ≤ addS ss → 0 ≤ (n : Int) * addS ss) ∧ (addS ss ≤ 0 → (n : Int) * addS ss ≤ 0) := by
      refine ⟨fun h => Int.mul_nonneg (by omega) h, fun h => ?_⟩
      have : 0 ≤ (n : Int) * (-addS ss) := Int.mul_nonneg (by omega) (by omega)
      rw [Int.mul_neg] at this; omega
    show stepsH full (yearsH full h ss (n + 1)) ss = _
    rw [← rowR_ap hz i.1 i.2, ih, e3]
    show clampI (clampI _ _ _ + addS ss) (stepsH full 0 ss) (stepsH full full ss) = _
    generalize (n : Int) * addS ss = z at *
    generalize stepsH full h ss = y at *
    generalize stepsH full 0 ss = l at *
    generalize stepsH full full ss = m at *
    generalize addS ss = d at *
    unfold clampI
    repeat' split
    all_goals omega
def farL (needs heats : List Int) (ss : List (Bool × Int)) (many some : Nat) : List Int := ((ss.take some).foldl (stepS needs) (yearsL needs heats ss many)).heats
theorem farL_ok {needs heats : List Int} (h : HeatsOk needs heats) (ss : List (Bool × Int)) (many some : Nat) : HeatsOk needs (farL needs heats ss many some) := fold_ok _ _ (yearsL_ok h ss many)
theorem down_far {needs heats : List Int} {ss : List (Bool × Int)} (h : HeatsOk needs heats) (hz : ∀ z ∈ ss, 0 ≤ z.2) (many some : Nat) {i : Nat} (hi : i ≤ needs.length) :
    down (farL needs heats ss many some) i = stepsH (down needs i) (yearsH (down needs i) (down heats i) ss many) (ss.take some) := by
  unfold farL
  rw [down_fold hi _ _ (fun z hz' => hz z (List.mem_of_mem_take hz')) (yearsL_ok h ss many), down_years h hz hi]
theorem down_diff {hs : List Int} {n : Nat} (hl : hs.length = n) : (List.range n).map (fun i => down hs i - down hs (i + 1)) = hs := by
  refine List.ext_getElem (by simp [hl]) fun i h1 h2 => ?_
  rw [List.getElem_map, List.getElem_range, down_step h2, List.getD_eq_getElem?_getD, List.getElem?_eq_getElem h2]
  show hs[i] + _ - _ = hs[i]
  omega
end Tf

namespace Tf
open PySem L2
/-! ### the resting year -/
theorem yearsH_rest {full h S : Int} {ss : List (Bool × Int)} (hf : 0 ≤ full) (hS : full ≤ S) (hz : ∀ z ∈ ss, 0 ≤ z.2) (h0 : 0 ≤ h) (h1 : h ≤ full) {n : Nat} (hn : S ≤ (n : Int)) : yearsH full h ss (n + 2) = yearsH full h ss (n + 1) := by
  rw [yearsH_mid hf hz h0 h1 (n + 1), yearsH_mid hf hz h0 h1 n]
  have a := stepsH_mono (full := full) ss h0
  have b := stepsH_mono (full := full) ss h1
  have c := stepsH_in (full := full) hz (Int.le_refl 0) hf
  have d := stepsH_in (full := full) hz hf (Int.le_refl full)
  have e3 : ((n + 1 : Nat) : Int) * addS ss = n * addS ss + addS ss := by rw [show ((n + 1 : Nat) : Int) = (n : Int) + 1 by omega, Int.add_mul, Int.one_mul]
  have e4 : (1 ≤ addS ss → (n : Int) ≤ (n : Int) * addS ss) ∧ (addS ss ≤ -1 → (n : Int) * addS ss ≤ -(n : Int)) ∧ (addS ss = 0 → (n : Int) * addS ss = 0) := by
    refine ⟨fun h => ?_, fun h => ?_, fun h => by rw [h, Int.mul_zero]⟩
    · have := Int.mul_le_mul_of_nonneg_left h (show (0 : Int) ≤ (n : Int) by omega)
      rw [Int.mul_one] at this; exact this
    · have := Int.mul_le_mul_of_nonneg_left h (show (0 : Int) ≤ (n : Int) by omega)
      rw [Int.mul_neg, Int.mul_one] at this; exact this
  rw [e3]
  generalize (n : Int) * addS ss = z at *
  generalize stepsH full h ss = y at *
  generalize stepsH full 0 ss = l at *
  generalize stepsH full full ss = m at *
  generalize addS ss = d at *
  unfold clampI
  repeat' split
  all_goals omega
theorem HeatsOk.needs {needs heats : List Int} (h : HeatsOk needs heats) : HeatsOk needs needs := ⟨rfl, fun i hi => by have a := h.lo i hi; have b := h.hi i hi; omega, fun i hi => Int.le_refl _⟩
theorem down_le {needs : List Int} (h : HeatsOk needs needs) : ∀ i, i ≤ needs.length → down needs i ≤ down needs 0 := by
  intro i
  induction i with
  | zero => intro _; exact Int.le_refl _
  | succ i ih =>
    intro hi
    have := ih (by omega)
    rw [down_step (hs := needs) (i := i) (by omega)] at this
    have := h.lo i (by omega)
    omega
structure IsRest (needs heats : List Int) (ss : List (Bool × Int)) (r : Nat) : Prop where
  lo : 1 ≤ r
  rest : (yearsL needs heats ss r).heats = (yearsL needs heats ss (r - 1)).heats
  first : 2 ≤ r → (yearsL needs heats ss (r - 1)).heats ≠ (yearsL needs heats ss (r - 2)).heats
end Tf

namespace PySem
theorem F.lri_no_len : typeLookup (Value.type "list_reverseiterator") (Str.ofString "__len__") = pure none := by
  rw [typeLookup_type, builtinLookup_eq_fast]; rfl
theorem F.lri_hint : typeLookup (Value.type "list_reverseiterator") (Str.ofString "__length_hint__") = pure (some (.builtin "list_reverseiterator.__length_hint__")) := by
  rw [typeLookup_type, builtinLookup_eq_fast]; rfl
theorem F.sub_lri_self : isSubtype (.type "list_reverseiterator") (.type "list_reverseiterator") = pure true := by
  rw [isSubtype_type]; rfl
theorem wpAny_extend_rev {prog : Program} {w : World} {A : Around} {s : Shared} {R : Result → Shared → Prop} {I : Addr} {fp wr : List Addr} {G : Array GenState → Array GenState → Prop} {n : Nat} {P : Nat → Value → Prop} {St : Nat → Shared → Prop}
    (W : WalksS prog w (Around.in1 A) I fp wr G n P St) (hT : ∀ i s, St i s → Shared.TypeIs s (.ref I) "list_reverseiterator") (S : Addr) (res : Value) (c₀ : Nat) (hst : St 0 s) (hSf : S ∉ fp) (hI : I ∈ fp)
    (hS : s.heap.get? S = some { cls := .type "list", data := .seq #[] c₀ })
    (hR : ∀ (s' : Shared) (acc' : Array Value) (c' : Nat), Moved (S :: wr) G s s' → s'.heap.get? S = some { cls := .type "list", data := .seq acc' c' } → ItemsOf P acc' n → R (.ok (.ret res)) s') (hn : n ≤ sizeLine) :
    wpAny (model prog w) (Around.in1 A) (Builtin.List.listExtendWith (.ref S) (.ref I) res)
      (fun fin s' => match fin with | .done f => R (.ok f) s' | .again c' => c'.quiet = true ∧ codeAny (model prog w) A c' R s') (fun e s' => R (.error e) s') s := by
  have hSI : S ≠ I := fun e => hSf (e ▸ hI)
  unfold Builtin.List.listExtendWith
  refine wpAny_bind (wpAny_typeOf (hT 0 s hst) ?_)
  have h1 : Builtin.List.listSameRef (.ref S) (.ref I) = false := by
    show (S == I) = false
    simp [hSI]
  rw [h1]
  simp only [show (Value.type "list_reverseiterator" == Value.type "list") = false by decide, show (Value.type "list_reverseiterator" == Value.type "tuple") = false by decide, Bool.or_false, Bool.false_eq_true, if_false]
  refine wpAny_bind (W.self 0 s _ _ hst ?_)
  refine wpAny_bind (wpAny_holding ?_)
  unfold Builtin.List.listLengthHint
  refine wpAny_bind (wpAny_specialOf (hT 0 s hst) F.lri_no_len ?_)
  refine wpAny_ite_false rfl ?_
  refine wpAny_ite_false rfl ?_
  refine wpAny_bind (wpAny_specialOf (hT 0 s hst) F.lri_hint ?_)
  dsimp only
  rw [show splitId "list_reverseiterator.__length_hint__" = some ("list_reverseiterator", "__length_hint__") by rfl]
  dsimp only
  refine wpAny_bind (wpAny_isInstance (hT 0 s hst) F.sub_lri_self ?_)
  refine wpAny_ite_false rfl ?_
  refine wpAny_ite_true rfl ?_
  refine wpAny_ite_false rfl ?_
  refine wpAny_pure ?_
  refine wpAny_ite_false rfl ?_
  refine wpAny_pure ⟨plainId_quiet F.plain_extend_loop { pos := [.ref S, .ref I, res] }, ?_⟩
  exact codeAny_extend_loopS W hn S hSf res n 0 s #[] c₀ rfl (Nat.zero_le n) hst hS (ItemsOf.nil P) hR
theorem wpAny_list_init_rev {prog : Program} {w : World} {A : Around} {s : Shared} {R : Result → Shared → Prop} {I : Addr} {fp wr : List Addr} {G : Array GenState → Array GenState → Prop} {n : Nat} {P : Nat → Value → Prop} {St : Nat → Shared → Prop}
    (W : WalksS prog w (Around.in1 A) I fp wr G n P St) (hT : ∀ i s, St i s → Shared.TypeIs s (.ref I) "list_reverseiterator") (S : Addr) (hst : St 0 s) (hSf : S ∉ fp) (hI : I ∈ fp)
    (hS : s.heap.get? S = some { cls := .type "list", data := .seq #[] })
    (hR : ∀ (s' : Shared) (acc' : Array Value) (c' : Nat), Moved (S :: wr) G s s' → s'.heap.get? S = some { cls := .type "list", data := .seq acc' c' } → ItemsOf P acc' n → R (.ok (.ret .none)) s') (hn : n ≤ sizeLine) :
    wpAny (model prog w) (Around.in1 A) (Builtin.«list.__init__» { pos := [.ref S, .ref I] })
      (fun fin s' => match fin with | .done f => R (.ok f) s' | .again c' => c'.quiet = true ∧ codeAny (model prog w) A c' R s') (fun e s' => R (.error e) s') s := by
  refine wpAny_bind (wpAny_bind (wpAny_seqItems hS rfl (wpAny_pure (wpAny_bind (wpAny_updateSeq hS rfl ?_ (by simp [sizeLine_eq]) (by simp [sizeLine_eq]))))))
  have hS₂ := Heap.get?_update_self (Obj.mapSeq fun (x : Array Value) => #[]) hS rfl
  have oth := fun (b : Addr) (o : Obj) (hb : b ≠ S) (e : s.heap.get? b = some o) => Eq.trans (Heap.get?_update_other s.heap (Obj.mapSeq fun (x : Array Value) => #[]) (Ne.symm hb)) e
  refine wpAny_bind (wpAny_letGo (wpAny_extend_rev W hT S .none _ (W.frame 0 s _ s.toks hst (Nat.le_refl _) fun b hb o e => oth b o (fun h => hSf (h ▸ hb)) e) hSf hI hS₂ (fun s' acc' c' hm hS' hacc => hR s' acc' c' ?_ hS' hacc) hn))
  exact Moved.trans W.gtrans (Moved.then_heap (Moved.refl W.grefl) (Nat.le_refl s.toks) fun b o hb e => oth b o (fun h => hb (h ▸ List.mem_cons_self)) e) hm
theorem call_list_rev {prog : Program} {w : World} {A : Around} {E : Value → Shared → Prop} {s : Shared} {I : Addr} {fp wr : List Addr} {G : Array GenState → Array GenState → Prop} {n : Nat} {P : Nat → Value → Prop} {St : Nat → Shared → Prop} {Q : Value → Shared → Prop}
    (W : WalksS prog w (Around.in1 (Around.in1 A)) I fp wr G n P St) (hT : ∀ i s, St i s → Shared.TypeIs s (.ref I) "list_reverseiterator") (hst : St 0 s) (hfp : ∀ b ∈ fp, b < s.heap.objs.size) (hI : I ∈ fp)
    (hQ : ∀ (s' : Shared) (acc' : Array Value) (c' : Nat), Moved (s.heap.objs.size :: wr) G { s with heap := s.heap.push { cls := .type "list", data := .seq #[] } } s' →
      s'.heap.get? s.heap.objs.size = some { cls := .type "list", data := .seq acc' c' } → ItemsOf P acc' n → Q (.ref s.heap.objs.size) s') (hn : n ≤ sizeLine) :
    wpAny (model prog w) A (call (.type "list") [.ref I]) Q E s := by
  have hSf : s.heap.objs.size ∉ fp := fun hm => Nat.lt_irrefl _ (hfp _ hm)
  refine callType_codes F.called_list (F.typeCall_list_1 (.ref I)) F.entry_list_init (code_list_new (Q₁ := fun obj s₁ => obj = .ref s.heap.objs.size ∧ s₁ = { s with heap := s.heap.push { cls := .type "list", data := .seq #[] } }) (.ref I) ⟨rfl, rfl⟩) fun obj s₁ h₁ => ?_
  obtain ⟨rfl, rfl⟩ := h₁
  have hS := Heap.get?_push_size s.heap (o := { cls := Value.type "list", data := Data.seq #[] }) rfl
  refine ⟨⟨_, hS, rfl⟩, F.args_list_init_2 _ _, ?_⟩
  exact wpAny_list_init_rev W hT s.heap.objs.size (W.frame 0 s _ s.toks hst (Nat.le_refl _) fun b _ o e => Heap.get?_push_of_some _ e) hSf hI hS (fun s' acc' c' hm hS' hacc => ⟨rfl, hQ s' acc' c' hm hS' hacc⟩) hn
end PySem
namespace L2
open PySem PySem.Spec PyProof.Rows
/-! ### reversed, over a list of n things -/
def ItRv (K : PySem.W.Frag) (a : Addr) (n : Nat) : It :=
  ⟨fun i H => ∃ xs, SqL K H a xs ∧ xs.length = n ∧ i < n, fun i H x H' => H' = H ∧ ∀ xs, SqL K H a xs → xs.length = n → xs[n - 1 - i]? = some x, fun i H => ∃ xs, SqL K H a xs ∧ xs.length = n ∧ n ≤ i⟩
theorem turn_rev {P : Program} {w : World} {K : PySem.W.Frag} {tg : Expr} (a it : Addr) (n : Nat) : Turn P w K tg (ItRv K a n) [it] it (fun i h => i ≤ n ∧ h.IsRevIter it a ((n : Int) - 1 - i)) where
  mem := by simp
  obj := fun i h st b hb => by
    have e : b = it := by simpa using hb
    subst e
    obtain ⟨_, o, e, c, d⟩ := st
    exact ⟨o, e, fun v z => by rw [d] at z; cases z⟩
  keep := fun i h h' st k => by
    obtain ⟨l, o, e, c, d⟩ := st
    exact ⟨l, o, k it (by simp) o e, c, d⟩
  item := by
    intro X hP hw hK hc i pins s σ H E I hf st hg
    subst hP hw hK
    obtain ⟨xs, hq, hl, hi⟩ := hg
    obtain ⟨its, rv, p, hz⟩ := I.list hq
    have hlen := rv.length
    obtain ⟨f0, f1, f2, f3, f4, f5⟩ := hf it (by simp)
    obtain ⟨st0, st⟩ := st
    obtain ⟨o, e, c, d⟩ := id st
    have ne : a ≠ it := SqL.ne I hq e c (by decide)
    have W := Walks.listRev (prog := X.prog) (w := X.w) (I.ok.hd hc) it a ne its.toArray
    have es : its.toArray.size = n := by rw [List.size_toArray]; omega
    rw [es] at W
    refine W.item i s _ _ hi ⟨st0, st, p.isList⟩ fun v h' tk hv st' kk => ?_
    have I1 : Inv X pins σ H { s with heap := h', toks := tk } := I.turned (fun b o hb e => kk b o (by simpa using hb) e) f0 f1 f3 f4 f5
    obtain ⟨s1, s2, s3⟩ := st'
    obtain ⟨o', e', c', d'⟩ := id s2
    have hx : ∃ x, xs[n - 1 - i]? = some x := ⟨_, List.getElem?_eq_getElem (by omega)⟩
    obtain ⟨x, hx⟩ := hx
    obtain ⟨u, hu, ru⟩ := rv.get hx
    have ev : v = u := by
      have : its[n - 1 - i]? = some v := by simpa using hv
      rw [hu] at this
      exact (Option.some.inj this).symm
    subst ev
    exact ⟨v, rfl, go_of (s := { s with heap := h', toks := tk }) e' c' d' (by decide) ⟨x, H, I1, ru, ⟨rfl, fun ys hy hl' => by rw [I.list_inj hy hq]; exact hx⟩, ⟨s1, s2⟩, fun b hb => (hf b hb).1⟩⟩
  done := by
    intro X hP hw hK hc i pins s σ H E I hf st hg
    subst hP hw hK
    obtain ⟨xs, hq, hl, hi⟩ := hg
    obtain ⟨its, rv, p, hz⟩ := I.list hq
    have hlen := rv.length
    obtain ⟨f0, f1, f2, f3, f4, f5⟩ := hf it (by simp)
    obtain ⟨st0, st⟩ := st
    obtain ⟨o, e, c, d⟩ := id st
    have ne : a ≠ it := SqL.ne I hq e c (by decide)
    have W := Walks.listRev (prog := X.prog) (w := X.w) (I.ok.hd hc) it a ne its.toArray
    have es : its.toArray.size = n := by rw [List.size_toArray]; omega
    rw [es] at W
    have ei : i = n := by omega
    subst ei
    exact W.done s _ _ ⟨st0, st, p.isList⟩ fun h' tk kk => ⟨rfl, I.turned (fun b o hb e => kk b o (by simpa using hb) e) f0 f1 f3 f4 f5⟩
  self := fun _ _ _ _ _ st h => wpAny_pyIter_revIter st.2 h
section
variable {X : Cx} {tg : Expr}
def iRev (K : PySem.W.Frag) (ta : TA) : TI := fun σ H R => ta σ H fun vs H1 => ∃ p xs, vs = [.ref p] ∧ SqL K H1 p xs ∧ R (ItRv K p xs.length) H1
theorem pi_rev {a : Expr} {ta : TA} {p pos : Pos} (hg : Gl X "reversed") (hm : X.mg "reversed" = none) (ha : PA X [a] ta) (hs : starEach [a] X.env = (false, eval a X.env) :: starEach [] X.env := by rfl) :
    PI X tg (.Call (.Name "reversed" p) [a] [] pos) (iRev X.K ta) := by
  intro pins s σ H R I h
  refine Call_ (ld_blt I hg hm boot_reversed (PyProof.Rows.callWith_type1 (thn (ha pos pins s σ H _ I h) fun us s1 ⟨vs, H1, I1, r1, q1⟩ => ?_) hs rfl))
  obtain ⟨p, xs, rfl, hq, q⟩ := q1
  obtain ⟨u, rfl, rx⟩ := vals1 r1
  cases rx
  obtain ⟨its, rv, pl, hz⟩ := I1.list hq
  have hlen := rv.length
  refine call_reversed_list pl.isList ?_
  have es : (its.toArray.size : Int) - 1 = (xs.length : Int) - 1 - (0 : Nat) := by rw [List.size_toArray]; omega
  refine wpAny_pyIter_revIter ⟨_, Heap.get?_push_size _ rfl, rfl, rfl⟩ ?_
  refine ⟨s1.heap.objs.size, [s1.heap.objs.size], _, _, H1, rfl, I1.kept (t' := s1.toks) fun b o e => Heap.get?_push_of_some _ e, turn_rev p _ xs.length, ⟨Nat.zero_le _, ⟨_, Heap.get?_push_size _ rfl, rfl, by rw [← es]; rfl⟩⟩, fun b hb => ?_, q⟩
  have e : b = s1.heap.objs.size := by simpa using hb
  subst e
  exact I1.fpOk (Nat.le_refl _) (I1.hok.fresh (Nat.le_refl _))
def tRevL (K : PySem.W.Frag) (ta : TA) : TE := fun σ H Q => ta σ H fun vs H1 => ∃ p ys, vs = [.ref p] ∧ SqL K H1 p ys ∧ ∀ l, H1 l = none → Q (.ref l) (upd H1 l (.lst ys.reverse))
theorem pe_listRev {a : Expr} {ta : TA} {p p' pos pos' : Pos} (hm : X.mg "list" = none) (hm' : X.mg "reversed" = none) (ha : PA X [a] ta) (hc : X.calm = true := by rfl) (hg : Gl X "list" := by rfl) (hg' : Gl X "reversed" := by rfl)
    (hs : starEach [a] X.env = (false, eval a X.env) :: starEach [] X.env := by rfl) (hs' : starEach [.Call (.Name "reversed" p') [a] [] pos'] X.env = (false, eval (.Call (.Name "reversed" p') [a] [] pos') X.env) :: starEach [] X.env := by rfl) :
    PE X (.Call (.Name "list" p) [.Call (.Name "reversed" p') [a] [] pos'] [] pos) (tRevL X.K ta) := by
  intro pins s σ H Q I h
  refine wpAny_Call_Name_kw (ld_blt I hg hm (show bootBuiltins "list" = some (.type "list") by decide +kernel) ?_ (by decide) (by decide))
  refine PyProof.Rows.callWith_type1 ?_ hs' rfl
  rw [hs']
  show wpAny _ _ (spliced ((false, eval (.Call (.Name "reversed" p') [a] [] pos') X.env) :: backTo pos (starEach [] X.env))) _ _ s
  refine Calls.spliced_cons ?_
  refine Call_ (ld_blt I hg' hm' boot_reversed (PyProof.Rows.callWith_type1 (thn (ha pos' pins s σ H _ I h) fun us s1 ⟨vs, H1, I1, r1, q1⟩ => ?_) hs rfl))
  obtain ⟨p, ys, rfl, hq, q⟩ := q1
  obtain ⟨u, rfl, rx⟩ := vals1 r1
  cases rx
  obtain ⟨its, rv, pl, hz⟩ := I1.list hq
  have hlen := rv.length
  refine call_reversed_list pl.isList ?_
  refine Calls.spliced_nil ?_
  have hlt : p < s1.heap.objs.size := by
    obtain ⟨o, n, e, _, _, _⟩ := pl
    exact Heap.lt_size e
  have ne : p ≠ s1.heap.objs.size := Nat.ne_of_lt hlt
  have esz : (s1.heap.push (revObj p ((its.toArray.size : Int) - 1))).objs.size = s1.heap.objs.size + 1 := Heap.size_push _ _
  have pl' : (s1.heap.push (revObj p ((its.toArray.size : Int) - 1))).IsList p its.toArray := by
    obtain ⟨o, ho, hc', n, hd⟩ := pl.isList
    exact ⟨o, Heap.get?_push_of_some _ ho, hc', n, hd⟩
  refine call_list_rev (Walks.listRev (prog := X.prog) (w := X.w) (A := X.A.in1.in1) (I1.ok.hd hc) s1.heap.objs.size p ne its.toArray).toS (fun i s2 st => st.2.1.typeIs) ⟨Nat.zero_le _, ⟨_, Heap.get?_push_size _ rfl, rfl, ?_⟩, pl'⟩ ?_ (by simp) ?_ ?_
  · show Data.fields #[.ref p, rawInt ((its.toArray.size : Int) - 1)] = Data.fields #[.ref p, rawInt ((its.toArray.size : Int) - 1 - ((0 : Nat) : Int))]
    rw [show ((its.toArray.size : Int) - 1 - ((0 : Nat) : Int)) = (its.toArray.size : Int) - 1 by omega]
  · intro b hb
    show b < (s1.heap.push (revObj p ((its.toArray.size : Int) - 1))).objs.size
    rw [esz]
    simp only [List.mem_cons, List.not_mem_nil, or_false] at hb
    rcases hb with rfl | rfl
    · exact Nat.lt_succ_self _
    · exact Nat.lt_succ_of_lt hlt
  · intro s' acc' c' hm he hi
    have eacc : acc' = its.reverse.toArray := by
      apply Array.ext
      · rw [hi.1]; simp
      · intro j h1 h2
        have h3 := hi.2 j acc'[j] (Array.getElem?_eq_getElem h1)
        have h4 : j < its.length := by simpa using h2
        have h5 : its[its.length - 1 - j]? = some acc'[j] := by simpa using h3
        rw [List.getElem?_eq_getElem (by omega)] at h5
        have h6 := Option.some.inj h5
        rw [← h6]
        simp
    subst eacc
    have hk : ∀ b u, s1.heap.get? b = some u → s'.heap.get? b = some u := fun b u e => by
      have hb : b < s1.heap.objs.size := Heap.lt_size e
      refine hm.heap b u ?_ (Heap.get?_push_of_some _ (Heap.get?_push_of_some _ e))
      simp only [List.mem_cons, List.not_mem_nil, or_false]
      rintro (z | z)
      · have z : b = (s1.heap.push (revObj p ((its.toArray.size : Int) - 1))).objs.size := z
        rw [esz] at z
        subst z
        exact Nat.lt_irrefl _ (Nat.lt_of_succ_lt hb)
      · subst z
        exact Nat.lt_irrefl _ hb
    have es : s' = { s1 with heap := s'.heap, toks := s'.toks } := by
      obtain ⟨_, hg1, hd1, ho1, _⟩ := hm
      cases s'
      simp only at hg1 hd1 ho1
      subst hg1 hd1 ho1
      rfl
    have ea : (s1.heap.push (revObj p ((its.toArray.size : Int) - 1))).objs.size = s1.heap.objs.size + 1 := esz
    have I2 := I1.laid (h' := s'.heap) (t' := s'.toks) (a := (s1.heap.push (revObj p ((its.toArray.size : Int) - 1))).objs.size) (o := .lst ys.reverse) hk (by rw [esz]; exact Nat.le_succ _) (show ObjOk X.prog X.w _ s'.heap _ (.lst ys.reverse) from ⟨by rw [List.length_reverse]; exact hz, its.reverse, c', rv.reverse, he⟩)
    rw [← es] at I2
    exact ⟨.ref _, _, I2, rfl, q _ (I1.hok.fresh (by rw [esz]; exact Nat.le_succ _))⟩
  · rw [List.size_toArray]; omega
end
theorem for_rev {K : PySem.W.Frag} {a : Addr} {xs : List V} {g : TG} {tb : TS} {D : Ends} {σ : St} {H : Hp} (Pv : Nat → St → Hp → Prop) (h0 : Pv 0 σ H) (hl : ∀ i σ H, i ≤ xs.length → Pv i σ H → SqL K H a xs)
    (hs : ∀ i x σ H, i < xs.length → xs[xs.length - 1 - i]? = some x → Pv i σ H → g x σ H fun σ2 H2 => tb { D with nx := Pv (i + 1), ct := Pv (i + 1), bk := D.nx } σ2 H2) (hd : ∀ σ H, Pv xs.length σ H → D.nx σ H) :
    ∃ W : Nat → Nat → St → Hp → Prop, (∃ m, W 0 m σ H) ∧ ∀ i m σ H, W i m σ H →
      ((ItRv K a xs.length).stop i H ∧ D.nx σ H) ∨ ((ItRv K a xs.length).go i H ∧ ∃ N : St → Hp → Prop, (∀ σ' H', N σ' H' → ∃ m', m' < m ∧ W (i + 1) m' σ' H') ∧ ∀ x H', (ItRv K a xs.length).yld i H x H' → g x σ H' fun σ2 H2 => tb { D with nx := N, ct := N, bk := D.nx } σ2 H2) := by
  refine ⟨fun i m σ H => m = xs.length - i ∧ i ≤ xs.length ∧ Pv i σ H, ⟨xs.length, by simp, Nat.zero_le _, h0⟩, ?_⟩
  rintro i m σ H ⟨rfl, hi, p⟩
  have q := hl i σ H hi p
  by_cases hlt : i < xs.length
  · refine .inr ⟨⟨xs, q, rfl, hlt⟩, Pv (i + 1), fun σ' H' p' => ⟨xs.length - (i + 1), by omega, rfl, hlt, p'⟩, fun x H' y => ?_⟩
    obtain ⟨e, y⟩ := y
    subst e
    exact hs i x σ _ hlt (y xs q rfl) p
  · have e : i = xs.length := by omega
    subst e
    exact .inl ⟨⟨xs, q, rfl, Nat.le_refl _⟩, hd σ H p⟩
theorem for_zip {K : PySem.W.Frag} {a b : Addr} {xs ys : List V} (hxy : xs.length = ys.length) {g : TG} {tb : TS} {D : Ends} {σ : St} {H : Hp} (Pv : Nat → St → Hp → Prop) (h0 : Pv 0 σ H) (hl : ∀ i σ H, i ≤ xs.length → Pv i σ H → SqL K H a xs ∧ SqL K H b ys)
    (hs : ∀ i x y t σ H, xs[i]? = some x → ys[i]? = some y → Pv i σ H → H t = none → g (.ref t) σ (upd H t (.tup [x, y])) fun σ2 H2 => tb { D with nx := Pv (i + 1), ct := Pv (i + 1), bk := D.nx } σ2 H2) (hd : ∀ σ H, Pv xs.length σ H → D.nx σ H) :
    ∃ W : Nat → Nat → St → Hp → Prop, (∃ m, W 0 m σ H) ∧ ∀ i m σ H, W i m σ H →
      ((Itz K a b).stop i H ∧ D.nx σ H) ∨ ((Itz K a b).go i H ∧ ∃ N : St → Hp → Prop, (∀ σ' H', N σ' H' → ∃ m', m' < m ∧ W (i + 1) m' σ' H') ∧ ∀ x H', (Itz K a b).yld i H x H' → g x σ H' fun σ2 H2 => tb { D with nx := N, ct := N, bk := D.nx } σ2 H2) := by
  refine ⟨fun i m σ H => m = xs.length - i ∧ i ≤ xs.length ∧ Pv i σ H, ⟨xs.length, by simp, Nat.zero_le _, h0⟩, ?_⟩
  rintro i m σ H ⟨rfl, hi, p⟩
  obtain ⟨q1, q2⟩ := hl i σ H hi p
  by_cases hlt : i < xs.length
  · refine .inr ⟨⟨xs, ys, xs[i], ys[i]'(by omega), q1, q2, by simp [hlt], by simp [show i < ys.length by omega]⟩, Pv (i + 1), fun σ' H' p' => ⟨xs.length - (i + 1), by omega, rfl, hlt, p'⟩, fun x H' y => ?_⟩
    obtain ⟨t, u, v, rfl, ht, rfl, y1, y2⟩ := y
    exact hs i u v t σ H (y1 xs q1) (y2 ys q2) p ht
  · have e : i = xs.length := by omega
    subst e
    exact .inl ⟨⟨xs, ys, q1, q2, .inl (Nat.le_refl _)⟩, hd σ H p⟩
end L2

namespace Tf
open PySem L2
/-! ### the sums from each place on -/
def downs (ns : List Int) : List Int := (List.range ns.length).map (down ns)
def downsUp (ns : List Int) (i : Nat) : List Int := (List.range i).map fun j => down ns (ns.length - (j + 1))
theorem downsUp_len (ns : List Int) (i : Nat) : (downsUp ns i).length = i := by unfold downsUp; rw [List.length_map, List.length_range]
theorem downsUp_succ (ns : List Int) (i : Nat) : downsUp ns (i + 1) = downsUp ns i ++ [down ns (ns.length - (i + 1))] := by unfold downsUp; rw [List.range_succ, List.map_append]; rfl
theorem downs_len (ns : List Int) : (downs ns).length = ns.length := by unfold downs; rw [List.length_map, List.length_range]
theorem downsUp_rev (ns : List Int) : (downsUp ns ns.length).reverse = downs ns := by
  unfold downsUp downs
  apply List.ext_getElem
  · simp
  · intro i h1 h2
    simp only [List.length_map, List.length_range] at h2
    simp only [List.getElem_reverse, List.getElem_map, List.getElem_range, List.length_map, List.length_range]
    congr 1
    omega
theorem downs_get {ns : List Int} {i : Nat} (h : i < ns.length) : (downs ns)[i]? = some (down ns i) := by
  unfold downs; rw [List.getElem?_map, List.getElem?_range h]; rfl
theorem downs_diff {R : List Int} (h : 1 ≤ R.length) : List.zipWith (fun d a => d - a) (downs R) ((downs R).drop 1 ++ [0]) = R := by
  have e : (downs R).drop 1 ++ [0] = (List.range R.length).map fun i => down R (i + 1) := by
    apply List.ext_getElem
    · rw [List.length_append, List.length_drop, downs_len, List.length_map, List.length_range]; show _ - 1 + 1 = _; omega
    · intro i h1 h2
      rw [List.length_map, List.length_range] at h2
      rw [List.getElem_map, List.getElem_range, List.getElem_append]
      have hd : ((downs R).drop 1).length = R.length - 1 := by rw [List.length_drop, downs_len]
      split
      · rename_i h3
        rw [hd] at h3
        rw [List.getElem_drop]
        unfold downs
        rw [List.getElem_map, List.getElem_range, Nat.add_comm]
      · rename_i h3
        rw [hd] at h3
        rw [down_end (by omega)]
        simp
  rw [e]
  unfold downs
  rw [List.zipWith_map_left, List.zipWith_map_right, List.zipWith_self]
  exact down_diff rfl
end Tf

namespace Tf
open PySem L2
/-! ### what finds no room and no heat, by the heat of all beds alone -/
def mR (F : Int) : Int → List (Bool × Int) → Int
  | _, [] => 0
  | x, z :: ss => (if z.1 = true then max 0 (z.2 - (F - x)) else 0) + mR F (stepH F x z) ss
def mH (F : Int) : Int → List (Bool × Int) → Int
  | _, [] => 0
  | x, z :: ss => (if z.1 = true then 0 else max 0 (z.2 - x)) + mH F (stepH F x z) ss
theorem mR_nonneg (F : Int) : ∀ (ss : List (Bool × Int)) (x : Int), 0 ≤ mR F x ss
  | [], _ => Int.le_refl 0
  | z :: ss, x => by
    have := mR_nonneg F ss (stepH F x z)
    show 0 ≤ (if z.1 = true then max 0 (z.2 - (F - x)) else 0) + mR F (stepH F x z) ss
    split <;> omega
theorem mH_nonneg (F : Int) : ∀ (ss : List (Bool × Int)) (x : Int), 0 ≤ mH F x ss
  | [], _ => Int.le_refl 0
  | z :: ss, x => by
    have := mH_nonneg F ss (stepH F x z)
    show 0 ≤ (if z.1 = true then 0 else max 0 (z.2 - x)) + mH F (stepH F x z) ss
    split <;> omega
theorem stepsH_cons (full h : Int) (z : Bool × Int) (ss : List (Bool × Int)) : stepsH full h (z :: ss) = stepsH full (stepH full h z) ss := rfl
theorem addS_cons (z : Bool × Int) (ss : List (Bool × Int)) : addS (z :: ss) = (if z.1 = true then z.2 else -z.2) + addS ss := by
  have := addS_append [z] ss
  rw [show [z] ++ ss = z :: ss from rfl] at this
  rw [this]
  congr 1
  show (0 : Int) + _ = _
  rw [Int.zero_add]
theorem miss_bal {F : Int} : ∀ (ss : List (Bool × Int)) (x : Int), (∀ z ∈ ss, 0 ≤ z.2) → 0 ≤ x → x ≤ F → stepsH F x ss = x + addS ss - mR F x ss + mH F x ss
  | [], x, _, _, _ => by show x = x + 0 - 0 + 0; omega
  | z :: ss, x, hz, h0, h1 => by
    have hz0 := hz z (List.mem_cons_self ..)
    have hi := stepH_in hz0 h0 h1
    have ih := miss_bal ss (stepH F x z) (fun y hy => hz y (List.mem_cons_of_mem _ hy)) hi.1 hi.2
    rw [stepsH_cons, ih, addS_cons]
    show _ = x + _ - ((if z.1 = true then max 0 (z.2 - (F - x)) else 0) + mR F (stepH F x z) ss) + ((if z.1 = true then 0 else max 0 (z.2 - x)) + mH F (stepH F x z) ss)
    generalize mR F (stepH F x z) ss = a
    generalize mH F (stepH F x z) ss = b
    unfold stepH
    split <;> omega
theorem miss_room {F : Int} : ∀ (ss : List (Bool × Int)) (x : Int), (∀ z ∈ ss, 0 ≤ z.2) → 0 ≤ x → x ≤ F → 0 < mR F x ss → stepsH F x ss = stepsH F F ss
  | [], x, _, _, _, h => absurd h (by show ¬ (0 : Int) < 0; omega)
  | z :: ss, x, hz, h0, h1, h => by
    have hz0 := hz z (List.mem_cons_self ..)
    have hi := stepH_in hz0 h0 h1
    have hF := stepH_in hz0 (Int.le_trans h0 h1) (Int.le_refl F)
    have h : 0 < (if z.1 = true then max 0 (z.2 - (F - x)) else 0) + mR F (stepH F x z) ss := h
    rw [stepsH_cons, stepsH_cons]
    by_cases hp : 0 < mR F (stepH F x z) ss
    · have ih := miss_room ss (stepH F x z) (fun y hy => hz y (List.mem_cons_of_mem _ hy)) hi.1 hi.2 hp
      have m1 := stepsH_mono (full := F) ss (stepH_mono (full := F) (z := z) h1)
      have m2 := stepsH_mono (full := F) ss hF.2
      omega
    · have h0' := mR_nonneg F ss (stepH F x z)
      have e : stepH F x z = stepH F F z := by
        unfold stepH
        by_cases hw : z.1 = true
        · rw [if_pos hw] at h ⊢
          rw [if_pos hw]
          omega
        · rw [if_neg hw] at h
          omega
      rw [e]
theorem miss_heat {F : Int} : ∀ (ss : List (Bool × Int)) (x : Int), (∀ z ∈ ss, 0 ≤ z.2) → 0 ≤ x → x ≤ F → 0 < mH F x ss → stepsH F x ss = stepsH F 0 ss
  | [], x, _, _, _, h => absurd h (by show ¬ (0 : Int) < 0; omega)
  | z :: ss, x, hz, h0, h1, h => by
    have hz0 := hz z (List.mem_cons_self ..)
    have hi := stepH_in hz0 h0 h1
    have hF := stepH_in hz0 (Int.le_refl 0) (Int.le_trans h0 h1)
    have h : 0 < (if z.1 = true then 0 else max 0 (z.2 - x)) + mH F (stepH F x z) ss := h
    rw [stepsH_cons, stepsH_cons]
    by_cases hp : 0 < mH F (stepH F x z) ss
    · have ih := miss_heat ss (stepH F x z) (fun y hy => hz y (List.mem_cons_of_mem _ hy)) hi.1 hi.2 hp
      have m1 := stepsH_mono (full := F) ss (stepH_mono (full := F) (z := z) h0)
      have m2 := stepsH_mono (full := F) ss hF.1
      omega
    · have h0' := mH_nonneg F ss (stepH F x z)
      have e : stepH F x z = stepH F 0 z := by
        unfold stepH
        by_cases hw : z.1 = true
        · rw [if_pos hw] at h
          omega
        · rw [if_neg hw] at h ⊢
          rw [if_neg hw]
          omega
      rw [e]
theorem fold_room {needs : List Int} : ∀ (ss : List (Bool × Int)) (s : Sums), (∀ z ∈ ss, 0 ≤ z.2) → HeatsOk needs s.heats → (ss.foldl (stepS needs) s).room = s.room + mR (down needs 0) (down s.heats 0) ss ∧ (ss.foldl (stepS needs) s).heat = s.heat + mH (down needs 0) (down s.heats 0) ss
  | [], s, _, _ => ⟨(Int.add_zero _).symm, (Int.add_zero _).symm⟩
  | z :: ss, s, hz, h => by
    have hz0 := hz z (List.mem_cons_self ..)
    obtain ⟨a, b⟩ := fold_room ss (stepS needs s z) (fun y hy => hz y (List.mem_cons_of_mem _ hy)) (h.seas z)
    have e : down (stepS needs s z).heats 0 = stepH (down needs 0) (down s.heats 0) z := down_seas h hz0 (Nat.zero_le _)
    rw [List.foldl_cons, a, b, e]
    show (if z.1 = true then s.room + seasLeft needs s.heats z else s.room) + _ = s.room + ((if z.1 = true then max 0 (z.2 - (down needs 0 - down s.heats 0)) else 0) + _) ∧ (if z.1 = true then s.heat else s.heat + seasLeft needs s.heats z) + _ = s.heat + ((if z.1 = true then 0 else max 0 (z.2 - down s.heats 0)) + _)
    rw [seasLeft_down h]
    by_cases hw : z.1 = true
    · rw [if_pos hw, if_pos hw, if_pos hw, if_pos hw, if_pos hw]; omega
    · rw [if_neg hw, if_neg hw, if_neg hw, if_neg hw, if_neg hw]; omega
theorem fold_heats {needs : List Int} : ∀ (ss : List (Bool × Int)) (s t : Sums), s.heats = t.heats → (ss.foldl (stepS needs) s).heats = (ss.foldl (stepS needs) t).heats
  | [], _, _, e => e
  | z :: ss, s, t, e => fold_heats ss _ _ (by show seasL needs s.heats z = seasL needs t.heats z; rw [e])
theorem years_shift {needs heats : List Int} {ss : List (Bool × Int)} (h : HeatsOk needs heats) (hz : ∀ z ∈ ss, 0 ≤ z.2) : ∀ n, (yearsL needs heats ss (n + 1)).heats = (yearsL needs (passL needs heats ss).heats ss n).heats ∧
    (yearsL needs heats ss (n + 1)).room = (passL needs heats ss).room + (yearsL needs (passL needs heats ss).heats ss n).room ∧ (yearsL needs heats ss (n + 1)).heat = (passL needs heats ss).heat + (yearsL needs (passL needs heats ss).heats ss n).heat
  | 0 => ⟨rfl, (Int.add_zero _).symm, (Int.add_zero _).symm⟩
  | n + 1 => by
    obtain ⟨a, b, c⟩ := years_shift h hz n
    have h1 := yearsL_ok h ss (n + 1)
    have h2 := yearsL_ok (passL_ok h ss) ss n
    obtain ⟨b1, c1⟩ := fold_room ss (yearsL needs heats ss (n + 1)) hz h1
    obtain ⟨b2, c2⟩ := fold_room ss (yearsL needs (passL needs heats ss).heats ss n) hz h2
    refine ⟨fold_heats ss _ _ a, ?_, ?_⟩
    · show (ss.foldl (stepS needs) (yearsL needs heats ss (n + 1))).room = _ + (ss.foldl (stepS needs) (yearsL needs (passL needs heats ss).heats ss n)).room
      rw [b1, b2, b, a]; omega
    · show (ss.foldl (stepS needs) (yearsL needs heats ss (n + 1))).heat = _ + (ss.foldl (stepS needs) (yearsL needs (passL needs heats ss).heats ss n)).heat
      rw [c1, c2, c, a]; omega
theorem years_miss {needs heats : List Int} {ss : List (Bool × Int)} (h : HeatsOk needs heats) (hz : ∀ z ∈ ss, 0 ≤ z.2) (hl : stepsH (down needs 0) 0 ss ≤ down heats 0) (hm : down heats 0 ≤ stepsH (down needs 0) (down needs 0) ss) (n : Nat) :
    (stepsH (down needs 0) 0 ss = stepsH (down needs 0) (down needs 0) ss → (yearsL needs heats ss n).room = n * (passL needs heats ss).room ∧ (yearsL needs heats ss n).heat = n * (passL needs heats ss).heat) ∧
    (stepsH (down needs 0) 0 ss ≠ stepsH (down needs 0) (down needs 0) ss → (yearsL needs heats ss n).room = max (down heats 0 + n * addS ss - yearsH (down needs 0) (down heats 0) ss n) 0 ∧ (yearsL needs heats ss n).heat = max (-(down heats 0 + n * addS ss - yearsH (down needs 0) (down heats 0) ss n)) 0) := by
  have d := h.down 0 (Nat.zero_le _)
  have hF : 0 ≤ down needs 0 := Int.le_trans d.1 d.2
  have pr := fold_room ss ⟨heats, 0, 0⟩ hz h
  have pr1 : (passL needs heats ss).room = mR (down needs 0) (down heats 0) ss := by have := pr.1; rw [Int.zero_add] at this; exact this
  have pr2 : (passL needs heats ss).heat = mH (down needs 0) (down heats 0) ss := by have := pr.2; rw [Int.zero_add] at this; exact this
  have dy : ∀ n, down (yearsL needs heats ss n).heats 0 = yearsH (down needs 0) (down heats 0) ss n := down_years h hz (Nat.zero_le _)
  have step : ∀ n, (yearsL needs heats ss (n + 1)).room = (yearsL needs heats ss n).room + mR (down needs 0) (yearsH (down needs 0) (down heats 0) ss n) ss ∧ (yearsL needs heats ss (n + 1)).heat = (yearsL needs heats ss n).heat + mH (down needs 0) (yearsH (down needs 0) (down heats 0) ss n) ss := fun n => by
    have := fold_room ss (yearsL needs heats ss n) hz (yearsL_ok h ss n)
    rw [dy n] at this
    exact this
  generalize down needs 0 = F at *
  generalize down heats 0 = x at *
  have hy := yearsH_in (full := F) (h := x) hz d.1 d.2
  have hb : ∀ n, stepsH F 0 ss ≤ yearsH F x ss n ∧ yearsH F x ss n ≤ stepsH F F ss := fun n => by
    cases n with
    | zero => exact ⟨hl, hm⟩
    | succ n => exact ⟨stepsH_mono ss (hy n).1, stepsH_mono ss (hy n).2⟩
  refine ⟨fun e => ?_, fun ne => ?_⟩
  · have hx : ∀ n, yearsH F x ss n = x := fun n => by have := hb n; omega
    induction n with
    | zero => exact ⟨by show (0 : Int) = ((0 : Nat) : Int) * _; simp, by show (0 : Int) = ((0 : Nat) : Int) * _; simp⟩
    | succ n ih =>
      rw [(step n).1, (step n).2, ih.1, ih.2, hx n, pr1, pr2, show ((n + 1 : Nat) : Int) = (n : Int) + 1 by omega, Int.add_mul, Int.add_mul, Int.one_mul, Int.one_mul]
      exact ⟨rfl, rfl⟩
  · have bal : ∀ n, yearsH F x ss (n + 1) = yearsH F x ss n + addS ss - mR F (yearsH F x ss n) ss + mH F (yearsH F x ss n) ss := fun n => miss_bal ss _ hz (hy n).1 (hy n).2
    have one : ∀ n, (0 ≤ addS ss → mH F (yearsH F x ss n) ss = 0) ∧ (addS ss < 0 → mR F (yearsH F x ss n) ss = 0) := fun n => by
      have b := bal n
      have n1 := mR_nonneg F ss (yearsH F x ss n)
      have n2 := mH_nonneg F ss (yearsH F x ss n)
      have r1 := miss_room ss _ hz (hy n).1 (hy n).2
      have r2 := miss_heat ss _ hz (hy n).1 (hy n).2
      have eq : yearsH F x ss (n + 1) = stepsH F (yearsH F x ss n) ss := rfl
      have hbn := hb n
      rw [eq] at b
      refine ⟨fun hd => ?_, fun hd => ?_⟩
      · by_cases hp : 0 < mH F (yearsH F x ss n) ss
        · have e2 := r2 hp
          by_cases hq : 0 < mR F (yearsH F x ss n) ss
          · have e1 := r1 hq
            exact absurd (e2.symm.trans e1) ne
          · omega
        · omega
      · by_cases hp : 0 < mR F (yearsH F x ss n) ss
        · have e1 := r1 hp
          by_cases hq : 0 < mH F (yearsH F x ss n) ss
          · have e2 := r2 hq
            exact absurd (e2.symm.trans e1) ne
          · omega
        · omega
    have tot : (0 ≤ (yearsL needs heats ss n).room ∧ 0 ≤ (yearsL needs heats ss n).heat) ∧ (0 ≤ addS ss → (yearsL needs heats ss n).heat = 0) ∧ (addS ss < 0 → (yearsL needs heats ss n).room = 0) ∧ yearsH F x ss n = x + n * addS ss - (yearsL needs heats ss n).room + (yearsL needs heats ss n).heat := by
      clear hl hm
      induction n with
      | zero => exact ⟨⟨Int.le_refl 0, Int.le_refl 0⟩, fun _ => rfl, fun _ => rfl, by show x = x + ((0 : Nat) : Int) * addS ss - 0 + 0; simp⟩
      | succ n ih =>
        obtain ⟨⟨i0, i00⟩, i1, i2, i3⟩ := ih
        have o := one n
        have b := bal n
        have st := step n
        have n1 := mR_nonneg F ss (yearsH F x ss n)
        have n2 := mH_nonneg F ss (yearsH F x ss n)
        rw [st.1, st.2, b, show ((n + 1 : Nat) : Int) = (n : Int) + 1 by omega, Int.add_mul, Int.one_mul]
        refine ⟨⟨by omega, by omega⟩, fun hd => by have := i1 hd; have := o.1 hd; omega, fun hd => by have := i2 hd; have := o.2 hd; omega, by rw [i3]; omega⟩
    obtain ⟨⟨t0, t00⟩, t1, t2, t3⟩ := tot
    rw [t3]
    by_cases hd : 0 ≤ addS ss
    · have := t1 hd
      constructor <;> omega
    · have := t2 (by omega)
      constructor <;> omega
end Tf
namespace Tf
open PySem L2
def untilL (needs heats : List Int) (ss : List (Bool × Int)) (n so : Nat) : Sums := (ss.take so).foldl (stepS needs) (yearsL needs heats ss n)
theorem fold_split {needs : List Int} {s : Sums} {ss : List (Bool × Int)} (hz : ∀ z ∈ ss, 0 ≤ z.2) (h : HeatsOk needs s.heats) : ss.foldl (stepS needs) s = ⟨(passL needs s.heats ss).heats, s.room + (passL needs s.heats ss).room, s.heat + (passL needs s.heats ss).heat⟩ := by
  have a := fold_heats (needs := needs) ss s ⟨s.heats, 0, 0⟩ rfl
  obtain ⟨b, c⟩ := fold_room ss s hz h
  obtain ⟨b', c'⟩ := fold_room ss ⟨s.heats, 0, 0⟩ hz h
  have b' : (passL needs s.heats ss).room = mR (down needs 0) (down s.heats 0) ss := b'.trans (Int.zero_add _)
  have c' : (passL needs s.heats ss).heat = mH (down needs 0) (down s.heats 0) ss := c'.trans (Int.zero_add _)
  rw [b', c', ← b, ← c]
  show _ = (⟨(List.foldl (stepS needs) ⟨s.heats, 0, 0⟩ ss).heats, _, _⟩ : Sums)
  rw [← a]
end Tf

namespace L2
open PySem PySem.Spec PyProof.Rows
section
variable {X : Cx} {p pos : Pos} {a b : Expr} {ta tb : TE}
theorem call_max_ints (hc : X.calm = true) : CallR X (.builtin "max") (fun vs H Q => ∃ (p : Addr) (ns : List Int), vs = [.ref p] ∧ SqL X.K H p (ns.map V.int) ∧ 0 < ns.length ∧ ∀ M ∈ ns, (∀ a ∈ ns, a ≤ M) → Q (.int M) H) := by
  intro pins s σ H vs us Q I r h
  obtain ⟨p, ns, rfl, hq, hne, q⟩ := h
  obtain ⟨u, rfl, rx⟩ := r.one
  cases rx
  obtain ⟨its, rv, pl, hz⟩ := I.list hq
  have hi := intsAre_of rv
  obtain ⟨xs, e⟩ := hi.allInts.items
  have hns : ns = xs.toList.map (·.1) := by rw [← hi.numsOf, ← nums_intItems, ← e]
  have hsz : 0 < xs.size := by rw [hns, List.length_map, Array.length_toList] at hne; exact hne
  refine max_intList (I.ok.hd hc) (e ▸ pl.isList) hsz fun v h' tk hv hk => ?_
  obtain ⟨t, rfl⟩ := intItems_at hv
  obtain ⟨h1, h2⟩ := argBest_gt (numAt xs) (xs.size - 1)
  refine ⟨.int (numAt xs (argBest (fun i j => decide (numAt xs i > numAt xs j)) (xs.size - 1))), H, I.kept hk, ⟨_, rfl⟩, q _ ?_ fun a ha => ?_⟩
  · rw [hns, numAt_eq]
    exact getD_mem (by rw [List.length_map, Array.length_toList]; omega)
  · rw [hns] at ha
    obtain ⟨j, hj, rfl⟩ := mem_getD ha
    rw [List.length_map, Array.length_toList] at hj
    rw [← numAt_eq]
    exact h2 j (by omega)
theorem pe_max1 (hc : X.calm = true) (hm : X.mg "max" = none) (ha : PE X a ta) (hg : Gl X "max" := by rfl) (hs : starEach [a] X.env = (false, eval a X.env) :: starEach [] X.env := by rfl) : PE X (.Call (.Name "max" p) [a] [] pos) (tCB (fun vs H Q => ∃ (p : Addr) (ns : List Int), vs = [.ref p] ∧ SqL X.K H p (ns.map V.int) ∧ 0 < ns.length ∧ ∀ M ∈ ns, (∀ a ∈ ns, a ≤ M) → Q (.int M) H) (tCons ta tNil)) :=
  pe_callB (call_max_ints hc) hg hm (by decide +kernel) (pa_cons ha pa_nil hs) (by decide) (by decide) hs rfl
theorem pe_abs (hm : X.mg "abs" = none) (ha : PE X a ta) (hg : Gl X "abs" := by rfl) (hs : starEach [a] X.env = (false, eval a X.env) :: starEach [] X.env := by rfl) : PE X (.Call (.Name "abs" p) [a] [] pos) (tCB (fun xs H Q => ∃ i, xs = [.int i] ∧ Q (.int (if i < 0 then -i else i)) H) (tCons ta tNil)) :=
  pe_callB call_abs hg hm (by decide +kernel) (pa_cons ha pa_nil hs) (by decide) (by decide) hs rfl
end
end L2
namespace Tf
open PySem L2
/-! ### rest at one depth -/
structure RestH (full h : Int) (ss : List (Bool × Int)) (r : Nat) : Prop where
  lo : 1 ≤ r
  rest : yearsH full h ss r = yearsH full h ss (r - 1)
  first : 2 ≤ r → yearsH full h ss (r - 1) ≠ yearsH full h ss (r - 2)
theorem RestH.stay {full h : Int} {ss : List (Bool × Int)} {r : Nat} (R : RestH full h ss r) : ∀ k, yearsH full h ss (r + k) = yearsH full h ss (r - 1)
  | 0 => R.rest
  | k + 1 => by
    have := R.stay k
    show stepsH full (yearsH full h ss (r + k)) ss = _
    rw [this]
    obtain ⟨m, rfl⟩ : ∃ m, r = m + 1 := ⟨r - 1, by have := R.lo; omega⟩
    exact R.rest
theorem rest_one {full h : Int} {ss : List (Bool × Int)} (e : stepsH full h ss = h) : RestH full h ss 1 := ⟨Nat.le_refl _, e, fun h => by omega⟩
theorem rest_up {full h : Int} {ss : List (Bool × Int)} (hf : 0 ≤ full) (hz : ∀ z ∈ ss, 0 ≤ z.2) (h0 : 0 ≤ h) (h1 : h ≤ full) (ne : stepsH full h ss ≠ h) {q : Nat}
    (hq : stepsH full full ss ≤ stepsH full h ss + q * addS ss) (hq' : ∀ m, q = m + 1 → stepsH full h ss + m * addS ss < stepsH full full ss) (hd : 0 ≤ addS ss) : RestH full h ss (q + 2) := by
  have mid := yearsH_mid hf hz h0 h1
  have l := stepsH_mono (full := full) ss h0
  have m := stepsH_mono (full := full) ss h1
  have e1 : yearsH full h ss (q + 1) = stepsH full full ss := by
    rw [mid q]
    unfold clampI
    split
    · omega
    · split <;> omega
  refine ⟨by omega, ?_, fun _ => ?_⟩
  · show yearsH full h ss (q + 1 + 1) = yearsH full h ss (q + 1)
    rw [e1, mid (q + 1), show ((q + 1 : Nat) : Int) = (q : Int) + 1 by omega, Int.add_mul, Int.one_mul]
    generalize (q : Int) * addS ss = z at *
    unfold clampI
    split
    · omega
    · split <;> omega
  · show yearsH full h ss (q + 1) ≠ yearsH full h ss q
    cases q with
    | zero => exact ne
    | succ m =>
      have := hq' m rfl
      have p0 : 0 ≤ (m : Int) * addS ss := Int.mul_nonneg (by omega) hd
      rw [e1, mid m]
      generalize (m : Int) * addS ss = z at *
      unfold clampI
      split
      · omega
      · split <;> omega
theorem rest_dn {full h : Int} {ss : List (Bool × Int)} (hf : 0 ≤ full) (hz : ∀ z ∈ ss, 0 ≤ z.2) (h0 : 0 ≤ h) (h1 : h ≤ full) (ne : stepsH full h ss ≠ h) {q : Nat}
    (hq : stepsH full h ss + q * addS ss ≤ stepsH full 0 ss) (hq' : ∀ m, q = m + 1 → stepsH full 0 ss < stepsH full h ss + m * addS ss) (hd : addS ss ≤ 0) : RestH full h ss (q + 2) := by
  have mid := yearsH_mid hf hz h0 h1
  have l := stepsH_mono (full := full) ss h0
  have m := stepsH_mono (full := full) ss h1
  have e1 : yearsH full h ss (q + 1) = stepsH full 0 ss := by
    rw [mid q]
    unfold clampI
    split
    · omega
    · split <;> omega
  refine ⟨by omega, ?_, fun _ => ?_⟩
  · show yearsH full h ss (q + 1 + 1) = yearsH full h ss (q + 1)
    rw [e1, mid (q + 1), show ((q + 1 : Nat) : Int) = (q : Int) + 1 by omega, Int.add_mul, Int.one_mul]
    generalize (q : Int) * addS ss = z at *
    unfold clampI
    split
    · omega
    · split <;> omega
  · show yearsH full h ss (q + 1) ≠ yearsH full h ss q
    cases q with
    | zero => exact ne
    | succ m =>
      have := hq' m rfl
      have p0 : (m : Int) * addS ss ≤ 0 := by
        have := Int.mul_nonneg (a := (m : Int)) (b := -addS ss) (by omega) (by omega)
        rw [Int.mul_neg] at this
        omega
      rw [e1, mid m]
      generalize (m : Int) * addS ss = z at *
      unfold clampI
      split
      · omega
      · split <;> omega
theorem rest_two {full h : Int} {ss : List (Bool × Int)} (hf : 0 ≤ full) (hz : ∀ z ∈ ss, 0 ≤ z.2) (h0 : 0 ≤ h) (h1 : h ≤ full) (ne : stepsH full h ss ≠ h) (hd : addS ss = 0) : RestH full h ss 2 := by
  have mid := yearsH_mid hf hz h0 h1 1
  have l := stepsH_mono (full := full) ss h0
  have m := stepsH_mono (full := full) ss h1
  refine ⟨by omega, ?_, fun _ => ne⟩
  show yearsH full h ss (1 + 1) = stepsH full h ss
  rw [mid, hd, Int.mul_zero, Int.add_zero]
  unfold clampI
  split
  · omega
  · split <;> omega
theorem ceil_steps {e d : Int} (he : 0 ≤ e) (hd : 0 < d) : ∃ q : Nat, (e + d - 1) / d = q ∧ e ≤ q * d ∧ ∀ m : Nat, q = m + 1 → m * d < e := by
  have a := Int.mul_ediv_add_emod (e + d - 1) d
  have b := Int.emod_nonneg (e + d - 1) (show d ≠ 0 by omega)
  have c := Int.emod_lt_of_pos (e + d - 1) hd
  have n0 : 0 ≤ (e + d - 1) / d := Int.ediv_nonneg (by omega) (by omega)
  refine ⟨((e + d - 1) / d).toNat, by omega, ?_, fun m hm => ?_⟩
  · rw [show ((((e + d - 1) / d).toNat : Nat) : Int) = (e + d - 1) / d by omega, Int.mul_comm]
    omega
  · have : (e + d - 1) / d = (m : Int) + 1 := by omega
    rw [this, Int.mul_add, Int.mul_one, Int.mul_comm] at a
    omega
theorem rest_max {needs heats : List Int} {ss : List (Bool × Int)} (h : HeatsOk needs heats) (hz : ∀ z ∈ ss, 0 ≤ z.2) (hn : 1 ≤ needs.length) {rs : List Nat} (hl : rs.length = needs.length) (hr : ∀ i r, rs[i]? = some r → RestH (down needs i) (down heats i) ss r) {R : Nat} (hR : R ∈ rs) (hm : ∀ r ∈ rs, r ≤ R) : IsRest needs heats ss R := by
  obtain ⟨k, hk⟩ := List.getElem?_of_mem hR
  have hkl : k < needs.length := by rw [← hl]; exact (List.getElem?_eq_some_iff.mp hk).1
  have rk := hr k R hk
  have dy := fun n i (hi : i ≤ needs.length) => down_years h hz hi n
  have lo := rk.lo
  refine ⟨lo, ?_, fun h2 e => ?_⟩
  · refine down_ext (by rw [(yearsL_ok h ss R).len, (yearsL_ok h ss (R - 1)).len]) fun i hi => ?_
    rw [(yearsL_ok h ss R).len] at hi
    rw [dy R i hi, dy (R - 1) i hi]
    by_cases hin : i < needs.length
    · have hri : rs[i]? = some rs[i] := List.getElem?_eq_getElem (by omega)
      have ri := hr i _ hri
      have le := hm rs[i] (List.getElem_mem _)
      have lo' := ri.lo
      have s1 := ri.stay (R - rs[i])
      rw [show rs[i] + (R - rs[i]) = R by omega] at s1
      rw [s1]
      by_cases he : rs[i] = R
      · rw [he]
      · have s2 := ri.stay (R - 1 - rs[i])
        rw [show rs[i] + (R - 1 - rs[i]) = R - 1 by omega] at s2
        rw [s2]
    · have e0 : down needs i = 0 := down_end (by omega)
      have e1 : down heats i = 0 := down_end (by rw [h.len]; omega)
      have b1 := yearsH_in (full := down needs i) (h := down heats i) hz (by omega) (by omega) R
      have b2 := yearsH_in (full := down needs i) (h := down heats i) hz (by omega) (by omega) (R - 1)
      omega
  · have := rk.first h2
    rw [← dy (R - 1) k (by omega), ← dy (R - 2) k (by omega), e] at this
    exact this rfl
end Tf
namespace Tf
open PySem L2
theorem addS_bound : ∀ (ss : List (Bool × Int)), (∀ z ∈ ss, 0 ≤ z.2 ∧ z.2 ≤ 1000000) → -((ss.length : Int) * 1000000) ≤ addS ss ∧ addS ss ≤ (ss.length : Int) * 1000000
  | [], _ => by show -((0 : Nat) : Int) * 1000000 ≤ 0 ∧ _; exact ⟨by decide, by decide⟩
  | z :: ss, h => by
    have ih := addS_bound ss fun y hy => h y (List.mem_cons_of_mem _ hy)
    have hz := h z (List.mem_cons_self ..)
    rw [addS_cons, List.length_cons]
    split <;> omega
end Tf

namespace Tf
open PySem L2
/-! ### a season bed by bed -/
end Tf

namespace Tf
open PySem L2
/-! ### the first thawed season of a bed -/
def Thaw (needs heats : List Int) (ss : List (Bool × Int)) (i y k : Nat) : Prop := (farL needs heats ss y k).getD i 0 = needs.getD i 0
inductive First (needs heats : List Int) (ss : List (Bool × Int)) (i : Nat) : Bool → Nat → Nat → Prop
  | yes (y k : Nat) : k < ss.length → Thaw needs heats ss i y (k + 1) → (∀ y' k', k' < ss.length → (y' < y ∨ (y' = y ∧ k' < k)) → ¬ Thaw needs heats ss i y' (k' + 1)) → First needs heats ss i true (y + 1) (k + 1)
  | no (r : Nat) : IsRest needs heats ss r → (∀ y k, k < ss.length → ¬ Thaw needs heats ss i y (k + 1)) → First needs heats ss i false r 0
theorem thaw_iff {needs heats : List Int} {ss : List (Bool × Int)} (h : HeatsOk needs heats) (hz : ∀ z ∈ ss, 0 ≤ z.2) {i : Nat} (hi : i < needs.length) (y k : Nat) :
    Thaw needs heats ss i y k ↔ stepsH (down needs i) (yearsH (down needs i) (down heats i) ss y) (ss.take k) - stepsH (down needs (i + 1)) (yearsH (down needs (i + 1)) (down heats (i + 1)) ss y) (ss.take k) = needs.getD i 0 := by
  have ok := farL_ok h ss y k
  have e := down_step (hs := farL needs heats ss y k) (i := i) (by rw [ok.len]; exact hi)
  rw [down_far h hz y k (Nat.le_of_lt hi), down_far h hz y k (i := i + 1) (by omega)] at e
  unfold Thaw
  constructor <;> intro c <;> omega
theorem thaw_rest {needs heats : List Int} {ss : List (Bool × Int)} (h : HeatsOk needs heats) (hz : ∀ z ∈ ss, 0 ≤ z.2) {i : Nat} (hi : i < needs.length) {r1 r2 R : Nat} (R1 : RestH (down needs i) (down heats i) ss r1) (R2 : RestH (down needs (i + 1)) (down heats (i + 1)) ss r2) (h1 : r1 ≤ R) (h2 : r2 ≤ R)
    (hn : ∀ y k, y < R → k < ss.length → ¬ Thaw needs heats ss i y (k + 1)) : ∀ y k, k < ss.length → ¬ Thaw needs heats ss i y (k + 1) := by
  intro y k hk
  by_cases hy : y < R
  · exact hn y k hy hk
  · have l1 := R1.lo
    have l2 := R2.lo
    have a := R1.stay (y - r1)
    have b := R2.stay (y - r2)
    rw [show r1 + (y - r1) = y by omega] at a
    rw [show r2 + (y - r2) = y by omega] at b
    have a' : yearsH (down needs i) (down heats i) ss (R - 1) = yearsH (down needs i) (down heats i) ss (r1 - 1) := by
      by_cases e : r1 = R
      · rw [e]
      · have := R1.stay (R - 1 - r1)
        rw [show r1 + (R - 1 - r1) = R - 1 by omega] at this
        exact this
    have b' : yearsH (down needs (i + 1)) (down heats (i + 1)) ss (R - 1) = yearsH (down needs (i + 1)) (down heats (i + 1)) ss (r2 - 1) := by
      by_cases e : r2 = R
      · rw [e]
      · have := R2.stay (R - 1 - r2)
        rw [show r2 + (R - 1 - r2) = R - 1 by omega] at this
        exact this
    have c := hn (R - 1) k (by omega) hk
    rw [thaw_iff h hz hi] at c ⊢
    rw [a, b]
    rw [a', b'] at c
    exact c
theorem stepsH_take {full h : Int} {ss : List (Bool × Int)} {k : Nat} {z : Bool × Int} (e : ss[k]? = some z) : stepsH full h (ss.take (k + 1)) = stepH full (stepsH full h (ss.take k)) z := by rw [take_snoc e, stepsH_snoc]
end Tf
namespace Tf
open PySem L2
theorem RestH.bound {full h : Int} {ss : List (Bool × Int)} (hf : 0 ≤ full) (hz : ∀ z ∈ ss, 0 ≤ z.2) (h0 : 0 ≤ h) (h1 : h ≤ full) {r : Nat} (R : RestH full h ss r) : (r : Int) ≤ full + 2 := by
  by_cases c : (r : Int) ≤ full + 2
  · exact c
  · exfalso
    have := yearsH_rest hf (Int.le_refl full) hz h0 h1 (n := r - 3) (by omega)
    rw [show r - 3 + 2 = r - 1 by omega, show r - 3 + 1 = r - 2 by omega] at this
    exact R.first (by omega) this
end Tf

namespace Tf
open PySem L2
/-! ### a year of a warm and a cold season, from frozen ground -/
end Tf

namespace Tf
open PySem L2
/-! ### what slow years lose, from frozen ground -/
end Tf

/-! EXCEPTIONS over the hand layer: one that is raised in a def, passes the defs' frames, and lies behind a call. -/
namespace L2
open PySem PySem.Spec PyProof.Rows

theorem ObjOk.there {P : Program} {w : World} {H : Hp} {h : Heap} {a : Addr} {o : HO} (x : ObjOk P w H h a o) : ∃ u, h.get? a = some u := by
  cases o with
  | lst xs => obtain ⟨_, _, _, _, e⟩ := x; exact ⟨_, e⟩
  | tup xs => obtain ⟨_, _, _, o, e, _⟩ := x; exact ⟨_, e⟩
  | dK kvs => obtain ⟨_, _, _, _, o, _, _, e, _⟩ := x; exact ⟨_, e⟩
  | dT kvs => obtain ⟨_, _, _, _, o, _, _, e, _⟩ := x; exact ⟨_, e⟩
  | set S n => obtain ⟨o, _, _, _, e, _⟩ := x; exact ⟨_, e⟩
  | ins C dx fs => obtain ⟨_, _, _, e, _⟩ := x; exact ⟨_, e⟩
  | own y => obtain ⟨_, e⟩ := x; exact ⟨_, e⟩
  | xd fs => obtain ⟨_, ⟨_, _, _, e, _⟩, _⟩ := x; exact ⟨_, e⟩
  | rng lo hi => obtain ⟨_, _, _, e⟩ := x; exact ⟨_, e⟩
  | frz ob u => obtain ⟨e, _⟩ := x; exact ⟨_, e⟩
  | tbl ps => exact ⟨_, (show h.get? a = some _ from x)⟩
  | met f y => exact ⟨_, (show h.get? a = some _ from x)⟩
  | ext φ => obtain ⟨_, ⟨_, e⟩, _⟩ := x; exact ⟨_, e⟩
theorem HOk.gone {P : Program} {w : World} {H : Hp} {h : Heap} {a : Addr} (ok : HOk P w H h) (e : h.get? a = none) : H a = none := by
  cases q : H a with
  | none => rfl
  | some u =>
    obtain ⟨v, z⟩ := (ok a u q).there
    rw [e] at z; cases z

structure Fly (h0 : Heap) (x : Addr) (cls : Value) (H : Hp) (h : Heap) : Prop where
  new : h0.get? x = none
  un : H x = none
  tr : ∃ oe vs T oT ts, h.get? x = some oe ∧ oe.cls = cls ∧ oe.data = .fields vs ∧ vs[1]? = some (.ref T) ∧ h0.get? T = none ∧ H T = none ∧ T ≠ x ∧ h.get? T = some oT ∧ oT.data = .fields ts ∧ ts[3]? = some .none
def CX1 (P : Program) (w : World) : CXT := fun outer H s E e s' => ∃ x cls H', e = .ref x ∧ s'.os = s.os ∧ AllBare s'.gens ∧ Un (frs outer) [] H H' s.heap s'.heap ∧ HOk P w H' s'.heap ∧ Fly s.heap x cls H' s'.heap ∧ E cls (some x) H'

section
variable {fs fr ds : List Addr} {H₀ H : Hp} {h₀ h h' : Heap} {P : Program} {w : World}
theorem un_left (u : Un fs [] H₀ H h₀ h) (k1 : ∀ b o, b ∉ ds → b ∉ fr → h.get? b = some o → h'.get? b = some o) (k2 : ∀ b o, b ∈ fr → h.get? b = some o → ∃ sl, h'.get? b = some { o with slots := sl })
    (hds : ∀ d ∈ ds, h₀.get? d = none) (hfr : ∀ b ∈ fr, b ∈ fs ∨ h₀.get? b = none) (hfs : ∀ b ∈ fs, b ∈ fr) : Un fs [] H₀ H h₀ h' where
  keep := fun b o e n hb hx => k1 b o (fun z => by rw [hds b z] at e; cases e) (fun z => (hfr b z).elim hb fun q => by rw [q] at e; cases e) (u.keep b o e n hb hx)
  slot := fun b o e n hb hx => by
    obtain ⟨sl, e1⟩ := u.slot b o e n hb hx
    obtain ⟨sl', e2⟩ := k2 b _ (hfs b hb) e1
    exact ⟨sl', e2⟩
  free := u.free
  there := fun b o e hx => by
    obtain ⟨o', e1⟩ := u.there b o e hx
    by_cases hb : b ∈ fr
    · obtain ⟨sl, e2⟩ := k2 b _ hb e1
      exact ⟨_, e2⟩
    · exact ⟨o', k1 b o' (fun z => by rw [hds b z] at e; cases e) hb e1⟩
  tups := u.tups
  frzs := u.frzs
  tbls := u.tbls
theorem hok_left (ok : HOk P w H h) (k1 : ∀ b o, b ∉ ds → b ∉ fr → h.get? b = some o → h'.get? b = some o) (hds : ∀ d ∈ ds, H d = none) (hfr : ∀ b ∈ fr, H b = none) : HOk P w H h' := fun b u e => by
  have ok' : ∀ c v, H c = some v → c ∉ ds ∧ c ∉ fr := fun c v q => ⟨fun z => (by rw [hds c z] at q; cases q), fun z => (by rw [hfr c z] at q; cases q)⟩
  refine (ok b u e).stay (fun c v hc q => ?_) (fun _ q => q) fun _ _ q => q
  rcases hc with z | z
  · subst z
    exact k1 c v (ok' c u e).1 (ok' c u e).2 q
  · exact k1 c v (ok' c _ z).1 (ok' c _ z).2 q
theorem left_kept {l : List Env} {x : Addr} {cls : Value} (hL : Heap.Left (PySem.W.hideAll h (ds ++ frs l)) l x cls h h') :
    ∀ b o, b ∉ ds → b ∉ frs l → h.get? b = some o → h'.get? b = some o := fun b o h1 h2 e =>
  hL.1 b o (PySem.W.hideAll_get _ e fun z => (List.mem_append.mp z).elim h1 h2)
end

def cxAt (CX : CXT) (P : Program) (w : World) (K : PySem.W.Frag) (mg : Str → Option Value) (base : Heap) (N : List Str) (env : Env) (fn : Str → Bool) (A : Around) (outer : List Env) (s : Shared) (H : Hp) (E : XK) : Cx where
  prog := P
  w := w
  K := K
  mg := mg
  base := base
  A := A.deeper env
  N := N
  s₀ := s
  H₀ := H
  env := env
  outer := outer
  stack := env :: outer
  ex := []
  calm := true
  fn := fn
  pn := []
  xe := fun e s' => wpAny (model P w) (A.deeper env) (leaving env e) (fun _ s'' => CX outer H s E e s'') (fun e' s'' => CX outer H s E e' s'') s'
section
variable {P : Program} {w : World} {K : PySem.W.Frag} {mg : Str → Option Value} {base : Heap} {N : List Str} {env : Env} {fn : Str → Bool} {A : Around} {outer : List Env} {s : Shared} {H : Hp} {E : XK}
theorem thrown_at {pins : List (Addr × Obj)} {σ : St} {H1 : Hp} {s1 : Shared} {h1 : Heap} {e : Addr} {cls : Value} {vs : List Value} (hf : env.frame = some env.locals) (hL0 : s.heap.get? env.locals = none) (I : Inv (cxAt (CX1 P w) P w K mg base N env fn A outer s H E) pins σ H1 s1)
    (hx : Heap.MadeExcOf s1.heap h1 e cls vs) (hE : E cls (some e) H1) : (cxAt (CX1 P w) P w K mg base N env fn A outer s H E).xe (.ref e) { s1 with heap := h1 } := by
  have st : s1.heap.FunFrames base (env :: outer) := I.stack
  have hsubF : ∀ b ∈ frs outer, b ∈ frs (env :: outer) := fun b hb => by unfold frs; rw [List.filterMap_cons, hf]; exact List.mem_cons_of_mem _ hb
  have free : ∀ b ∈ frs (env :: outer), H1 b = none := I.stkFree
  have sub : ∀ b ∈ frs (env :: outer), b = env.locals ∨ b ∈ frs outer := fun b hb => List.mem_cons.mp (I.stkSub b hb)
  obtain ⟨t, he, ht, _⟩ := hx.there
  have st1 : h1.FunFrames base (env :: outer) := st.of_keeps fun b o q _ => ⟨o, hx.keeps b o q, rfl⟩
  have hH1 : ∀ d, s1.heap.get? d = none → H1 d = none := fun d q => I.hok.gone q
  have hs0 : ∀ d, s1.heap.get? d = none → s.heap.get? d = none := fun d q => by
    cases z : s.heap.get? d with
    | none => rfl
    | some o =>
      obtain ⟨o', y⟩ := I.base.there d o z (by intro q; exact absurd (show d ∈ ([] : List Addr) from q) (by simp))
      rw [q] at y; cases y
  show wpAny (model P w) (A.deeper env) (leaving env (.ref e)) _ _ _
  refine wpAny_leaving_first (base := PySem.W.hideAll h1 ([e] ++ frs (env :: outer))) (s := { s1 with heap := h1 }) I.ok.frames (PySem.W.funFrames_hide st1 fun en henv a ha => List.mem_append_right _ (List.mem_filterMap.mpr ⟨en, henv, ha⟩)) hf he
    (fun b o q => PySem.W.of_hideAll _ q) (PySem.W.hideAll_none _ (by simp)) rfl rfl fun h2 hL => ?_
  have k1 := left_kept hL
  have k2 : ∀ b o, b ∈ frs (env :: outer) → h1.get? b = some o → ∃ sl, h2.get? b = some { o with slots := sl } := fun b o hb q => by
    obtain ⟨_, o', e', nr⟩ := st1.mem hb
    rw [q] at e'; cases e'
    exact hL.2.2.2 b o q nr
  have u1 : Un (frs outer) [] H H1 s.heap h1 := I.base.trans (Un.kept hx.keeps)
  have hd0 : ∀ d ∈ [e], s.heap.get? d = none := fun d hd => by
    have : d = e := by simpa using hd
    subst this
    exact hs0 d hx.new
  have hd1 : ∀ d ∈ [e], H1 d = none := fun d hd => by
    have : d = e := by simpa using hd
    subst this
    exact hH1 d hx.new
  have hf0 : ∀ b ∈ frs (env :: outer), b ∈ frs outer ∨ s.heap.get? b = none := fun b hb => (sub b hb).elim (fun z => .inr (by rw [z]; exact hL0)) .inl
  refine ⟨e, cls, H1, rfl, I.os, I.bare, un_left u1 k1 k2 hd0 hf0 hsubF, hok_left (I.hok.kept hx.keeps) k1 hd1 free, ⟨hd0 e (by simp), hd1 e (by simp), ?_⟩, hE⟩
  obtain ⟨oe, ws, T, oT, ts, a1, a2, a3, a4, a5, a6, a7, a8, a9⟩ := hL.2.2.1
  have hT : s1.heap.get? T = none := by
    cases z : s1.heap.get? T with
    | none => rfl
    | some o =>
      have z1 := hx.keeps _ _ z
      by_cases hT : T ∈ frs (env :: outer)
      · obtain ⟨_, o', e', nr⟩ := st1.mem hT
        obtain ⟨sl, y⟩ := k2 T o' hT e'
        rw [a7] at y; cases y
        exact absurd a8 (nr ts)
      · have := PySem.W.hideAll_get ([e] ++ frs (env :: outer)) z1 (fun q => by
          rcases List.mem_append.mp q with q | q
          · have : T = e := by simpa using q
            exact a6 this
          · exact hT q)
        rw [a5] at this; cases this
  exact ⟨oe, ws, T, oT, ts, a1, a2, a3, a4, hs0 T hT, hH1 T hT, a6, a7, a8, a9⟩
theorem pass_at (hf : env.frame = some env.locals) (hL0 : s.heap.get? env.locals = none) : Passes (CX1 P w) (cxAt (CX1 P w) P w K mg base N env fn A outer s H E) E := by
  intro pins σ H1 s1 e s' I hc
  obtain ⟨x, cls, H2, rfl, os, bare, u, ok, F, hE⟩ := hc
  have st : s1.heap.FunFrames base (env :: outer) := I.stack
  have hsubF : ∀ b ∈ frs outer, b ∈ frs (env :: outer) := fun b hb => by unfold frs; rw [List.filterMap_cons, hf]; exact List.mem_cons_of_mem _ hb
  have free1 : ∀ b ∈ frs (env :: outer), H1 b = none := I.stkFree
  have sub : ∀ b ∈ frs (env :: outer), b = env.locals ∨ b ∈ frs outer := fun b hb => List.mem_cons.mp (I.stkSub b hb)
  have u : Un (frs (env :: outer)) [] H1 H2 s1.heap s'.heap := u
  have free : ∀ b ∈ frs (env :: outer), H2 b = none := fun b hb => by
    obtain ⟨_, o, ho, _⟩ := st.mem hb
    exact u.free b o ho (free1 b hb) (by simp)
  have st1 : s'.heap.FunFrames base (env :: outer) := by
    have all : ∀ (l : List Env), (∀ b ∈ frs l, b ∈ frs (env :: outer)) → s1.heap.FunFrames base l → s'.heap.FunFrames base l := by
      intro l
      induction l with
      | nil => intro _ _; trivial
      | cons en r ih =>
        intro hs hl
        obtain ⟨hk, ⟨L, o, hf', hn, ho, hd⟩, hr⟩ := hl
        have hL : L ∈ frs (env :: outer) := hs L (by unfold frs; rw [List.filterMap_cons, hf']; exact List.mem_cons_self)
        obtain ⟨sl, e⟩ := u.slot L o ho (free1 L hL) hL (by simp)
        exact ⟨hk, ⟨L, _, hf', hn, e, hd⟩, ih (fun b hb => hs b (by unfold frs; rw [List.filterMap_cons, hf']; exact List.mem_cons_of_mem _ hb)) hr⟩
    exact all _ (fun _ hb => hb) st
  obtain ⟨oe, ws, T, oT, ts, a1, a2, a3, a4, a5, a6, a7, a8, a9, a10⟩ := F.tr
  have hs0 : ∀ d, s1.heap.get? d = none → s.heap.get? d = none := fun d q => by
    cases z : s.heap.get? d with
    | none => rfl
    | some o =>
      obtain ⟨o', y⟩ := I.base.there d o z (by intro q; exact absurd (show d ∈ ([] : List Addr) from q) (by simp))
      rw [q] at y; cases y
  have hs1 : ∀ d, s'.heap.get? d = none → s1.heap.get? d = none := fun d q => by
    cases z : s1.heap.get? d with
    | none => rfl
    | some o =>
      obtain ⟨o', y⟩ := u.there d o z (by simp)
      rw [q] at y; cases y
  show wpAny (model P w) (A.deeper env) (leaving env (.ref x)) _ _ _
  refine wpAny_leaving_next (base := PySem.W.hideAll s'.heap ([x, T] ++ frs (env :: outer))) (cls := cls) I.ok.frames (PySem.W.funFrames_hide st1 fun en henv a ha => List.mem_append_right _ (List.mem_filterMap.mpr ⟨en, henv, ha⟩)) hf
    ⟨oe, ws, T, oT, ts, a1, a2, a3, a4, PySem.W.hideAll_none _ (by simp), a7, a8, a9, a10⟩ (fun b o q => PySem.W.of_hideAll _ q) (PySem.W.hideAll_none _ (by simp)) fun h2 hL => ?_
  have k1 := left_kept hL
  have k2 : ∀ b o, b ∈ frs (env :: outer) → s'.heap.get? b = some o → ∃ sl, h2.get? b = some { o with slots := sl } := fun b o hb q => by
    obtain ⟨_, o', e', nr⟩ := st1.mem hb
    rw [q] at e'; cases e'
    exact hL.2.2.2 b o q nr
  have u1 : Un (frs outer) [] H H2 s.heap s'.heap := by
    have u0 : Un (frs outer) [] H H1 s.heap s1.heap := I.base
    refine ⟨fun b o q n hb hx => ?_, fun b o q n hb hx => ?_, fun b o q n hx => ?_, fun b o q hx => ?_, fun b xs q => u.tups b xs (u0.tups b xs q), fun b o xs q => u.frzs b o xs (u0.frzs b o xs q), fun b ps q => ?_⟩
    · exact u.keep b o (u0.keep b o q n hb hx) (u0.free b o q n hx) (fun z => (sub b z).elim (fun y => by rw [y, hL0] at q; cases q) hb) hx
    · obtain ⟨sl, e1⟩ := u0.slot b o q n hb hx
      obtain ⟨sl', e2⟩ := u.slot b _ e1 (u0.free b o q n hx) (hsubF b hb) hx
      exact ⟨sl', e2⟩
    · obtain ⟨o', e1⟩ := u0.there b o q hx
      exact u.free b o' e1 (u0.free b o q n hx) hx
    · obtain ⟨o', e1⟩ := u0.there b o q hx
      exact u.there b o' e1 hx
    · obtain ⟨m1, e1⟩ := u0.tbls b ps q
      obtain ⟨m2, e2⟩ := u.tbls b _ e1
      exact ⟨m1 ++ m2, by rw [e2, Array.append_assoc]⟩
  have two : ∀ d ∈ [x, T], d = x ∨ d = T := fun d hd => by simpa using hd
  have hd0 : ∀ d ∈ [x, T], s.heap.get? d = none := fun d hd => hs0 d ((two d hd).elim (fun z => by rw [z]; exact F.new) fun z => by rw [z]; exact a5)
  have hd1 : ∀ d ∈ [x, T], H2 d = none := fun d hd => (two d hd).elim (fun z => by rw [z]; exact F.un) fun z => by rw [z]; exact a6
  have hf0 : ∀ b ∈ frs (env :: outer), b ∈ frs outer ∨ s.heap.get? b = none := fun b hb => (sub b hb).elim (fun z => .inr (by rw [z]; exact hL0)) .inl
  refine ⟨x, cls, H2, rfl, os.trans I.os, bare, un_left u1 k1 k2 hd0 hf0 hsubF, hok_left ok k1 hd1 free, ⟨hd0 x (by simp), F.un, ?_⟩, hE⟩
  obtain ⟨oe', ws', T', oT', ts', c1, c2, c3, c4, c5, c6, c7, c8, c9⟩ := hL.2.2.1
  have hT : T' = T ∨ s'.heap.get? T' = none := by
    by_cases hTT : T' = T
    · exact .inl hTT
    · refine .inr ?_
      cases z : s'.heap.get? T' with
      | none => rfl
      | some o =>
        by_cases hT : T' ∈ frs (env :: outer)
        · obtain ⟨_, o', e', nr⟩ := st1.mem hT
          obtain ⟨sl, y⟩ := k2 T' o' hT e'
          rw [c7] at y; cases y
          exact absurd c8 (nr ts')
        · have := PySem.W.hideAll_get ([x, T] ++ frs (env :: outer)) z (fun q => by
            rcases List.mem_append.mp q with q | q
            · exact (two T' q).elim c6 hTT
            · exact hT q)
          rw [c5] at this; cases this
  have hT0 : s.heap.get? T' = none ∧ H2 T' = none := by
    rcases hT with z | z
    · rw [z]; exact ⟨hd0 T (by simp), a6⟩
    · exact ⟨hs0 T' (hs1 T' z), ok.gone z⟩
  exact ⟨oe', ws', T', oT', ts', c1, c2, c3, c4, hT0.1, hT0.2, c6, c7, c8, c9⟩
end
section
variable {P : Program} {w : World} {K : PySem.W.Frag} {mg : Str → Option Value} {base : Heap} {N : List Str} {qual : Str} {scope : Scope} {f : Addr} {cd : Value} {A : Around} {outer : List Env} {s : Shared} {H : Hp} {E : XK}
theorem pass_fn : Passes (CX1 P w) (cxOf (CX1 P w) P w K mg base N qual scope f cd A outer s H E) E :=
  pass_at (env := envOfC qual scope s.heap.objs.size f cd) (fn := fun _ => true) rfl (Heap.get?_none_of_le (Nat.le_refl _))
end
end L2

namespace L2
open PySem PySem.Spec PyProof.Rows
/-! ### an f-string of written texts and ints: some text -/
abbrev TJ := St → Hp → (Hp → Prop) → Prop
def PJ (X : Cx) (es : List Expr) (t : TJ) : Prop :=
  ∀ (pins : List (Addr × Obj)) (s : Shared) (σ : St) (H : Hp) (acc : Str) (Q : VK), Inv X pins σ H s → acc.length + 2000 * es.length ≤ 100000 → t σ H (fun H' => ∀ z, Q (.str z) H') →
    wpAny (model X.prog X.w) X.A (joinParts acc (evalEach es X.env)) (EP X pins σ Q) X.xe s
def jNil : TJ := fun _ H Q => Q H
def jStr (t : TJ) : TJ := t
def jInt (te : TE) (t : TJ) : TJ := fun σ H Q => te σ H fun x H1 => ∃ i : Int, x = .int i ∧ i.natAbs.log2 < 1920 ∧ t σ H1 Q
section
variable {X : Cx} {e : Expr} {es : List Expr} {te : TE} {t : TJ} {pos p2 : Pos}
theorem pj_nil : PJ X [] jNil := by
  intro pins s σ H acc Q I hl h
  exact wpAny_mkStr ⟨.str acc, H, I.tok _, ⟨_, rfl⟩, h acc⟩ (sz1000' (by simpa using hl))
theorem pj_str {y : Str} {k : Nat} (hr : PJ X es t) (hy : y.length ≤ 2000 := by decide +kernel) : PJ X (.Constant (.str y) k pos :: es) (jStr t) := by
  intro pins s σ H acc Q I hl h
  have hl : acc.length + 2000 * (es.length + 1) ≤ 100000 := hl
  refine joinParts_cons (x := eval (.Constant (.str y) k pos) X.env) (rest := evalEach es X.env) (Calls.Constant_str ?_)
  show (acc ++ y).length ≤ sizeLine ∧ wpAny _ _ (joinParts (acc ++ y) (evalEach es X.env)) _ _ _
  refine ⟨sz1000' (by rw [strLen_append]; omega), hr pins _ σ H (acc ++ y) Q (I.tok _) (by rw [strLen_append]; omega) h⟩
theorem pj_int (he : PE X e te) (hr : PJ X es t) : PJ X (.FormattedValue e (-1) none pos :: es) (jInt te t) := by
  intro pins s σ H acc Q I hl h
  have hl : acc.length + 2000 * (es.length + 1) ≤ 100000 := hl
  refine joinParts_cons (x := eval (.FormattedValue e (-1) none pos) X.env) (rest := evalEach es X.env) (FormattedValue_plain (thn (he pins s σ H _ I h) fun v s1 ⟨x, H1, I1, r1, q1⟩ => ?_))
  obtain ⟨i, rfl, hi, q⟩ := q1
  obtain ⟨tk, rfl⟩ := r1
  have hz := int_text_len_1921 hi
  refine formatField_int_small hi ?_
  show (acc ++ Str.ofString (toString i)).length ≤ sizeLine ∧ wpAny _ _ (joinParts (acc ++ Str.ofString (toString i)) (evalEach es X.env)) _ _ _
  refine ⟨sz1000' (by rw [strLen_append]; omega), hr pins _ σ H1 _ Q (I1.tok _) (by rw [strLen_append]; omega) q⟩
def tFstr (t : TJ) : TE := fun σ H Q => t σ H fun H' => ∀ z, Q (.str z) H'
theorem pe_fstr {v1 v2 : Expr} {rest : List Expr} (h : PJ X (v1 :: v2 :: rest) t) (hn : rest.length ≤ 20 := by decide) : PE X (.JoinedStr (v1 :: v2 :: rest) pos) (tFstr t) := by
  intro pins s σ H Q I hw
  refine JoinedStr_many (h pins s σ H Str.empty Q I ?_ hw)
  show 0 + 2000 * (rest.length + 1 + 1) ≤ 100000
  omega
end
/-! ### raise C(..) -/
structure Exc (K : PySem.W.Frag) (mg : Str → Option Value) (x : Str) (C : Addr) : Prop where
  g : mg x = some (.ref C)
  ex : PySem.W.excIn K C [.type "ValueError", .type "Exception", .type "BaseException", .type "object"] "ValueError.__new__" = true
section
variable {X : Cx} {x : Str} {C : Addr} {e : Expr} {es : List Expr} {t : TA} {np cpos pos : Pos} {E : XK}
theorem Exc.own {K : PySem.W.Frag} {mg : Str → Option Value} {h : Heap} (O : Exc K mg x C) (KX : K.In h) : OwnCls x C [.type "ValueError", .type "Exception", .type "BaseException", .type "object"] "ValueError.__new__" mg h := by
  refine ⟨O.g, ?_⟩
  have q := O.ex
  unfold PySem.W.excIn at q
  split at q
  · rename_i dd cd sl ho
    split at q
    · rename_i C' bm k0 k1 k2 k3 n k5 hm hs
      simp only [Bool.and_eq_true, beq_iff_eq, Bool.not_eq_true'] at q
      obtain ⟨⟨⟨⟨⟨e1, e2⟩, hdel⟩, ht⟩, hok⟩, hni⟩ := q
      subst e1 e2
      obtain ⟨nm, bs, mro, ns, qn, hd, sn, sub, ab, col, del⟩ := cd
      dsimp only at hm hdel hok hni
      subst hm hdel
      have hsl : sl = #[k0, k1, k2, k3, some (.builtin "ValueError.__new__"), k5] := by
        obtain ⟨l⟩ := sl
        have hs : l = _ := hs
        rw [hs]
      subst hsl
      exact ⟨bm, ns, nm, qn, bs, hd, sn, sub, ab, col, dd, k0, k1, k2, k3, k5, _, KX _ _ ho, .of_isNs (PySem.W.isNs_of_in KX hok), PySem.W.nsMap_none_of_in KX hok hni, PySem.W.tail_of_in KX ht⟩
    · cases q
  · cases q
def Throws (X : Cx) (E : XK) : Prop := ∀ (pins : List (Addr × Obj)) (σ : St) (H : Hp) (s : Shared) (h' : Heap) (e : Addr) (cls : Value) (vs : List Value), Inv X pins σ H s → Heap.MadeExcOf s.heap h' e cls vs → E cls (some e) H → X.xe (.ref e) { s with heap := h' }
def tRaise (C : Addr) (E : XK) (t : TA) : TS := fun _ σ H => t σ H fun vs H1 => vs.length ≤ sizeLine ∧ ∀ e, H1 e = none → E (.ref C) (some e) H1
theorem ps_raise (hc : X.calm = true) (O : Exc X.K X.mg x C) (hT : Throws X E) (ha : PA X (e :: es) t) (hg : Gl X x := by rfl) (hdb : (x == ("__debug__" : Str)) = false := by decide)
    (he : starEach (e :: es) X.env = (false, eval e X.env) :: starEach es X.env := by rfl) (hplain : (backTo cpos (starEach es X.env)).any (·.1) = false := by rfl) :
    PS X (.Raise (some (.Call (.Name x np) (e :: es) [] cpos)) none pos) (tRaise C E t) := by
  intro pins s σ H D I h
  obtain ⟨tl, N, nm, q, bs, hdct, sn, sub, ab, col, dd, k0, k1, k2, k3, k5, mN, hC, hN, hni, T⟩ := (O.own I.ok.mod.kin).obj
  refine wpAny_Raise_call_subT (C := C) (nm := nm) (q := q) (N := N) (bs := bs) (bm := tl) (hdct := hdct) (sn := sn) (sub := sub) (ab := ab) (col := col) (dd := dd) (k0 := k0) (k1 := k1) (k2 := k2) (k3 := k3) (k5 := k5)
    F.excBase_ValueError (mN := mN) (T.hasType F.excBase_ValueError.hasBase) (I.ok.hd hc) (by rw [he]; show (false || (backTo cpos (starEach es X.env)).any (·.1)) = false; rw [hplain]; rfl) hni (ld_glob I hg O.g ⟨rfl, ?_⟩ hdb)
  have hA := ha cpos pins s σ H _ I h
  rw [he] at hA ⊢
  refine Calls.evalArgs_plain (thn hA fun us s2 ⟨vs, H2, I2, r2, q2⟩ => ?_)
  refine ⟨rfl, by rw [← r2.length]; exact q2.1, I2.bk _ _ hC, hN.keeps I2.bk, T.keeps I2.bk, fun h' ex hx => ?_⟩
  exact hT pins σ H2 s2 h' ex (.ref C) us I2 hx (q2.2 ex (I2.hok.gone hx.new))
theorem throws_fn {P : Program} {w : World} {K : PySem.W.Frag} {mg : Str → Option Value} {base : Heap} {N : List Str} {qual : Str} {scope : Scope} {f : Addr} {cd : Value} {A : Around} {outer : List Env} {s : Shared} {H : Hp} {E : XK} :
    Throws (cxOf (CX1 P w) P w K mg base N qual scope f cd A outer s H E) E := fun pins σ H1 s1 h' e cls vs I hx hE =>
  thrown_at (env := envOfC qual scope s.heap.objs.size f cd) (fn := fun _ => true) rfl (Heap.get?_none_of_le (Nat.le_refl _)) I hx hE
theorem Fun.okX {P : Program} {w : World} {K : PySem.W.Frag} {mg : Str → Option Value} {base : Heap} {x qual : Str} {st : Stmt} {f : Addr} {fd : FuncData} {N ps : List Str} {k : Nat} {sp : Sp} (F : Fun K x qual st f fd) (S : FnScope N ps (defScope st)) (len : ∀ vs H Q E, sp vs H Q E → vs.length = ps.length)
    (hbody : ∀ (cdv : Value) (A : Around) (outer : List Env) (s : Shared) (H : Hp) (vs : List V) (Q : VK) (E : XK), Room k (A.deeper (envOfC qual (defScope st) s.heap.objs.size f cdv)) → sp vs H Q E →
      ∃ t, PSs (cxOf (CX1 P w) P w K mg base N qual (defScope st) f cdv A outer s H E) (defBody st) t ∧ t { nx := fun _ H' => Q .non H', rt := Q } (start N vs) H) : FnOk P w K mg base (CX1 P w) (k + 1) f fd ps sp := by
  obtain ⟨oc, od, kV, doc, pm, an, cdv, ct, osl, rfl, lk, hcd⟩ := F.ex
  exact fn_of lk hcd S len fun A outer s H vs Q E hr hsp => hbody cdv A outer s H vs Q E hr hsp
structure OkX (P : Program) (w : World) (K : PySem.W.Frag) (mg : Str → Option Value) (base : Heap) (x : Str) (ps : List Str) (k : Nat) (sp : Sp) : Prop where
  ex : ∃ f fd, FnOk P w K mg base (CX1 P w) k f fd ps sp ∧ Binds K fd ps [] ∧ mg x = some (.ref f) ∧ PySem.W.keepIn K (.ref f) = true
theorem pe_callX {k j : Nat} {ps : List Str} {sp : Sp} {p pos : Pos} (O : OkX X.prog X.w X.K X.mg X.base x ps k sp) (hr : Room j X.A) (hx : Passes (CX1 X.prog X.w) X E) (ha : PA X (e :: es) t) (hg : Gl X x := by rfl) (hj : k ≤ j := by decide) (hdb : (x == ("__debug__" : Str)) = false := by decide) (he : starEach (e :: es) X.env = (false, eval e X.env) :: starEach es X.env := by rfl) (hpl : (backTo pos (starEach es X.env)).any (·.1) = false := by rfl) :
    PE X (.Call (.Name x p) (e :: es) [] pos) (tCall sp [] E t) := by
  obtain ⟨f, fd, F, b, m, kp⟩ := O.ex
  exact pe_call F (hr.mono hj) hg m kp b .nil hx ha hdb he hpl
end
end L2

namespace L2
open PySem PySem.Spec PyProof.Rows PySem.W
/-! ### isinstance(e, C) of an error of the program's own -/
structure ExcK (K : Frag) (C : Addr) : Prop where
  cls : (clsIn K C).isSome = true
  ga : findIn K (.ref C) "__getattribute__" = some (some (.builtin "BaseException.__getattribute__"))
  gn : findIn K (.ref C) "__getattr__" = some none
  at' : findIn K (.ref C) "__class__" = some (some (.builtin "object.__class__"))
  base : mroIn K C (.type "BaseException") = some true
  obj : mroIn K C (.type "object") = some true
section
variable {prog : Program} {w : World} {A : Around} {E : Value → Shared → Prop} {h : Heap} {g : Array GenState} {d : Drawn} {t : Nat} {os : OsState} {a C : Addr} {o : Obj} {K : Frag}
theorem xc_type {M : Model} (hx : h.get? a = some o) (hc : o.cls = .ref C) : Looks M h (typeOf (.ref a)) (.ref C) := fun A Q E s k q => by
  show wpAny M A (loadPart a _ >>= fun o => pure o.cls) Q E s
  exact wpAny_bind (wpAny_loadPart (k _ _ hx) (wpAny_pure (by rw [hc]; exact q)))
theorem xc_get {R : Result → Shared → Prop} (X : K.In h) (B : ExcK K C) (hx : h.get? a = some o) (hc : o.cls = .ref C) (hq : R (.ok (.ret (.ref C))) ⟨h, g, d, t, os⟩) :
    codeAny (model prog w) A (.call (.builtin "getset_descriptor.__get__") ⟨[.builtin "object.__class__", .ref a, .ref C], []⟩) R ⟨h, g, d, t, os⟩ := by
  have hT5 : (⟨h, g, d, t, os⟩ : Shared).TypeIs (.builtin "object.__class__") "getset_descriptor" := F.typeOf_object_class
  have hs : Looks (model prog w) h (isSubtype (.ref C) (.type (".".intercalate ("object.__class__".cutAt '.').dropLast))) true := by
    rw [F.owner_object_class]; exact looks_mroIn X B.obj
  refine codeAny_call_builtin F.slot_gs_get.plain F.entry_gs_get (F.slot_gs_get.check _ _ _ _ _ _ _ _ hT5 (F.args_gs_get _ _ _) ?_)
  repeat (any_goals (first | assumption | (with_reducible refine wpAny_loadPart_at hx ?_; rw [hc]) | with_reducible refine hs.at ?_ | wp_step))
  refine ⟨Code.quiet_builtin _ (by decide +kernel), codeAny_builtin F.entry_object_class ?_⟩
  repeat (any_goals (first | assumption | (with_reducible refine wpAny_loadPart_at hx ?_; rw [hc]) | wp_step))
theorem xc_entry {tk : Tok} {Q : Fin → Shared → Prop} (X : K.In h) (B : ExcK K C) (hx : h.get? a = some o) (hc : o.cls = .ref C) (hq : Q (.done (.ret (.ref C))) ⟨h, g, d, t, os⟩) :
    wpAny (model prog w) A (Builtin.«object.__getattribute__» ⟨[.ref a, .str "__class__" tk], []⟩) Q E ⟨h, g, d, t, os⟩ := by
  have hT5 : (⟨h, g, d, t, os⟩ : Shared).TypeIs (.builtin "object.__class__") "getset_descriptor" := F.typeOf_object_class
  have f5 := F.typeOf_object_class
  have f6 := F.slot_gs_get.lookup
  have f7 := F.slot_gs_set.lookup
  have l1 : Looks (model prog w) h (typeLookup (.ref C) "__class__") (some (.builtin "object.__class__")) := looks_findIn X B.at'
  repeat (any_goals (first | assumption | (with_reducible refine wpAny_loadPart_at hx ?_; rw [hc]) | with_reducible refine l1.at ?_ | wp_step))
  refine xc_get X B hx hc ?_
  repeat (any_goals (first | assumption | wp_step))
theorem xc_check {M : Model} {nv : Value} {Q : Unit → Shared → Prop} (X : K.In h) (B : ExcK K C) (hx : h.get? a = some o) (hc : o.cls = .ref C) (hq : Q () ⟨h, g, d, t, os⟩) :
    wpAny M A (checkBuiltinCall "BaseException.__getattribute__" ⟨[.ref a, nv], []⟩) Q E ⟨h, g, d, t, os⟩ := by
  have hk : builtinKind "BaseException.__getattribute__" = some .slot := by decide +kernel
  have hsp : splitId "BaseException.__getattribute__" = some ("BaseException", "__getattribute__") := by decide +kernel
  have hs : Looks M h (isSubtype (.ref C) (.type "BaseException")) true := looks_mroIn X B.base
  have ha := F.args_bexc_ga (.ref a) nv
  simp only [checkBuiltinCall, hk, hsp]
  refine wpAny_bind ?_
  unfold isInstance
  repeat (first | (with_reducible refine wpAny_loadPart_at hx ?_; rw [hc]) | with_reducible refine hs.at ?_ | wp_step)
  exact hq
theorem xc_by {tk : Tok} {Q : Value → Shared → Prop} (X : K.In h) (B : ExcK K C) (hx : h.get? a = some o) (hc : o.cls = .ref C) (hq : Q (.ref C) ⟨h, g, d, t, os⟩) : wpAny (model prog w) A (getAttrBy (.ref a) (.str "__class__" tk) false) Q E ⟨h, g, d, t, os⟩ := by
  have f3 := F.excAttr_ValueError.ga.bind (.ref a)
  have l1 : Looks (model prog w) h (typeLookup (.ref C) "__getattribute__") (some (.builtin "BaseException.__getattribute__")) := looks_findIn X B.ga
  have l2 : Looks (model prog w) h (typeLookup (.ref C) "__getattr__") none := looks_findIn X B.gn
  have hx2 : (Value.builtin "BaseException.__getattribute__" == Value.builtin "object.__getattribute__") = false := by decide +kernel
  have hx1 : (onTheHeap (Value.ref C) && Value.builtin "BaseException.__getattribute__" == Value.builtin "object.__getattribute__") = false := by rw [hx2]; rfl
  repeat (any_goals (first | assumption | (with_reducible refine wpAny_loadPart_at hx ?_; rw [hc]) | with_reducible refine l1.at ?_ | with_reducible refine l2.at ?_ | wp_step))
  refine codeAny_call_builtin F.excAttr_ValueError.ga.plain F.entry_bexc_ga (xc_check X B hx hc (xc_entry X B hx hc ?_))
  repeat (any_goals (first | assumption | wp_step))
theorem xc_attr {Q : Option Value → Shared → Prop} (X : K.In h) (B : ExcK K C) (hx : h.get? a = some o) (hc : o.cls = .ref C) (hq : Q (some (.ref C)) ⟨h, g, d, t + 1, os⟩) : wpAny (model prog w) A (getAttr? (.ref a) "__class__") Q E ⟨h, g, d, t, os⟩ := by
  unfold getAttr? getAttrBy?
  repeat (any_goals (first | assumption | with_reducible apply xc_by X B hx hc | wp_step))
theorem kitx_exc (B : ExcK K C) : KitX K (.ref a) (.ref C) (fun h => ∃ o, h.get? a = some o ∧ o.cls = .ref C) where
  ty := fun _ _ _ ⟨o, hx, hc⟩ => xc_type hx hc
  it := fun _ _ X _ => by
    have hcD := B.cls
    unfold clsIn at hcD
    split at hcD
    · rename_i c' d' cd' sl' ho
      intro A' Q' E' s' k q
      unfold isType loadHead
      exact wpAny_bind (wpAny_loadPart (k _ _ (X _ _ ho)) (wpAny_pure q))
    · cases hcD
  ne := fun h tp dd its n sl X htp => by
    refine Bool.eq_false_iff.mpr fun q => ?_
    have e : C = tp := Value.ref.inj (beq_iff_eq.mp q)
    subst e
    have hcD := B.cls
    unfold clsIn at hcD
    split at hcD
    · rename_i c' d' cd' sl' ho
      have z := (X _ _ ho).symm.trans htp
      cases z
    · cases hcD
  ca := fun {_ _ _ _ _ s} X p k => by
    obtain ⟨h, g, d, t, os⟩ := s
    obtain ⟨o, hx, hc⟩ := p
    exact xc_attr X B hx hc k
end
end L2

/-! A LAW THAT MAKES FUNCTIONS: the table of its code is tracked. -/
namespace L2
open PySem PySem.Spec PyProof.Rows
def OnlyT (P : Addr) (H : Hp) : Prop := ∀ b, H b = none ∨ (∃ o xs, H b = some (.frz o (.lst xs))) ∨ (b = P ∧ H b = some (.tbl #[]))
theorem law_callT {Pr : Program} {w : World} {K : PySem.W.Frag} {mg mb : Str → Option Value} {CX : CXT} {k : Nat} {fa a c P : Addr} {fd : FuncData} {x : Str} {sp : Sp} {s₁ : Shared} {vs : List Value} {ns : List Int}
    (KX : K.In s₁.heap) (hns : s₁.heap.Ns mainGlobals mg) (hb : s₁.heap.Ns builtinsNs mb) (hbb : ∀ x : Str, x ≠ "__name__" → mb x = bootBuiltins x) (hlim : s₁.heap.NoLimit) (hg : s₁.gens = #[])
    (ha : s₁.heap.get? a = some { cls := .type "list", data := .seq vs.toArray }) (hi : IntsAre vs ns) (hl : ns.length ≤ sizeLine) (hr : Room k callerA)
    (C : PySem.W.CodeHd s₁.heap c P) (hP : s₁.heap.get? P = some (PySem.W.tabObj #[])) (hKP : K.lookup P = none)
    (hB : s₁.heap.BuiltinsAt mg P) (F : ∀ base : Heap, K.In base → base.Ns mainGlobals mg → PySem.W.CodeHd base c P → base.BuiltinsAt mg P → FnOk Pr w K mg base CX k fa fd [x] sp) (hbind : ∀ (s : Shared) (u : Value), BindsTo s fd ⟨[u], []⟩ [(x, u)])
    (hsp : ∀ H : Hp, OnlyT P H → H P = some (.tbl #[]) → SqL K H a (ns.map V.int) → sp [.ref a] H (fun v _ => v = .bl true) fun _ _ _ => False)
    (hCX : ∀ H e s', CX [] H s₁ (fun _ _ _ => False) e s' → False) :
    codeAny (model Pr w) callerA (.call (.ref fa) ⟨[.ref a], []⟩) (fun r s' => r = .ok (.ret (.bool true)) ∧ OldK s₁.heap s'.heap ∧ s'.os = s₁.os ∧ AllBare s'.gens) s₁ := by
  have rv := vals_ints hi
  have lenV := hi.length
  have naP : a ≠ P := fun e => by rw [e, hP] at ha; cases ha
  have core : ∀ H : Hp, OnlyT P H → H P = some (.tbl #[]) → SqL K H a (ns.map V.int) → HOk Pr w H s₁.heap → (∀ b, H b ≠ none → b = a ∨ b = P) → (H a ≠ none → K.lookup a = none) →
      codeAny (model Pr w) callerA (.call (.ref fa) ⟨[.ref a], []⟩) (fun r s' => r = .ok (.ret (.bool true)) ∧ OldK s₁.heap s'.heap ∧ s'.os = s₁.os ∧ AllBare s'.gens) s₁ := by
    intro H hO hT hS hok hA hK
    have base_of : ∀ {b : Addr} {o : Obj}, s₁.heap.get? b = some o → H b = none → (hidT s₁.heap H).get? b = some o := fun e n => hidT_get e n
    have noA : ∀ {b : Addr} {o : Obj} {es : Array DictEntry} {ep : Nat}, s₁.heap.get? b = some o → o.data = .dict es ep → H b = none := fun {b o es ep} e d => by
      cases q : H b with
      | none => rfl
      | some u =>
        rcases hA b (by rw [q]; simp) with e' | e'
        · subst e'
          rw [ha] at e; cases e
          have d' : Data.seq vs.toArray _ = Data.dict es ep := d
          cases d'
        · subst e'
          rw [hP] at e; cases e
          cases d
    have nsK : ∀ {b : Addr} {m : Str → Option Value}, s₁.heap.Ns b m → (hidT s₁.heap H).Ns b m := fun {b m} ⟨o, es, ep, e, d, r⟩ => ⟨o, es, ep, base_of e (noA e d), d, r⟩
    have hKb : K.In (hidT s₁.heap H) := fun b o e => base_of (KX b o e) (by
      cases q : H b with
      | none => rfl
      | some u =>
        rcases hA b (by rw [q]; simp) with e' | e'
        · subst e'
          rw [hK (by rw [q]; simp)] at e; cases e
        · subst e'
          rw [hKP] at e; cases e)
    have hM : Mod K mg (hidT s₁.heap H) := ⟨hKb, nsK hns, ⟨mb, nsK hb, hbb⟩, let ⟨mc, h1, h2⟩ := hlim; ⟨mc, nsK h1, h2⟩⟩
    have noB : ∀ {b : Addr}, b ≠ a → b ≠ P → H b = none := fun {b} n1 n2 => by
      cases q : H b with
      | none => rfl
      | some u => exact ((hA b (by rw [q]; simp)).elim n1 n2).elim
    have hCb : PySem.W.CodeHd (hidT s₁.heap H) c P := by
      obtain ⟨o, vs', file, tf, flags, tg, inF, text, tt, e1, e2, r⟩ := id C
      exact ⟨o, vs', file, tf, flags, tg, inF, text, tt, base_of e1 (noB (fun z => by rw [z, ha] at e1; cases e1; exact absurd (show Value.type "list" = Value.type "code" from e2) (by decide)) r.2.2.2.2.2.2.2), e2, r⟩
    have hBb : (hidT s₁.heap H).BuiltinsAt mg P := by
      obtain ⟨bm, o, a1, a2, a3, a4, a5, a6, r⟩ := hB
      exact ⟨bm, o, a1, a2, a3, a4, base_of a5 (noB (fun z => by rw [z, ha] at a5; cases a5; exact absurd (show Value.type "list" = Value.type "module" from a6) (by decide)) a4), a6, r⟩
    have e0 : Env0 Pr w K mg (hidT s₁.heap H) callerA [] s₁ H := ⟨rfl, hM, fun b o e => of_hidT e, Nat.le_of_eq (hidT_size _ _), trivial, fun b hb => absurd (show b ∈ ([] : List Addr) from hb) (by simp), hok, .of_eq hg⟩
    refine codeAny_mono ((F _ hKb (nsK hns) hCb hBb).run callerA [] s₁ H ⟨[.ref a], []⟩ [.ref a] [.ref a] _ _ hr e0 (hbind s₁ (.ref a)) (.cons rfl .nil) (hsp H hO hT hS)) fun r s' h => ?_
    cases r with
    | error e => exact (hCX H e s' h).elim
    | ok fl =>
      cases fl with
      | next => exact False.elim h
      | brk => exact False.elim h
      | cont => exact False.elim h
      | ret u =>
        obtain ⟨v, H', os, bare, un, hok', r', q⟩ := h
        have q' : v = .bl true := q
        subst q'
        obtain rfl : u = Value.bool true := r'
        have all : ∀ b o, s₁.heap.get? b = some o → s'.heap.get? b = some o ∨ (b = P ∧ ∃ more, s'.heap.get? b = some (PySem.W.tabObj more)) := fun b o e => by
          cases q : H b with
          | none => exact .inl (un.keep b o e q (by intro z; exact absurd (show b ∈ ([] : List Addr) from z) (by simp)) (by simp))
          | some u =>
            rcases hO b with z | ⟨ob, xs, z⟩ | ⟨eb, z⟩
            · rw [q] at z; cases z
            · have z2 := un.frzs b ob _ z
              obtain ⟨e1, _⟩ := hok b _ z
              obtain ⟨e2, _⟩ := hok' b _ z2
              rw [e] at e1; cases e1
              exact .inl e2
            · obtain ⟨more, z2⟩ := un.tbls b _ z
              have z3 : s'.heap.get? b = some { cls := .none, data := .fields (#[] ++ more) } := hok' b _ z2
              exact .inr ⟨eb, _, z3⟩
        refine ⟨rfl, ⟨fun b o e => ?_, fun b o e => ?_⟩, os, bare⟩
        · rcases all b o e with z | ⟨eb, more, z⟩
          · exact .inl z
          · subst eb
            rw [hP] at e; cases e
            refine .inr (.inl ⟨(C.tab hP).isCodeTable, rfl, #[], more, rfl, ?_⟩)
            rw [z]
            simp
        · rcases all b o e with z | ⟨eb, more, z⟩
          · exact ⟨_, z⟩
          · exact ⟨_, z⟩
  cases hk : K.lookup a with
  | some o =>
    have e := KX a o hk
    rw [ha] at e
    cases e
    refine core (fun b => if b = P then some (.tbl #[]) else none) (fun b => ?_) (if_pos rfl) (.inr ⟨_, vs.toArray, _, hk, rfl, rfl, rfl, by rw [List.size_toArray, lenV]; exact hl, by simpa using rv⟩) (fun b u z => ?_) (fun b z => ?_) fun z => absurd (if_neg naP) z
    · by_cases hb : b = P
      · exact .inr (.inr ⟨hb, if_pos hb⟩)
      · exact .inl (if_neg hb)
    · by_cases hb : b = P
      · have z' := (if_pos hb).symm.trans z
        cases z'
        subst hb
        exact hP
      · have z' := (if_neg hb).symm.trans z
        cases z'
    · by_cases hb : b = P
      · exact .inr hb
      · exact absurd (if_neg hb) z
  | none =>
    refine core (fun b => if b = P then some (.tbl #[]) else if b = a then some (.frz { cls := .type "list", data := .seq vs.toArray } (.lst (ns.map V.int))) else none) (fun b => ?_) (if_pos rfl) (.inl (.inr ⟨{ cls := .type "list", data := .seq vs.toArray }, (if_neg naP).trans (if_pos rfl)⟩)) (fun b u z => ?_) (fun b z => ?_) fun _ => hk
    · by_cases hb : b = P
      · exact .inr (.inr ⟨hb, if_pos hb⟩)
      · by_cases hb2 : b = a
        · exact .inr (.inl ⟨_, _, (if_neg hb).trans (if_pos hb2)⟩)
        · exact .inl ((if_neg hb).trans (if_neg hb2))
    · by_cases hb : b = P
      · have z' := (if_pos hb).symm.trans z
        cases z'
        subst hb
        exact hP
      · by_cases hb2 : b = a
        · have z : (if b = P then some (HO.tbl #[]) else if b = a then some (.frz { cls := .type "list", data := .seq vs.toArray } (.lst (ns.map V.int))) else none) = some u := z
          rw [if_neg hb, if_pos hb2] at z
          cases z
          subst hb2
          exact ⟨ha, by rw [List.length_map]; exact hl, vs, _, rv, ha⟩
        · have z : (if b = P then some (HO.tbl #[]) else if b = a then some (.frz { cls := .type "list", data := .seq vs.toArray } (.lst (ns.map V.int))) else none) = some u := z
          rw [if_neg hb, if_neg hb2] at z
          cases z
    · by_cases hb : b = P
      · exact .inr hb
      · by_cases hb2 : b = a
        · exact .inl hb2
        · exact absurd (show (if b = P then some (HO.tbl #[]) else if b = a then some (.frz { cls := .type "list", data := .seq vs.toArray } (.lst (ns.map V.int))) else none) = none by rw [if_neg hb, if_neg hb2]) z
theorem walk_ofT {l : PySem.W.OpenLaw} {n k : Nat} {q : Program} {loose : List Str} {XP : (Str → Option Value) → Heap → Prop} {YP : World → Heap → Prop} {d : DefRec} {K : Params → PySem.W.Frag} {CX : World → CXT} {sp : World → Sp} {x : Str} {c P : World → Addr}
    (hn : l.most = some n) (hn2 : n ≤ sizeLine) (hdf : d.params.defaults = []) (hr : Room k callerA)
    (hY : ∀ (w : World) (h : Heap), YP w h → (K w.params).In h)
    (hrec : (recsOf q).find? (fun e => e.name == d.name) = some d) (ht : ∀ w, PySem.W.tabIn (K w.params) d.name = some (c w, P w)) (hKP : ∀ w : World, (K w.params).lookup (P w) = none)
    (F : ∀ (w : World) (mg : Str → Option Value) (fa : Addr) (h : Heap), (K w.params).In h → h.Ns mainGlobals mg → mg d.name = some (.ref fa) →
      ∃ fd : FuncData, (∀ (s : Shared) (u : Value), BindsTo s fd ⟨[u], []⟩ [(x, u)]) ∧
        ∀ base : Heap, (K w.params).In base → base.Ns mainGlobals mg → PySem.W.CodeHd base (c w) (P w) → base.BuiltinsAt mg (P w) → FnOk l.prog w (K w.params) mg base (CX w) k fa fd [x] (sp w))
    (hsp : ∀ (w : World) (H : Hp) (a : Addr) (ns : List Int), ns.length ≤ n → OnlyT (P w) H → H (P w) = some (.tbl #[]) → SqL (K w.params) H a (ns.map V.int) → sp w [.ref a] H (fun v _ => v = .bl true) fun _ _ _ => False)
    (hCX : ∀ (w : World) (H : Hp) (s : Shared) (e : Value) (s' : Shared), CX w [] H s (fun _ _ _ => False) e s' → False) :
    PySem.W.WalkO q loose XP YP l.row.toRowW d [] (fun f vs => PySem.call f vs) := by
  refine Att.attach_call hn hdf fun w s₀ s₁ mg mb fa o pm cd doc a vs ns G Y ho hd hcd hmg hobj hints hlen hg => ?_
  have KX := hY w _ Y
  obtain ⟨fd, hb, hF⟩ := F w mg fa _ KX G.T.g hmg
  obtain ⟨C, hP⟩ := PySem.W.tab_of G.T KX hrec (ht w)
  have hB : s₁.heap.BuiltinsAt mg (P w) := by
    obtain ⟨bm, ob, h1, h2, h3, h4, h5, h6⟩ := G.T.bmain
    refine ⟨bm, ob, h1, h2, fun z => ?_, fun z => ?_, h3, h4, h5, h6⟩
    · obtain ⟨o, es, ep, e, hd, _⟩ := G.T.g
      rw [z, e] at h3; cases h3
      rw [h6] at hd; cases hd
    · rw [z, hP] at h3; cases h3
      cases h6
  exact law_callT KX G.T.g G.T.b G.T.builtins G.T.nolimit hg hobj hints (Nat.le_trans hlen hn2) hr C hP (hKP w) hB hF hb (fun H hO hT hS => hsp w H a ns hlen hO hT hS) fun H e s' => hCX w H s₁ e s'
end L2

/-! A LAMBDA is made: its code in the table, its function object known. -/
namespace L2
open PySem PySem.Spec PyProof.Rows
def FunIs (f : Addr) (name qual : Str) (params : Arguments) (body : Expr) (scope : Scope) (clos : List (Str × Addr)) (pm cv ctv : Value) : Heap → Prop := fun h => h.get? f = some { cls := .type "function", data := .func (PySem.W.kla_fn name qual params body scope clos pm cv ctv) }
def CodeIs (c : Addr) (qual : Str) : Heap → Prop := fun h => h.CodeRec (.ref c) qual
theorem CodeIs.stay {c : Addr} {qual : Str} {h h' : Heap} (p : CodeIs c qual h) (k : ∀ o, h.get? c = some o → h'.get? c = some o) : CodeIs c qual h' := by
  obtain ⟨c', oc, vs, tq, e, e1, e2, e3⟩ := p
  cases e
  exact ⟨c, oc, vs, tq, rfl, k _ e1, e2, e3⟩
section
variable {X : Cx} {params : Arguments} {body : Expr} {scope : Scope} {pos : Pos} {clos : List (Str × Addr)} {c P : Addr}
def tLam (X : Cx) (P : Addr) (params : Arguments) (body : Expr) (scope : Scope) (pos : Pos) (clos : List (Str × Addr)) : TE := fun σ H Q => ∃ ps : Array Value, H P = some (.tbl ps) ∧ TriplesOk ps.toList ∧
  (codeAmong pos ps.toList = none → ∀ (f c' : Addr) (ctv : Value), H c' = none → H f = none → f ≠ c' → f ≠ P → c' ≠ P →
    Q (.ref f) (upd (upd (upd H P (.tbl (ps ++ #[rawInt pos.line, rawInt pos.col, .ref c']))) c' (.ext (CodeIs c' (X.env.qual ++ "<lambda>")))) f (.ext (FunIs f "<lambda>" (X.env.qual ++ "<lambda>") params body scope clos ((X.mg "__name__").getD .none) (.ref c') ctv)))) ∧
  (∀ cv, codeAmong pos ps.toList = some cv → ∀ (f : Addr) (ctv : Value), H f = none → Q (.ref f) (upd H f (.ext (FunIs f "<lambda>" (X.env.qual ++ "<lambda>") params body scope clos ((X.mg "__name__").getD .none) cv ctv))))
theorem pe_lam (hdef : defaultsOf params X.env = ([], [])) (hcl : closureFor scope X.env = pure clos) (hcode : X.env.code = .ref c) (hC : PySem.W.CodeHd X.base c P) (hB : X.base.BuiltinsAt X.mg P) : PE X (.Lambda params body scope pos) (tLam X P params body scope pos clos) := by
  intro pins s σ H Q I h
  obtain ⟨ps, hT, ht, h1, h2⟩ := h
  have hP : s.heap.get? P = some (PySem.W.tabObj ps) := I.hok P _ hT
  have hgl : s.heap.Ns mainGlobals X.mg := I.mod.glob.keeps I.bk
  have hgP : mainGlobals ≠ P := fun e => by
    obtain ⟨o, es, ep, e1, e2, _⟩ := hgl
    rw [e, hP] at e1; cases e1; cases e2
  have hB' : s.heap.BuiltinsAt X.mg P := let ⟨bm, o, a1, a2, a3, a4, a5, r⟩ := hB; ⟨bm, o, a1, a2, a3, a4, I.bk _ _ a5, r⟩
  have hC' := hC.keeps I.bk
  have lt : ∀ {b : Addr} {u : HO}, H b = some u → b < s.heap.objs.size := fun e => I.hok.lt e
  refine PySem.W.kla_eval hdef ?_
  cases hf : codeAmong pos ps.toList with
  | none =>
    refine PySem.W.kla_makeFunction hcl I.ok.glob hgl hcode hC' hP ht hf hgP hB' fun c' ctv h' tk hx hge hlt hrec hP' => ?_
    have hszP : P < s.heap.objs.size := Heap.lt_size hP
    have ncP : c' ≠ P := fun e => Nat.lt_irrefl _ (Nat.lt_of_lt_of_le hszP (e ▸ hge))
    have hle : s.heap.objs.size ≤ h'.objs.size := Nat.le_trans hge (Nat.le_of_lt hlt)
    have nfP : h'.objs.size ≠ P := fun e => Nat.lt_irrefl _ (Nat.lt_of_lt_of_le hszP (e ▸ hle))
    have nfc : h'.objs.size ≠ c' := fun e => Nat.lt_irrefl _ (e ▸ hlt)
    have old : ∀ {b : Addr}, b < s.heap.objs.size → b ≠ c' ∧ b ≠ h'.objs.size := fun hb => ⟨fun e => Nat.lt_irrefl _ (Nat.lt_of_lt_of_le hb (e ▸ hge)), fun e => Nat.lt_irrefl _ (Nat.lt_of_lt_of_le hb (e ▸ hle))⟩
    generalize eO : PySem.W.kla_obj "<lambda>" (X.env.qual ++ "<lambda>") params body scope clos ((X.mg "__name__").getD .none) c' ctv = ob
    have kk : ∀ b o, b ≠ P → s.heap.get? b = some o → (h'.push ob).get? b = some o := fun b o n e => Heap.get?_push_of_some _ (hx b o n e)
    have q := h1 hf h'.objs.size c' ctv (I.hok.fresh hge) (I.hok.fresh hle) nfc nfP ncP
    generalize eH : upd (upd (upd H P (.tbl (ps ++ #[rawInt pos.line, rawInt pos.col, .ref c']))) c' (.ext (CodeIs c' (X.env.qual ++ "<lambda>")))) h'.objs.size (.ext (FunIs h'.objs.size "<lambda>" (X.env.qual ++ "<lambda>") params body scope clos ((X.mg "__name__").getD .none) (.ref c') ctv)) = H' at q
    have at_old : ∀ {b : Addr}, b < s.heap.objs.size → b ≠ P → H' b = H b := fun {b} hb n => by rw [← eH, upd_ne (old hb).2, upd_ne (old hb).1, upd_ne n]
    have at_P : H' P = some (.tbl (ps ++ #[rawInt pos.line, rawInt pos.col, .ref c'])) := by rw [← eH, upd_ne (Ne.symm nfP), upd_ne (Ne.symm ncP)]; exact upd_same
    have at_c : H' c' = some (.ext (CodeIs c' (X.env.qual ++ "<lambda>"))) := by rw [← eH, upd_ne (Ne.symm nfc)]; exact upd_same
    have at_f : H' h'.objs.size = some (.ext (FunIs h'.objs.size "<lambda>" (X.env.qual ++ "<lambda>") params body scope clos ((X.mg "__name__").getD .none) (.ref c') ctv)) := by rw [← eH]; exact upd_same
    have noP : ∀ {b : Addr} {u : HO}, H b = some u → (∀ ps', u ≠ .tbl ps') → b ≠ P := fun {b u} e n z => by rw [z, hT] at e; cases e; exact n _ rfl
    refine ⟨.ref h'.objs.size, H', ?_, rfl, q⟩
    refine I.step (g' := s.gens) (d' := s.drawn) (t' := tk) (ch := []) (fun _ z => nomatch z) (fun b o _ _ _ e n => kk b o (fun z => by rw [z, hT] at n; cases n) e) (fun b o _ _ _ e n => ⟨o.slots, kk b o (fun z => by rw [z, hT] at n; cases n) e⟩)
      (fun b o _ e n => (at_old (Heap.lt_size e) (fun z => by rw [z, hT] at n; cases n)).trans n) (fun b o _ e => ?_) (fun b xs e => (at_old (lt e) (noP e fun _ z => by cases z)).trans e) (fun b o u e => (at_old (lt e) (noP e fun _ z => by cases z)).trans e) (fun b ps' e => ?_) (fun m hm => ?_) ?_ I.bare
    · by_cases hb : b = P
      · exact ⟨_, Heap.get?_push_of_some _ (hb ▸ hP')⟩
      · exact ⟨o, kk b o hb e⟩
    · by_cases hb : b = P
      · subst hb
        rw [hT] at e; cases e
        exact ⟨_, at_P⟩
      · exact ⟨#[], ((at_old (lt e) hb).trans e).trans (by simp)⟩
    · have nL : X.env.locals ≠ P := fun z => by have := I.free; rw [z, hT] at this; cases this
      obtain ⟨o, es, ep, e1, e2, r⟩ := hm
      exact ⟨o, es, ep, kk _ _ nL e1, e2, r⟩
    · intro b u e
      by_cases hbf : b = h'.objs.size
      · subst hbf
        rw [at_f] at e; cases e
        exact ⟨by rw [← eO]; exact Heap.get?_push_size _ rfl, ⟨_, by rw [← eO]; exact Heap.get?_push_size _ rfl⟩, fun h1 h2 p k => k _ p⟩
      · by_cases hbc : b = c'
        · subst hbc
          rw [at_c] at e; cases e
          have hr : CodeIs b (X.env.qual ++ "<lambda>") (h'.push ob) := CodeIs.stay (h := h') hrec fun o e => Heap.get?_push_of_some _ e
          obtain ⟨c2, oc, vs, tq, e0, e1, e2, e3⟩ := id hr
          cases e0
          exact ⟨hr, ⟨_, e1⟩, fun h1 h2 p k => CodeIs.stay p k⟩
        · by_cases hbP : b = P
          · subst hbP
            rw [at_P] at e; cases e
            exact Heap.get?_push_of_some _ hP'
          · have e' : H b = some u := by rw [← eH, upd_ne hbf, upd_ne hbc, upd_ne hbP] at e; exact e
            refine (I.hok b u e').stay (fun cc v hc qq => kk cc v ?_ qq) (fun cc r => (at_old (lt r) (noP r fun _ z => by cases z)).trans r) fun cc xs r => (at_old (lt r) (noP r fun _ z => by cases z)).trans r
            rcases hc with rfl | hc
            · exact hbP
            · exact noP hc fun _ z => by cases z
  | some cv =>
    refine PySem.W.kla_makeFunctionHit hcl I.ok.glob hgl hcode hC' hP ht hf hB' fun ctv h' tk hk hle => ?_
    have kk : ∀ b o, s.heap.get? b = some o → (h'.push { cls := .type "function", data := .func (PySem.W.kla_fn "<lambda>" (X.env.qual ++ "<lambda>") params body scope clos ((X.mg "__name__").getD .none) cv ctv) }).get? b = some o := fun b o e => Heap.get?_push_of_some _ (hk b o e)
    exact ⟨.ref h'.objs.size, _, I.laid (t' := tk) kk hle (show ObjOk X.prog X.w _ _ _ (.ext _) from ⟨Heap.get?_push_size _ rfl, ⟨_, Heap.get?_push_size _ rfl⟩, fun h1 h2 p k => k _ p⟩), rfl, h2 cv hf h'.objs.size ctv (I.hok.fresh hle)⟩
end
end L2

/-! CELLS of a caller, frozen while a callee runs that may read them through a function made here. -/
namespace L2
open PySem PySem.Spec PyProof.Rows
def addC (cs : List (Addr × Obj)) (H : Hp) : Hp := fun b => match cs.lookup b with
  | some o => some (.frz o (.ext fun _ => True))
  | none => H b
def dropC (cs : List (Addr × Obj)) (H : Hp) : Hp := fun b => match cs.lookup b with
  | some _ => none
  | none => H b
theorem addC_in {cs : List (Addr × Obj)} {H : Hp} {b : Addr} {o : Obj} (e : cs.lookup b = some o) : addC cs H b = some (.frz o (.ext fun _ => True)) := by unfold addC; rw [e]
theorem addC_out {cs : List (Addr × Obj)} {H : Hp} {b : Addr} (e : cs.lookup b = none) : addC cs H b = H b := by unfold addC; rw [e]
theorem dropC_in {cs : List (Addr × Obj)} {H : Hp} {b : Addr} {o : Obj} (e : cs.lookup b = some o) : dropC cs H b = none := by unfold dropC; rw [e]
theorem dropC_out {cs : List (Addr × Obj)} {H : Hp} {b : Addr} (e : cs.lookup b = none) : dropC cs H b = H b := by unfold dropC; rw [e]
section
variable {fs : List Addr} {cs : List (Addr × Obj)} {H H1 : Hp} {h h' : Heap} {P : Program} {w : World}
theorem addC_un (u : Un fs [] H H1 h h') : Un fs [] (addC cs H) (addC cs H1) h h' where
  keep := fun b o e n hb hx => u.keep b o e (by
    cases q : cs.lookup b with
    | some o' => rw [addC_in q] at n; cases n
    | none => rw [addC_out q] at n; exact n) hb hx
  slot := fun b o e n hb hx => u.slot b o e (by
    cases q : cs.lookup b with
    | some o' => rw [addC_in q] at n; cases n
    | none => rw [addC_out q] at n; exact n) hb hx
  free := fun b o e n hx => by
    cases q : cs.lookup b with
    | some o' => rw [addC_in q] at n; cases n
    | none => rw [addC_out q] at n ⊢; exact u.free b o e n hx
  there := u.there
  tups := fun b xs e => by
    cases q : cs.lookup b with
    | some o' => rw [addC_in q] at e; cases e
    | none => rw [addC_out q] at e ⊢; exact u.tups b xs e
  frzs := fun b o v e => by
    cases q : cs.lookup b with
    | some o' => rw [addC_in q] at e ⊢; exact e
    | none => rw [addC_out q] at e ⊢; exact u.frzs b o v e
  tbls := fun b ps e => by
    cases q : cs.lookup b with
    | some o' => rw [addC_in q] at e; cases e
    | none => rw [addC_out q] at e ⊢; exact u.tbls b ps e
theorem addC_hok (ok : HOk P w H h) (hc : ∀ b o, cs.lookup b = some o → h.get? b = some o) (hn : ∀ b o, cs.lookup b = some o → H b = none) : HOk P w (addC cs H) h := fun b u e => by
  cases q : cs.lookup b with
  | some o =>
    rw [addC_in q] at e; cases e
    exact ⟨hc b o q, trivial, ⟨o, hc b o q⟩, fun _ _ _ _ => trivial⟩
  | none =>
    rw [addC_out q] at e
    have out : ∀ {c : Addr} {v : HO}, H c = some v → cs.lookup c = none := fun {c v} r => by
      cases z : cs.lookup c with
      | none => rfl
      | some o => rw [hn c o z] at r; cases r
    exact (ok b u e).stay (fun _ _ _ r => r) (fun c r => by rw [addC_out (out r)]; exact r) fun c xs r => by rw [addC_out (out r)]; exact r
theorem dropC_un (u : Un fs [] (addC cs H) H1 h h') (ok1 : HOk P w H1 h') (hn : ∀ b o, cs.lookup b = some o → H b = none ∧ h.get? b = some o) : Un fs [] H (dropC cs H1) h h' where
  keep := fun b o e n hb hx => by
    cases q : cs.lookup b with
    | some o' =>
      have z := u.frzs b o' _ (addC_in q)
      rw [(hn b o' q).2] at e; cases e
      exact (ok1 b _ z).1
    | none => exact u.keep b o e (by rw [addC_out q]; exact n) hb hx
  slot := fun b o e n hb hx => by
    cases q : cs.lookup b with
    | some o' =>
      have z := u.frzs b o' _ (addC_in q)
      rw [(hn b o' q).2] at e; cases e
      exact ⟨o.slots, (ok1 b _ z).1⟩
    | none => exact u.slot b o e (by rw [addC_out q]; exact n) hb hx
  free := fun b o e n hx => by
    cases q : cs.lookup b with
    | some o' => exact dropC_in q
    | none => rw [dropC_out q]; exact u.free b o e (by rw [addC_out q]; exact n) hx
  there := u.there
  tups := fun b xs e => by
    cases q : cs.lookup b with
    | some o' => rw [(hn b o' q).1] at e; cases e
    | none => rw [dropC_out q]; exact u.tups b xs (by rw [addC_out q]; exact e)
  frzs := fun b o v e => by
    cases q : cs.lookup b with
    | some o' => rw [(hn b o' q).1] at e; cases e
    | none => rw [dropC_out q]; exact u.frzs b o v (by rw [addC_out q]; exact e)
  tbls := fun b ps e => by
    cases q : cs.lookup b with
    | some o' => rw [(hn b o' q).1] at e; cases e
    | none => rw [dropC_out q]; exact u.tbls b ps (by rw [addC_out q]; exact e)
theorem dropC_hok (ok : HOk P w H h) (hf : ∀ b o, cs.lookup b = some o → ∃ v, H b = some (.frz o v)) : HOk P w (dropC cs H) h := fun b u e => by
  cases q : cs.lookup b with
  | some o => rw [dropC_in q] at e; cases e
  | none =>
    rw [dropC_out q] at e
    have out : ∀ {c : Addr} {v : HO}, H c = some v → (∀ o v', v ≠ .frz o v') → cs.lookup c = none := fun {c v} r nf => by
      cases z : cs.lookup c with
      | none => rfl
      | some o =>
        obtain ⟨v', z'⟩ := hf c o z
        rw [z'] at r; cases r
        exact absurd rfl (nf _ _)
    exact (ok b u e).stay (fun _ _ _ r => r) (fun c r => by rw [dropC_out (out r fun _ _ z => by cases z)]; exact r) fun c xs r => by rw [dropC_out (out r fun _ _ z => by cases z)]; exact r
theorem addC_dropC (hf : ∀ b o, cs.lookup b = some o → H b = some (.frz o (.ext fun _ => True))) : addC cs (dropC cs H) = H := by
  funext b
  cases q : cs.lookup b with
  | some o => rw [addC_in q, hf b o q]
  | none => rw [addC_out q, dropC_out q]
end
theorem run_fnC {X : Cx} {CX : CXT} {k : Nat} {f : Addr} {fd : FuncData} {ps : List Str} {sp : Sp} {pins : List (Addr × Obj)} {σ : St} {H : Hp} {s : Shared} {Q : VK} {E : XK} {us : List Value} {vs : List V} {cs : List (Addr × Obj)}
    (F : FnOk X.prog X.w X.K X.mg X.base CX k f fd ps sp) (hr : Room k X.A) (hb : Binds X.K fd ps []) (I : Inv X pins σ H s) (r : Vals vs us)
    (hc : ∀ b o, cs.lookup b = some o → H b = none ∧ s.heap.get? b = some o) (hbase : ∀ b o o', cs.lookup b = some o → X.base.get? b = some o' → False) (hfr : ∀ b o, cs.lookup b = some o → b ∉ frs X.stack)
    (hx : ∀ e s', CX X.stack (addC cs H) s E e s' → X.xe e s') (h : sp vs (addC cs H) (fun v H' => Q v (dropC cs H')) E) : wpAny (model X.prog X.w) X.A (call (.ref f) us) (EP X pins σ Q) X.xe s := by
  have hl : us.length = ps.length := by rw [← r.length]; exact F.len _ _ _ _ h
  have e0 := I.env0
  have out : ∀ {b : Addr}, (∀ o, cs.lookup b = some o → False) → cs.lookup b = none := fun {b} n => by
    cases z : cs.lookup b with
    | none => rfl
    | some o => exact (n o z).elim
  have e1 : Env0 X.prog X.w X.K X.mg X.base X.A X.stack s (addC cs H) := ⟨e0.frames, e0.mod, fun b o e => ⟨(e0.bs b o e).1, by rw [addC_out (out fun o' z => hbase b o' o z e)]; exact (e0.bs b o e).2⟩, e0.bsz, e0.funs, fun b hb => by rw [addC_out (out fun o' z => hfr b o' z hb)]; exact e0.frf b hb, addC_hok e0.hok (fun b o z => (hc b o z).2) fun b o z => (hc b o z).1, e0.bare⟩
  have hbb := hb s us I.kIn (by rw [List.append_nil]; exact hl)
  rw [List.append_nil] at hbb
  refine wpAny_call (codeAny_mono (F.run X.A X.stack s (addC cs H) ⟨us, []⟩ us vs _ E hr e1 hbb r h) fun r s' hq => ?_)
  cases r with
  | error e => exact hx e s' hq
  | ok fl =>
    cases fl with
    | next => exact False.elim hq
    | brk => exact False.elim hq
    | cont => exact False.elim hq
    | ret u =>
      obtain ⟨v, H', os, bare, un, hok, rv, q⟩ := hq
      exact I.after ⟨v, dropC cs H', os, bare, dropC_un un hok hc, dropC_hok hok fun b o z => ⟨_, un.frzs b o _ (addC_in z)⟩, rv, q⟩
end L2

/-! A LAMBDA without parameters, called while the cells that it reads are known. -/
namespace L2
open PySem PySem.Spec PyProof.Rows
theorem dropC_addC {cs : List (Addr × Obj)} {H : Hp} (hn : ∀ b o, cs.lookup b = some o → H b = none) : dropC cs (addC cs H) = H := by
  funext b
  cases q : cs.lookup b with
  | some o => rw [dropC_in q, hn b o q]
  | none => rw [dropC_out q, addC_out q]
theorem cx1_addC {P : Program} {w : World} {outer : List Env} {cs : List (Addr × Obj)} {H0 : Hp} {s s' : Shared} {E : XK} {e : Value} (hn : ∀ b o, cs.lookup b = some o → H0 b = none ∧ s.heap.get? b = some o ∧ b ∉ frs outer)
    (h : CX1 P w outer H0 s (fun cls x H1 => (∀ b, x = some b → cs.lookup b = none) → E cls x (addC cs H1)) e s') : CX1 P w outer (addC cs H0) s E e s' := by
  obtain ⟨x, cls, H', rfl, os, bare, un, ok, ⟨fn, fu, oe, vs, T, oT, ts, t1, t2, t3, t4, t5, t6, t7, t8, t9, t10⟩, hE⟩ := h
  have out : ∀ {b : Addr}, s.heap.get? b = none → cs.lookup b = none := fun {b} n => by
    cases z : cs.lookup b with
    | none => rfl
    | some o => rw [(hn b o z).2.1] at n; cases n
  refine ⟨x, cls, addC cs H', rfl, os, bare, addC_un un, addC_hok ok (fun b o z => ?_) (fun b o z => ?_), ⟨fn, by rw [addC_out (out fn)]; exact fu, oe, vs, T, oT, ts, t1, t2, t3, t4, t5, by rw [addC_out (out t5)]; exact t6, t7, t8, t9, t10⟩, hE fun b e => by cases e; exact out fn⟩
  · obtain ⟨a1, a2, a3⟩ := hn b o z
    exact un.keep b o a2 a1 a3 (by simp)
  · obtain ⟨a1, a2, a3⟩ := hn b o z
    exact un.free b o a2 a1 (by simp)
section
variable {P : Program} {w : World} {K : PySem.W.Frag} {mg : Str → Option Value} {base : Heap} {k : Nat} {f c' : Addr} {name qual : Str} {params : Arguments} {body : Expr} {scope : Scope} {clos : List (Str × Addr)} {pm ctv : Value} {N : List Str} {sp : Sp}
structure LamAt (P : Program) (w : World) (K : PySem.W.Frag) (mg : Str → Option Value) (base : Heap) (k : Nat) (f c' : Addr) (name qual : Str) (params : Arguments) (body : Expr) (scope : Scope) (clos : List (Str × Addr)) (pm ctv : Value) (N : List Str) (H : Hp) (Q : VK) (E : XK) (H0 : Hp) (cs : List (Addr × Obj)) (σ : St) : Prop where
  eq : H = addC cs H0
  un : ∀ b o, cs.lookup b = some o → H0 b = none
  fn : H0 f = some (.ext (FunIs f name qual params body scope clos pm (.ref c') ctv))
  cd : H0 c' = some (.ext (CodeIs c' qual))
  cell : ∀ x c, clos.lookup x = some c → ∃ o v, cs.lookup c = some o ∧ o.data = .cell v
  len : σ.length = N.length
  val : ∀ (i : Nat) (x : Str) (v : V), N[i]? = some x → σ[i]? = some (some v) → ∃ c o u, clos.lookup x = some c ∧ cs.lookup c = some o ∧ o.data = .cell (some u) ∧ RelV v u
  run : ∀ (A : Around) (outer : List Env) (s : Shared), Room k (A.deeper (PySem.W.envX qual scope s.heap.objs.size f (.ref c') clos)) →
    ∃ t, PE (cxAt (CX1 P w) P w K mg base N (PySem.W.envX qual scope s.heap.objs.size f (.ref c') clos) (fun _ => false) A outer s H0 (fun cls x H1 => (∀ b, x = some b → cs.lookup b = none) → E cls x (addC cs H1))) body t ∧ t σ H0 (fun v H1 => Q v (addC cs H1))
theorem lam_ok (hco : scope.isCoroutine = false) (hgen : scope.isGenerator = false) (hk : scope.kind = .function) (hfree : ∀ x ∈ scope.names, x.2 ≠ .cell ∧ x.2 ≠ .local) (inj : ∀ x y c, clos.lookup x = some c → clos.lookup y = some c → x = y)
    (has : ∀ x, scope.names.lookup x = some .free → ∃ c, clos.lookup x = some c) (hsp : ∀ vs H Q E, sp vs H Q E → vs = [] ∧ ∃ H0 cs σ, LamAt P w K mg base k f c' name qual params body scope clos pm ctv N H Q E H0 cs σ) :
    FnOk P w K mg base (CX1 P w) (k + 1) f (PySem.W.kla_fn name qual params body scope clos pm (.ref c') ctv) [] sp := by
  refine ⟨fun vs H Q E h => by rw [(hsp vs H Q E h).1]; rfl, fun A outer s H args us vs Q E hr e0 hb r h => ?_⟩
  obtain ⟨rfl, H0, cs, σ, L⟩ := hsp vs H Q E h
  obtain rfl := L.eq
  have outS : ∀ {b : Addr} {u : HO}, H0 b = some u → cs.lookup b = none := fun {b u} e => by
    cases z : cs.lookup b with
    | none => rfl
    | some o => rw [L.un b o z] at e; cases e
  have outN : ∀ {b : Addr}, addC cs H0 b = none → cs.lookup b = none ∧ H0 b = none := fun {b} n => by
    cases z : cs.lookup b with
    | none => rw [addC_out z] at n; exact ⟨rfl, n⟩
    | some o => rw [addC_in z] at n; cases n
  have fo : s.heap.get? f = some { cls := .type "function", data := .func (PySem.W.kla_fn name qual params body scope clos pm (.ref c') ctv) } := (e0.hok f _ ((addC_out (outS L.fn)).trans L.fn)).1
  have co : s.heap.CodeRec (.ref c') qual := (e0.hok c' _ ((addC_out (outS L.cd)).trans L.cd)).1
  have cells : ∀ b o, cs.lookup b = some o → H0 b = none ∧ s.heap.get? b = some o ∧ b ∉ frs outer := fun b o z => ⟨L.un b o z, (e0.hok b _ (addC_in z)).1, fun hb => by have := e0.frf b hb; rw [addC_in z] at this; cases this⟩
  have lim : s.heap.NoLimit := e0.mod.nolimit.keeps fun b o e => (e0.bs b o e).1
  refine PySem.W.kla_callFunE hr.depth fo rfl hco hgen rfl co (hb _ _ _ _ ?_)
  refine wpAny_newFunctionEnv (fun x hx => (hfree x hx).1) (fun y hy => absurd hy (by simp)) (fun h₁ hns hsb => ⟨lim.fresh _ hsb, ?_⟩) hk
  have hk₁ : ∀ b o, s.heap.get? b = some o → h₁.get? b = some o := fun b o e => hsb.extBut b o (Nat.ne_of_lt (Heap.lt_size e)) (Heap.get?_push_of_some _ e)
  obtain ⟨t, ht, hq⟩ := L.run A outer s (hr.deeper _)
  have noCell : ∀ {x : Str}, scope.names.lookup x = some .cell → False := fun {x} e => (hfree (x, .cell) (PySem.mem_of_lookup e)).1 rfl
  have noLocal : ∀ {x : Str}, scope.names.lookup x = some .local → False := fun {x} e => (hfree (x, .local) (PySem.mem_of_lookup e)).2 rfl
  have I : Inv (cxAt (CX1 P w) P w K mg base N (PySem.W.envX qual scope s.heap.objs.size f (.ref c') clos) (fun _ => false) A outer s H0 (fun cls x H1 => (∀ b, x = some b → cs.lookup b = none) → E cls x (addC cs H1))) [] σ H0 { s with heap := h₁, toks := s.toks + 0 } := by
    refine ⟨⟨e0.mod, hk, rfl, rfl, Nat.le_refl _, inj, fun x hx => ?_, fun x c z _ => absurd (show false = true from z) (by simp), fun _ => hr.hd, Around.frames_deeper e0.frames, .inr ⟨rfl, rfl⟩, fun b z => absurd (show b ∈ ([] : List Addr) from z) (by simp), fun b o e => ⟨(e0.bs b o e).1, (outN (e0.bs b o e).2).2⟩, e0.bsz, fun b _ _ z => absurd (show b ∈ ([] : List Addr) from z) (by simp), fun b z => absurd (show b ∈ ([] : List Addr) from z) (by simp), e0.funs, fun b hb => (outN (e0.frf b hb)).2⟩,
      rfl, e0.bare, Un.kept hk₁, ⟨_, hns, fun i x v h1 h2 h3 => ?_⟩, fun x c h => ?_, (outN (e0.hok.fresh (Nat.le_refl _))).2, fun x c h => ?_, fun p hp => absurd (show p ∈ ([] : List (Addr × Obj)) from hp) (by simp), ?_, L.len⟩
    · have hx : scope.names.lookup x = some .cell ∨ scope.names.lookup x = some .free := hx
      rcases hx with hx | hx
      · exact (noCell hx).elim
      · exact has x hx
    · obtain ⟨c, o, u, a1, a2, a3, rv⟩ := L.val i x v h1 h2
      refine ⟨u, rv, .inr ⟨.inr ?_, c, a1, o, hk₁ _ _ (cells c o a2).2.1, a3⟩⟩
      have h3 : scope.names.lookup x = some .local ∨ scope.names.lookup x = some .cell ∨ scope.names.lookup x = some .free := h3
      rcases h3 with z | z | z
      · exact (noLocal z).elim
      · exact (noCell z).elim
      · exact z
    · obtain ⟨o, v, a1, a2⟩ := L.cell x c h
      exact ⟨v, o, hk₁ _ _ (cells c o a1).2.1, a2⟩
    · obtain ⟨o, v, a1, a2⟩ := L.cell x c h
      exact L.un c o a1
    · have ok : HOk P w (dropC cs (addC cs H0)) s.heap := dropC_hok e0.hok fun b o z => ⟨_, addC_in z⟩
      rw [dropC_addC L.un] at ok
      exact ok.kept hk₁
  show codeAny _ _ (.expr body (PySem.W.envX qual scope s.heap.objs.size f (.ref c') clos)) _ _
  refine PySem.W.kla_codeExpr (wpAny_mono (ht [] _ σ H0 _ I hq) (fun v s' hs => ?_) fun e s' hs => ?_)
  · obtain ⟨x, H', J, rv, q⟩ := hs
    have un : Un (frs outer) [] H0 H' s.heap s'.heap := J.base
    exact ⟨x, addC cs H', J.os, J.bare, addC_un un, addC_hok J.hok (fun b o z => un.keep b o (cells b o z).2.1 (cells b o z).1 (cells b o z).2.2 (by simp)) (fun b o z => un.free b o (cells b o z).2.1 (cells b o z).1 (by simp)), rv, q⟩
  · exact wpAny_mono hs (fun _ s'' hc => cx1_addC cells hc) fun e' s'' hc => cx1_addC cells hc
end
end L2

namespace L2
open PySem PySem.Spec PyProof.Rows
theorem getB_some {bs : List Bool} {i : Nat} {x : V} (h : (bs.map V.bl)[i]? = some x) : i < bs.length ∧ x = .bl (bs.getD i false) := by
  rw [List.getElem?_map] at h
  cases e : bs[i]? with
  | none => rw [e] at h; cases h
  | some b =>
    rw [e] at h
    have hi := (List.getElem?_eq_some_iff.mp e).1
    refine ⟨hi, ?_⟩
    rw [List.getD_eq_getElem?_getD, e]
    exact (Option.some.inj h).symm
section
variable {X : Cx}
theorem op_eqB (hu : X.A.units < cLine) : OpR X (compareOp .Eq) (fun x y H Q => ∃ (p q : Addr) (xs ys : List Bool), x = .ref p ∧ y = .ref q ∧ SqL X.K H p (xs.map V.bl) ∧ SqL X.K H q (ys.map V.bl) ∧ Q (.bl (decide (xs = ys))) H) := by
  intro pins s σ H x y v u Q I rx ry h
  obtain ⟨p, q, xs, ys, rfl, rfl, h1, h2, hq⟩ := h
  cases rx
  cases ry
  obtain ⟨its, r1, pl1, _⟩ := I.list h1
  obtain ⟨jts, r2, pl2, _⟩ := I.list h2
  have l1 := r1.length
  have l2 := r2.length
  rw [List.length_map] at l1 l2
  by_cases hl : xs.length = ys.length
  · refine SeqAt.eq_listAt (e := fun j => xs.getD j false == ys.getD j false) pl1.isList pl2.isList (by simp only [List.size_toArray]; omega) hu (fun j a b => ?_) ?_
    · obtain ⟨x, e, ru⟩ := r1.at (j := j) (by simpa using a)
      obtain ⟨x', e', ru'⟩ := r2.at (j := j) (by simpa using b)
      obtain ⟨_, rfl⟩ := getB_some e
      obtain ⟨_, rfl⟩ := getB_some e'
      have ru : its[j] = _ := ru
      have ru' : jts[j] = _ := ru'
      show SeqAt.EqAt _ s its[j] jts[j] _
      rw [ru, ru']
      exact SeqAt.EqAt.bool_bool _ _
    · have ed : (List.range its.toArray.size).all (fun j => xs.getD j false == ys.getD j false) = decide (xs = ys) := by
        rw [Bool.eq_iff_iff, List.all_eq_true, decide_eq_true_iff]
        simp only [List.mem_range, List.size_toArray, beq_iff_eq]
        refine ⟨fun h => List.ext_getElem hl fun i h1 h2 => ?_, fun h j _ => by rw [h]⟩
        have := h i (by omega)
        rw [List.getD_eq_getElem?_getD, List.getD_eq_getElem?_getD, List.getElem?_eq_getElem h1, List.getElem?_eq_getElem h2] at this
        exact this
      rw [ed]
      exact ⟨.bl _, H, I, rfl, hq⟩
  · refine SeqAt.eq_list_lengthsAt pl1.isList pl2.isList (by simp only [List.size_toArray, bne_iff_ne]; omega) hu ?_
    have : decide (xs = ys) = false := decide_eq_false fun e => hl (by rw [e])
    rw [this] at hq
    exact ⟨.bl false, H, I, rfl, hq⟩
end
end L2

/-! TRY f() EXCEPT C AS e, over the hand layer. -/
namespace L2
open PySem PySem.Spec PyProof.Rows
def ExcIs (x : Addr) (cls : Value) : Heap → Prop := fun h => ∃ o, h.get? x = some o ∧ o.cls = cls
theorem excIs_ok {P : Program} {w : World} {H : Hp} {h : Heap} {x : Addr} {cls : Value} (o : ExcIs x cls h) : ObjOk P w H h x (.ext (ExcIs x cls)) :=
  let ⟨ob, e, c⟩ := o
  ⟨⟨ob, e, c⟩, ⟨ob, e⟩, fun _ _ ⟨o1, e1, c1⟩ k => ⟨o1, k _ e1, c1⟩⟩
section
variable {X : Cx} {pins : List (Addr × Obj)} {σ : St} {H : Hp} {s : Shared}
theorem Inv.adopt {x : Addr} {o : HO} (I : Inv X pins σ H s) (h0 : X.s₀.heap.get? x = none) (hL : x ≠ X.env.locals) (hC : ∀ y c, X.env.cells.lookup y = some c → c ≠ x) (hP : ∀ p ∈ X.pn ++ pins, p.1 ≠ x) (hn : H x = none)
    (new : ObjOk X.prog X.w (upd H x o) s.heap x o) : Inv X pins σ (upd H x o) s := by
  have ne : ∀ {b : Addr} {u : HO}, H b = some u → b ≠ x := fun e => ne_of_none e hn
  refine ⟨I.ok, I.os, I.bare, ⟨I.base.keep, I.base.slot, fun b ob e n hx => ?_, I.base.there, fun b xs e => ?_, fun b ob u e => ?_, fun b ps e => ?_⟩, I.loc, I.cell, ?_, fun y c e => ?_, fun p hp => ?_, fun b u e => ?_, I.len⟩
  · have : b ≠ x := fun z => by rw [z, h0] at e; cases e
    rw [upd_ne this]; exact I.base.free b ob e n hx
  · have q := I.base.tups b xs e
    rw [upd_ne (ne q)]; exact q
  · have q := I.base.frzs b ob u e
    rw [upd_ne (ne q)]; exact q
  · obtain ⟨m, q⟩ := I.base.tbls b ps e
    exact ⟨m, by rw [upd_ne (ne q)]; exact q⟩
  · rw [upd_ne (Ne.symm hL)]; exact I.free
  · rw [upd_ne (hC y c e)]; exact I.freeC y c e
  · obtain ⟨a1, a2, a3, a4, a5⟩ := I.pin p hp
    exact ⟨a1, by rw [upd_ne (hP p hp)]; exact a2, a3, a4, a5⟩
  · by_cases hb : b = x
    · subst hb
      rw [upd_same] at e; cases e
      exact new
    · rw [upd_ne hb] at e
      exact (I.hok b u e).stay (fun _ _ _ q => q) (fun c r => by rw [upd_ne (ne r)]; exact r) fun c xs r => by rw [upd_ne (ne r)]; exact r
abbrev Cx.marked (X : Cx) (e : Value) (E : Value → Shared → Prop) : Cx := { X with A := X.A.mark (some e), calm := false, xe := E }
theorem Inv.marked {e : Value} {E : Value → Shared → Prop} (I : Inv X pins σ H s) : Inv (X.marked e E) pins σ H s :=
  ⟨⟨I.ok.mod, I.ok.kind, I.ok.glob, I.ok.blt, I.ok.above, I.ok.inj, I.ok.has, I.ok.cab, fun z => absurd (show false = true from z) (by decide), I.ok.frames, I.ok.stk, I.ok.exf, I.ok.bs, I.ok.bsz, I.ok.noex, I.ok.exfs, I.ok.funs, I.ok.frf⟩, I.os, I.bare, I.base, I.loc, I.cell, I.free, I.freeC, I.pin, I.hok, I.len⟩
theorem Inv.unmarked {e : Value} {E : Value → Shared → Prop} (I : Inv (X.marked e E) pins σ H s) (hd : X.calm = true → X.A.handled = none) : Inv X pins σ H s :=
  ⟨⟨I.ok.mod, I.ok.kind, I.ok.glob, I.ok.blt, I.ok.above, I.ok.inj, I.ok.has, I.ok.cab, hd, I.ok.frames, I.ok.stk, I.ok.exf, I.ok.bs, I.ok.bsz, I.ok.noex, I.ok.exfs, I.ok.funs, I.ok.frf⟩, I.os, I.bare, I.base, I.loc, I.cell, I.free, I.freeC, I.pin, I.hok, I.len⟩
theorem name_gone {M : Model} {A : Around} {E : Value → Shared → Prop} {i : Nat} {n : Str} {pos : Pos} {Q : Unit → Shared → Prop} (I : Inv X pins σ H s) (hN : X.N.Nodup) (hi : X.N[i]? = some n) (hk : X.env.kindOf n = some .local)
    (h : ∀ s', Inv X pins (σ.set i none) H s' → Q () s') : wpAny M A (do bindName X.env n .none; unbindBehindTheSuite X.env n pos) Q E s := by
  obtain ⟨m, hn, hl⟩ := id I.loc
  have hcls : (X.env.scope.kind == .class || (X.env.scope.kind == .module && X.env.locals != X.env.globals)) = false := by rw [I.ok.kind]; rfl
  have hiσ : i < σ.length := by rw [I.len]; exact (List.getElem?_eq_some_iff.mp hi).1
  have cne := I.cne
  refine wpAny_nameGoes_keeps hk hn hcls fun h' v hn' hs => ?_
  obtain ⟨oL, _, _, hoL, _⟩ := id hn
  have tracked : HOk X.prog X.w H h' := fun b ob e => by
    refine (I.hok b ob e).stay (fun c w' hc q => (hs.2 c ?_).trans q) (fun _ q => q) fun _ _ q => q
    rintro rfl
    have hfree := I.free
    rcases hc with hc | hc
    · rw [← hc, hfree] at e; cases e
    · rw [hfree] at hc; cases hc
  have J : Inv X pins (σ.set i none) H { s with heap := h' } := by
    refine ⟨I.ok, I.os, I.bare, ⟨fun b o e n hb hx => ?_, fun b o e n hb hx => ?_, I.base.free, fun b o e hx => ?_, I.base.tups, I.base.frzs, I.base.tbls⟩, ⟨_, hn', fun j y v' e1 e2 e3 => ?_⟩, fun y c e => ?_, I.free, I.freeC, fun p hp => ?_, tracked, by simpa using I.len⟩
    · exact (hs.2 b (Nat.ne_of_lt (Nat.lt_of_lt_of_le (Heap.lt_size e) I.ok.above))).trans (I.base.keep b o e n hb hx)
    · obtain ⟨sl, e1⟩ := I.base.slot b o e n hb hx
      exact ⟨sl, (hs.2 b (Nat.ne_of_lt (Nat.lt_of_lt_of_le (Heap.lt_size e) I.ok.above))).trans e1⟩
    · obtain ⟨o', e1⟩ := I.base.there b o e hx
      exact ⟨o', (hs.2 b (Nat.ne_of_lt (Nat.lt_of_lt_of_le (Heap.lt_size e) I.ok.above))).trans e1⟩
    · by_cases hj : j = i
      · subst hj
        rw [List.getElem?_set_self hiσ] at e2
        cases e2
      · rw [List.getElem?_set_ne (Ne.symm hj)] at e2
        obtain ⟨u', r', q⟩ := hl j y v' e1 e2 e3
        refine ⟨u', r', ?_⟩
        rcases q with ⟨k, e⟩ | ⟨k, c, e, z⟩
        · refine .inl ⟨k, ?_⟩
          have : y ≠ n := fun e => hj (nodup_ix hN e1 (e ▸ hi))
          simp [this, e]
        · exact .inr ⟨k, c, e, z.sameBut hs (cne y c e)⟩
    · obtain ⟨w', z⟩ := I.cell y c e
      exact ⟨w', z.sameBut hs (cne y c e)⟩
    · obtain ⟨e, n, ne, nf, d⟩ := I.pin p hp
      exact ⟨(hs.2 p.1 ne).trans e, n, ne, nf, d⟩
  exact h _ (J.tok (s.toks + 1))
theorem caught_at {M : Model} {EE : Value → Shared → Prop} {Q : Unit → Shared → Prop} {E : XK} {s' : Shared} {e : Value} (hf : X.env.frame = some X.env.locals) (hst : X.stack = X.env :: X.outer) (I : Inv X pins σ H s) (hc : CX1 X.prog X.w X.stack H s E e s')
    (k : ∀ x cls H2 s2, e = .ref x → Inv X pins σ H2 s2 → Fly s.heap x cls H2 s2.heap → E cls (some x) H2 → Q () s2) :
    wpAny M X.A (noteFrame e X.env) (fun _ s2 => wpAny M X.A (setFlight e none) Q EE s2) EE s' := by
  obtain ⟨x, cls, H2, rfl, os, bare, u, ok, F, hE⟩ := hc
  have st : s.heap.FunFrames X.base X.stack := I.stack
  have free1 : ∀ b ∈ frs X.stack, H b = none := I.stkFree
  have free : ∀ b ∈ frs X.stack, H2 b = none := fun b hb => by
    obtain ⟨_, o, ho, _⟩ := st.mem hb
    exact u.free b o ho (free1 b hb) (by simp)
  have st1 : s'.heap.FunFrames X.base X.stack := by
    have all : ∀ (l : List Env), (∀ b ∈ frs l, b ∈ frs X.stack) → s.heap.FunFrames X.base l → s'.heap.FunFrames X.base l := by
      intro l
      induction l with
      | nil => intro _ _; trivial
      | cons en r ih =>
        intro hs hl
        obtain ⟨hk, ⟨L, o, hf', hn, ho, hd⟩, hr⟩ := hl
        have hL : L ∈ frs X.stack := hs L (by unfold frs; rw [List.filterMap_cons, hf']; exact List.mem_cons_self)
        obtain ⟨sl, e⟩ := u.slot L o ho (free1 L hL) hL (by simp)
        exact ⟨hk, ⟨L, _, hf', hn, e, hd⟩, ih (fun b hb => hs b (by unfold frs; rw [List.filterMap_cons, hf']; exact List.mem_cons_of_mem _ hb)) hr⟩
    exact all _ (fun _ hb => hb) st
  obtain ⟨oe, ws, T, oT, ts, a1, a2, a3, a4, a5, a6, a7, a8, a9, a10⟩ := F.tr
  have hs1 : ∀ d, s'.heap.get? d = none → s.heap.get? d = none := fun d q => by
    cases z : s.heap.get? d with
    | none => rfl
    | some o =>
      obtain ⟨o', y⟩ := u.there d o z (by simp)
      rw [q] at y; cases y
  have z1 : 1 < ws.size := (Array.getElem?_eq_some_iff.mp a4).1
  have z0 : ws[0]? = some ws[0] := Array.getElem?_eq_getElem (by omega)
  have hfr : X.A.frames = some (X.env :: X.outer) := by rw [← hst]; exact I.ok.frames
  have fr2 : s'.heap.FunFrames (PySem.W.hideAll s'.heap ([x, T] ++ frs X.stack)) X.stack := PySem.W.funFrames_hide st1 fun en henv a ha => List.mem_append_right _ (List.mem_filterMap.mpr ⟨en, henv, ha⟩)
  refine wpAny_looks_onW (base := PySem.W.hideAll s'.heap ([x, T] ++ frs X.stack)) (cls := cls) hfr hf
    ⟨fun b o q => PySem.W.of_hideAll _ q, PySem.W.hideAll_none _ (by simp), by rw [← hst]; exact fr2, ⟨oe, ws, T, oT, ts, a1, ⟨a2, z0⟩, a3, a4, PySem.W.hideAll_none _ (by simp), a7, a8, a9, a10⟩⟩ fun h2 hN hs2 => ?_
  refine wpAny_landsW hN fun h3 hF hs3 => ?_
  have hss := hs2.trans hs3
  have k1 : ∀ b o, b ∉ [x, T] → b ∉ frs X.stack → s'.heap.get? b = some o → h3.get? b = some o := fun b o n1 n2 e =>
    hF.1 b o (PySem.W.hideAll_get _ e fun z => (List.mem_append.mp z).elim n1 n2)
  have k2 : ∀ b o, b ∈ frs X.stack → s'.heap.get? b = some o → ∃ sl, h3.get? b = some { o with slots := sl } := fun b o hb q => by
    obtain ⟨_, o', e', nr⟩ := st1.mem hb
    rw [q] at e'; cases e'
    exact hss b o q nr
  have two : ∀ d ∈ [x, T], d = x ∨ d = T := fun d hd => by simpa using hd
  have hd0 : ∀ d ∈ [x, T], s.heap.get? d = none := fun d hd => (two d hd).elim (fun z => by rw [z]; exact F.new) fun z => by rw [z]; exact a5
  have hd1 : ∀ d ∈ [x, T], H2 d = none := fun d hd => (two d hd).elim (fun z => by rw [z]; exact F.un) fun z => by rw [z]; exact a6
  have un3 : Un (frs X.stack) [] H H2 s.heap h3 := un_left u k1 k2 hd0 (fun b hb => .inl hb) fun _ hb => hb
  have ok3 : HOk X.prog X.w H2 h3 := hok_left ok k1 hd1 free
  have J : Inv X pins σ H2 { s' with heap := h3 } := I.call' (s' := { s' with heap := h3 }) (ch := []) os un3 ok3 bare fun _ z => nomatch z
  refine k x cls H2 _ rfl J ⟨F.new, F.un, ?_⟩ hE
  obtain ⟨oe', ws', T', oT', ts', c1, ⟨c2, _⟩, c3, c4, c5, c6, c7, c8, c9⟩ := hF.2.2.2
  have hT : T' = T ∨ s'.heap.get? T' = none := by
    by_cases hTT : T' = T
    · exact .inl hTT
    · refine .inr ?_
      cases z : s'.heap.get? T' with
      | none => rfl
      | some o =>
        by_cases hT : T' ∈ frs X.stack
        · obtain ⟨_, o', e', nr⟩ := st1.mem hT
          obtain ⟨sl, y⟩ := k2 T' o' hT e'
          rw [c7] at y; cases y
          exact absurd c8 (nr ts')
        · have := PySem.W.hideAll_get ([x, T] ++ frs X.stack) z (fun q => by
            rcases List.mem_append.mp q with q | q
            · exact (two T' q).elim c6 hTT
            · exact hT q)
          rw [c5] at this; cases this
  have hT0 : s.heap.get? T' = none ∧ H2 T' = none := by
    rcases hT with z | z
    · rw [z]; exact ⟨a5, a6⟩
    · exact ⟨hs1 T' z, ok.gone z⟩
  exact ⟨oe', ws', T', oT', ts', c1, c2, c3, c4, hT0.1, hT0.2, c6, c7, c8, c9⟩
theorem flight_again {M : Model} {A : Around} {EE : Value → Shared → Prop} {Q : Unit → Shared → Prop} {h0 : Heap} {x : Addr} {cls : Value} (I : Inv X pins σ H s) (F : Fly h0 x cls H s.heap)
    (k : ∀ s2, Inv X pins σ H s2 → ExcIs x cls s2.heap → Q () s2) : wpAny M A (setFlight (.ref x) none) Q EE s := by
  obtain ⟨oe, ws, T, oT, ts, a1, a2, a3, a4, a5, a6, a7, a8, a9, a10⟩ := F.tr
  have hsz : 3 < ts.size := (Array.getElem?_eq_some_iff.mp a10).1
  refine wpAny_setFlight_none a1 a3 a4 a8 a9 hsz ?_
  have same : ∀ b u, s.heap.get? b = some u → (s.heap.update T (Obj.mapFields (·.setIfInBounds 3 .none))).get? b = some u := fun b u e => by
    by_cases hb : b = T
    · subst hb
      rw [Heap.get?_update_self _ a8 (Obj.isFreed_of_fields (Obj.data_mapFields a9 _))]
      rw [a8] at e; cases e
      obtain ⟨c, d, dt, sl⟩ := oT
      obtain rfl : dt = .fields ts := a9
      have : ts.setIfInBounds 3 .none = ts := by
        refine Array.ext_getElem? fun i => ?_
        rw [Array.getElem?_setIfInBounds]
        by_cases hi : 3 = i
        · subst hi
          rw [if_pos rfl, if_pos hsz, a10]
        · rw [if_neg hi]
      show some (⟨c, d, Data.fields (ts.setIfInBounds 3 .none), sl⟩ : Obj) = _
      rw [this]
    · exact (Heap.get?_update_other _ _ (Ne.symm hb)).trans e
  exact k _ (I.kept (t' := s.toks) same) ⟨oe, same _ _ a1, a2⟩
end
section
variable {X : Cx} {k i ie : Nat} {x0 tn n : Str} {p cpos epos tp hpos pos : Pos} {CT : Addr} {b₀ : Stmt} {suite : List Stmt} {ts : TS}
def tTry (X : Cx) (k i ie : Nat) (CT : Addr) (ts : TS) : TS := fun D σ H => tVar i σ H fun v H1 => ∃ (f : Addr) (name qual : Str) (params : Arguments) (body : Expr) (scope : Scope) (clos : List (Str × Addr)) (pm cv ctv : Value) (sp : Sp), v = .ref f ∧ H1 f = some (.ext (FunIs f name qual params body scope clos pm cv ctv)) ∧
  FnOk X.prog X.w X.K X.mg X.base (CX1 X.prog X.w) k f (PySem.W.kla_fn name qual params body scope clos pm cv ctv) [] sp ∧ Binds X.K (PySem.W.kla_fn name qual params body scope clos pm cv ctv) [] [] ∧
  sp [] H1 (fun _ H2 => D.nx σ H2) (fun cls x H2 => ∃ xa C, x = some xa ∧ cls = .ref C ∧ PySem.W.exmOne X.K (.ref C) (.ref CT) = some true ∧ ts { nx := fun σ' H' => D.nx (σ'.set ie none) H', rt := fun _ _ => False } (σ.set ie (some (.ref xa))) (upd H2 xa (.ext (ExcIs xa (.ref C)))))
theorem ps_try (hf : X.env.frame = some X.env.locals) (hst : X.stack = X.env :: X.outer) (hex : X.ex = []) (hN : X.N[i]? = some x0) (hv : Vis X.env.scope x0) (hr : Room k X.A) (hnd : X.N.Nodup) (hi : X.N[ie]? = some n) (hk : X.env.kindOf n = some .local) (hg : Gl X tn) (hCT : X.mg tn = some (.ref CT))
    (hsu : ∀ x : Addr, PSs (X.marked (.ref x) fun _ _ => False) (b₀ :: suite) ts) (hd1 : (x0 == ("__debug__" : Str)) = false := by decide) (hd2 : (x0 == ("__classdict__" : Str)) = false := by decide) (hd3 : (tn == ("__debug__" : Str)) = false := by decide) (hsw : ∀ l, swapsWith (.Call (.Name x0 p) [] [] cpos) none l X.env = pure false := by exact fun _ => rfl) :
    PS X (.Try [.Expr (.Call (.Name x0 p) [] [] cpos) epos] [.ExceptHandler (some (.Name tn tp)) (some n) (b₀ :: suite) hpos] [] [] pos) (tTry X k i ie CT ts) := by
  intro pins s σ H D I h
  refine wpAny_Try_except ?_
  generalize hE : (fun (e : Value) (s₁ : Shared) => wpAny (model X.prog X.w) X.A (noteFrame e X.env) (fun _ s₂ => wpAny (model X.prog X.w) X.A (setFlight e none) (fun _ s₃ => wpAny (model X.prog X.w) X.A (handleBy e X.env [.ExceptHandler (some (.Name tn tp)) (some n) (b₀ :: suite) hpos]) (SP X pins D) X.xe s₃) X.xe s₂) X.xe s₁) = EE
  have core : wpAny (model X.prog X.w) X.A (eval (.Call (.Name x0 p) [] [] cpos) X.env) (EP (X.wish EE) pins σ (fun _ H2 => D.nx σ H2)) EE s := by
    refine wpAny_Call_Name_kw (thn (pe_var (X := X.wish EE) hN hv hd1 hd2 pins s σ H _ (I.wish EE) h) fun u s1 ⟨v, H1, I1, r1, q1⟩ => ?_)
    obtain ⟨f, name, qual, params, body, scope, clos, pm, cv, ctv, sp, rfl, hff, F, hb, q⟩ := q1
    cases r1
    have fo : s1.heap.get? f = some { cls := .type "function", data := .func (PySem.W.kla_fn name qual params body scope clos pm cv ctv) } := (I1.hok f _ hff).1
    show wpAny _ _ (callWith cpos (.ref f) [] [] []) _ _ _
    refine Calls.callWith_function (o := { cls := .type "function", data := .func (PySem.W.kla_fn name qual params body scope clos pm cv ctv) }) (fd := PySem.W.kla_fn name qual params body scope clos pm cv ctv) ?_
    refine evalArgs_nil3 ⟨⟨fo, rfl⟩, run_fnC (X := X.wish EE) (us := []) (vs := []) (cs := []) F hr hb I1 .nil (fun _ _ z => nomatch z) (fun _ _ _ z => nomatch z) (fun _ _ z => nomatch z) (fun e s' hc => ?_) q⟩
    have I0 : Inv X pins σ H1 s1 := I1.unwish
    have hc : CX1 X.prog X.w X.stack H1 s1 _ e s' := hc
    show EE e s'
    rw [← hE]
    refine caught_at hf hst I0 hc fun x cls H2 s2 he J Fl hq => ?_
    subst he
    obtain ⟨xa, C, e1, rfl, hm, hs⟩ := hq
    cases e1
    refine wpAny_handleBy_cons (codeAny_handlers_test ?_) (by intro q; cases q)
    refine ld_glob (X := X.marked (.ref x) fun _ _ => False) J.marked hg hCT ?_ hd3
    obtain ⟨ob, ho, hoc⟩ : ExcIs x (.ref C) s2.heap := let ⟨oe, _, _, _, _, a1, a2, _⟩ := Fl.tr; ⟨oe, a1, a2⟩
    refine PySem.W.exm_one J.kIn (xc_type ho hoc) hm _ _ _ s2 (fun _ _ e => e) ?_
    refine codeAny_handlers_suite_as ?_
    refine flight_again J Fl fun s3 J3 x3 => ?_
    have h0 : X.s₀.heap.get? x = none := by
      cases z : X.s₀.heap.get? x with
      | none => rfl
      | some o =>
        obtain ⟨o', y⟩ := I0.base.there x o z (by rw [hex]; simp)
        rw [Fl.new] at y; cases y
    have old : ∀ {b : Addr} {o : Obj}, s1.heap.get? b = some o → b ≠ x := fun {b o} e z => by rw [z, Fl.new] at e; cases e
    have J4 : Inv X pins σ (upd H2 x (.ext (ExcIs x (.ref C)))) s3 := J3.adopt h0 (fun z => by obtain ⟨m, ⟨o, _, _, e, _⟩, _⟩ := I0.loc; exact old e z.symm) (fun y c e => by obtain ⟨v, o, eo, _⟩ := I0.cell y c e; exact old eo) (fun p hp => old (I0.pin p hp).1) Fl.un (excIs_ok x3)
    refine store_ok (X := X.marked (.ref x) fun _ _ => False) (i := ie) (v := .ref x) J4.marked hnd hi (.inl hk) rfl (fun s4 J5 => ?_) (.inr hk)
    refine wpAny_mono (hsu x pins s4 _ _ _ J5 hs) (fun fl s5 hq => ?_) fun _ _ z => z.elim
    cases fl with
    | next =>
      obtain ⟨σ', H', J6, q⟩ := hq
      exact name_gone (J6.unmarked I.ok.hd) hnd hi hk fun s' J7 => ⟨_, _, J7, q⟩
    | brk => obtain ⟨_, _, _, q⟩ := hq; exact q.elim
    | cont => obtain ⟨_, _, _, q⟩ := hq; exact q.elim
    | ret v => obtain ⟨_, _, _, _, _, q⟩ := hq; exact q.elim
  refine wpAny_execs_cons (wpAny_Expr_any (thn core fun v s1 ⟨x, H1, I1, r1, q1⟩ => ?_) I.quiet (hsw _))
  exact wpAny_execs_nil (wpAny_execs_nil ⟨σ, H1, I1.unwish, q1⟩)
theorem call_isiX : CallR X (.builtin "isinstance") (fun xs H Q => ∃ x c C b, xs = [.ref x, c] ∧ H x = some (.ext (ExcIs x (.ref C))) ∧ ExcK X.K C ∧ ((∃ T, c = .ty T ∧ PySem.W.kitOne X.K (.ref C) (.type T) = some b) ∨ ∃ D, c = .ref D ∧ PySem.W.kitOne X.K (.ref C) (.ref D) = some b) ∧ Q (.bl b) H) := by
  intro pins s σ H xs us Q I r h
  obtain ⟨x, c, C, b, rfl, hx, B, hk, q⟩ := h
  obtain ⟨u, v, rfl, ru, rv⟩ := r.two
  cases (show u = Value.ref x from ru)
  have p : ExcIs x (.ref C) s.heap := (I.hok x _ hx).1
  rcases hk with ⟨T, rfl, hk⟩ | ⟨D, rfl, hk⟩
  · cases (show v = Value.type T from rv)
    exact PySem.W.kia_one (kitx_exc B) I.kIn p hk (fun z => nomatch z) fun tk => ⟨.bl b, H, I.tok tk, rfl, q⟩
  · cases (show v = Value.ref D from rv)
    exact PySem.W.kia_one (kitx_exc B) I.kIn p hk (fun z => nomatch z) fun tk => ⟨.bl b, H, I.tok tk, rfl, q⟩
theorem pe_isiX {a b : Expr} {ta tb : TE} (hm : X.mg "isinstance" = none) (ha : PE X a ta) (hb : PE X b tb) (hg : Gl X "isinstance" := by rfl) (hs : starEach [a, b] X.env = (false, eval a X.env) :: starEach [b] X.env := by rfl) (hs2 : starEach [b] X.env = (false, eval b X.env) :: starEach [] X.env := by rfl) :
    PE X (.Call (.Name "isinstance" p) [a, b] [] pos) (tCB (fun xs H Q => ∃ x c C b, xs = [.ref x, c] ∧ H x = some (.ext (ExcIs x (.ref C))) ∧ ExcK X.K C ∧ ((∃ T, c = .ty T ∧ PySem.W.kitOne X.K (.ref C) (.type T) = some b) ∨ ∃ D, c = .ref D ∧ PySem.W.kitOne X.K (.ref C) (.ref D) = some b) ∧ Q (.bl b) H) (tCons ta (tCons tb tNil))) :=
  pe_callB call_isiX hg hm (by decide +kernel) (pa_cons ha (pa_cons hb pa_nil hs2) hs) (by decide) (by decide) hs (by rw [hs2]; rfl)
end
end L2

/-! A CALL of a def while the cells of this body are known (it calls a lambda that was made here). -/
namespace L2
open PySem PySem.Spec PyProof.Rows
def cellsNow (h : Heap) : List (Str × Addr) → List (Addr × Obj)
  | [] => []
  | (_, c) :: r => match h.get? c with
    | none => cellsNow h r
    | some u => (c, u) :: cellsNow h r
theorem lookup_fm {h : Heap} {b : Addr} {o : Obj} : ∀ {cells : List (Str × Addr)}, (cellsNow h cells).lookup b = some o → h.get? b = some o ∧ ∃ x, (x, b) ∈ cells
  | [], e => by cases e
  | (y, c) :: r, e => by
    unfold cellsNow at e
    split at e
    · obtain ⟨h1, x, hx⟩ := lookup_fm e
      exact ⟨h1, x, List.mem_cons_of_mem _ hx⟩
    · rename_i u q
      rw [List.lookup_cons] at e
      cases z : b == c with
      | true => rw [z] at e; cases e; rw [eq_of_beq z]; exact ⟨q, y, List.mem_cons_self⟩
      | false =>
        rw [z] at e
        obtain ⟨h1, x, hx⟩ := lookup_fm e
        exact ⟨h1, x, List.mem_cons_of_mem _ hx⟩
theorem lookup_fm_some {h : Heap} {b : Addr} {o : Obj} (e : h.get? b = some o) : ∀ {cells : List (Str × Addr)} {x : Str}, (x, b) ∈ cells → (cellsNow h cells).lookup b = some o
  | [], _, hm => by cases hm
  | (y, c) :: r, x, hm => by
    unfold cellsNow
    by_cases hc : b = c
    · subst hc
      rw [e]
      show (List.lookup b ((b, o) :: _)) = _
      rw [List.lookup_cons]
      simp
    · have hm' : (x, b) ∈ r := by
        rcases List.mem_cons.mp hm with z | z
        · cases z; exact absurd rfl hc
        · exact z
      have ih := lookup_fm_some e hm'
      cases q : h.get? c with
      | none => exact ih
      | some u =>
        show (List.lookup b ((c, u) :: _)) = _
        rw [List.lookup_cons, beq_eq_false_iff_ne.mpr hc]
        exact ih
structure CellsAt (X : Cx) (σ : St) (H : Hp) (cs : List (Addr × Obj)) : Prop where
  un : ∀ b o, cs.lookup b = some o → H b = none
  all : ∀ x c, X.env.cells.lookup x = some c → ∃ o v, cs.lookup c = some o ∧ o.data = .cell v
  val : ∀ (i : Nat) (x : Str) (v : V), X.N[i]? = some x → σ[i]? = some (some v) → X.env.kindOf x = some .cell → ∃ c o u, X.env.cells.lookup x = some c ∧ cs.lookup c = some o ∧ o.data = .cell (some u) ∧ RelV v u
def tCallC (X : Cx) (sp : Sp) (t : TA) : TE := fun σ H Q => t σ H fun vs H1 => ∀ cs, CellsAt X σ H1 cs → sp vs (addC cs H1) (fun v H' => Q v (dropC cs H')) E0
section
variable {X : Cx} {k j : Nat} {ps : List Str} {sp : Sp} {x : Str} {p pos : Pos} {e : Expr} {es : List Expr} {t : TA}
theorem pe_callC (O : OkX X.prog X.w X.K X.mg X.base x ps k sp) (hr : Room j X.A) (ha : PA X (e :: es) t) (hfn : ∀ y, X.fn y = true) (hnd : ∀ y c, (y, c) ∈ X.env.cells → X.env.cells.lookup y = some c) (hg : Gl X x := by rfl) (hj : k ≤ j := by decide) (hdb : (x == ("__debug__" : Str)) = false := by decide) (he : starEach (e :: es) X.env = (false, eval e X.env) :: starEach es X.env := by rfl) (hpl : (backTo pos (starEach es X.env)).any (·.1) = false := by rfl) :
    PE X (.Call (.Name x p) (e :: es) [] pos) (tCallC X sp t) := by
  obtain ⟨f, fd, F, hb, hm, hk⟩ := O.ex
  intro pins s σ H Q I h
  refine wpAny_Call_Name_kw (ld_glob I hg hm ?_ hdb)
  refine PySem.W.callWith_K (h₀ := X.base) I.ok.mod.kin hk (thn (ha pos pins s σ H _ I h) fun us s1 ⟨vs, H1, I1, r, q⟩ => ⟨I1.kIn, ?_⟩) he hpl
  generalize hcs : cellsNow s1.heap X.env.cells = cs
  have hc : ∀ b o, cs.lookup b = some o → s1.heap.get? b = some o ∧ ∃ y, X.env.cells.lookup y = some b := fun b o z => by
    rw [← hcs] at z
    obtain ⟨h1, y, hy⟩ := lookup_fm z
    exact ⟨h1, y, hnd y b hy⟩
  have hi : ∀ y c o, X.env.cells.lookup y = some c → s1.heap.get? c = some o → cs.lookup c = some o := fun y c o e1 e2 => by
    rw [← hcs]
    exact lookup_fm_some e2 (PySem.mem_of_lookup e1)
  have C : CellsAt X σ H1 cs := by
    refine ⟨fun b o z => ?_, fun y c e1 => ?_, fun i y v e1 e2 e3 => ?_⟩
    · obtain ⟨_, y, hy⟩ := hc b o z
      exact I1.freeC y b hy
    · obtain ⟨v, o, eo, ed⟩ := I1.cell y c e1
      exact ⟨o, v, hi y c o e1 eo, ed⟩
    · obtain ⟨m, hn, hl⟩ := I1.loc
      obtain ⟨u, ru, lk⟩ := hl i y v e1 e2 (.inr (.inl e3))
      rcases lk with ⟨k1, _⟩ | ⟨_, c, ec, o, eo, ed⟩
      · rw [e3] at k1; cases k1
      · exact ⟨c, o, u, ec, hi y c o ec eo, ed, ru⟩
  refine run_fnC (cs := cs) F (hr.mono hj) hb I1 r (fun b o z => ⟨C.un b o z, (hc b o z).1⟩) (fun b o o' z e' => ?_) (fun b o z hf => ?_) (fun e s' hx => ?_) (q cs C)
  · obtain ⟨_, y, hy⟩ := hc b o z
    have h1 := I1.ok.cab y b (hfn y) hy
    have h2 := Heap.lt_size e'
    have h3 := I1.ok.bsz
    exact Nat.lt_irrefl _ (Nat.lt_of_lt_of_le h2 (Nat.le_trans h3 h1))
  · obtain ⟨_, y, hy⟩ := hc b o z
    rcases List.mem_cons.mp (I1.stkSub b hf) with e1 | e1
    · exact I1.cne y b hy e1
    · obtain ⟨_, ob, ho, _⟩ := I1.ok.funs.mem e1
      have h1 := I1.ok.cab y b (hfn y) hy
      have h2 := Heap.lt_size ho
      exact Nat.lt_irrefl _ (Nat.lt_of_lt_of_le h2 h1)
  · obtain ⟨_, _, _, _, _, _, _, _, _, hE⟩ := hx
    exact hE.elim
end
theorem Fun.okT {P : Program} {w : World} {K : PySem.W.Frag} {mg : Str → Option Value} {base : Heap} {x qual : Str} {st : Stmt} {f : Addr} {fd : FuncData} {N ps : List Str} {k : Nat} {sp : Sp} (F : Fun K x qual st f fd) (S : FnScope N ps (defScope st)) (len : ∀ vs H Q E, sp vs H Q E → vs.length = ps.length)
    (hbody : ∀ (A : Around) (outer : List Env) (s : Shared) (H : Hp) (vs : List V) (Q : VK) (E : XK), Room k (A.deeper (envOfC qual (defScope st) s.heap.objs.size f fd.code)) → sp vs H Q E →
      ∃ t, PSs (cxOf (CX1 P w) P w K mg base N qual (defScope st) f fd.code A outer s H E) (defBody st) t ∧ t { nx := fun _ H' => Q .non H', rt := Q } (start N vs) H) : FnOk P w K mg base (CX1 P w) (k + 1) f fd ps sp := by
  obtain ⟨oc, od, kV, doc, pm, an, cdv, ct, osl, rfl, lk, hcd⟩ := F.ex
  exact fn_of lk hcd S len fun A outer s H vs Q E hr hsp => hbody A outer s H vs Q E hr hsp
theorem cells_in {n : Nat} {names : List (Str × NameKind)} : ∀ {acc : List (Str × Addr)}, (names.map (·.1)).Nodup → (∀ y c, (y, c) ∈ acc → acc.lookup y = some c ∧ y ∉ names.map (·.1)) → ∀ y c, (y, c) ∈ cellsFrom n names acc → (cellsFrom n names acc).lookup y = some c := by
  induction names generalizing n with
  | nil => intro acc _ h y c hy; exact (h y c hy).1
  | cons z r ih =>
    intro acc hn h
    obtain ⟨nm, kd⟩ := z
    have hn' : nm ∉ r.map (·.1) ∧ (r.map (·.1)).Nodup := List.nodup_cons.mp hn
    unfold cellsFrom
    split
    · refine ih hn'.2 fun y c hy => ?_
      rcases List.mem_cons.mp hy with e | e
      · cases e
        exact ⟨by rw [List.lookup_cons]; simp, hn'.1⟩
      · obtain ⟨h1, h2⟩ := h y c e
        have ne : y ≠ nm := fun q => h2 (by rw [q]; exact List.mem_cons_self)
        exact ⟨by rw [List.lookup_cons, beq_eq_false_iff_ne.mpr ne]; exact h1, fun q => h2 (List.mem_cons_of_mem _ q)⟩
    · exact ih hn'.2 fun y c hy => ⟨(h y c hy).1, fun q => (h y c hy).2 (List.mem_cons_of_mem _ q)⟩
theorem Same.drop {cs : List (Addr × Obj)} {H H' : Hp} (hn : ∀ b o, cs.lookup b = some o → H b = none) (s : Same (addC cs H) H') : Same H (dropC cs H') := fun b o e => by
  have q : cs.lookup b = none := by
    cases z : cs.lookup b with
    | none => rfl
    | some u => rw [hn b u z] at e; cases e
  rw [dropC_out q]
  exact s b o (by rw [addC_out q]; exact e)
theorem Same.cells {cs : List (Addr × Obj)} {H H' : Hp} (s : Same (addC cs H) H') : addC cs (dropC cs H') = H' := addC_dropC fun b o z => s b _ (addC_in z)
/-! ### the refusals' classes -/
structure Errs (mg : Str → Option Value) (CT : Addr) (C : Nat → Addr) : Prop where
  thaw : mg "ThawError" = some (.ref CT)
  g0 : mg "UnknownBed" = some (.ref (C 0))
  g1 : mg "UnknownDeed" = some (.ref (C 1))
  g2 : mg "BadBeds" = some (.ref (C 2))
  g3 : mg "BadNeed" = some (.ref (C 3))
  g4 : mg "BadHeat" = some (.ref (C 4))
  g5 : mg "BadYear" = some (.ref (C 5))
  g6 : mg "BadAmount" = some (.ref (C 6))
  g7 : mg "BadTimes" = some (.ref (C 7))
  g8 : mg "UnknownSeason" = some (.ref (C 8))
  g9 : mg "TooManyLaid" = some (.ref (C 9))
  g10 : mg "TooManyDeeds" = some (.ref (C 10))
  g11 : mg "NothingDone" = some (.ref (C 11))
structure Refuses (K : PySem.W.Frag) (CT : Addr) (C : Nat → Addr) (j : Nat) : Prop where
  kx : ExcK K (C j)
  ex : PySem.W.exmOne K (.ref (C j)) (.ref CT) = some true
  one : ∀ i, i < 12 → PySem.W.kitOne K (.ref (C j)) (.ref (C i)) = some (decide (i = j))
  ve : PySem.W.kitOne K (.ref (C j)) (.type "ValueError") = some true
theorem kinds_due (j : Nat) (hj : j < 12) : ([0, 1, 2, 3, 4, 5, 6, 7, 8, 9, 10, 11].map (fun i : Nat => decide (i = j)) ++ [true]) = (List.range 13).map (fun k : Nat => inV (.int ((0 : Int) + (k : Int))) [.int (j : Int), .int 12]) := by
  have h : ∀ j : Fin 12, ([0, 1, 2, 3, 4, 5, 6, 7, 8, 9, 10, 11].map (fun i : Nat => decide (i = j.val)) ++ [true]) = (List.range 13).map (fun k : Nat => inV (.int ((0 : Int) + (k : Int))) [.int (j.val : Int), .int 12]) := by decide
  exact h ⟨j, hj⟩
def LamRef (P : Program) (w : World) (K : PySem.W.Frag) (mg : Str → Option Value) (base : Heap) (C : Nat → Addr) (H : Hp) (f : Addr) (j : Nat) : Prop := ∃ (name qual : Str) (params : Arguments) (body : Expr) (scope : Scope) (clos : List (Str × Addr)) (pm cv ctv : Value) (sp : Sp),
  H f = some (.ext (FunIs f name qual params body scope clos pm cv ctv)) ∧ FnOk P w K mg base (CX1 P w) 14 f (PySem.W.kla_fn name qual params body scope clos pm cv ctv) [] sp ∧ Binds K (PySem.W.kla_fn name qual params body scope clos pm cv ctv) [] [] ∧
  ∀ (H' : Hp) (Q' : VK) (E' : XK), Same H H' → (∀ (H1 : Hp) (xa : Addr), Same H' H1 → H1 xa = none → E' (.ref (C j)) (some xa) H1) → sp [] H' Q' E'
theorem pe_cls {X : Cx} {x : Str} {C : Addr} {pos : Pos} (hm : X.mg x = some (.ref C)) (hg : Gl X x := by rfl) (hd : (x == ("__debug__" : Str)) = false := by decide) : PE X (.Name x pos) (tC (.ref C)) := pe_glob hg hm (show RelV (.ref C) (.ref C) from rfl) hd
theorem pe_isiXK {X : Cx} {p pos : Pos} (K : PySem.W.Frag) {a b : Expr} {ta tb : TE} (hm : X.mg "isinstance" = none) (ha : PE X a ta) (hb : PE X b tb) (h : X.K = K := by rfl) (hg : Gl X "isinstance" := by rfl) (hs : starEach [a, b] X.env = (false, eval a X.env) :: starEach [b] X.env := by rfl) (hs2 : starEach [b] X.env = (false, eval b X.env) :: starEach [] X.env := by rfl) :
    PE X (.Call (.Name "isinstance" p) [a, b] [] pos) (tCB (fun xs H Q => ∃ x c C b, xs = [.ref x, c] ∧ H x = some (.ext (ExcIs x (.ref C))) ∧ ExcK K C ∧ ((∃ T, c = .ty T ∧ PySem.W.kitOne K (.ref C) (.type T) = some b) ∨ ∃ D, c = .ref D ∧ PySem.W.kitOne K (.ref C) (.ref D) = some b) ∧ Q (.bl b) H) (tCons ta (tCons tb tNil))) := by
  subst h
  exact pe_isiX hm ha hb hg hs hs2
end L2

/-! A LAW that makes lambdas and hands them on. -/
namespace L2
open PySem PySem.Spec PyProof.Rows
def TabOk (P : Addr) (qual : Str) (H : Hp) : Prop := ∃ ps : Array Value, H P = some (.tbl ps) ∧ TriplesOk ps.toList ∧ ∀ pos cv, codeAmong pos ps.toList = some cv → ∃ c', cv = .ref c' ∧ H c' = some (.ext (CodeIs c' qual))
theorem TabOk.nil {P : Addr} {qual : Str} {H : Hp} (h : H P = some (.tbl #[])) : TabOk P qual H := ⟨#[], h, trivial, fun pos cv e => by cases e⟩
theorem TabOk.same {P : Addr} {qual : Str} {H H' : Hp} (h : TabOk P qual H) (s : Same H H') : TabOk P qual H' := by
  obtain ⟨ps, h1, h2, h3⟩ := h
  refine ⟨ps, s _ _ h1, h2, fun pos cv e => ?_⟩
  obtain ⟨c', e1, e2⟩ := h3 pos cv e
  exact ⟨c', e1, s _ _ e2⟩
theorem codeAmong_app {pos : Pos} {a b : Int} {c : Value} (l : List Value) (h : TriplesOk l) : codeAmong pos (l ++ [rawInt a, rawInt b, c]) = codeAmong pos l ∨ codeAmong pos (l ++ [rawInt a, rawInt b, c]) = some c := by
  fun_induction TriplesOk l with
  | case1 =>
    show (if _ then _ else _) = _ ∨ (if _ then _ else _) = _
    by_cases q : (a == (pos.line : Int) && b == (pos.col : Int)) = true
    · right; rw [if_pos q]
    · left; rw [if_neg q]
  | case2 a' t b' u x rest ih =>
    simp only [List.cons_append, codeAmong]
    by_cases q : (a' == (pos.line : Int) && b' == (pos.col : Int)) = true
    · left; rw [if_pos q, if_pos q]
    · rw [if_neg q, if_neg q]; exact ih h
  | case3 l h1 h2 => exact h.elim
section
variable {X : Cx} {params : Arguments} {body : Expr} {scope : Scope} {pos : Pos} {cl : List (Str × Addr)} {c P : Addr} {σ : St} {H : Hp} {Q : VK}
theorem tLam_by (hT : TabOk P (X.env.qual ++ "<lambda>") H)
    (k : ∀ (f c' : Addr) (ctv : Value) (H3 : Hp), (∀ b o, b ≠ P → H b = some o → H3 b = some o) → H f = none → H3 f = some (.ext (FunIs f "<lambda>" (X.env.qual ++ "<lambda>") params body scope cl ((X.mg "__name__").getD .none) (.ref c') ctv)) → H3 c' = some (.ext (CodeIs c' (X.env.qual ++ "<lambda>"))) → TabOk P (X.env.qual ++ "<lambda>") H3 → Q (.ref f) H3) :
    tLam X P params body scope pos cl σ H Q := by
  obtain ⟨ps, h1, h2, h3⟩ := hT
  refine ⟨ps, h1, h2, fun hn f c' ctv nc nf n1 n2 n3 => ?_, fun cv hh f ctv nf => ?_⟩
  · refine k f c' ctv _ (fun b o nb e => ?_) nf upd_same ((upd_ne (Ne.symm n1)).trans upd_same) ?_
    · rw [upd_ne (ne_of_none e nf), upd_ne (ne_of_none e nc), upd_ne nb]; exact e
    · refine ⟨_, (upd_ne (Ne.symm n2)).trans ((upd_ne (Ne.symm n3)).trans upd_same), ?_, fun pos' cv e => ?_⟩
      · rw [Array.toList_append]; exact TriplesOk_snoc _ _ _ _ h2
      · rw [Array.toList_append] at e
        rcases codeAmong_app (pos := pos') (a := pos.line) (b := pos.col) (c := .ref c') ps.toList h2 with z | z
        · obtain ⟨c2, e1, e2⟩ := h3 pos' cv (z.symm.trans e)
          refine ⟨c2, e1, ?_⟩
          have nP : c2 ≠ P := ne_of e2 h1 (by intro q; cases q)
          rw [upd_ne (ne_of_none e2 nf), upd_ne (ne_of_none e2 nc), upd_ne nP]; exact e2
        · have := z.symm.trans e
          cases this
          exact ⟨c', rfl, (upd_ne (Ne.symm n1)).trans upd_same⟩
  · obtain ⟨c', rfl, e2⟩ := h3 pos cv hh
    have s := Same.upd (o := .ext (FunIs f "<lambda>" (X.env.qual ++ "<lambda>") params body scope cl ((X.mg "__name__").getD .none) (.ref c') ctv)) nf
    exact k f c' ctv _ (fun b o _ e => s b o e) nf upd_same (s _ _ e2) (TabOk.same ⟨ps, h1, h2, h3⟩ s)
theorem pe_lamC (outer : List (Str × NameKind)) (ho : X.env.cells = cellsFrom (X.env.locals + 1) outer []) (hdef : defaultsOf params X.env = ([], [])) (h : ∀ y ∈ scope.names, y.2 = .free → outer.lookup y.1 = some .cell) (hcode : X.env.code = .ref c) (hC : PySem.W.CodeHd X.base c P) (hB : X.base.BuiltinsAt X.mg P) :
    PE X (.Lambda params body scope pos) (tLam X P params body scope pos (clos scope.names X.env.cells)) :=
  pe_lam hdef (closureFor_of fun y hy hk => by
    rw [ho]
    exact Option.isSome_iff_exists.mp (PySem.W.cellsFrom_some outer _ [] (.inl (h y hy hk)))) hcode hC hB
end
theorem cells_inj {names : List (Str × NameKind)} : ∀ {n : Nat} {acc : List (Str × Addr)}, (∀ x c, (x, c) ∈ acc → c < n) → (∀ x y c, (x, c) ∈ acc → (y, c) ∈ acc → x = y) → ∀ x y c, (x, c) ∈ cellsFrom n names acc → (y, c) ∈ cellsFrom n names acc → x = y := by
  induction names with
  | nil => intro n acc _ h x y c; exact h x y c
  | cons z r ih =>
    intro n acc hlt h
    obtain ⟨nm, kd⟩ := z
    unfold cellsFrom
    split
    · refine ih (fun x c hm => ?_) fun x y c h1 h2 => ?_
      · rcases List.mem_cons.mp hm with e | e
        · cases e; exact Nat.lt_succ_self n
        · exact Nat.lt_succ_of_lt (hlt x c e)
      · rcases List.mem_cons.mp h1 with e1 | e1
        · cases e1
          rcases List.mem_cons.mp h2 with e2 | e2
          · cases e2; rfl
          · exact absurd (hlt y _ e2) (Nat.lt_irrefl _)
        · rcases List.mem_cons.mp h2 with e2 | e2
          · cases e2
            exact absurd (hlt x _ e1) (Nat.lt_irrefl _)
          · exact h x y c e1 e2
    · exact ih hlt h
section
variable {P : Program} {w : World} {K : PySem.W.Frag} {mg : Str → Option Value} {base : Heap} {C : Nat → Addr} {j n : Nat} {H3 : Hp} {cs : List (Addr × Obj)} {f c' : Addr} {name qual : Str} {params : Arguments} {body : Expr} {scope : Scope} {pm ctv : Value} {N : List Str} {σ : St}
theorem lamRef_of (outer : List (Str × NameKind)) (hco : scope.isCoroutine = false) (hgen : scope.isGenerator = false) (hk : scope.kind = .function) (hfree : ∀ x ∈ scope.names, x.2 ≠ .cell ∧ x.2 ≠ .local) (hsub : ∀ y ∈ scope.names, y.2 = .free → outer.lookup y.1 = some .cell)
    (hb : Binds K (PySem.W.kla_fn name qual params body scope (clos scope.names (cellsFrom n outer [])) pm (.ref c') ctv) [] []) (hf : H3 f = some (.ext (FunIs f name qual params body scope (clos scope.names (cellsFrom n outer [])) pm (.ref c') ctv))) (hc : H3 c' = some (.ext (CodeIs c' qual)))
    (un : ∀ b o, cs.lookup b = some o → H3 b = none) (all : ∀ x c, (cellsFrom n outer []).lookup x = some c → ∃ o v, cs.lookup c = some o ∧ o.data = .cell v) (len : σ.length = N.length)
    (val : ∀ (i : Nat) (x : Str) (v : V), N[i]? = some x → σ[i]? = some (some v) → (x, NameKind.free) ∈ scope.names ∧ ∃ c o u, (cellsFrom n outer []).lookup x = some c ∧ cs.lookup c = some o ∧ o.data = .cell (some u) ∧ RelV v u)
    (run : ∀ (A : Around) (out : List Env) (s : Shared) (H0 : Hp) (Q' : VK) (E' : XK), Room 13 (A.deeper (PySem.W.envX qual scope s.heap.objs.size f (.ref c') (clos scope.names (cellsFrom n outer [])))) → Same H3 H0 → (∀ (H1 : Hp) (xa : Addr), Same H0 H1 → H1 xa = none → E' (.ref (C j)) (some xa) H1) →
      ∃ t, PE (cxAt (CX1 P w) P w K mg base N (PySem.W.envX qual scope s.heap.objs.size f (.ref c') (clos scope.names (cellsFrom n outer []))) (fun _ => false) A out s H0 E') body t ∧ t σ H0 Q') : LamRef P w K mg base C (addC cs H3) f j := by
  have out : ∀ {b : Addr} {u : HO}, H3 b = some u → cs.lookup b = none := fun {b u} e => by
    cases z : cs.lookup b with
    | none => rfl
    | some o => rw [un b o z] at e; cases e
  have sub : ∀ {x : Str} {c : Addr}, (clos scope.names (cellsFrom n outer [])).lookup x = some c → (cellsFrom n outer []).lookup x = some c := fun {x c} e => by
    obtain ⟨e1, e2⟩ := clos_lookup e
    obtain ⟨c2, e3⟩ := Option.isSome_iff_exists.mp (PySem.W.cellsFrom_some outer n [] (x := x) (.inl (hsub _ e2 rfl)))
    rw [e3] at e1
    rw [e3, e1]; rfl
  refine ⟨name, qual, params, body, scope, _, pm, .ref c', ctv, fun vs H Q E => vs = [] ∧ ∃ H0 cs σ, LamAt P w K mg base 13 f c' name qual params body scope (clos scope.names (cellsFrom n outer [])) pm ctv N H Q E H0 cs σ, ?_, ?_, hb, fun H' Q' E' sH hE => ?_⟩
  · rw [addC_out (out hf)]; exact hf
  · refine lam_ok hco hgen hk hfree (fun x y c e1 e2 => ?_) (fun x e => ?_) fun vs H Q E h => h
    · exact cells_inj (n := n) (names := outer) (acc := []) (fun _ _ z => nomatch z) (fun _ _ _ z => nomatch z) x y c (PySem.mem_of_lookup (sub e1)) (PySem.mem_of_lookup (sub e2))
    · exact clos_has (PySem.mem_of_lookup e)
  · have eH := sH.cells
    have s0 : Same H3 (dropC cs H') := sH.drop un
    have frz : ∀ b o, cs.lookup b = some o → H' b = some (.frz o (.ext fun _ => True)) := fun b o z => sH b _ (addC_in z)
    refine ⟨rfl, dropC cs H', cs, σ, ⟨eH.symm, fun b o z => dropC_in z, s0 _ _ hf, s0 _ _ hc, fun x c e => all x c (sub e), len, fun i x v h1 h2 => ?_, fun A ou s hr => ?_⟩⟩
    · obtain ⟨hm, c, o, u, a1, a2, a3, a4⟩ := val i x v h1 h2
      obtain ⟨c2, a5⟩ := clos_has (cells := cellsFrom n outer []) hm
      have := sub a5
      rw [a1] at this; cases this
      exact ⟨c, o, u, a5, a2, a3, a4⟩
    · have hS : ∀ H1, Same (dropC cs H') H1 → Same H' (addC cs H1) := fun H1 s1 b o e => by
        cases z : cs.lookup b with
        | some o' =>
          rw [frz b o' z] at e; cases e
          exact addC_in z
        | none =>
          rw [addC_out z]
          exact s1 b o (by rw [dropC_out z]; exact e)
      exact run A ou s (dropC cs H') (fun v H1 => Q' v (addC cs H1)) (fun cls x H1 => (∀ b, x = some b → cs.lookup b = none) → E' cls x (addC cs H1)) hr s0 (fun H1 xa s1 hx hcs => hE _ xa (hS H1 s1) (by rw [addC_out (hcs xa rfl)]; exact hx))
end
theorem passE0 {P : Program} {w : World} {X : Cx} : Passes (CX1 P w) X E0 := fun _ _ _ _ _ _ _ ⟨_, _, _, _, _, _, _, _, _, hE⟩ => hE.elim
theorem Fun.okL {P : Program} {w : World} {K : PySem.W.Frag} {mg : Str → Option Value} {base : Heap} {x qual : Str} {st : Stmt} {f : Addr} {fd : FuncData} {N ps : List Str} {k : Nat} {sp : Sp} (F : Fun K x qual st f fd) (S : FnScope N ps (defScope st)) (len : ∀ vs H Q E, sp vs H Q E → vs.length = ps.length)
    (hbody : ∀ (A : Around) (outer : List Env) (s : Shared) (H : Hp) (vs : List V) (Q : VK) (E : XK), Room k (A.deeper (envOfC qual (defScope st) s.heap.objs.size f fd.code)) → sp vs H Q E →
      ∃ t, PSs (cxOf (CX1 P w) P w K mg base N qual (defScope st) f fd.code A outer s H E).nox (defBody st) t ∧ t { nx := fun _ H' => Q .non H', rt := Q } (start N vs) H) : FnOk P w K mg base (CX1 P w) (k + 1) f fd ps sp :=
  F.okT S len fun A outer s H vs Q E hr hsp => let ⟨t, h, q⟩ := hbody A outer s H vs Q E hr hsp; ⟨t, h.nox, q⟩
/-! ### the classes' facts, by what is decided over the written part -/
section
open PySem.W
variable {K : Frag} {C D CT : Addr} {b : Bool} {cd : ClassData}
theorem kit_no (n : (C == D) = false) (h1 : clsIn K D = some cd) (h2 : typeIn K (.ref D) = some (.type "type")) (h3 : subIn K (.ref C) (.ref D) = some b) : kitOne K (.ref C) (.ref D) = some b := by
  unfold kitOne
  have n' : C ≠ D := beq_eq_false_iff_ne.mp n
  rw [if_neg (fun z => n' (Value.ref.inj (eq_of_beq z)))]
  unfold kitCls
  dsimp only
  rw [h1, h2, if_pos (by rfl)]
  exact h3
theorem kit_self : kitOne K (.ref C) (.ref C) = some true := by
  unfold kitOne
  rw [if_pos (beq_self_eq_true _)]
theorem kit_ve (h : subIn K (.ref C) (.type "ValueError") = some true) : kitOne K (.ref C) (.type "ValueError") = some true := by
  unfold kitOne
  rw [if_neg (by simp)]
  unfold kitCls
  dsimp only
  rw [if_pos (by decide +kernel)]
  exact h
theorem exm_of (h0 : subIn K (.ref CT) (.type "BaseException") = some true) (h1 : clsIn K CT = some cd) (h2 : typeIn K (.ref CT) = some (.type "type")) (h3 : subIn K (.ref C) (.ref CT) = some true) : exmOne K (.ref C) (.ref CT) = some true := by
  unfold exmOne
  rw [h0, if_pos (by rfl)]
  unfold kitCls
  dsimp only
  rw [h1, h2, if_pos (by rfl)]
  exact h3
theorem tabIn_of {x : Str} {f c P : Addr} {oc : Value} {od : Option Addr} {fd : FuncData} {osl : Array (Option Value)} {cc : Value} {cod : Option Addr} {vs : Array Value} {csl : Array (Option Value)} (h1 : nsIn K mainGlobals x = some (some (.ref f))) (h2 : K.lookup f = some ⟨oc, od, .func fd, osl⟩) (h3 : fd.code = .ref c)
    (h4 : K.lookup c = some ⟨cc, cod, .fields vs, csl⟩) (h5 : vs[11]? = some (.ref P)) : tabIn K x = some (c, P) := by
  unfold tabIn
  rw [h1]
  dsimp only
  rw [h2]
  dsimp only
  rw [h3]
  dsimp only
  rw [h4]
  dsimp only
  rw [h5]
end
def Thr (mg : Str → Option Value) (nm : Str) (E : XK) (H : Hp) : Prop := ∀ (C x : Addr) (H' : Hp), mg nm = some (.ref C) → Same H H' → H' x = none → E (.ref C) (some x) H'
theorem Thr.same {mg : Str → Option Value} {nm : Str} {E : XK} {H H' : Hp} (h : Thr mg nm E H) (s : Same H H') : Thr mg nm E H' := fun C x H2 hm s2 hx => h C x H2 hm (s.trans s2) hx
abbrev GoodAm (m : Int) : Prop := 0 ≤ m ∧ m ≤ 1000000
theorem tAsg_i {te : TE} {g : TG} {D : Ends} {σ : St} {H : Hp} (h : te σ H fun x H1 => g x σ H1 D.nx) : tAsg te g D σ H := h
theorem tLst_i {t : TA} {σ : St} {H : Hp} {Q : VK} (h : t σ H fun xs H1 => xs.length ≤ sizeLine ∧ ∀ p, H1 p = none → Q (.ref p) (upd H1 p (.lst xs))) : tLst t σ H Q := h
theorem tCons_i {ta : TE} {tr : TA} {σ : St} {H : Hp} {Q : List V → Hp → Prop} (h : ta σ H fun x H1 => tr σ H1 fun xs H2 => Q (x :: xs) H2) : tCons ta tr σ H Q := h
def SameN (pc : Addr) (H H' : Hp) : Prop := ∀ b o, (∀ ps, o ≠ .tbl ps) → b ≠ pc → H b = some o → H' b = some o
theorem SameN.trans {pc : Addr} {H H1 H2 : Hp} (a : SameN pc H H1) (b : SameN pc H1 H2) : SameN pc H H2 := fun c o n h e => b c o n h (a c o n h e)
theorem TabOk.upd {P pc : Addr} {qual : Str} {H : Hp} {xs ys : List V} (hT : TabOk P qual H) (hp : H pc = some (.lst xs)) : TabOk P qual (upd H pc (.lst ys)) := by
  obtain ⟨ps, h1, h2, h3⟩ := hT
  refine ⟨ps, (upd_ne (ne_of h1 hp (by intro z; cases z))).trans h1, h2, fun pos cv e => ?_⟩
  obtain ⟨c', e1, e2⟩ := h3 pos cv e
  exact ⟨c', e1, (upd_ne (ne_of e2 hp (by intro z; cases z))).trans e2⟩
end L2

















/-! GROUND: an object of the program's class, its stages, its methods. -/
namespace Tf
open PySem L2
/-! ### the ground -/
end Tf

namespace Tf
open PySem L2
/-! ONE SEASON done to a ground. -/
/-! and what is kept -/
theorem SeasAt.tup {H H' : Hp} {ts : List Addr} {ss : List (Bool × Int)} (S : SeasAt H ts ss) (k : ∀ t xs, H t = some (.tup xs) → H' t = some (.tup xs)) : SeasAt H' ts ss :=
  ⟨S.len, fun i z e => let ⟨t, e1, e2⟩ := S.at' i z e; ⟨t, e1, k _ _ e2⟩⟩
end Tf

namespace Tf
open PySem L2
/-! A HISTORY: deeds one behind another. -/
def KeepT (H H' : Hp) : Prop := ∀ t xs, H t = some (.tup xs) → H' t = some (.tup xs)
theorem keepT_upd {H : Hp} {q : Addr} {xs : List V} {o : HO} (h : H q = some (.lst xs)) : KeepT H (upd H q o) := fun t ys e => by rw [upd_ne (ne_of e h (by intro z; cases z))]; exact e
end Tf

namespace L2
open PySem PySem.Spec PyProof.Rows
section
variable {X : Cx}
theorem op_neNil (hu : X.A.units < cLine) : OpR X (compareOp .NotEq) (fun x y H Q => ∃ (p q : Addr) (xs : List V), x = .ref p ∧ y = .ref q ∧ SqL X.K H p xs ∧ SqL X.K H q [] ∧ Q (.bl (!xs.isEmpty)) H) := by
  intro pins s σ H x y v u Q I rx ry h
  obtain ⟨p, q, xs, rfl, rfl, h1, h2, hq⟩ := h
  cases rx
  cases ry
  obtain ⟨its, r1, pl1, _⟩ := I.list h1
  obtain ⟨jts, r2, pl2, _⟩ := I.list h2
  have l1 := r1.length
  have l2 := r2.length
  rw [List.length_nil] at l2
  cases xs with
  | nil =>
    rw [List.length_nil] at l1
    refine SeqAt.RcNeAt.lists (e := fun _ => true) pl1.isList pl2.isList (by simp only [List.size_toArray]; omega) hu (fun j a b => ?_) _ _ _ _ ?_
    · simp only [List.size_toArray] at a; omega
    · rw [show (List.range its.toArray.size).all (fun _ => true) = true from by simp]
      exact ⟨.bl false, H, I, rfl, hq⟩
  | cons a r =>
    rw [List.length_cons] at l1
    refine SeqAt.RcNeAt.lists_lengths pl1.isList pl2.isList (by simp only [List.size_toArray, bne_iff_ne]; omega) hu _ _ _ _ ?_
    exact ⟨.bl true, H, I, rfl, hq⟩
theorem op_eqNil (hu : X.A.units < cLine) : OpR X (compareOp .Eq) (fun x y H Q => ∃ (p q : Addr) (xs : List V), x = .ref p ∧ y = .ref q ∧ SqL X.K H p xs ∧ SqL X.K H q [] ∧ Q (.bl xs.isEmpty) H) := by
  intro pins s σ H x y v u Q I rx ry h
  obtain ⟨p, q, xs, rfl, rfl, h1, h2, hq⟩ := h
  cases rx
  cases ry
  obtain ⟨its, r1, pl1, _⟩ := I.list h1
  obtain ⟨jts, r2, pl2, _⟩ := I.list h2
  have l1 := r1.length
  have l2 := r2.length
  rw [List.length_nil] at l2
  cases xs with
  | nil =>
    rw [List.length_nil] at l1
    refine SeqAt.eq_listAt (e := fun _ => true) pl1.isList pl2.isList (by simp only [List.size_toArray]; omega) hu (fun j a b => ?_) ?_
    · simp only [List.size_toArray] at a; omega
    · rw [show (List.range its.toArray.size).all (fun _ => true) = true from by simp]
      exact ⟨.bl true, H, I, rfl, hq⟩
  | cons a r =>
    rw [List.length_cons] at l1
    refine SeqAt.eq_list_lengthsAt pl1.isList pl2.isList (by simp only [List.size_toArray, bne_iff_ne]; omega) hu ?_
    exact ⟨.bl false, H, I, rfl, hq⟩
end
end L2

namespace Tf
open PySem L2
/-! THE BALANCE: what is there, what found room, what was taken. -/
/-! deeds as years -/
end Tf

namespace Tf
open PySem L2
/-! WHAT IS LOST of what is brought or taken. -/
end Tf



open PySem
namespace L2
theorem seq_in {t r : TS} {D : Ends} {σ : St} {H : Hp} (h : ∀ D1 : Ends, (∀ σ' H', r D σ' H' → D1.nx σ' H') → t D1 σ H) : tSeq t r D σ H := h _ fun _ _ e => e
end L2

/-! REFUSALS of a ground's methods, and of the making of one. -/
namespace L2
open PySem PySem.Spec PyProof.Rows
def SameT (H H' : Hp) : Prop := ∀ b o, (∀ ps, o ≠ .tbl ps) → H b = some o → H' b = some o
theorem SameT.of_lam {P : Addr} {qual : Str} {H H' : Hp} (hT : TabOk P qual H) (s : ∀ b o, b ≠ P → H b = some o → H' b = some o) : SameT H H' := fun b o n e => by
  obtain ⟨ps, hp, _⟩ := hT
  exact s b o (ne_of e hp (n ps)) e
theorem SameT.lst {H H' : Hp} (s : SameT H H') {b : Addr} {xs : List V} (e : H b = some (.lst xs)) : H' b = some (.lst xs) := s b _ (fun _ z => by cases z) e
end L2


/-! A LAW that makes functions, and a def of it that does. -/
namespace L2
open PySem PySem.Spec PyProof.Rows
structure LamX where
  params : Arguments
  body : Expr
  scope : Scope
def LamIs (X : Cx) (H : Hp) (f : Addr) (e : LamX) : Prop := ∃ (c' : Addr) (ctv : Value), H f = some (.ext (FunIs f "<lambda>" (X.env.qual ++ "<lambda>") e.params e.body e.scope (clos e.scope.names X.env.cells) ((X.mg "__name__").getD .none) (.ref c') ctv)) ∧ H c' = some (.ext (CodeIs c' (X.env.qual ++ "<lambda>")))
def Lams (X : Cx) (H : Hp) (fs : List Addr) (es : List LamX) : Prop := fs.length = es.length ∧ ∀ (i : Nat) (e : LamX), es[i]? = some e → ∃ f, fs[i]? = some f ∧ LamIs X H f e
section
variable {X : Cx} {H H' : Hp} {fs : List Addr} {es : List LamX} {f pc P : Addr} {e : LamX} {σ : St} {Q : VK} {D : Ends} {params : Arguments} {body : Expr} {scope : Scope} {pos : Pos} {ix : Nat} {K : PySem.W.Frag}
theorem LamIs.mono (h : LamIs X H f e) (k : ∀ b g, H b = some (.ext g) → H' b = some (.ext g)) : LamIs X H' f e := by
  obtain ⟨c', ctv, h1, h2⟩ := h
  exact ⟨c', ctv, k _ _ h1, k _ _ h2⟩
theorem Lams.mono (h : Lams X H fs es) (k : ∀ b g, H b = some (.ext g) → H' b = some (.ext g)) : Lams X H' fs es := by
  refine ⟨h.1, fun i e he => ?_⟩
  obtain ⟨f, h1, h2⟩ := h.2 i e he
  exact ⟨f, h1, h2.mono k⟩
theorem Lams.snoc (h : Lams X H fs es) (hf : LamIs X H f e) : Lams X H (fs ++ [f]) (es ++ [e]) := by
  refine ⟨by simp [h.1], fun i e' he => ?_⟩
  have hlen := h.1
  by_cases hi : i < es.length
  · rw [List.getElem?_append_left hi] at he
    obtain ⟨g, h1, h2⟩ := h.2 i e' he
    exact ⟨g, by rw [List.getElem?_append_left (h.1 ▸ hi)]; exact h1, h2⟩
  · rw [List.getElem?_append_right (by omega)] at he
    have h1 : i - es.length = 0 := by
      have := (List.getElem?_eq_some_iff.mp he).1
      simpa using this
    rw [h1] at he
    cases he
    exact ⟨f, by rw [List.getElem?_append_right (by omega), show i - fs.length = 0 by omega]; rfl, hf⟩
theorem first_lam (hT : TabOk P (X.env.qual ++ "<lambda>") H) (k : ∀ (f pc : Addr) (H' : Hp), H pc = none → SameT H H' → H' pc = some (.lst [.ref f]) → TabOk P (X.env.qual ++ "<lambda>") H' → Lams X H' [f] [⟨params, body, scope⟩] → Q (.ref pc) H') :
    tLst (tCons (tLam X P params body scope pos (clos scope.names X.env.cells)) tNil) σ H Q := by
  refine tLst_i (tCons_i (tLam_by hT fun f c' ctv H3 s3 nf hf hc hT3 => ?_))
  refine ⟨sz1000' (by show 1 ≤ 100000; decide), fun p fp => ?_⟩
  have sT := SameT.of_lam hT s3
  have u := Same.upd (o := .lst [.ref f]) fp
  have hp0 : H p = none := by
    cases z : H p with
    | none => rfl
    | some o =>
      obtain ⟨ps, hP, _⟩ := hT
      by_cases q : p = P
      · obtain ⟨ps', hP', _⟩ := hT3
        rw [q, hP'] at fp; cases fp
      · rw [s3 p o q z] at fp; cases fp
  refine k f p _ hp0 (fun b o no e => u _ _ (sT b o no e)) upd_same (hT3.same u) ⟨rfl, fun i e he => ?_⟩
  match i, he with
  | 0, he => cases he; exact ⟨f, rfl, c', ctv, u _ _ hf, u _ _ hc⟩
  | i + 1, he => cases he
theorem append_lam (hT : TabOk P (X.env.qual ++ "<lambda>") H) (hp : H pc = some (.lst (fs.map V.ref))) (L : Lams X H fs es) (hσ : σ[ix]? = some (some (.ref pc))) (hl : Nat.ble fs.length 1000 = true)
    (k : ∀ (f : Addr) (H' : Hp), SameN pc H H' → H' pc = some (.lst ((fs ++ [f]).map V.ref)) → TabOk P (X.env.qual ++ "<lambda>") H' → Lams X H' (fs ++ [f]) (es ++ [⟨params, body, scope⟩]) → D.nx σ H') :
    tDrop (tBM K "list" rAppend (tVar ix) (tCons (tLam X P params body scope pos (clos scope.names X.env.cells)) tNil)) D σ H := by
  refine ⟨_, hσ, .inl ⟨rfl, _, SqL.of hp⟩, tCons_i (tLam_by hT fun f c' ctv H3 s3 nf hf hc hT3 => ?_)⟩
  have sT := SameT.of_lam hT s3
  have hp3 := sT.lst hp
  refine ⟨pc, _, _, rfl, rfl, hp3, sz1000 (by rw [List.length_map]; have := Nat.le_of_ble_eq_true hl; omega), ?_⟩
  have up : ∀ b o, (∀ xs, o ≠ .lst xs) → H3 b = some o → (upd H3 pc (.lst (fs.map V.ref ++ [V.ref f]))) b = some o := fun b o no e => by rw [upd_ne (ne_of e hp3 (no _))]; exact e
  refine k f _ (fun b o no nb e => by rw [upd_ne nb]; exact sT b o no e) (by rw [upd_same, List.map_append]; rfl) (hT3.upd hp3) ?_
  refine Lams.snoc (L.mono fun b g e => up _ _ (fun _ z => by cases z) (sT _ _ (fun _ z => by cases z) e)) ⟨c', ctv, up _ _ (fun _ z => by cases z) hf, up _ _ (fun _ z => by cases z) hc⟩
end
def RunRef (P : Program) (w : World) (K : PySem.W.Frag) (mg : Str → Option Value) (base : Heap) (C : Nat → Addr) (j : Nat) (N : List Str) (σ : St) (qual : Str) (scope : Scope) (n : Nat) (outer : List (Str × NameKind)) (f : Addr) (H3 : Hp) (body : Expr) : Prop :=
  ∀ (c' : Addr) (A : Around) (out : List Env) (s : Shared) (H0 : Hp) (Q' : VK) (E' : XK), Room 13 (A.deeper (PySem.W.envX qual scope s.heap.objs.size f (.ref c') (clos scope.names (cellsFrom n outer [])))) → Same H3 H0 → (∀ (H1 : Hp) (xa : Addr), Same H0 H1 → H1 xa = none → E' (.ref (C j)) (some xa) H1) →
      ∃ t, PE (cxAt (CX1 P w) P w K mg base N (PySem.W.envX qual scope s.heap.objs.size f (.ref c') (clos scope.names (cellsFrom n outer []))) (fun _ => false) A out s H0 E') body t ∧ t σ H0 Q'
theorem lamRef_is {P : Program} {w : World} {K : PySem.W.Frag} {mg : Str → Option Value} {base : Heap} {C : Nat → Addr} {j n : Nat} {H3 : Hp} {cs : List (Addr × Obj)} {f : Addr} {params : Arguments} {body : Expr} {scope : Scope} {N : List Str} {σ : St} {X : Cx}
    (outer : List (Str × NameKind)) (hX : X.env.cells = cellsFrom n outer []) (hco : scope.isCoroutine = false) (hgen : scope.isGenerator = false) (hk : scope.kind = .function) (hfree : ∀ x ∈ scope.names, x.2 ≠ .cell ∧ x.2 ≠ .local) (hsub : ∀ y ∈ scope.names, y.2 = .free → outer.lookup y.1 = some .cell)
    (hb : ∀ (cl : List (Str × Addr)) (pm cv ctv : Value), Binds K (PySem.W.kla_fn "<lambda>" (X.env.qual ++ "<lambda>") params body scope cl pm cv ctv) [] []) (L : LamIs X H3 f ⟨params, body, scope⟩)
    (un : ∀ b o, cs.lookup b = some o → H3 b = none) (all : ∀ x c, (cellsFrom n outer []).lookup x = some c → ∃ o v, cs.lookup c = some o ∧ o.data = .cell v) (len : σ.length = N.length)
    (val : ∀ (i : Nat) (x : Str) (v : V), N[i]? = some x → σ[i]? = some (some v) → (x, NameKind.free) ∈ scope.names ∧ ∃ c o u, (cellsFrom n outer []).lookup x = some c ∧ cs.lookup c = some o ∧ o.data = .cell (some u) ∧ RelV v u)
    (run : RunRef P w K mg base C j N σ (X.env.qual ++ "<lambda>") scope n outer f H3 body) : LamRef P w K mg base C (addC cs H3) f j := by
  obtain ⟨c', ctv, h1, h2⟩ := L
  dsimp only at h1
  rw [hX] at h1
  exact lamRef_of outer hco hgen hk hfree hsub (hb _ _ _ _) h1 h2 un all len val (run c')
end L2

/-! LAMBDAS made while another table of code is known. -/

namespace L2
open PySem PySem.Spec PyProof.Rows
@[irreducible] def PSq (X : Cx) (s : Stmt) (t : TS) : Prop := PS X s t
@[irreducible] def PEq (X : Cx) (e : Expr) (t : TE) : Prop := PE X e t
theorem PSq.of {X : Cx} {s : Stmt} {t : TS} (h : PS X s t) : PSq X s t := by unfold PSq; exact h
theorem PSq.to {X : Cx} {s : Stmt} {t : TS} (h : PSq X s t) : PS X s t := by unfold PSq at h; exact h
theorem PEq.of {X : Cx} {e : Expr} {t : TE} (h : PE X e t) : PEq X e t := by unfold PEq; exact h
theorem PEq.to {X : Cx} {e : Expr} {t : TE} (h : PEq X e t) : PE X e t := by unfold PEq at h; exact h
@[irreducible] def PSsq (X : Cx) (ss : List Stmt) (t : TS) : Prop := PSs X ss t
theorem PSsq.of {X : Cx} {ss : List Stmt} {t : TS} (h : PSs X ss t) : PSsq X ss t := by unfold PSsq; exact h
theorem PSsq.to {X : Cx} {ss : List Stmt} {t : TS} (h : PSsq X ss t) : PSs X ss t := by unfold PSsq at h; exact h
theorem pss_consQ {X : Cx} {s : Stmt} {ss : List Stmt} {t u : TS} (h : PSq X s t) (r : PSsq X ss u) : PSsq X (s :: ss) (tSeq t u) := PSsq.of (pss_cons h.to r.to)
theorem pss_oneQ {X : Cx} {s : Stmt} {t : TS} (h : PSq X s t) : PSsq X [s] t := PSsq.of (pss_one h.to)
theorem swaps_list {es : List Expr} {p : Pos} {t l env} : swapsWith (.List es p) t l env = pure false := by rfl
theorem ps_setQ {X : Cx} {i : Nat} {x : Str} {es : List Expr} {te : TE} {p pos' pos : Pos} (hN : X.N.Nodup) (hi : X.N[i]? = some x) (hx : Loc X.env.scope x) (he : PEq X (.List es p) te) (hf : X.fn x = true ∨ X.env.scope.names.lookup x = some .local := by first | exact .inl rfl | exact .inr rfl | assumption) :
    PSq X (.Assign [.Name x pos'] (.List es p) pos) (tAsg te (gName i)) := PSq.of (ps_set hN hi hx he.to swaps_list hf)
end L2

/-! TRY f() EXCEPT C, where f answers. -/
namespace L2
open PySem PySem.Spec PyProof.Rows
section
variable {X : Cx} {k i : Nat} {x0 tn : Str} {p cpos epos tp hpos pos : Pos} {suite : List Stmt}
def tTryA (X : Cx) (k i : Nat) : TS := fun D σ H => tVar i σ H fun v H1 => ∃ (f : Addr) (name qual : Str) (params : Arguments) (body : Expr) (scope : Scope) (clos : List (Str × Addr)) (pm cv ctv : Value) (sp : Sp), v = .ref f ∧ H1 f = some (.ext (FunIs f name qual params body scope clos pm cv ctv)) ∧
  FnOk X.prog X.w X.K X.mg X.base (CX1 X.prog X.w) k f (PySem.W.kla_fn name qual params body scope clos pm cv ctv) [] sp ∧ Binds X.K (PySem.W.kla_fn name qual params body scope clos pm cv ctv) [] [] ∧
  sp [] H1 (fun _ H2 => D.nx σ H2) (fun _ _ _ => False)
theorem ps_tryA (hN : X.N[i]? = some x0) (hv : Vis X.env.scope x0) (hr : Room k X.A) (hd1 : (x0 == ("__debug__" : Str)) = false := by decide) (hd2 : (x0 == ("__classdict__" : Str)) = false := by decide) (hsw : ∀ l, swapsWith (.Call (.Name x0 p) [] [] cpos) none l X.env = pure false := by exact fun _ => rfl) :
    PS X (.Try [.Expr (.Call (.Name x0 p) [] [] cpos) epos] [.ExceptHandler (some (.Name tn tp)) none suite hpos] [] [] pos) (tTryA X k i) := by
  intro pins s σ H D I h
  refine wpAny_Try_except ?_
  generalize hE : (fun (e : Value) (s₁ : Shared) => wpAny (model X.prog X.w) X.A (noteFrame e X.env) (fun _ s₂ => wpAny (model X.prog X.w) X.A (setFlight e none) (fun _ s₃ => wpAny (model X.prog X.w) X.A (handleBy e X.env [.ExceptHandler (some (.Name tn tp)) none suite hpos]) (SP X pins D) X.xe s₃) X.xe s₂) X.xe s₁) = EE
  have core : wpAny (model X.prog X.w) X.A (eval (.Call (.Name x0 p) [] [] cpos) X.env) (EP (X.wish EE) pins σ (fun _ H2 => D.nx σ H2)) EE s := by
    refine wpAny_Call_Name_kw (thn (pe_var (X := X.wish EE) hN hv hd1 hd2 pins s σ H _ (I.wish EE) h) fun u s1 ⟨v, H1, I1, r1, q1⟩ => ?_)
    obtain ⟨f, name, qual, params, body, scope, clos, pm, cv, ctv, sp, rfl, hff, F, hb, q⟩ := q1
    cases r1
    have fo : s1.heap.get? f = some { cls := .type "function", data := .func (PySem.W.kla_fn name qual params body scope clos pm cv ctv) } := (I1.hok f _ hff).1
    show wpAny _ _ (callWith cpos (.ref f) [] [] []) _ _ _
    refine Calls.callWith_function (o := { cls := .type "function", data := .func (PySem.W.kla_fn name qual params body scope clos pm cv ctv) }) (fd := PySem.W.kla_fn name qual params body scope clos pm cv ctv) ?_
    refine evalArgs_nil3 ⟨⟨fo, rfl⟩, run_fnC (X := X.wish EE) (us := []) (vs := []) (cs := []) F hr hb I1 .nil (fun _ _ z => nomatch z) (fun _ _ _ z => nomatch z) (fun _ _ z => nomatch z) (fun e s' hc => ?_) q⟩
    have hc : CX1 X.prog X.w X.stack H1 s1 _ e s' := hc
    obtain ⟨_, _, _, _, _, _, _, _, _, hq⟩ := hc
    exact False.elim hq
  refine wpAny_execs_cons (wpAny_Expr_any (thn core fun v s1 ⟨x, H1, I1, r1, q1⟩ => ?_) I.quiet (hsw _))
  exact wpAny_execs_nil (wpAny_execs_nil ⟨σ, H1, I1.unwish, q1⟩)
end
def LamAns (P : Program) (w : World) (K : PySem.W.Frag) (mg : Str → Option Value) (base : Heap) (H : Hp) (f : Addr) : Prop := ∃ (name qual : Str) (params : Arguments) (body : Expr) (scope : Scope) (clos : List (Str × Addr)) (pm cv ctv : Value) (sp : Sp),
  H f = some (.ext (FunIs f name qual params body scope clos pm cv ctv)) ∧ FnOk P w K mg base (CX1 P w) 14 f (PySem.W.kla_fn name qual params body scope clos pm cv ctv) [] sp ∧ Binds K (PySem.W.kla_fn name qual params body scope clos pm cv ctv) [] [] ∧
  ∀ (H' : Hp) (Q' : VK) (E' : XK), Same H H' → (∀ (v : V) (H1 : Hp), Same H' H1 → Q' v H1) → sp [] H' Q' E'
section
variable {P : Program} {w : World} {K : PySem.W.Frag} {mg : Str → Option Value} {base : Heap} {C : Nat → Addr} {j n : Nat} {H3 : Hp} {cs : List (Addr × Obj)} {f c' : Addr} {name qual : Str} {params : Arguments} {body : Expr} {scope : Scope} {pm ctv : Value} {N : List Str} {σ : St}
theorem lamAns_of (outer : List (Str × NameKind)) (hco : scope.isCoroutine = false) (hgen : scope.isGenerator = false) (hk : scope.kind = .function) (hfree : ∀ x ∈ scope.names, x.2 ≠ .cell ∧ x.2 ≠ .local) (hsub : ∀ y ∈ scope.names, y.2 = .free → outer.lookup y.1 = some .cell)
    (hb : Binds K (PySem.W.kla_fn name qual params body scope (clos scope.names (cellsFrom n outer [])) pm (.ref c') ctv) [] []) (hf : H3 f = some (.ext (FunIs f name qual params body scope (clos scope.names (cellsFrom n outer [])) pm (.ref c') ctv))) (hc : H3 c' = some (.ext (CodeIs c' qual)))
    (un : ∀ b o, cs.lookup b = some o → H3 b = none) (all : ∀ x c, (cellsFrom n outer []).lookup x = some c → ∃ o v, cs.lookup c = some o ∧ o.data = .cell v) (len : σ.length = N.length)
    (val : ∀ (i : Nat) (x : Str) (v : V), N[i]? = some x → σ[i]? = some (some v) → (x, NameKind.free) ∈ scope.names ∧ ∃ c o u, (cellsFrom n outer []).lookup x = some c ∧ cs.lookup c = some o ∧ o.data = .cell (some u) ∧ RelV v u)
    (run : ∀ (A : Around) (out : List Env) (s : Shared) (H0 : Hp) (Q' : VK) (E' : XK), Room 13 (A.deeper (PySem.W.envX qual scope s.heap.objs.size f (.ref c') (clos scope.names (cellsFrom n outer [])))) → Same H3 H0 → (∀ (v : V) (H1 : Hp), Same H0 H1 → Q' v H1) →
      ∃ t, PE (cxAt (CX1 P w) P w K mg base N (PySem.W.envX qual scope s.heap.objs.size f (.ref c') (clos scope.names (cellsFrom n outer []))) (fun _ => false) A out s H0 E') body t ∧ t σ H0 Q') : LamAns P w K mg base (addC cs H3) f := by
  have out : ∀ {b : Addr} {u : HO}, H3 b = some u → cs.lookup b = none := fun {b u} e => by
    cases z : cs.lookup b with
    | none => rfl
    | some o => rw [un b o z] at e; cases e
  have sub : ∀ {x : Str} {c : Addr}, (clos scope.names (cellsFrom n outer [])).lookup x = some c → (cellsFrom n outer []).lookup x = some c := fun {x c} e => by
    obtain ⟨e1, e2⟩ := clos_lookup e
    obtain ⟨c2, e3⟩ := Option.isSome_iff_exists.mp (PySem.W.cellsFrom_some outer n [] (x := x) (.inl (hsub _ e2 rfl)))
    rw [e3] at e1
    rw [e3, e1]; rfl
  refine ⟨name, qual, params, body, scope, _, pm, .ref c', ctv, fun vs H Q E => vs = [] ∧ ∃ H0 cs σ, LamAt P w K mg base 13 f c' name qual params body scope (clos scope.names (cellsFrom n outer [])) pm ctv N H Q E H0 cs σ, ?_, ?_, hb, fun H' Q' E' sH hE => ?_⟩
  · rw [addC_out (out hf)]; exact hf
  · refine lam_ok hco hgen hk hfree (fun x y c e1 e2 => ?_) (fun x e => ?_) fun vs H Q E h => h
    · exact cells_inj (n := n) (names := outer) (acc := []) (fun _ _ z => nomatch z) (fun _ _ _ z => nomatch z) x y c (PySem.mem_of_lookup (sub e1)) (PySem.mem_of_lookup (sub e2))
    · exact clos_has (PySem.mem_of_lookup e)
  · have eH := sH.cells
    have s0 : Same H3 (dropC cs H') := sH.drop un
    have frz : ∀ b o, cs.lookup b = some o → H' b = some (.frz o (.ext fun _ => True)) := fun b o z => sH b _ (addC_in z)
    refine ⟨rfl, dropC cs H', cs, σ, ⟨eH.symm, fun b o z => dropC_in z, s0 _ _ hf, s0 _ _ hc, fun x c e => all x c (sub e), len, fun i x v h1 h2 => ?_, fun A ou s hr => ?_⟩⟩
    · obtain ⟨hm, c, o, u, a1, a2, a3, a4⟩ := val i x v h1 h2
      obtain ⟨c2, a5⟩ := clos_has (cells := cellsFrom n outer []) hm
      have := sub a5
      rw [a1] at this; cases this
      exact ⟨c, o, u, a5, a2, a3, a4⟩
    · have hS : ∀ H1, Same (dropC cs H') H1 → Same H' (addC cs H1) := fun H1 s1 b o e => by
        cases z : cs.lookup b with
        | some o' =>
          rw [frz b o' z] at e; cases e
          exact addC_in z
        | none =>
          rw [addC_out z]
          exact s1 b o (by rw [dropC_out z]; exact e)
      exact run A ou s (dropC cs H') (fun v H1 => Q' v (addC cs H1)) (fun cls x H1 => (∀ b, x = some b → cs.lookup b = none) → E' cls x (addC cs H1)) hr s0 (fun v H1 s1 => hE v _ (hS H1 s1))
end
def RunAns (P : Program) (w : World) (K : PySem.W.Frag) (mg : Str → Option Value) (base : Heap) (N : List Str) (σ : St) (qual : Str) (scope : Scope) (n : Nat) (outer : List (Str × NameKind)) (f : Addr) (H3 : Hp) (body : Expr) : Prop :=
  ∀ (c' : Addr) (A : Around) (out : List Env) (s : Shared) (H0 : Hp) (Q' : VK) (E' : XK), Room 13 (A.deeper (PySem.W.envX qual scope s.heap.objs.size f (.ref c') (clos scope.names (cellsFrom n outer [])))) → Same H3 H0 → (∀ (v : V) (H1 : Hp), Same H0 H1 → Q' v H1) →
      ∃ t, PE (cxAt (CX1 P w) P w K mg base N (PySem.W.envX qual scope s.heap.objs.size f (.ref c') (clos scope.names (cellsFrom n outer []))) (fun _ => false) A out s H0 E') body t ∧ t σ H0 Q'
theorem lamAns_is {P : Program} {w : World} {K : PySem.W.Frag} {mg : Str → Option Value} {base : Heap} {n : Nat} {H3 : Hp} {cs : List (Addr × Obj)} {f : Addr} {params : Arguments} {body : Expr} {scope : Scope} {N : List Str} {σ : St} {X : Cx}
    (outer : List (Str × NameKind)) (hX : X.env.cells = cellsFrom n outer []) (hco : scope.isCoroutine = false) (hgen : scope.isGenerator = false) (hk : scope.kind = .function) (hfree : ∀ x ∈ scope.names, x.2 ≠ .cell ∧ x.2 ≠ .local) (hsub : ∀ y ∈ scope.names, y.2 = .free → outer.lookup y.1 = some .cell)
    (hb : ∀ (cl : List (Str × Addr)) (pm cv ctv : Value), Binds K (PySem.W.kla_fn "<lambda>" (X.env.qual ++ "<lambda>") params body scope cl pm cv ctv) [] []) (L : LamIs X H3 f ⟨params, body, scope⟩)
    (un : ∀ b o, cs.lookup b = some o → H3 b = none) (all : ∀ x c, (cellsFrom n outer []).lookup x = some c → ∃ o v, cs.lookup c = some o ∧ o.data = .cell v) (len : σ.length = N.length)
    (val : ∀ (i : Nat) (x : Str) (v : V), N[i]? = some x → σ[i]? = some (some v) → (x, NameKind.free) ∈ scope.names ∧ ∃ c o u, (cellsFrom n outer []).lookup x = some c ∧ cs.lookup c = some o ∧ o.data = .cell (some u) ∧ RelV v u)
    (run : RunAns P w K mg base N σ (X.env.qual ++ "<lambda>") scope n outer f H3 body) : LamAns P w K mg base (addC cs H3) f := by
  obtain ⟨c', ctv, h1, h2⟩ := L
  dsimp only at h1
  rw [hX] at h1
  exact lamAns_of outer hco hgen hk hfree hsub (hb _ _ _ _) h1 h2 un all len val (run c')
end L2

/-! lists of lists of anything that is equal to itself -/
namespace L2
open PySem PySem.Spec PyProof.Rows
section
variable {X : Cx}
theorem op_eqLV (hu : X.A.units + 1 < cLine) : OpR X (compareOp .Eq) (fun x y H Q => ∃ (p q : Addr) (ts us : List Addr) (rows : List (List V)), x = .ref p ∧ y = .ref q ∧ SqL X.K H p (ts.map V.ref) ∧ SqL X.K H q (us.map V.ref) ∧ ts.length = rows.length ∧ us.length = rows.length ∧ (∀ (i : Nat) (r : List V), rows[i]? = some r → r.all eqOk = true ∧ ∃ t u, ts[i]? = some t ∧ us[i]? = some u ∧ SqL X.K H t r ∧ SqL X.K H u r) ∧ Q (.bl true) H) := by
  intro pins s σ H x y v u Q I rx ry h
  obtain ⟨p, q, ts, us, rows, rfl, rfl, h1, h2, l1, l2, hr, hq⟩ := h
  cases rx
  cases ry
  obtain ⟨its, r1, pl1, _⟩ := I.list h1
  obtain ⟨jts, r2, pl2, _⟩ := I.list h2
  have k1 := r1.length
  have k2 := r2.length
  rw [List.length_map] at k1 k2
  refine SeqAt.eq_listAt (e := fun _ => true) pl1.isList pl2.isList (by simp only [List.size_toArray]; omega) (by omega) (fun j a b => ?_) ?_
  · have hj : j < rows.length := by simp only [List.size_toArray] at a; omega
    obtain ⟨eok, t, u, e1, e2, s1, s2⟩ := hr j _ (List.getElem?_eq_getElem hj)
    obtain ⟨x, e, ru⟩ := r1.at (j := j) (by simpa using a)
    obtain ⟨x', e', ru'⟩ := r2.at (j := j) (by simpa using b)
    rw [List.getElem?_map, e1] at e
    rw [List.getElem?_map, e2] at e'
    cases e
    cases e'
    show SeqAt.EqAt _ s its[j] jts[j] true
    have aux : ∀ {t : Addr} {v : Value}, RelV (.ref t) v → v = .ref t := fun {t v} h => by cases h; rfl
    have v1 : its[j] = .ref t := aux ru
    have v2 : jts[j] = .ref u := aux ru'
    rw [v1, v2]
    by_cases ht : t = u
    · rw [ht]; exact SeqAt.EqAt.same _
    refine SeqAt.EqAt.of_refs ht ?_
    obtain ⟨ks, q1, pk1, _⟩ := I.list s1
    obtain ⟨ms, q2, pk2, _⟩ := I.list s2
    have n1 := q1.length
    have n2 := q2.length
    have hR := SeqAt.RcAt.lists (A := X.A.in1) (e := fun _ => true) pk1.isList pk2.isList (by simp only [List.size_toArray]; omega) (show X.A.units + 1 < cLine from hu) (fun m c d => by
      obtain ⟨y, f, ry⟩ := q1.at (j := m) (by simpa using c)
      obtain ⟨y', f', ry'⟩ := q2.at (j := m) (by simpa using d)
      rw [f] at f'
      cases f'
      exact eq_sameV (List.all_eq_true.mp eok _ (List.mem_of_getElem? f)) ry ry')
    rw [show (List.range ks.toArray.size).all (fun _ => true) = true from by simp] at hR
    exact hR
  · rw [show (List.range its.toArray.size).all (fun _ => true) = true from by simp]
    exact ⟨.bl true, H, I, rfl, hq⟩
theorem pe_li1 {X : Cx} {a0 b0 p0} {q} : PE X (.List [.Constant (.int a0) b0 p0] q) (tLst (tCons (tC (.int a0)) tNil)) := pe_lst (pa_cons pe_int pa_nil (by rfl))
theorem pe_li2 {X : Cx} {a0 b0 p0 a1 b1 p1} {q} : PE X (.List [.Constant (.int a0) b0 p0, .Constant (.int a1) b1 p1] q) (tLst (tCons (tC (.int a0)) (tCons (tC (.int a1)) tNil))) := pe_lst (pa_cons pe_int (pa_cons pe_int pa_nil (by rfl)) (by rfl))
theorem pe_li3 {X : Cx} {a0 b0 p0 a1 b1 p1 a2 b2 p2} {q} : PE X (.List [.Constant (.int a0) b0 p0, .Constant (.int a1) b1 p1, .Constant (.int a2) b2 p2] q) (tLst (tCons (tC (.int a0)) (tCons (tC (.int a1)) (tCons (tC (.int a2)) tNil)))) := pe_lst (pa_cons pe_int (pa_cons pe_int (pa_cons pe_int pa_nil (by rfl)) (by rfl)) (by rfl))
theorem pe_li1q {X : Cx} {a0 b0 p0 q} : PEq X (.List [.Constant (.int a0) b0 p0] q) (tLst (tCons (tC (.int a0)) tNil)) := PEq.of pe_li1
theorem pe_li2q {X : Cx} {a0 b0 p0 a1 b1 p1 q} : PEq X (.List [.Constant (.int a0) b0 p0, .Constant (.int a1) b1 p1] q) (tLst (tCons (tC (.int a0)) (tCons (tC (.int a1)) tNil))) := PEq.of pe_li2
theorem pe_li3q {X : Cx} {a0 b0 p0 a1 b1 p1 a2 b2 p2 q} : PEq X (.List [.Constant (.int a0) b0 p0, .Constant (.int a1) b1 p1, .Constant (.int a2) b2 p2] q) (tLst (tCons (tC (.int a0)) (tCons (tC (.int a1)) (tCons (tC (.int a2)) tNil)))) := PEq.of pe_li3
theorem pa_consL {X : Cx} {xs es : List Expr} {t : TA} {te : TE} {q : Pos} (ha : PEq X (.List xs q) te) (hr : PA X es t) : PA X (.List xs q :: es) (tCons te t) := pa_cons ha.to hr (by rfl)
theorem pe_lstL6 {X : Cx} {x0 x1 x2 x3 x4 x5 : List Expr} {q0 q1 q2 q3 q4 q5 pos : Pos} {t0 t1 t2 t3 t4 t5 : TE} (h0 : PEq X (.List x0 q0) t0) (h1 : PEq X (.List x1 q1) t1) (h2 : PEq X (.List x2 q2) t2) (h3 : PEq X (.List x3 q3) t3) (h4 : PEq X (.List x4 q4) t4) (h5 : PEq X (.List x5 q5) t5) : PEq X (.List [.List x0 q0, .List x1 q1, .List x2 q2, .List x3 q3, .List x4 q4, .List x5 q5] pos) (tLst (tCons t0 (tCons t1 (tCons t2 (tCons t3 (tCons t4 (tCons t5 tNil))))))) := PEq.of (pe_lst (pa_consL h0 (pa_consL h1 (pa_consL h2 (pa_consL h3 (pa_consL h4 (pa_consL h5 pa_nil)))))))
end
theorem Fun.okLq {P : Program} {w : World} {K : PySem.W.Frag} {mg : Str → Option Value} {base : Heap} {x qual : Str} {st : Stmt} {f : Addr} {fd : FuncData} {N ps : List Str} {k : Nat} {sp : Sp} (F : Fun K x qual st f fd) (S : FnScope N ps (defScope st)) (len : ∀ vs H Q E, sp vs H Q E → vs.length = ps.length)
    (hbody : ∀ (A : Around) (outer : List Env) (s : Shared) (H : Hp) (vs : List V) (Q : VK) (E : XK), Room k (A.deeper (envOfC qual (defScope st) s.heap.objs.size f fd.code)) → sp vs H Q E →
      ∃ t, PSsq (cxOf (CX1 P w) P w K mg base N qual (defScope st) f fd.code A outer s H E).nox (defBody st) t ∧ t { nx := fun _ H' => Q .non H', rt := Q } (start N vs) H) : FnOk P w K mg base (CX1 P w) (k + 1) f fd ps sp := by
  refine F.okL S len fun A outer s H vs Q E hr hsp => ?_
  obtain ⟨t, h1, h2⟩ := hbody A outer s H vs Q E hr hsp
  exact ⟨t, h1.to, h2⟩
end L2

namespace Tf
open PySem L2
theorem mk9 {N P : List Str} {sc : Scope} (a : sc.kind = .function := by rfl) (b : sc.isCoroutine = false := by rfl) (c : sc.isGenerator = false := by rfl) (d : N.Nodup := by decide +kernel) (e : N.take P.length = P := by rfl) (f : ∀ x ∈ P, sc.names.lookup x = some .local ∨ sc.names.lookup x = some .cell := by decide +kernel) (g : ∀ y ∈ sc.names, y.2 ≠ .free := by decide +kernel) : FnScope N P sc := ⟨a, b, c, d, e, f, g⟩
theorem sz9 {n : Nat} (h : Nat.ble n 100000 = true := by rfl) : n ≤ sizeLine := sz1000' (Nat.le_of_ble_eq_true h)
def top (i : Nat) : Stmt := PySem.Challenge.pw_thawfront_k23_doors_of_years.main.body.getD i (.Pass ⟨0, 0, 0, 0⟩)
structure Txt (K : W.Frag) (mg : Str → Option Value) : Prop where
  n_ValueError : mg "ValueError" = none
  n_abs : mg "abs" = none
  n_bool : mg "bool" = none
  n_int : mg "int" = none
  n_isinstance : mg "isinstance" = none
  n_len : mg "len" = none
  n_list : mg "list" = none
  n_max : mg "max" = none
  n_min : mg "min" = none
  n_range : mg "range" = none
  n_reversed : mg "reversed" = none
  n_sum : mg "sum" = none
  n_zip : mg "zip" = none
  g_MOST_AMOUNT : ∃ t, mg "MOST_AMOUNT" = some (.int 1000000 t)
  g_MOST_SEASONS : ∃ t, mg "MOST_SEASONS" = some (.int 12 t)
  g_MOST_TIMES : ∃ t, mg "MOST_TIMES" = some (.int 1000000000000000000 t)
section
variable {P : Program} {w : World} {K : W.Frag} {mg : Str → Option Value} {base : Heap} {f G : Addr} {fd : FuncData}
abbrev s_check_bed : Stmt := top 18
abbrev N_check_bed : List Str := ["count", "bed"]
abbrev P_check_bed : List Str := ["count", "bed"]
theorem sc_check_bed : FnScope N_check_bed P_check_bed (defScope s_check_bed) := mk9
/-! check_bed -/
def sp_check_bedX (mg : Str → Option Value) : Sp := fun vs H Q E => ∃ (n : Nat) (m : Int), vs = [.int n, .int m] ∧ n ≤ 1000 ∧ (1 ≤ m ∧ m ≤ (n : Int) → Q .non H) ∧ (¬ (1 ≤ m ∧ m ≤ (n : Int)) → ∀ (C x : Addr), mg "UnknownBed" = some (.ref C) → H x = none → E (.ref C) (some x) H)
def sp_check_bed : Sp := fun vs H Q _ => ∃ (n m : Int), vs = [.int n, .int m] ∧ 1 ≤ m ∧ m ≤ n ∧ Q .non H
theorem ok_check_bed (F : Fun K "check_bed" "check_bed" s_check_bed f fd) (T : Txt K mg) : FnOk P w K mg base CX0 1 f fd P_check_bed sp_check_bed := by
  refine F.ok sc_check_bed (fun vs H Q E h => ?_) (fun cdv A outer s H vs Q E hr h => ?_)
  · obtain ⟨n, m, rfl, _⟩ := h
    rfl
  · obtain ⟨n, m, rfl, h0, h1, q⟩ := h
    refine ⟨_, (pss_one (ps_if (PW.pt (pw_or (pt_cmpR op_lt (pv 1) pe_int (nomark _)) (pw_or1 (pt_cmpR op_gt (pv 1) (pv 0) (nomark _)))))
        (pss_one ps_never)
        pss_nil)), ?_⟩
    refine ⟨_, rfl, _, _, rfl, rfl, _, rfl, ?_⟩
    refine ite2 (fun h => absurd (of_decide_eq_true h) (by omega)) (fun _ => ?_)
    refine ⟨_, rfl, _, rfl, _, _, rfl, rfl, _, rfl, ?_⟩
    refine ite2 (fun h => absurd (of_decide_eq_true h) (by omega)) (fun _ => ?_)
    exact q
theorem ok_check_bedX (F : Fun K "check_bed" "check_bed" s_check_bed f fd) (T : Txt K mg) {C0 : Addr} (XU : Exc K mg "UnknownBed" C0) : FnOk P w K mg base (CX1 P w) 1 f fd P_check_bed (sp_check_bedX mg) := by
  refine F.okX sc_check_bed (fun vs H Q E h => ?_) (fun cdv A outer s H vs Q E hr h => ?_)
  · obtain ⟨n, m, rfl, _⟩ := h
    rfl
  · obtain ⟨n, m, rfl, hn, q1, q2⟩ := h
    refine ⟨_, (pss_one (ps_if (PW.pt (pw_or (pt_cmpR op_lt (pv 1) pe_int (nomark _)) (pw_or1 (pt_cmpR op_gt (pv 1) (pv 0) (nomark _)))))
        (pss_one (ps_raise (C := C0) (E := E) rfl XU throws_fn (pa_cons (pe_fstr (pj_str (pj_int (pv 0) pj_nil))) pa_nil)))
        pss_nil)), ?_⟩
    refine ⟨_, rfl, _, _, rfl, rfl, _, rfl, ?_⟩
    have lg : ((n : Int)).natAbs.log2 < 1920 := by
      have h : ((n : Int)).natAbs = n := Int.natAbs_natCast n
      rw [h]
      by_cases h0 : n = 0
      · rw [h0]; decide
      · exact Nat.lt_of_lt_of_le (Nat.log2_lt h0 |>.mpr (show n < 2 ^ 10 by omega)) (by decide)
    refine ite2 (fun h => ?_) (fun h => ?_)
    · have h := of_decide_eq_true h
      exact iteT ⟨_, rfl, _, rfl, lg, fun z => ⟨sz9, fun e he => q2 (by omega) C0 e XU.g he⟩⟩
    · have h : ¬ (m < 1) := fun c => h (decide_eq_true c)
      refine ⟨_, rfl, _, rfl, _, _, rfl, rfl, _, rfl, ?_⟩
      refine ite2 (fun h2 => ?_) (fun h2 => ?_)
      · have h2 := of_decide_eq_true h2
        exact ⟨_, rfl, _, rfl, lg, fun z => ⟨sz9, fun e he => q2 (by omega) C0 e XU.g he⟩⟩
      · have h2 : ¬ ((n : Int) < m) := fun c => h2 (decide_eq_true c)
        exact q1 (by omega)
abbrev s_check_amount : Stmt := top 19
abbrev N_check_amount : List Str := ["amount"]
abbrev P_check_amount : List Str := ["amount"]
theorem sc_check_amount : FnScope N_check_amount P_check_amount (defScope s_check_amount) := mk9
/-! check_amount -/
def sp_check_amountX (mg : Str → Option Value) : Sp := fun vs H Q E => ∃ (m : Int), vs = [.int m] ∧ (GoodAm m → Q .non H) ∧ (¬ GoodAm m → Thr mg "BadAmount" E H)
def sp_check_amount : Sp := fun vs H Q _ => ∃ (m : Int), vs = [.int m] ∧ 0 ≤ m ∧ m ≤ 1000000 ∧ Q .non H
theorem ok_check_amount (F : Fun K "check_amount" "check_amount" s_check_amount f fd) (T : Txt K mg) : FnOk P w K mg base CX0 1 f fd P_check_amount sp_check_amount := by
  refine F.ok sc_check_amount (fun vs H Q E h => ?_) (fun cdv A outer s H vs Q E hr h => ?_)
  · obtain ⟨m, rfl, _⟩ := h
    rfl
  · obtain ⟨m, rfl, h0, h1, q⟩ := h
    refine ⟨_, (pss_one (ps_if (PW.pt (pw_or (pt_cmpR op_lt (pv 0) pe_int (nomark _)) (pw_or1 (pt_cmpR op_gt (pv 0) (pe_gint T.g_MOST_AMOUNT) (nomark _)))))
        (pss_one ps_never)
        pss_nil)), ?_⟩
    refine ⟨_, rfl, _, _, rfl, rfl, _, rfl, ?_⟩
    refine ite2 (fun h => absurd (of_decide_eq_true h) (by omega)) (fun _ => ?_)
    refine ⟨_, rfl, _, _, rfl, rfl, _, rfl, ?_⟩
    refine ite2 (fun h => absurd (of_decide_eq_true h) (by omega)) (fun _ => ?_)
    exact q
theorem ok_check_amountX (F : Fun K "check_amount" "check_amount" s_check_amount f fd) (T : Txt K mg) {C0 : Addr} (XU : Exc K mg "BadAmount" C0) : FnOk P w K mg base (CX1 P w) 1 f fd P_check_amount (sp_check_amountX mg) := by
  refine F.okX sc_check_amount (fun vs H Q E h => ?_) (fun cdv A outer s H vs Q E hr h => ?_)
  · obtain ⟨m, rfl, _⟩ := h
    rfl
  · obtain ⟨m, rfl, q1, q2⟩ := h
    refine ⟨_, (pss_one (ps_if (PW.pt (pw_or (pt_cmpR op_lt (pv 0) pe_int (nomark _)) (pw_or1 (pt_cmpR op_gt (pv 0) (pe_gint T.g_MOST_AMOUNT) (nomark _)))))
        (pss_one (ps_raise (C := C0) (E := E) rfl XU throws_fn (pa_cons (pe_fstr (pj_str (pj_int (pe_gint T.g_MOST_AMOUNT) pj_nil))) pa_nil)))
        pss_nil)), ?_⟩
    refine ⟨_, rfl, _, _, rfl, rfl, _, rfl, ?_⟩
    refine ite2 (fun h => ?_) (fun h => ?_)
    · have h := of_decide_eq_true h
      exact iteT ⟨_, rfl, by decide, fun z => ⟨sz9, fun e he => q2 (by omega) C0 e _ XU.g (Same.refl _) he⟩⟩
    · have h : ¬ (m < 0) := fun c => h (decide_eq_true c)
      refine ⟨_, rfl, _, _, rfl, rfl, _, rfl, ?_⟩
      refine ite2 (fun h2 => ?_) (fun h2 => ?_)
      · have h2 := of_decide_eq_true h2
        exact ⟨_, rfl, by decide, fun z => ⟨sz9, fun e he => q2 (by omega) C0 e _ XU.g (Same.refl _) he⟩⟩
      · have h2 : ¬ ((1000000 : Int) < m) := fun c => h2 (decide_eq_true c)
        exact q1 (by omega)
abbrev s_check_year : Stmt := top 20
abbrev N_check_year : List Str := ["year", "season"]
abbrev P_check_year : List Str := ["year"]
theorem sc_check_year : FnScope N_check_year P_check_year (defScope s_check_year) := mk9
/-! check_year -/
def sp_check_yearX (K : W.Frag) (mg : Str → Option Value) : Sp := fun vs H Q E => ∃ (p : Addr) (ts : List Addr) (ss : List (Bool × Int)), vs = [.ref p] ∧ SqL K H p (ts.map V.ref) ∧ SeasAt H ts ss ∧ (¬ (1 ≤ ss.length ∧ ss.length ≤ 12) → Thr mg "BadYear" E H) ∧ (1 ≤ ss.length ∧ ss.length ≤ 12 → ((∀ z ∈ ss, GoodAm z.2) → Q .non H) ∧ (¬ (∀ z ∈ ss, GoodAm z.2) → Thr mg "BadAmount" E H))
def sp_check_year (K : W.Frag) : Sp := fun vs H Q _ => ∃ (p : Addr) (ts : List Addr) (ss : List (Bool × Int)), vs = [.ref p] ∧ SqL K H p (ts.map V.ref) ∧ SeasAt H ts ss ∧ (∀ z ∈ ss, 0 ≤ z.2 ∧ z.2 ≤ 1000000) ∧ 1 ≤ ss.length ∧ ss.length ≤ 12 ∧ Q .non H
theorem ok_check_year (F : Fun K "check_year" "check_year" s_check_year f fd) (T : Txt K mg) (o_check_amount : Ok P w K mg base "check_amount" P_check_amount 1 sp_check_amount) : FnOk P w K mg base CX0 2 f fd P_check_year (sp_check_year K) := by
  refine F.ok sc_check_year (fun vs H Q E h => ?_) (fun cdv A outer s H vs Q E hr h => ?_)
  · obtain ⟨p, ts, ss, rfl, _⟩ := h
    rfl
  · obtain ⟨p, ts, ss, rfl, hP, hS, hz, h1, h2, q⟩ := h
    have hl : ((ts.map V.ref).length : Int) = ss.length := by rw [List.length_map, hS.len]
    refine ⟨_, (pss_cons (ps_if (PW.pt (pw_or (pt_cmpR op_lt (pe_len T.n_len (pv 0)) pe_int (nomark _)) (pw_or1 (pt_cmpR op_gt (pe_len T.n_len (pv 0)) (pe_gint T.g_MOST_SEASONS) (nomark _)))))
        (pss_one ps_never)
        pss_nil)
      (pss_one (ps_for PassesOwn.never rfl (pi_list (pv 0)) (pg_name (i := 1) sc_check_year.nd rfl (Or.inl rfl))
        (pss_one (ps_expr (pe_callO o_check_amount hr (pa_cons (pe_ix ix_tup (pv 1) pe_int (fun _ _ => rfl)) pa_nil))))))), ?_⟩
    refine ⟨_, rfl, p, _, rfl, .inl hP, _, _, rfl, rfl, _, rfl, ?_⟩
    refine ite2 (fun h => absurd (of_decide_eq_true h) (by omega)) (fun _ => ?_)
    refine ⟨_, rfl, p, _, rfl, .inl hP, _, _, rfl, rfl, _, rfl, ?_⟩
    refine ite2 (fun h => absurd (of_decide_eq_true h) (by omega)) (fun _ => ?_)
    refine ⟨_, rfl, p, rfl, ⟨_, hP⟩, ?_⟩
    refine for_list (xs := ts.map V.ref) (fun i σ H2 => H2 = H ∧ ∃ (v : Option V), σ = [some (.ref p), v]) ⟨rfl, none, rfl⟩ (fun i σ H2 _ z => z.1 ▸ hP) ?_ ?_
    · rintro i x σ H2 hx ⟨rfl, v, rfl⟩
      obtain ⟨t, z, rfl, hzi, ht⟩ := hS.item hx
      have hzz := hz z (List.mem_of_getElem? hzi)
      exact ⟨_, rfl, t, _, _, _, rfl, rfl, SqT.of ht, rfl, z.2, rfl, hzz.1, hzz.2, rfl, _, rfl⟩
    · rintro σ H2 ⟨rfl, v, rfl⟩
      exact q
theorem ok_check_yearX (F : Fun K "check_year" "check_year" s_check_year f fd) (T : Txt K mg) {C0 : Addr} (XU : Exc K mg "BadYear" C0) (o_check_amountX : OkX P w K mg base "check_amount" P_check_amount 1 (sp_check_amountX mg)) : FnOk P w K mg base (CX1 P w) 2 f fd P_check_year (sp_check_yearX K mg) := by
  refine F.okX sc_check_year (fun vs H Q E h => ?_) (fun cdv A outer s H vs Q E hr h => ?_)
  · obtain ⟨p, ts, ss, rfl, _⟩ := h
    rfl
  · obtain ⟨p, ts, ss, rfl, hP, hS, q1, q2⟩ := h
    have hl : ((ts.map V.ref).length : Int) = ss.length := by rw [List.length_map, hS.len]
    refine ⟨_, (pss_cons (ps_if (PW.pt (pw_or (pt_cmpR op_lt (pe_len T.n_len (pv 0)) pe_int (nomark _)) (pw_or1 (pt_cmpR op_gt (pe_len T.n_len (pv 0)) (pe_gint T.g_MOST_SEASONS) (nomark _)))))
        (pss_one (ps_raise (C := C0) (E := E) rfl XU throws_fn (pa_cons (pe_fstr (pj_str (pj_int (pe_gint T.g_MOST_SEASONS) (pj_str pj_nil)))) pa_nil)))
        pss_nil)
      (pss_one (ps_for PassesOwn.leaving rfl (pi_list (pv 0)) (pg_name (i := 1) sc_check_year.nd rfl (Or.inl rfl))
        (pss_one (ps_expr (pe_callX o_check_amountX hr (pass_fn (E := E)) (pa_cons (pe_ix ix_tup (pv 1) pe_int (fun _ _ => rfl)) pa_nil))))))), ?_⟩
    refine ⟨_, rfl, p, _, rfl, .inl hP, _, _, rfl, rfl, _, rfl, ?_⟩
    refine ite2 (fun h => ?_) (fun h => ?_)
    · have h := of_decide_eq_true h
      exact iteT ⟨_, rfl, by decide, fun z => ⟨sz9, fun e he => q1 (by omega) C0 e _ XU.g (Same.refl _) he⟩⟩
    have h : ¬ (((ts.map V.ref).length : Int) < 1) := fun c => h (decide_eq_true c)
    refine ⟨_, rfl, p, _, rfl, .inl hP, _, _, rfl, rfl, _, rfl, ?_⟩
    refine ite2 (fun h2 => ?_) (fun h2 => ?_)
    · have h2 := of_decide_eq_true h2
      exact ⟨_, rfl, by decide, fun z => ⟨sz9, fun e he => q1 (by omega) C0 e _ XU.g (Same.refl _) he⟩⟩
    have h2 : ¬ ((12 : Int) < ((ts.map V.ref).length : Int)) := fun c => h2 (decide_eq_true c)
    obtain ⟨q2, q3⟩ := q2 (by omega)
    refine ⟨_, rfl, p, rfl, ⟨_, hP⟩, ?_⟩
    refine for_list (xs := ts.map V.ref) (fun i σ H2 => H2 = H ∧ (∀ z ∈ ss.take i, GoodAm z.2) ∧ ∃ (v : Option V), σ = [some (.ref p), v]) ⟨rfl, by simp, none, rfl⟩ (fun i σ H2 _ z => z.1 ▸ hP) ?_ ?_
    · rintro i x σ H2 hx ⟨rfl, hg, v, rfl⟩
      obtain ⟨t, z, rfl, hzi, ht⟩ := hS.item hx
      refine ⟨_, rfl, t, _, _, _, rfl, rfl, SqT.of ht, rfl, z.2, rfl, fun gz => ⟨rfl, fun y hy => ?_, _, rfl⟩, fun bz => q3 fun all => bz (all z (List.mem_of_getElem? hzi))⟩
      rw [take_snoc hzi] at hy
      rcases List.mem_append.mp hy with h | h
      · exact hg y h
      · obtain rfl : y = z := by simpa using h
        exact gz
    · rintro σ H2 ⟨rfl, hg, v, rfl⟩
      rw [List.take_of_length_le (by rw [List.length_map, hS.len]; exact Nat.le_refl _)] at hg
      exact q2 hg
abbrev s_check_times : Stmt := top 21
abbrev N_check_times : List Str := ["times"]
abbrev P_check_times : List Str := ["times"]
theorem sc_check_times : FnScope N_check_times P_check_times (defScope s_check_times) := mk9
/-! check_times -/
def sp_check_timesX (mg : Str → Option Value) : Sp := fun vs H Q E => ∃ (m : Int), vs = [.int m] ∧ (1 ≤ m ∧ m ≤ 1000000000000000000 → Q .non H) ∧ (¬ (1 ≤ m ∧ m ≤ 1000000000000000000) → Thr mg "BadTimes" E H)
def sp_check_times : Sp := fun vs H Q _ => ∃ (m : Int), vs = [.int m] ∧ 1 ≤ m ∧ m ≤ 1000000000000000000 ∧ Q .non H
theorem ok_check_times (F : Fun K "check_times" "check_times" s_check_times f fd) (T : Txt K mg) : FnOk P w K mg base CX0 1 f fd P_check_times sp_check_times := by
  refine F.ok sc_check_times (fun vs H Q E h => ?_) (fun cdv A outer s H vs Q E hr h => ?_)
  · obtain ⟨m, rfl, _⟩ := h
    rfl
  · obtain ⟨m, rfl, h0, h1, q⟩ := h
    refine ⟨_, (pss_one (ps_if (PW.pt (pw_or (pt_cmpR op_lt (pv 0) pe_int (nomark _)) (pw_or1 (pt_cmpR op_gt (pv 0) (pe_gint T.g_MOST_TIMES) (nomark _)))))
        (pss_one ps_never)
        pss_nil)), ?_⟩
    refine ⟨_, rfl, _, _, rfl, rfl, _, rfl, ?_⟩
    refine ite2 (fun h => absurd (of_decide_eq_true h) (by omega)) (fun _ => ?_)
    refine ⟨_, rfl, _, _, rfl, rfl, _, rfl, ?_⟩
    refine ite2 (fun h => absurd (of_decide_eq_true h) (by omega)) (fun _ => ?_)
    exact q
theorem ok_check_timesX (F : Fun K "check_times" "check_times" s_check_times f fd) (T : Txt K mg) {C0 : Addr} (XU : Exc K mg "BadTimes" C0) : FnOk P w K mg base (CX1 P w) 1 f fd P_check_times (sp_check_timesX mg) := by
  refine F.okX sc_check_times (fun vs H Q E h => ?_) (fun cdv A outer s H vs Q E hr h => ?_)
  · obtain ⟨m, rfl, _⟩ := h
    rfl
  · obtain ⟨m, rfl, q1, q2⟩ := h
    refine ⟨_, (pss_one (ps_if (PW.pt (pw_or (pt_cmpR op_lt (pv 0) pe_int (nomark _)) (pw_or1 (pt_cmpR op_gt (pv 0) (pe_gint T.g_MOST_TIMES) (nomark _)))))
        (pss_one (ps_raise (C := C0) (E := E) rfl XU throws_fn (pa_cons (pe_fstr (pj_str (pj_int (pe_gint T.g_MOST_TIMES) pj_nil))) pa_nil)))
        pss_nil)), ?_⟩
    refine ⟨_, rfl, _, _, rfl, rfl, _, rfl, ?_⟩
    refine ite2 (fun h => ?_) (fun h => ?_)
    · have h := of_decide_eq_true h
      exact iteT ⟨_, rfl, by decide, fun z => ⟨sz9, fun e he => q2 (by omega) C0 e _ XU.g (Same.refl _) he⟩⟩
    · have h : ¬ (m < 1) := fun c => h (decide_eq_true c)
      refine ⟨_, rfl, _, _, rfl, rfl, _, rfl, ?_⟩
      refine ite2 (fun h2 => ?_) (fun h2 => ?_)
      · have h2 := of_decide_eq_true h2
        exact ⟨_, rfl, by decide, fun z => ⟨sz9, fun e he => q2 (by omega) C0 e _ XU.g (Same.refl _) he⟩⟩
      · have h2 : ¬ ((1000000000000000000 : Int) < m) := fun c => h2 (decide_eq_true c)
        exact q1 (by omega)
abbrev s_check_season : Stmt := top 22
abbrev N_check_season : List Str := ["years", "seasons", "at_year", "season"]
abbrev P_check_season : List Str := ["years", "seasons", "at_year", "season"]
theorem sc_check_season : FnScope N_check_season P_check_season (defScope s_check_season) := mk9
/-! check_season -/
def sp_check_seasonX (mg : Str → Option Value) : Sp := fun vs H Q E => ∃ (y s : Nat) (m n : Int), vs = [.int (y : Int), .int (s : Int), .int m, .int n] ∧ y ≤ 1000000000000000000 ∧ s ≤ 1000 ∧ (1 ≤ m ∧ m ≤ (y : Int) ∧ 1 ≤ n ∧ n ≤ (s : Int) → Q .non H) ∧ (¬ (1 ≤ m ∧ m ≤ (y : Int) ∧ 1 ≤ n ∧ n ≤ (s : Int)) → ∀ (C x : Addr), mg "UnknownSeason" = some (.ref C) → H x = none → E (.ref C) (some x) H)
def sp_check_season : Sp := fun vs H Q _ => ∃ (y s m n : Int), vs = [.int y, .int s, .int m, .int n] ∧ 1 ≤ m ∧ m ≤ y ∧ 1 ≤ n ∧ n ≤ s ∧ Q .non H
theorem ok_check_season (F : Fun K "check_season" "check_season" s_check_season f fd) (T : Txt K mg) : FnOk P w K mg base CX0 1 f fd P_check_season sp_check_season := by
  refine F.ok sc_check_season (fun vs H Q E h => ?_) (fun cdv A outer s H vs Q E hr h => ?_)
  · obtain ⟨y, s, m, n, rfl, _⟩ := h
    rfl
  · obtain ⟨y, s, m, n, rfl, h0, h1, h2, h3, q⟩ := h
    refine ⟨_, (pss_cons (ps_if (PW.pt (pw_or (pt_cmpR op_lt (pv 2) pe_int (nomark _)) (pw_or1 (pt_cmpR op_gt (pv 2) (pv 0) (nomark _)))))
        (pss_one ps_never)
        pss_nil)
      (pss_one (ps_if (PW.pt (pw_or (pt_cmpR op_lt (pv 3) pe_int (nomark _)) (pw_or1 (pt_cmpR op_gt (pv 3) (pv 1) (nomark _)))))
        (pss_one ps_never)
        pss_nil))), ?_⟩
    refine ⟨_, rfl, _, _, rfl, rfl, _, rfl, ?_⟩
    refine ite2 (fun h => absurd (of_decide_eq_true h) (by omega)) (fun _ => ?_)
    refine ⟨_, rfl, _, rfl, _, _, rfl, rfl, _, rfl, ?_⟩
    refine ite2 (fun h => absurd (of_decide_eq_true h) (by omega)) (fun _ => ?_)
    refine ⟨_, rfl, _, _, rfl, rfl, _, rfl, ?_⟩
    refine ite2 (fun h => absurd (of_decide_eq_true h) (by omega)) (fun _ => ?_)
    refine ⟨_, rfl, _, rfl, _, _, rfl, rfl, _, rfl, ?_⟩
    refine ite2 (fun h => absurd (of_decide_eq_true h) (by omega)) (fun _ => ?_)
    exact q
theorem log_many {n : Nat} (hn : n ≤ 1000000000000000000) : ((n : Int)).natAbs.log2 < 1920 := by
  rw [Int.natAbs_natCast n]
  by_cases h0 : n = 0
  · rw [h0]; decide
  · exact Nat.lt_of_lt_of_le (Nat.log2_lt h0 |>.mpr (show n < 2 ^ 60 by omega)) (by decide)
theorem ok_check_seasonX (F : Fun K "check_season" "check_season" s_check_season f fd) (T : Txt K mg) {C0 : Addr} (XU : Exc K mg "UnknownSeason" C0) : FnOk P w K mg base (CX1 P w) 1 f fd P_check_season (sp_check_seasonX mg) := by
  refine F.okX sc_check_season (fun vs H Q E h => ?_) (fun cdv A outer s H vs Q E hr h => ?_)
  · obtain ⟨y, s, m, n, rfl, _⟩ := h
    rfl
  · obtain ⟨y, s, m, n, rfl, hy, hs, q1, q2⟩ := h
    refine ⟨_, (pss_cons (ps_if (PW.pt (pw_or (pt_cmpR op_lt (pv 2) pe_int (nomark _)) (pw_or1 (pt_cmpR op_gt (pv 2) (pv 0) (nomark _)))))
        (pss_one (ps_raise (C := C0) (E := E) rfl XU throws_fn (pa_cons (pe_fstr (pj_str (pj_int (pv 0) pj_nil))) pa_nil)))
        pss_nil)
      (pss_one (ps_if (PW.pt (pw_or (pt_cmpR op_lt (pv 3) pe_int (nomark _)) (pw_or1 (pt_cmpR op_gt (pv 3) (pv 1) (nomark _)))))
        (pss_one (ps_raise (C := C0) (E := E) rfl XU throws_fn (pa_cons (pe_fstr (pj_str (pj_int (pv 1) pj_nil))) pa_nil)))
        pss_nil))), ?_⟩
    have ly : ((y : Int)).natAbs.log2 < 1920 := log_many hy
    have ls : ((s : Int)).natAbs.log2 < 1920 := log_many (by omega)
    refine ⟨_, rfl, _, _, rfl, rfl, _, rfl, ?_⟩
    refine ite2 (fun h => ?_) (fun h => ?_)
    · have h := of_decide_eq_true h
      refine iteT ?_
      exact ⟨_, rfl, _, rfl, ly, fun z => ⟨sz9, fun e he => q2 (by omega) C0 e XU.g he⟩⟩
    have h : ¬ (m < 1) := fun c => h (decide_eq_true c)
    refine ⟨_, rfl, _, rfl, _, _, rfl, rfl, _, rfl, ?_⟩
    refine ite2 (fun h2 => ?_) (fun h2 => ?_)
    · have h2 := of_decide_eq_true h2
      exact ⟨_, rfl, _, rfl, ly, fun z => ⟨sz9, fun e he => q2 (by omega) C0 e XU.g he⟩⟩
    have h2 : ¬ ((y : Int) < m) := fun c => h2 (decide_eq_true c)
    refine ⟨_, rfl, _, _, rfl, rfl, _, rfl, ?_⟩
    refine ite2 (fun h3 => ?_) (fun h3 => ?_)
    · have h3 := of_decide_eq_true h3
      refine iteT ?_
      exact ⟨_, rfl, _, rfl, ls, fun z => ⟨sz9, fun e he => q2 (by omega) C0 e XU.g he⟩⟩
    have h3 : ¬ (n < 1) := fun c => h3 (decide_eq_true c)
    refine ⟨_, rfl, _, rfl, _, _, rfl, rfl, _, rfl, ?_⟩
    refine ite2 (fun h4 => ?_) (fun h4 => ?_)
    · have h4 := of_decide_eq_true h4
      exact ⟨_, rfl, _, rfl, ls, fun z => ⟨sz9, fun e he => q2 (by omega) C0 e XU.g he⟩⟩
    have h4 : ¬ ((s : Int) < n) := fun c => h4 (decide_eq_true c)
    exact q1 (by omega)
abbrev s_shared_from_top : Stmt := top 24
abbrev N_shared_from_top : List Str := ["limits", "amount", "shares", "left", "place"]
abbrev P_shared_from_top : List Str := ["limits", "amount"]
theorem sc_shared_from_top : FnScope N_shared_from_top P_shared_from_top (defScope s_shared_from_top) := mk9
/-! shared_from_top -/
def sp_shared_from_top (K : W.Frag) : Sp := fun vs H Q _ => ∃ (a : Addr) (rs : List Int) (m : Int), vs = [.ref a, .int m] ∧ SqL K H a (rs.map V.int) ∧ rs.length ≤ 1000 ∧ 0 ≤ m ∧ (∀ i, i < rs.length → 0 ≤ rs.getD i 0) ∧
  ∀ (H' : Hp) (t p : Addr), Same H H' → H t = none → H p = none → H' t = some (.tup [.ref p, .int (leftAt rs m 0)]) → H' p = some (.lst ((shares rs m).map V.int)) → Q (.ref t) H'
theorem ok_shared_from_top (F : Fun K "shared_from_top" "shared_from_top" s_shared_from_top f fd) (T : Txt K mg) : FnOk P w K mg base CX0 1 f fd P_shared_from_top (sp_shared_from_top K) := by
  refine F.ok sc_shared_from_top (fun vs H Q E h => ?_) (fun cdv A outer s H vs Q E hr h => ?_)
  · obtain ⟨a, rs, m, rfl, _⟩ := h
    rfl
  · obtain ⟨a, rs, m, rfl, hA, hn, hm, hx, q⟩ := h
    refine ⟨_, (pss_cons (ps_set (i := 2) sc_shared_from_top.nd rfl (Or.inl rfl) (pe_list T.n_list (pv 0)))
      (pss_cons (ps_set (i := 3) sc_shared_from_top.nd rfl (Or.inl rfl) (pv 1))
      (pss_cons (ps_for PassesOwn.never rfl (pi_rangeD (by rfl) T.n_range (pa_cons (pe_op op_sub (pe_len T.n_len (pv 0)) pe_int) (pa_cons (pe_un un_neg pe_int) (pa_cons (pe_un un_neg pe_int) pa_nil)))) (pg_name (i := 4) sc_shared_from_top.nd rfl (Or.inl rfl))
        (pss_cons (ps_asg (pe_min (by rfl) T.n_min (pv 3) (pe_ix ix_list (pv 0) (pv 4) (fun _ _ => rfl))) (pg_sub (pv 2) (pv 4) set_list))
        (pss_one (ps_set (i := 3) sc_shared_from_top.nd rfl (Or.inl rfl) (pe_op op_sub (pv 3) (pe_ix ix_list (pv 2) (pv 4) (fun _ _ => rfl)))))))
      (pss_one (ps_ret (pe_tup (pa_cons (pv 2) (pa_cons (pv 3) pa_nil)))))))), ?_⟩
    refine ⟨_, rfl, a, _, rfl, .inl hA, fun p hp => ?_⟩
    refine ⟨_, rfl, _, rfl, a, _, rfl, .inl (hA.upd hp), _, _, rfl, rfl, _, rfl, _, rfl, _, _, rfl, by rw [List.length_map]; omega, ?_⟩
    refine for_rangeD (fun i σ H2 => (∃ v, σ = [some (.ref a), some (.int m), some (.ref p), some (.int (leftAt rs m (rs.length - i))), v]) ∧ H2 = upd H p (.lst (((List.range rs.length).map fun j => if j < rs.length - i then rs.getD j 0 else shareAt rs m j).map V.int))) ?_ ?_ ?_
    · refine ⟨⟨none, by rw [Nat.sub_zero, leftAt_top (Nat.le_refl _) hm]; rfl⟩, ?_⟩
      rw [Nat.sub_zero, range_congr (g := fun j => rs.getD j 0) fun i hi => if_pos hi, ← list_range rs]
    · rintro i σ H2 hi ⟨⟨v, rfl⟩, rfl⟩
      have hi' : i < rs.length := by rw [List.length_map] at hi; omega
      have e0 : ((rs.map V.int).length : Int) - 1 - (i : Int) = ((rs.length - i - 1 : Nat) : Int) := by rw [List.length_map]; omega
      rw [e0]
      generalize hk : rs.length - i - 1 = k at *
      have hk1 : rs.length - i = k + 1 := by omega
      have hkn : k < rs.length := by omega
      rw [hk1]
      refine ⟨_, rfl, _, rfl, _, rfl, a, _, _, _, rfl, rfl, hA.upd hp, atI_int hkn, _, _, rfl, ?_⟩
      have es : (if rs.getD k 0 < leftAt rs m (k + 1) then rs.getD k 0 else leftAt rs m (k + 1)) = shareAt rs m k := by unfold shareAt; split <;> omega
      rw [es]
      refine ⟨_, rfl, _, rfl, p, _, _, k, rfl, rfl, upd_same, ?_, ?_⟩
      · unfold ixN
        rw [if_pos (by omega), if_pos (by simp; omega), Int.toNat_natCast]
      rw [setI, set_range, upd_upd]
      have ef : (List.range rs.length).map (fun j => if j = k then shareAt rs m k else if j < k + 1 then rs.getD j 0 else shareAt rs m j) = (List.range rs.length).map (fun j => if j < k then rs.getD j 0 else shareAt rs m j) := by
        refine range_congr fun j _ => ?_
        by_cases h : j = k
        · rw [if_pos h, if_neg (by omega), h]
        · by_cases h' : j < k
          · rw [if_neg h, if_pos (by omega), if_pos h']
          · rw [if_neg h, if_neg (by omega), if_neg h']
      rw [ef]
      refine ⟨_, rfl, _, rfl, _, rfl, p, _, _, _, rfl, rfl, SqL.of upd_same, atI_int (by simpa using hkn), _, _, rfl, rfl, ⟨some (.int ((k : Nat) : Int)), ?_⟩, ?_⟩
      · rw [getD_rangeMap hkn, if_neg (by omega), leftAt_step hkn (hx k hkn)]
        rfl
      · rfl
    · rintro σ H2 ⟨⟨v, rfl⟩, e2⟩
      have en : (((rs.map V.int).length : Int) - 1 - -1).toNat = rs.length := by rw [List.length_map]; omega
      rw [en, Nat.sub_self] at e2 ⊢
      have ef : (List.range rs.length).map (fun j => if j < 0 then rs.getD j 0 else shareAt rs m j) = shares rs m := range_congr fun j _ => if_neg (by omega)
      rw [ef] at e2
      refine ⟨_, rfl, _, rfl, sz9, fun t ft => ?_⟩
      have s2 : Same H H2 := by rw [e2]; exact Same.upd hp
      have h2 : H2 p = some (.lst ((shares rs m).map V.int)) := by rw [e2]; exact upd_same
      exact q _ t p (s2.trans (Same.upd ft)) (s2.free ft) hp upd_same (by rw [upd_ne (ne_of_none h2 ft)]; exact h2)
abbrev s_warmed : Stmt := top 25
abbrev N_warmed : List Str := ["needs", "heats", "amount", "rooms", "shared"]
abbrev P_warmed : List Str := ["needs", "heats", "amount"]
theorem sc_warmed : FnScope N_warmed P_warmed (defScope s_warmed) := mk9
/-! warmed -/
def sp_warmed (K : W.Frag) : Sp := fun vs H Q _ => ∃ (a b : Addr) (needs heats : List Int) (m : Int), vs = [.ref a, .ref b, .int m] ∧ SqL K H a (needs.map V.int) ∧ SqL K H b (heats.map V.int) ∧ heats.length = needs.length ∧ needs.length ≤ 1000 ∧
  (∀ i, i < needs.length → heats.getD i 0 ≤ needs.getD i 0) ∧ 0 ≤ m ∧ m ≤ 1000000 ∧
  ∀ (H' : Hp) (t p : Addr), Same H H' → H t = none → H p = none → H' t = some (.tup [.ref p, .int (leftAt (rooms needs heats) m 0)]) → H' p = some (.lst ((warmL needs heats m).map V.int)) → Q (.ref t) H'
theorem ok_warmed (F : Fun K "warmed" "warmed" s_warmed f fd) (T : Txt K mg) (o_check_amount : Ok P w K mg base "check_amount" P_check_amount 1 sp_check_amount) (o_shared_from_top : Ok P w K mg base "shared_from_top" P_shared_from_top 1 (sp_shared_from_top K)) : FnOk P w K mg base CX0 2 f fd P_warmed (sp_warmed K) := by
  refine F.ok sc_warmed (fun vs H Q E h => ?_) (fun cdv A outer s H vs Q E hr h => ?_)
  · obtain ⟨a, b, needs, heats, m, rfl, _⟩ := h
    rfl
  · obtain ⟨a, b, needs, heats, m, rfl, hA, hB, hl, hn, hx, h0, h1, q⟩ := h
    refine ⟨_, (pss_cons (ps_expr (pe_callO o_check_amount hr (pa_cons (pv 2) pa_nil)))
      (pss_cons (ps_setC (i := 3) rfl sc_warmed.nd rfl rfl (CompScope.of (T := ["need", "heat"]) (js := []) (defScope s_warmed).names N_warmed rfl rfl rfl (by decide +kernel)) (pi_zip (by rfl) T.n_zip (pa_cons (pv 0) (pa_cons (pv 1) pa_nil))) (fun _ _ _ _ => ⟨(pg_tupK K (n := 2) (by rfl) (pgs_cons (pg_name (i := 0) (by show List.Nodup (["need", "heat"] : List Str); decide +kernel) rfl (Or.inl rfl)) (pgs_cons (pg_name (i := 1) (by show List.Nodup (["need", "heat"] : List Str); decide +kernel) rfl (Or.inl rfl)) pgs_nil))), pif_nil, (pe_op op_sub (pv 0) (pv 1))⟩))
      (pss_cons (ps_set (i := 4) sc_warmed.nd rfl (Or.inl rfl) (pe_callO o_shared_from_top hr (pa_cons (pv 3) (pa_cons (pv 2) pa_nil))))
      (pss_one (ps_ret (pe_tup (pa_cons (pe_comp rfl (CompScope.of (T := ["heat", "share"]) (js := []) (defScope s_warmed).names N_warmed rfl rfl rfl (by decide +kernel)) (pi_zip (by rfl) T.n_zip (pa_cons (pv 1) (pa_cons (pe_ix ix_tup (pv 4) pe_int (fun _ _ => rfl)) pa_nil))) (fun _ _ _ _ => ⟨(pg_tupK K (n := 2) (by rfl) (pgs_cons (pg_name (i := 0) (by show List.Nodup (["heat", "share"] : List Str); decide +kernel) rfl (Or.inl rfl)) (pgs_cons (pg_name (i := 1) (by show List.Nodup (["heat", "share"] : List Str); decide +kernel) rfl (Or.inl rfl)) pgs_nil))), pif_nil, (pe_op op_add (pv 0) (pv 1))⟩)) (pa_cons (pe_ix ix_tup (pv 4) pe_int (fun _ _ => rfl)) pa_nil)))))))), ?_⟩
    refine ⟨_, rfl, m, rfl, h0, h1, ?_⟩
    refine ⟨_, rfl, _, rfl, a, b, rfl, ⟨_, hA⟩, ⟨_, hB⟩, fun pr fpr => ?_⟩
    refine comp_zip_ints (fun n h => n - h) hl.symm hn hA hB fpr (fun x y H Q' q => ⟨_, rfl, _, rfl, _, _, rfl, rfl, q⟩) fun H1 s1 h1r => ?_
    have hr0 : ∀ i, i < (rooms needs heats).length → 0 ≤ (rooms needs heats).getD i 0 := fun i hi => by
      rw [rooms_len hl] at hi
      rw [rooms_at hl hi]
      have := hx i hi
      omega
    refine ⟨_, rfl, _, rfl, pr, rooms needs heats, m, rfl, SqL.of h1r, by rw [rooms_len hl]; exact hn, h0, hr0, fun H2 t ps s2 ft fps ht hps => ?_⟩
    refine ⟨_, rfl, _, rfl, t, _, _, _, rfl, rfl, SqT.of ht, rfl, b, ps, rfl, ⟨_, (s1.trans s2).seq hB⟩, ⟨_, SqL.of hps⟩, fun pw fpw => ?_⟩
    refine comp_zip_ints (fun h s => h + s) (by rw [shares_len, rooms_len hl, hl]) (by omega) ((s1.trans s2).seq hB) (SqL.of hps) fpw (fun x y H Q' q => ⟨_, rfl, _, rfl, _, _, rfl, rfl, q⟩) fun H3 s3 h3w => ?_
    refine ⟨_, rfl, t, _, _, _, rfl, rfl, SqT.of (s3 _ _ ht), rfl, sz9, fun t' ft' => ?_⟩
    have s4 : Same H H3 := (s1.trans s2).trans s3
    exact q _ t' pw (s4.trans (Same.upd ft')) (s4.free ft') ((s1.trans s2).free fpw) upd_same (by rw [upd_ne (ne_of_none h3w ft')]; exact h3w)
abbrev s_chilled : Stmt := top 26
abbrev N_chilled : List Str := ["needs", "heats", "amount", "shared"]
abbrev P_chilled : List Str := ["needs", "heats", "amount"]
theorem sc_chilled : FnScope N_chilled P_chilled (defScope s_chilled) := mk9
/-! chilled -/
def sp_chilled (K : W.Frag) : Sp := fun vs H Q _ => ∃ (x : V) (b : Addr) (heats : List Int) (m : Int), vs = [x, .ref b, .int m] ∧ SqL K H b (heats.map V.int) ∧ heats.length ≤ 1000 ∧
  (∀ i, i < heats.length → 0 ≤ heats.getD i 0) ∧ 0 ≤ m ∧ m ≤ 1000000 ∧
  ∀ (H' : Hp) (t p : Addr), Same H H' → H t = none → H p = none → H' t = some (.tup [.ref p, .int (leftAt heats m 0)]) → H' p = some (.lst ((coldL heats m).map V.int)) → Q (.ref t) H'
theorem ok_chilled (F : Fun K "chilled" "chilled" s_chilled f fd) (T : Txt K mg) (o_check_amount : Ok P w K mg base "check_amount" P_check_amount 1 sp_check_amount) (o_shared_from_top : Ok P w K mg base "shared_from_top" P_shared_from_top 1 (sp_shared_from_top K)) : FnOk P w K mg base CX0 2 f fd P_chilled (sp_chilled K) := by
  refine F.ok sc_chilled (fun vs H Q E h => ?_) (fun cdv A outer s H vs Q E hr h => ?_)
  · obtain ⟨x, b, heats, m, rfl, _⟩ := h
    rfl
  · obtain ⟨x, b, heats, m, rfl, hB, hn, hx, h0, h1, q⟩ := h
    refine ⟨_, (pss_cons (ps_expr (pe_callO o_check_amount hr (pa_cons (pv 2) pa_nil)))
      (pss_cons (ps_set (i := 3) sc_chilled.nd rfl (Or.inl rfl) (pe_callO o_shared_from_top hr (pa_cons (pv 1) (pa_cons (pv 2) pa_nil))))
      (pss_one (ps_ret (pe_tup (pa_cons (pe_comp rfl (CompScope.of (T := ["heat", "share"]) (js := []) (defScope s_chilled).names N_chilled rfl rfl rfl (by decide +kernel)) (pi_zip (by rfl) T.n_zip (pa_cons (pv 1) (pa_cons (pe_ix ix_tup (pv 3) pe_int (fun _ _ => rfl)) pa_nil))) (fun _ _ _ _ => ⟨(pg_tupK K (n := 2) (by rfl) (pgs_cons (pg_name (i := 0) (by show List.Nodup (["heat", "share"] : List Str); decide +kernel) rfl (Or.inl rfl)) (pgs_cons (pg_name (i := 1) (by show List.Nodup (["heat", "share"] : List Str); decide +kernel) rfl (Or.inl rfl)) pgs_nil))), pif_nil, (pe_op op_sub (pv 0) (pv 1))⟩)) (pa_cons (pe_ix ix_tup (pv 3) pe_int (fun _ _ => rfl)) pa_nil))))))), ?_⟩
    refine ⟨_, rfl, m, rfl, h0, h1, ?_⟩
    refine ⟨_, rfl, _, rfl, b, heats, m, rfl, hB, hn, h0, hx, fun H2 t ps s2 ft fps ht hps => ?_⟩
    refine ⟨_, rfl, _, rfl, t, _, _, _, rfl, rfl, SqT.of ht, rfl, b, ps, rfl, ⟨_, s2.seq hB⟩, ⟨_, SqL.of hps⟩, fun pw fpw => ?_⟩
    refine comp_zip_ints (fun h s => h - s) (by rw [shares_len]) hn (s2.seq hB) (SqL.of hps) fpw (fun x y H Q' q => ⟨_, rfl, _, rfl, _, _, rfl, rfl, q⟩) fun H3 s3 h3w => ?_
    refine ⟨_, rfl, t, _, _, _, rfl, rfl, SqT.of (s3 _ _ ht), rfl, sz9, fun t' ft' => ?_⟩
    have s4 : Same H H3 := s2.trans s3
    exact q _ t' pw (s4.trans (Same.upd ft')) (s4.free ft') (s2.free fpw) upd_same (by rw [upd_ne (ne_of_none h3w ft')]; exact h3w)
abbrev s_passed : Stmt := top 27
abbrev N_passed : List Str := ["needs", "heats", "seasons", "now", "no_room", "no_heat", "kind", "amount", "behind"]
abbrev P_passed : List Str := ["needs", "heats", "seasons"]
theorem sc_passed : FnScope N_passed P_passed (defScope s_passed) := mk9
/-! passed -/
def sp_passed (K : W.Frag) : Sp := fun vs H Q _ => ∃ (a b c : Addr) (needs heats : List Int) (ts : List Addr) (ss : List (Bool × Int)), vs = [.ref a, .ref b, .ref c] ∧ SqL K H a (needs.map V.int) ∧ SqL K H b (heats.map V.int) ∧ SqL K H c (ts.map V.ref) ∧ SeasAt H ts ss ∧
  HeatsOk needs heats ∧ needs.length ≤ 1000 ∧ (∀ z ∈ ss, 0 ≤ z.2 ∧ z.2 ≤ 1000000) ∧
  ∀ (H' : Hp) (t p : Addr), Same H H' → H t = none → H p = none → H' t = some (.tup [.ref p, .int (passL needs heats ss).room, .int (passL needs heats ss).heat]) → H' p = some (.lst ((passL needs heats ss).heats.map V.int)) → Q (.ref t) H'
theorem ok_passed (F : Fun K "passed" "passed" s_passed f fd) (T : Txt K mg) (o_warmed : Ok P w K mg base "warmed" P_warmed 2 (sp_warmed K)) (o_chilled : Ok P w K mg base "chilled" P_chilled 2 (sp_chilled K)) : FnOk P w K mg base CX0 3 f fd P_passed (sp_passed K) := by
  refine F.ok sc_passed (fun vs H Q E h => ?_) (fun cdv A outer s H vs Q E hr h => ?_)
  · obtain ⟨a, b, c, needs, heats, ts, ss, rfl, _⟩ := h
    rfl
  · obtain ⟨a, b, c, needs, heats, ts, ss, rfl, hA, hB, hC, hS, hO, hn, hz, q⟩ := h
    refine ⟨_, (pss_cons (ps_set (i := 3) sc_passed.nd rfl (Or.inl rfl) (pe_list T.n_list (pv 1)))
      (pss_cons (ps_set (i := 4) sc_passed.nd rfl (Or.inl rfl) pe_int)
      (pss_cons (ps_set (i := 5) sc_passed.nd rfl (Or.inl rfl) pe_int)
      (pss_cons (ps_for PassesOwn.never rfl (pi_list (pv 2)) (pg_tup (n := 2) (by rfl) (pgs_cons (pg_name (i := 6) sc_passed.nd rfl (Or.inl rfl)) (pgs_cons (pg_name (i := 7) sc_passed.nd rfl (Or.inl rfl)) pgs_nil)))
        (pss_cons (ps_if (pt_cmpR op_eq (pv 6) pe_str (nomark _))
          (pss_cons (ps_set (i := 8) sc_passed.nd rfl (Or.inl rfl) (pe_callO o_warmed hr (pa_cons (pv 0) (pa_cons (pv 3) (pa_cons (pv 7) pa_nil)))))
          (pss_one (ps_set (i := 4) sc_passed.nd rfl (Or.inl rfl) (pe_op op_add (pv 4) (pe_ix ix_tup (pv 8) pe_int (fun _ _ => rfl))))))
          (pss_cons (ps_set (i := 8) sc_passed.nd rfl (Or.inl rfl) (pe_callO o_chilled hr (pa_cons (pv 0) (pa_cons (pv 3) (pa_cons (pv 7) pa_nil)))))
          (pss_one (ps_set (i := 5) sc_passed.nd rfl (Or.inl rfl) (pe_op op_add (pv 5) (pe_ix ix_tup (pv 8) pe_int (fun _ _ => rfl)))))))
        (pss_one (ps_set (i := 3) sc_passed.nd rfl (Or.inl rfl) (pe_ix ix_tup (pv 8) pe_int (fun _ _ => rfl))))))
      (pss_one (ps_ret (pe_tup (pa_cons (pv 3) (pa_cons (pv 4) (pa_cons (pv 5) pa_nil)))))))))), ?_⟩
    refine ⟨_, rfl, b, _, rfl, .inl hB, fun p0 f0 => ?_⟩
    refine ⟨_, rfl, c, rfl, ⟨_, hC.upd f0⟩, ?_⟩
    refine for_list (xs := ts.map V.ref) (fun i σ H2 => ∃ (p : Addr) (v6 v7 v8 : Option V), σ = [some (.ref a), some (.ref b), some (.ref c), some (.ref p), some (.int (passL needs heats (ss.take i)).room), some (.int (passL needs heats (ss.take i)).heat), v6, v7, v8] ∧
      Same H H2 ∧ H p = none ∧ H2 p = some (.lst ((passL needs heats (ss.take i)).heats.map V.int))) ?_ ?_ ?_ ?_
    · exact ⟨p0, none, none, none, by rw [List.take_zero]; rfl, Same.upd f0, f0, by rw [List.take_zero]; exact upd_same⟩
    · rintro i σ H2 _ ⟨_, _, _, _, _, s2, _⟩
      exact s2.seq hC
    · rintro i x σ H2 hx ⟨p, v6, v7, v8, rfl, s2, fp, h2p⟩
      rw [List.getElem?_map] at hx
      cases et : ts[i]? with
      | none => rw [et] at hx; cases hx
      | some t =>
        rw [et] at hx
        obtain rfl : V.ref t = x := Option.some.inj hx
        have hi : i < ss.length := by rw [← hS.len]; exact (List.getElem?_eq_some_iff.mp et).1
        have ez : ss[i]? = some ss[i] := List.getElem?_eq_getElem hi
        generalize ss[i] = z at ez
        obtain ⟨t', e1, e2⟩ := hS.at' i z ez
        rw [et] at e1
        cases e1
        have hzz := hz z (List.mem_of_getElem? ez)
        have hOk := passL_ok hO (ss.take i)
        have hst : passL needs heats (ss.take (i + 1)) = stepS needs (passL needs heats (ss.take i)) z := by rw [take_snoc ez, passL_snoc]
        generalize passL needs heats (ss.take i) = R at *
        refine ⟨t, _, rfl, SqT.of (s2 _ _ e2), rfl, _, _, rfl, _, _, rfl, rfl, ?_⟩
        refine ⟨_, rfl, rfl, _, rfl, ?_⟩
        rw [kind_warm]
        refine ite2 (fun hb => ?_) (fun hb => ?_)
        · refine ⟨_, rfl, _, rfl, _, rfl, a, p, needs, R.heats, z.2, rfl, s2.seq hA, SqL.of h2p, hOk.len, hn, hOk.hi, hzz.1, hzz.2, fun H3 t3 p3 s3 ft3 fp3 ht3 hp3 => ?_⟩
          refine ⟨_, rfl, _, rfl, t3, _, _, _, rfl, rfl, SqT.of ht3, rfl, _, _, rfl, rfl, ?_⟩
          refine ⟨_, rfl, t3, _, _, _, rfl, rfl, SqT.of ht3, rfl, p3, some (.str (kindS z.1)), some (.int z.2), some (.ref t3), ?_, s2.trans s3, s2.free fp3, ?_⟩
          · rw [hst]
            unfold stepS seasLeft
            rw [if_pos hb, if_pos hb, if_pos hb]
            rfl
          · rw [hst, hp3]
            unfold stepS seasL
            rw [if_pos hb]
        · refine ⟨_, rfl, _, rfl, _, rfl, _, p, R.heats, z.2, rfl, SqL.of h2p, by rw [hOk.len]; exact hn, fun i hi => hOk.lo i (by rw [← hOk.len]; exact hi), hzz.1, hzz.2, fun H3 t3 p3 s3 ft3 fp3 ht3 hp3 => ?_⟩
          refine ⟨_, rfl, _, rfl, t3, _, _, _, rfl, rfl, SqT.of ht3, rfl, _, _, rfl, rfl, ?_⟩
          refine ⟨_, rfl, t3, _, _, _, rfl, rfl, SqT.of ht3, rfl, p3, some (.str (kindS z.1)), some (.int z.2), some (.ref t3), ?_, s2.trans s3, s2.free fp3, ?_⟩
          · rw [hst]
            unfold stepS seasLeft
            rw [if_neg hb, if_neg hb, if_neg hb]
            rfl
          · rw [hst, hp3]
            unfold stepS seasL
            rw [if_neg hb]
    · rintro σ H2 ⟨p, v6, v7, v8, rfl, s2, fp, h2p⟩
      have el : ss.take (ts.map V.ref).length = ss := List.take_of_length_le (by rw [List.length_map, hS.len]; exact Nat.le_refl _)
      rw [el] at h2p ⊢
      refine ⟨_, rfl, _, rfl, _, rfl, sz9, fun t ft => ?_⟩
      exact q _ t p (s2.trans (Same.upd ft)) (s2.free ft) fp upd_same (by rw [upd_ne (ne_of_none h2p ft)]; exact h2p)
abbrev s_still : Stmt := top 29
abbrev N_still : List Str := ["full"]
abbrev P_still : List Str := ["full"]
theorem sc_still : FnScope N_still P_still (defScope s_still) := mk9
/-! still -/
def sp_still : Sp := fun vs H Q _ => ∃ (full : Int), vs = [.int full] ∧ ∀ (H' : Hp) (t : Addr), Same H H' → H t = none → H' t = some (.tup [.int 0, .int 0, .int full]) → Q (.ref t) H'
theorem ok_still (F : Fun K "still" "still" s_still f fd) (T : Txt K mg) : FnOk P w K mg base CX0 1 f fd P_still sp_still := by
  refine F.ok sc_still (fun vs H Q E h => ?_) (fun cdv A outer s H vs Q E hr h => ?_)
  · obtain ⟨full, rfl, _⟩ := h
    rfl
  · obtain ⟨full, rfl, q⟩ := h
    refine ⟨_, (pss_one (ps_ret (pe_tup (pa_cons pe_int (pa_cons pe_int (pa_cons (pv 0) pa_nil)))))), ?_⟩
    exact ⟨_, rfl, sz9, fun t ht => q _ t (Same.upd ht) ht upd_same⟩
abbrev s_applied : Stmt := top 30
abbrev N_applied : List Str := ["rule", "heat", "behind"]
abbrev P_applied : List Str := ["rule", "heat"]
theorem sc_applied : FnScope N_applied P_applied (defScope s_applied) := mk9
/-! applied -/
def sp_applied (K : W.Frag) : Sp := fun vs H Q _ => ∃ (r : Addr) (d l m x : Int), vs = [.ref r, .int x] ∧ SqT K H r [.int d, .int l, .int m] ∧ l ≤ m ∧ ∀ H', Same H H' → Q (.int (clampI (x + d) l m)) H'
theorem ok_applied (F : Fun K "applied" "applied" s_applied f fd) (T : Txt K mg) : FnOk P w K mg base CX0 1 f fd P_applied (sp_applied K) := by
  refine F.ok sc_applied (fun vs H Q E h => ?_) (fun cdv A outer s H vs Q E hr h => ?_)
  · obtain ⟨r, d, l, m, x, rfl, _⟩ := h
    rfl
  · obtain ⟨r, d, l, m, x, rfl, hr', hlm, q⟩ := h
    have q := q H (Same.refl H)
    refine ⟨_, (pss_cons (ps_set (i := 2) sc_applied.nd rfl (Or.inl rfl) (pe_op op_add (pv 1) (pe_ix ix_tup (pv 0) pe_int (fun _ _ => rfl))))
      (pss_cons (ps_if (pt_cmpR op_lt (pv 2) (pe_ix ix_tup (pv 0) pe_int (fun _ _ => rfl)) (nomark _))
        (pss_one (ps_ret (pe_ix ix_tup (pv 0) pe_int (fun _ _ => rfl))))
        pss_nil)
      (pss_cons (ps_if (pt_cmpR op_gt (pv 2) (pe_ix ix_tup (pv 0) pe_int (fun _ _ => rfl)) (nomark _))
        (pss_one (ps_ret (pe_ix ix_tup (pv 0) pe_int (fun _ _ => rfl))))
        pss_nil)
      (pss_one (ps_ret (pv 2)))))), ?_⟩
    refine ⟨_, rfl, _, rfl, r, _, _, _, rfl, rfl, hr', rfl, _, _, rfl, rfl, ?_⟩
    refine ⟨_, rfl, _, rfl, r, _, _, _, rfl, rfl, hr', rfl, _, _, rfl, rfl, _, rfl, ?_⟩
    refine ite2 (fun h => ?_) (fun h => ?_)
    · have h := of_decide_eq_true h
      have e : clampI (x + d) l m = l := by unfold clampI; (repeat' split) <;> omega
      rw [e] at q
      exact ⟨_, rfl, r, _, _, _, rfl, rfl, hr', rfl, q⟩
    · have h : ¬ (x + d < l) := fun c => h (decide_eq_true c)
      refine ⟨_, rfl, _, rfl, r, _, _, _, rfl, rfl, hr', rfl, _, _, rfl, rfl, _, rfl, ?_⟩
      refine ite2 (fun h2 => ?_) (fun h2 => ?_)
      · have h2 := of_decide_eq_true h2
        have e : clampI (x + d) l m = m := by unfold clampI; (repeat' split) <;> omega
        rw [e] at q
        exact ⟨_, rfl, r, _, _, _, rfl, rfl, hr', rfl, q⟩
      · have h2 : ¬ (m < x + d) := fun c => h2 (decide_eq_true c)
        have e : clampI (x + d) l m = x + d := by unfold clampI; (repeat' split) <;> omega
        rw [e] at q
        exact ⟨_, rfl, q⟩
abbrev s_joined : Stmt := top 31
abbrev N_joined : List Str := ["first", "second"]
abbrev P_joined : List Str := ["first", "second"]
theorem sc_joined : FnScope N_joined P_joined (defScope s_joined) := mk9
/-! joined -/
def sp_joined (K : W.Frag) : Sp := fun vs H Q _ => ∃ (r1 r2 : Addr) (d1 l1 m1 d2 l2 m2 : Int), vs = [.ref r1, .ref r2] ∧ SqT K H r1 [.int d1, .int l1, .int m1] ∧ SqT K H r2 [.int d2, .int l2, .int m2] ∧ l1 ≤ m1 ∧ l2 ≤ m2 ∧
  ∀ (H' : Hp) (t : Addr), Same H H' → H t = none → H' t = some (.tup [.int (d1 + d2), .int (clampI (l1 + d2) l2 m2), .int (clampI (m1 + d2) l2 m2)]) → Q (.ref t) H'
theorem ok_joined (F : Fun K "joined" "joined" s_joined f fd) (T : Txt K mg) (o_applied : Ok P w K mg base "applied" P_applied 1 (sp_applied K)) : FnOk P w K mg base CX0 2 f fd P_joined (sp_joined K) := by
  refine F.ok sc_joined (fun vs H Q E h => ?_) (fun cdv A outer s H vs Q E hr h => ?_)
  · obtain ⟨r1, r2, d1, l1, m1, d2, l2, m2, rfl, _⟩ := h
    rfl
  · obtain ⟨r1, r2, d1, l1, m1, d2, l2, m2, rfl, hA, hB, h1, h2, q⟩ := h
    refine ⟨_, (pss_one (ps_ret (pe_tup (pa_cons (pe_op op_add (pe_ix ix_tup (pv 0) pe_int (fun _ _ => rfl)) (pe_ix ix_tup (pv 1) pe_int (fun _ _ => rfl))) (pa_cons (pe_callO o_applied hr (pa_cons (pv 1) (pa_cons (pe_ix ix_tup (pv 0) pe_int (fun _ _ => rfl)) pa_nil))) (pa_cons (pe_callO o_applied hr (pa_cons (pv 1) (pa_cons (pe_ix ix_tup (pv 0) pe_int (fun _ _ => rfl)) pa_nil))) pa_nil)))))), ?_⟩
    refine ⟨_, rfl, r1, _, _, _, rfl, rfl, hA, rfl, _, rfl, r2, _, _, _, rfl, rfl, hB, rfl, _, _, rfl, rfl, ?_⟩
    refine ⟨_, rfl, _, rfl, r1, _, _, _, rfl, rfl, hA, rfl, r2, d2, l2, m2, l1, rfl, hB, h2, fun H1 s1 => ?_⟩
    refine ⟨_, rfl, _, rfl, r1, _, _, _, rfl, rfl, s1.tup hA, rfl, r2, d2, l2, m2, m1, rfl, s1.tup hB, h2, fun H2 s2 => ?_⟩
    refine ⟨sz9, fun t ht => ?_⟩
    exact q _ t ((s1.trans s2).trans (Same.upd ht)) (none_of (s1.trans s2) ht) upd_same
abbrev s_repeated : Stmt := top 32
abbrev N_repeated : List Str := ["rule", "times", "so_far", "doubled", "left"]
abbrev P_repeated : List Str := ["rule", "times"]
theorem sc_repeated : FnScope N_repeated P_repeated (defScope s_repeated) := mk9
/-! repeated -/
def sp_repeatedX (_ : W.Frag) (mg : Str → Option Value) : Sp := fun vs H _ E => ∃ (r : V) (m : Int), vs = [r, .int m] ∧ ¬ (1 ≤ m ∧ m ≤ 1000000000000000000) ∧ Thr mg "BadTimes" E H
def sp_repeated (K : W.Frag) : Sp := fun vs H Q _ => ∃ (r : Addr) (R : Rl) (n : Nat), vs = [.ref r, .int ((n : Int) + 1)] ∧ H r = some (.tup R.vs) ∧ R.Ok ∧ (n : Int) + 1 ≤ 1000000000000000000 ∧
  ∀ (H' : Hp) (t : Addr), Same H H' → H' t = some (.tup (R.rep n).vs) → Q (.ref t) H'
theorem ok_repeated (F : Fun K "repeated" "repeated" s_repeated f fd) (T : Txt K mg) (o_check_times : Ok P w K mg base "check_times" P_check_times 1 sp_check_times) (o_joined : Ok P w K mg base "joined" P_joined 2 (sp_joined K)) : FnOk P w K mg base CX0 3 f fd P_repeated (sp_repeated K) := by
  refine F.ok sc_repeated (fun vs H Q E h => ?_) (fun cdv A outer s H vs Q E hr h => ?_)
  · obtain ⟨r, R, n, rfl, _⟩ := h
    rfl
  · obtain ⟨r, R, n, rfl, hR, ho, hn, q⟩ := h
    refine ⟨_, (pss_cons (ps_expr (pe_callO o_check_times hr (pa_cons (pv 1) pa_nil)))
      (pss_cons (ps_set (i := 2) sc_repeated.nd rfl (Or.inl rfl) (pv 0))
      (pss_cons (ps_set (i := 3) sc_repeated.nd rfl (Or.inl rfl) (pv 0))
      (pss_cons (ps_set (i := 4) sc_repeated.nd rfl (Or.inl rfl) (pe_op op_sub (pv 1) pe_int))
      (pss_cons (ps_while PassesOwn.never (pt_cmpR op_gt (pv 4) pe_int (nomark _))
        (pss_cons (ps_if (pt_cmpR op_eq (pe_op op_mod (pv 4) pe_int) pe_int (nomark _))
          (pss_one (ps_set (i := 2) sc_repeated.nd rfl (Or.inl rfl) (pe_callO o_joined hr (pa_cons (pv 2) (pa_cons (pv 3) pa_nil)))))
          pss_nil)
        (pss_cons (ps_set (i := 3) sc_repeated.nd rfl (Or.inl rfl) (pe_callO o_joined hr (pa_cons (pv 3) (pa_cons (pv 3) pa_nil))))
        (pss_one (ps_set (i := 4) sc_repeated.nd rfl (Or.inl rfl) (pe_op op_fdiv (pv 4) pe_int))))))
      (pss_one (ps_ret (pv 2)))))))), ?_⟩
    refine ⟨_, rfl, _, rfl, by omega, hn, ?_⟩
    refine ⟨_, rfl, ?_⟩
    refine ⟨_, rfl, ?_⟩
    refine ⟨_, rfl, _, _, rfl, rfl, ?_⟩
    refine while_by (fun σ H1 => ∃ (a b L : Nat) (u v : Addr), Same H H1 ∧ H1 u = some (.tup (R.rep a).vs) ∧ H1 v = some (.tup (R.rep b).vs) ∧ a + L * (b + 1) = n ∧ σ = [some (.ref r), some (.int ((n : Int) + 1)), some (.ref u), some (.ref v), some (.int L)]) (fun σ _ => match σ with | [_, _, _, _, some (.int i)] => i.toNat | _ => 0) ⟨0, 0, n, r, r, Same.refl H, hR, hR, by omega, congrArg (fun z : Int => [some (V.ref r), some (V.int ((n : Int) + 1)), some (V.ref r), some (V.ref r), some (V.int z)]) (show (n : Int) + 1 - 1 = n by omega)⟩ ?_ ?_
    · rintro σ H1 ⟨a, b, L, u, v, s1, hu, hv, e, rfl⟩
      refine ⟨_, rfl, _, _, rfl, rfl, _, rfl, ?_⟩
      refine ite2 (fun h => ?_) (fun h => ?_)
      · have hL : 0 < (L : Int) := of_decide_eq_true h
        refine seq_cut (fun σ' H' => ∃ (a' : Nat) (u' : Addr), Same H1 H' ∧ H' u' = some (.tup (R.rep a').vs) ∧ a' = (if L % 2 = 1 then a + b + 1 else a) ∧ σ' = [some (.ref r), some (.int ((n : Int) + 1)), some (.ref u'), some (.ref v), some (.int L)]) (fun nx hnx => ?_) ?_
        · refine ⟨_, rfl, _, _, rfl, rfl, (show (0 : Int) < 2 by decide), rfl, _, rfl, ?_⟩
          refine ite2 (fun h2 => ?_) (fun h2 => ?_)
          · have h2 : (L : Int) % 2 = 1 := V.int.inj (of_decide_eq_true h2)
            refine ⟨_, rfl, _, rfl, u, v, _, _, _, _, _, _, rfl, SqT.of hu, SqT.of hv, Rl.rep_ok ho a, Rl.rep_ok ho b, fun H2 t s2 ft ht => ?_⟩
            refine hnx _ _ ⟨a + b + 1, t, s2, ?_, by rw [if_pos (by omega)], rfl⟩
            rw [← Rl.rep_add ho a b]
            exact ht
          · have h2 : ¬ ((L : Int) % 2 = 1) := fun c => h2 (decide_eq_true (congrArg V.int c))
            exact hnx _ _ ⟨a, u, Same.refl _, hu, by rw [if_neg (by omega)], rfl⟩
        · rintro σ' H' ⟨a', u', s2, hu', ea, rfl⟩
          refine ⟨_, rfl, _, rfl, v, v, _, _, _, _, _, _, rfl, SqT.of (s2 _ _ hv), SqT.of (s2 _ _ hv), Rl.rep_ok ho b, Rl.rep_ok ho b, fun H3 t s3 ft ht => ?_⟩
          refine ⟨_, rfl, _, _, rfl, rfl, (show (0 : Int) < 2 ∧ (2 : Int) < 1073741824 by decide), ?_⟩
          have eL : L / 2 < L := by omega
          refine ⟨⟨a', b + b + 1, L / 2, u', t, s1.trans (s2.trans s3), s3 _ _ hu', ?_, ?_, rfl⟩, ?_⟩
          · rw [← Rl.rep_add ho b b]
            exact ht
          · rw [ea, ← e]
            have e2 : b + b + 1 + 1 = 2 * (b + 1) := by omega
            rw [e2, ← Nat.mul_assoc]
            generalize b + 1 = c at *
            split
            · have : L = L / 2 * 2 + 1 := by omega
              generalize L / 2 * 2 = z at *
              rw [this, Nat.add_mul]; omega
            · have : L = L / 2 * 2 := by omega
              rw [← this]
          · exact eL
      · have hL : ¬ (0 < (L : Int)) := fun c => h (decide_eq_true c)
        have eL : L = 0 := by omega
        subst eL
        have ea : a = n := by omega
        subst ea
        exact ⟨_, rfl, q _ u s1 hu⟩
    · rintro σ H1 Q1 Q2 m ⟨v, hv, i, j, e1, e2, b, e3, q⟩
      exact ⟨v, hv, i, j, e1, e2, b, e3, m _ _ q⟩
theorem ok_repeatedX (F : Fun K "repeated" "repeated" s_repeated f fd) (T : Txt K mg) (o_check_timesX : OkX P w K mg base "check_times" P_check_times 1 (sp_check_timesX mg)) : FnOk P w K mg base (CX1 P w) 3 f fd P_repeated (sp_repeatedX K mg) := by
  refine F.okX sc_repeated (fun vs H Q E h => ?_) (fun cdv A outer s H vs Q E hr h => ?_)
  · obtain ⟨r, m, rfl, _⟩ := h
    rfl
  · obtain ⟨r, m, rfl, bad, hE⟩ := h
    refine ⟨_, (pss_cons (ps_expr (pe_callX o_check_timesX hr (pass_fn (E := E)) (pa_cons (pv 1) pa_nil)))
      pss_never), ?_⟩
    exact ⟨_, rfl, m, rfl, fun g => absurd g bad, fun _ => hE⟩
abbrev s_season_rule : Stmt := top 33
abbrev N_season_rule : List Str := ["full", "season", "amount"]
abbrev P_season_rule : List Str := ["full", "season"]
theorem sc_season_rule : FnScope N_season_rule P_season_rule (defScope s_season_rule) := mk9
/-! season_rule -/
def sp_season_rule (K : W.Frag) : Sp := fun vs H Q _ => ∃ (full : Int) (t : Addr) (z : Bool × Int), vs = [.int full, .ref t] ∧ H t = some (.tup [.str (kindS z.1), .int z.2]) ∧ 0 ≤ full ∧ 0 ≤ z.2 ∧ z.2 ≤ 1000000 ∧
  ∀ (H' : Hp) (r : Addr), Same H H' → H r = none → H' r = some (.tup (seasR full z).vs) → Q (.ref r) H'
theorem ok_season_rule (F : Fun K "season_rule" "season_rule" s_season_rule f fd) (T : Txt K mg) (o_check_amount : Ok P w K mg base "check_amount" P_check_amount 1 sp_check_amount) : FnOk P w K mg base CX0 2 f fd P_season_rule (sp_season_rule K) := by
  refine F.ok sc_season_rule (fun vs H Q E h => ?_) (fun cdv A outer s H vs Q E hr h => ?_)
  · obtain ⟨full, t, z, rfl, _⟩ := h
    rfl
  · obtain ⟨full, t, z, rfl, hT, hf, z0, z1, q⟩ := h
    refine ⟨_, (pss_cons (ps_set (i := 2) sc_season_rule.nd rfl (Or.inl rfl) (pe_ix ix_tup (pv 1) pe_int (fun _ _ => rfl)))
      (pss_cons (ps_expr (pe_callO o_check_amount hr (pa_cons (pv 2) pa_nil)))
      (pss_cons (ps_if (pt_cmpR op_eq (pe_ix ix_tup (pv 1) pe_int (fun _ _ => rfl)) pe_str (nomark _))
        (pss_one (ps_ret (pe_tup (pa_cons (pv 2) (pa_cons (pe_min (by rfl) T.n_min (pv 2) (pv 0)) (pa_cons (pv 0) pa_nil))))))
        pss_nil)
      (pss_one (ps_ret (pe_tup (pa_cons (pe_un un_neg (pv 2)) (pa_cons pe_int (pa_cons (pe_max (by rfl) T.n_max pe_int (pe_op op_sub (pv 0) (pv 2))) pa_nil))))))))), ?_⟩
    refine ⟨_, rfl, t, _, _, _, rfl, rfl, SqT.of hT, rfl, ?_⟩
    refine ⟨_, rfl, z.2, rfl, z0, z1, ?_⟩
    refine ⟨_, rfl, t, _, _, _, rfl, rfl, SqT.of hT, rfl, rfl, _, rfl, ?_⟩
    rw [kind_warm]
    unfold seasR at q
    cases e : z.1 with
    | true =>
      rw [e, if_pos rfl] at q
      refine iteT ?_
      refine ⟨_, rfl, _, rfl, _, rfl, _, _, rfl, _, rfl, sz9, fun r hr => q _ r (Same.upd hr) hr (upd_same.trans ?_)⟩
      show some (HO.tup [.int z.2, .int (if full < z.2 then full else z.2), .int full]) = some (HO.tup [.int z.2, .int (min full z.2), .int full])
      rw [show (if full < z.2 then full else z.2) = min full z.2 by split <;> omega]
    | false =>
      rw [e, if_neg (by simp)] at q
      refine iteF ?_
      refine ⟨_, rfl, _, rfl, _, rfl, _, rfl, _, _, rfl, rfl, _, _, rfl, sz9, fun r hr => q _ r (Same.upd hr) hr (upd_same.trans ?_)⟩
      show some (HO.tup [.int (-z.2), .int 0, .int (if (0 : Int) < full - z.2 then full - z.2 else 0)]) = some (HO.tup [.int (-z.2), .int 0, .int (max 0 (full - z.2))])
      rw [show (if (0 : Int) < full - z.2 then full - z.2 else 0) = max 0 (full - z.2) by split <;> omega]
abbrev s_row_rule : Stmt := top 34
abbrev N_row_rule : List Str := ["full", "seasons", "rule", "season"]
abbrev P_row_rule : List Str := ["full", "seasons"]
theorem sc_row_rule : FnScope N_row_rule P_row_rule (defScope s_row_rule) := mk9
/-! row_rule -/
def sp_row_rule (K : W.Frag) : Sp := fun vs H Q _ => ∃ (full : Int) (p : Addr) (ts : List Addr) (ss : List (Bool × Int)), vs = [.int full, .ref p] ∧ SqL K H p (ts.map V.ref) ∧ SeasAt H ts ss ∧ 0 ≤ full ∧ (∀ z ∈ ss, 0 ≤ z.2 ∧ z.2 ≤ 1000000) ∧ ss.length ≤ 1000 ∧
  ∀ (H' : Hp) (r : Addr), Same H H' → H r = none → H' r = some (.tup (rowR full ss).vs) → Q (.ref r) H'
theorem ok_row_rule (F : Fun K "row_rule" "row_rule" s_row_rule f fd) (T : Txt K mg) (o_still : Ok P w K mg base "still" P_still 1 sp_still) (o_season_rule : Ok P w K mg base "season_rule" P_season_rule 2 (sp_season_rule K)) (o_joined : Ok P w K mg base "joined" P_joined 2 (sp_joined K)) : FnOk P w K mg base CX0 3 f fd P_row_rule (sp_row_rule K) := by
  refine F.ok sc_row_rule (fun vs H Q E h => ?_) (fun cdv A outer s H vs Q E hr h => ?_)
  · obtain ⟨full, p, ts, ss, rfl, _⟩ := h
    rfl
  · obtain ⟨full, p, ts, ss, rfl, hP, hS, hf, hz, hn, q⟩ := h
    refine ⟨_, (pss_cons (ps_set (i := 2) sc_row_rule.nd rfl (Or.inl rfl) (pe_callO o_still hr (pa_cons (pv 0) pa_nil)))
      (pss_cons (ps_for PassesOwn.never rfl (pi_list (pv 1)) (pg_name (i := 3) sc_row_rule.nd rfl (Or.inl rfl))
        (pss_one (ps_set (i := 2) sc_row_rule.nd rfl (Or.inl rfl) (pe_callO o_joined hr (pa_cons (pv 2) (pa_cons (pe_callO o_season_rule hr (pa_cons (pv 0) (pa_cons (pv 3) pa_nil))) pa_nil))))))
      (pss_one (ps_ret (pv 2))))), ?_⟩
    refine ⟨_, rfl, full, rfl, fun H1 r1 s1 f1 hr1 => ?_⟩
    refine ⟨_, rfl, p, rfl, ⟨_, s1.seq hP⟩, ?_⟩
    refine for_list (xs := ts.map V.ref) (fun i σ H2 => Same H H2 ∧ ∃ (r : Addr) (v : Option V), H r = none ∧ H2 r = some (.tup (rowR full (ss.take i)).vs) ∧ σ = [some (.int full), some (.ref p), some (.ref r), v]) ⟨s1, r1, none, f1, hr1, rfl⟩ (fun i σ H2 _ z => z.1.seq hP) ?_ ?_
    · rintro i x σ H2 hx ⟨s2, r, v, fr, hr2, rfl⟩
      obtain ⟨t, z, rfl, hzi, ht⟩ := hS.item hx
      have hzz := hz z (List.mem_of_getElem? hzi)
      have hza : ∀ z ∈ ss.take i, 0 ≤ z.2 := fun y hy => (hz y (List.mem_of_mem_take hy)).1
      refine ⟨_, rfl, _, rfl, _, rfl, full, t, z, rfl, s2 _ _ ht, hf, hzz.1, hzz.2, fun H3 u s3 fu hu => ?_⟩
      refine ⟨r, u, _, _, _, _, _, _, rfl, s3.tup (SqT.of hr2), SqT.of hu, rowR_ok hf _, seasR_ok hf hzz.1, fun H4 c s4 fc hc => ?_⟩
      refine ⟨s2.trans (s3.trans s4), c, _, none_of (s2.trans s3) fc, ?_, rfl⟩
      rw [take_snoc hzi, rowR_snoc hf hza hzz.1]
      exact hc
    · rintro σ H2 ⟨s2, r, v, fr, hr2, rfl⟩
      rw [List.length_map, hS.len, List.take_length] at hr2
      exact ⟨_, rfl, q _ r s2 fr hr2⟩
abbrev s_year_rule : Stmt := top 35
abbrev N_year_rule : List Str := ["full", "year", "times"]
abbrev P_year_rule : List Str := ["full", "year", "times"]
theorem sc_year_rule : FnScope N_year_rule P_year_rule (defScope s_year_rule) := mk9
/-! year_rule -/
def sp_year_ruleX (K : W.Frag) (mg : Str → Option Value) : Sp := fun vs H _ E => ∃ (full : Int) (c : Addr) (ts : List Addr) (ss : List (Bool × Int)) (m : Int), vs = [.int full, .ref c, .int m] ∧ SqL K H c (ts.map V.ref) ∧ SeasAt H ts ss ∧ (¬ (1 ≤ ss.length ∧ ss.length ≤ 12) → Thr mg "BadYear" E H) ∧ (1 ≤ ss.length ∧ ss.length ≤ 12 → ¬ (∀ z ∈ ss, GoodAm z.2) → Thr mg "BadAmount" E H) ∧ 0 ≤ full ∧ (1 ≤ ss.length ∧ ss.length ≤ 12 → (∀ z ∈ ss, GoodAm z.2) → ¬ (1 ≤ m ∧ m ≤ 1000000000000000000) ∧ Thr mg "BadTimes" E H)
def sp_year_rule (K : W.Frag) : Sp := fun vs H Q _ => ∃ (full : Int) (p : Addr) (ts : List Addr) (ss : List (Bool × Int)) (n : Nat), vs = [.int full, .ref p, .int ((n : Int) + 1)] ∧ SqL K H p (ts.map V.ref) ∧ SeasAt H ts ss ∧ 0 ≤ full ∧ (∀ z ∈ ss, 0 ≤ z.2 ∧ z.2 ≤ 1000000) ∧ 1 ≤ ss.length ∧ ss.length ≤ 12 ∧ (n : Int) + 1 ≤ 1000000000000000000 ∧
  ∀ (H' : Hp) (r : Addr), Same H H' → H' r = some (.tup ((rowR full ss).rep n).vs) → Q (.ref r) H'
theorem ok_year_rule (F : Fun K "year_rule" "year_rule" s_year_rule f fd) (T : Txt K mg) (o_check_year : Ok P w K mg base "check_year" P_check_year 2 (sp_check_year K)) (o_row_rule : Ok P w K mg base "row_rule" P_row_rule 3 (sp_row_rule K)) (o_repeated : Ok P w K mg base "repeated" P_repeated 3 (sp_repeated K)) : FnOk P w K mg base CX0 4 f fd P_year_rule (sp_year_rule K) := by
  refine F.ok sc_year_rule (fun vs H Q E h => ?_) (fun cdv A outer s H vs Q E hr h => ?_)
  · obtain ⟨full, p, ts, ss, n, rfl, _⟩ := h
    rfl
  · obtain ⟨full, p, ts, ss, n, rfl, hP, hS, hf, hz, h1, h2, hn, q⟩ := h
    refine ⟨_, (pss_cons (ps_expr (pe_callO o_check_year hr (pa_cons (pv 1) pa_nil)))
      (pss_one (ps_ret (pe_callO o_repeated hr (pa_cons (pe_callO o_row_rule hr (pa_cons (pv 0) (pa_cons (pv 1) pa_nil))) (pa_cons (pv 2) pa_nil)))))), ?_⟩
    refine ⟨_, rfl, p, ts, ss, rfl, hP, hS, hz, h1, h2, ?_⟩
    refine ⟨_, rfl, _, rfl, full, p, ts, ss, rfl, hP, hS, hf, hz, by omega, fun H1 r1 s1 f1 e1 => ?_⟩
    exact ⟨_, rfl, r1, rowR full ss, n, rfl, e1, rowR_ok hf ss, hn, fun H2 t s2 e2 => q H2 t (s1.trans s2) e2⟩
theorem ok_year_ruleX (F : Fun K "year_rule" "year_rule" s_year_rule f fd) (T : Txt K mg) (o_check_yearX : OkX P w K mg base "check_year" P_check_year 2 (sp_check_yearX K mg)) (o_row_rule : Ok P w K mg base "row_rule" P_row_rule 3 (sp_row_rule K)) (o_repeatedX : OkX P w K mg base "repeated" P_repeated 3 (sp_repeatedX K mg)) : FnOk P w K mg base (CX1 P w) 4 f fd P_year_rule (sp_year_ruleX K mg) := by
  refine F.okX sc_year_rule (fun vs H Q E h => ?_) (fun cdv A outer s H vs Q E hr h => ?_)
  · obtain ⟨full, c, ts, ss, m, rfl, _⟩ := h
    rfl
  · obtain ⟨full, c, ts, ss, m, rfl, hC, hS, e5, e6, hf, e7⟩ := h
    by_cases hg : (1 ≤ ss.length ∧ ss.length ≤ 12) ∧ (∀ z ∈ ss, GoodAm z.2)
    · obtain ⟨hl, hz⟩ := hg
      obtain ⟨bad, hE⟩ := e7 hl hz
      refine ⟨_, (pss_cons (ps_expr (pe_callX o_check_yearX hr (pass_fn (E := E)) (pa_cons (pv 1) pa_nil)))
      (pss_one (ps_ret (pe_callX o_repeatedX hr (pass_fn (E := E)) (pa_cons (pe_callO o_row_rule hr (pa_cons (pv 0) (pa_cons (pv 1) pa_nil))) (pa_cons (pv 2) pa_nil)))))), ?_⟩
      exact ⟨_, rfl, c, ts, ss, rfl, hC, hS, fun b => absurd hl b, fun _ => ⟨fun _ => ⟨_, rfl, _, rfl, full, c, ts, ss, rfl, hC, hS, hf, hz, by omega, fun H1 r s1 _ _ => ⟨_, rfl, .ref r, m, rfl, bad, hE.same s1⟩⟩, fun b => absurd hz b⟩⟩
    · refine ⟨_, (pss_cons (ps_expr (pe_callX o_check_yearX hr (pass_fn (E := E)) (pa_cons (pv 1) pa_nil)))
      pss_never), ?_⟩
      exact ⟨_, rfl, c, ts, ss, rfl, hC, hS, e5, fun hl => ⟨fun hz => absurd ⟨hl, hz⟩ hg, e6 hl⟩⟩
abbrev s_each_down_to : Stmt := top 37
abbrev N_each_down_to : List Str := ["numbers", "sums", "so_far", "number"]
abbrev P_each_down_to : List Str := ["numbers"]
theorem sc_each_down_to : FnScope N_each_down_to P_each_down_to (defScope s_each_down_to) := mk9
/-! each_down_to -/
def sp_each_down_to (K : W.Frag) : Sp := fun vs H Q _ => ∃ (a : Addr) (ns : List Int), vs = [.ref a] ∧ SqL K H a (ns.map V.int) ∧ ns.length ≤ 1000 ∧
  ∀ (H' : Hp) (p : Addr), Same H H' → H p = none → H' p = some (.lst ((downs ns).map V.int)) → Q (.ref p) H'
theorem ok_each_down_to (F : Fun K "each_down_to" "each_down_to" s_each_down_to f fd) (T : Txt K mg) : FnOk P w K mg base CX0 1 f fd P_each_down_to (sp_each_down_to K) := by
  refine F.ok sc_each_down_to (fun vs H Q E h => ?_) (fun cdv A outer s H vs Q E hr h => ?_)
  · obtain ⟨a, ns, rfl, _⟩ := h
    rfl
  · obtain ⟨a, ns, rfl, hA, hn, q⟩ := h
    refine ⟨_, (pss_cons (ps_set (i := 1) sc_each_down_to.nd rfl (Or.inl rfl) (pe_lst pa_nil))
      (pss_cons (ps_set (i := 2) sc_each_down_to.nd rfl (Or.inl rfl) pe_int)
      (pss_cons (ps_for PassesOwn.never rfl (pi_rev (by rfl) T.n_reversed (pa_cons (pv 0) pa_nil)) (pg_name (i := 3) sc_each_down_to.nd rfl (Or.inl rfl))
        (pss_cons (ps_set (i := 2) sc_each_down_to.nd rfl (Or.inl rfl) (pe_op op_add (pv 2) (pv 3)))
        (pss_one (ps_expr (pe_bm PySem.F.plainAttrs_list PySem.F.slot_list_append PySem.F.type_list_append mt_append (pv 1) (pa_cons (pv 2) pa_nil))))))
      (pss_one (ps_ret (pe_listRev T.n_list T.n_reversed (pa_cons (pv 1) pa_nil))))))), ?_⟩
    refine ⟨sz9, fun p hp => ?_⟩
    refine ⟨_, rfl, a, _, rfl, (Same.upd hp).seq hA, ?_⟩
    refine for_rev (xs := ns.map V.int) (fun i σ H2 => ∃ (v : Option V), σ = [some (.ref a), some (.ref p), some (.int (down ns (ns.length - i))), v] ∧ H2 = upd H p (.lst ((downsUp ns i).map V.int))) ⟨none, ?_, rfl⟩ ?_ ?_ ?_
    · rw [Nat.sub_zero, down_end (Nat.le_refl _)]; rfl
    · rintro i σ H2 _ ⟨v, rfl, rfl⟩
      exact (Same.upd hp).seq hA
    · rintro i x σ H2 hi hx ⟨v, rfl, rfl⟩
      rw [List.length_map] at hi hx
      rw [getI (by omega)] at hx
      cases hx
      refine ⟨_, rfl, _, rfl, _, _, rfl, rfl, ?_⟩
      have e : down ns (ns.length - i) + ns.getD (ns.length - 1 - i) 0 = down ns (ns.length - (i + 1)) := by
        have h := down_step (hs := ns) (i := ns.length - (i + 1)) (by omega)
        rw [show ns.length - (i + 1) + 1 = ns.length - i by omega, show ns.length - (i + 1) = ns.length - 1 - i by omega] at h
        rw [show ns.length - (i + 1) = ns.length - 1 - i by omega]
        omega
      refine ⟨_, rfl, .inl ⟨rfl, _, SqL.of upd_same⟩, _, rfl, p, _, _, rfl, rfl, upd_same, sz1000 (by rw [List.length_map, downsUp_len]; omega), ?_⟩
      refine ⟨some (.int (ns.getD (ns.length - 1 - i) 0)), ?_, ?_⟩
      · show [some (V.ref a), some (.ref p), some (.int (down ns (ns.length - i) + ns.getD (ns.length - 1 - i) 0)), some (.int (ns.getD (ns.length - 1 - i) 0))] = _
        rw [e]
      · show upd (upd H p _) p (.lst ((downsUp ns i).map V.int ++ [.int (down ns (ns.length - i) + ns.getD (ns.length - 1 - i) 0)])) = _
        rw [upd_upd, e, downsUp_succ, List.map_append]; rfl
    · rintro σ H2 ⟨v, rfl, rfl⟩
      rw [List.length_map]
      refine ⟨_, rfl, p, _, rfl, SqL.of upd_same, fun l hl => ?_⟩
      refine q _ l ((Same.upd hp).trans (Same.upd hl)) (none_of (Same.upd hp) hl) (upd_same.trans ?_)
      rw [← List.map_reverse, downsUp_rev]
abbrev s_heats_later : Stmt := top 38
abbrev N_heats_later : List Str := ["needs", "heats", "year", "times", "downs", "full", "held"]
abbrev P_heats_later : List Str := ["needs", "heats", "year", "times"]
theorem sc_heats_later : FnScope N_heats_later P_heats_later (defScope s_heats_later) := mk9
/-! heats_later -/
def sp_heats_later (K : W.Frag) : Sp := fun vs H Q _ => ∃ (a b c : Addr) (needs heats : List Int) (ts : List Addr) (ss : List (Bool × Int)) (n : Nat), vs = [.ref a, .ref b, .ref c, .int ((n : Int) + 1)] ∧ SqL K H a (needs.map V.int) ∧ SqL K H b (heats.map V.int) ∧ SqL K H c (ts.map V.ref) ∧ SeasAt H ts ss ∧ HeatsOk needs heats ∧ 1 ≤ needs.length ∧ needs.length ≤ 1000 ∧ (∀ z ∈ ss, 0 ≤ z.2 ∧ z.2 ≤ 1000000) ∧ ss.length ≤ 1000 ∧ (n : Int) + 1 ≤ 1000000000000000000 ∧
  ∀ (H' : Hp) (p : Addr), Same H H' → H p = none → H' p = some (.lst ((yearsL needs heats ss (n + 1)).heats.map V.int)) → Q (.ref p) H'
theorem ok_heats_later (F : Fun K "heats_later" "heats_later" s_heats_later f fd) (T : Txt K mg) (o_each_down_to : Ok P w K mg base "each_down_to" P_each_down_to 1 (sp_each_down_to K)) (o_row_rule : Ok P w K mg base "row_rule" P_row_rule 3 (sp_row_rule K)) (o_repeated : Ok P w K mg base "repeated" P_repeated 3 (sp_repeated K)) (o_applied : Ok P w K mg base "applied" P_applied 1 (sp_applied K)) : FnOk P w K mg base CX0 4 f fd P_heats_later (sp_heats_later K) := by
  refine F.ok sc_heats_later (fun vs H Q E h => ?_) (fun cdv A outer s H vs Q E hr h => ?_)
  · obtain ⟨a, b, c, needs, heats, ts, ss, n, rfl, _⟩ := h
    rfl
  · obtain ⟨a, b, c, needs, heats, ts, ss, n, rfl, hA, hB, hC, hS, hO, hn1, hn, hz, hsl, hnn, q⟩ := h
    have hz0 : ∀ z ∈ ss, 0 ≤ z.2 := fun z h => (hz z h).1
    have hY := yearsL_ok hO ss (n + 1)
    refine ⟨_, (pss_cons (ps_set (i := 4) sc_heats_later.nd rfl (Or.inl rfl) (pe_lst pa_nil))
      (pss_cons (ps_for PassesOwn.never rfl (pi_zip (by rfl) T.n_zip (pa_cons (pe_callO o_each_down_to hr (pa_cons (pv 0) pa_nil)) (pa_cons (pe_callO o_each_down_to hr (pa_cons (pv 1) pa_nil)) pa_nil))) (pg_tup (n := 2) (by rfl) (pgs_cons (pg_name (i := 5) sc_heats_later.nd rfl (Or.inl rfl)) (pgs_cons (pg_name (i := 6) sc_heats_later.nd rfl (Or.inl rfl)) pgs_nil)))
        (pss_one (ps_expr (pe_bm PySem.F.plainAttrs_list PySem.F.slot_list_append PySem.F.type_list_append mt_append (pv 4) (pa_cons (pe_callO o_applied hr (pa_cons (pe_callO o_repeated hr (pa_cons (pe_callO o_row_rule hr (pa_cons (pv 5) (pa_cons (pv 2) pa_nil))) (pa_cons (pv 3) pa_nil))) (pa_cons (pv 6) pa_nil))) pa_nil)))))
      (pss_one (ps_ret (pe_comp rfl (CompScope.of (T := ["down", "above"]) (js := []) (defScope s_heats_later).names N_heats_later rfl rfl rfl (by decide +kernel)) (pi_zip (by rfl) T.n_zip (pa_cons (pv 4) (pa_cons (pe_op op_cat (pe_slice sl_list (pv 4) (po_some pe_int) po_none) (pe_lst (pa_cons pe_int pa_nil))) pa_nil))) (fun _ _ _ _ => ⟨(pg_tupK K (n := 2) (by rfl) (pgs_cons (pg_name (i := 0) (by show List.Nodup (["down", "above"] : List Str); decide +kernel) rfl (Or.inl rfl)) (pgs_cons (pg_name (i := 1) (by show List.Nodup (["down", "above"] : List Str); decide +kernel) rfl (Or.inl rfl)) pgs_nil))), pif_nil, (pe_op op_sub (pv 0) (pv 1))⟩)))))), ?_⟩
    refine ⟨sz9, fun p fp => ?_⟩
    have s0 := Same.upd (o := .lst []) fp
    refine ⟨_, rfl, a, needs, rfl, s0.seq hA, hn, fun H1 u1 s1 f1 h1 => ?_⟩
    have s01 := s0.trans s1
    refine ⟨_, rfl, b, heats, rfl, s01.seq hB, by rw [hO.len]; exact hn, fun H2 u2 s2 f2 h2 => ?_⟩
    have s02 := s01.trans s2
    have n1 : u1 ≠ p := by rintro rfl; rw [upd_same] at f1; cases f1
    have n2 : u2 ≠ p := by rintro rfl; rw [s1 _ _ upd_same] at f2; cases f2
    refine ⟨u1, u2, rfl, ⟨_, SqL.of (s2 _ _ h1)⟩, ⟨_, SqL.of h2⟩, ?_⟩
    refine for_zip (xs := (downs needs).map V.int) (ys := (downs heats).map V.int) (by rw [List.length_map, List.length_map, downs_len, downs_len, hO.len]) (fun i σ H3 => (∃ v w, σ = [some (.ref a), some (.ref b), some (.ref c), some (.int ((n : Int) + 1)), some (.ref p), v, w]) ∧ Same H H3 ∧ H3 u1 = some (.lst ((downs needs).map V.int)) ∧ H3 u2 = some (.lst ((downs heats).map V.int)) ∧ H3 p = some (.lst (((List.range i).map (down (yearsL needs heats ss (n + 1)).heats)).map V.int))) ?_ ?_ ?_ ?_
    · exact ⟨⟨none, none, rfl⟩, s02, s2 _ _ h1, h2, s2 _ _ (s1 _ _ upd_same)⟩
    · rintro i σ H3 _ ⟨_, _, e1, e2, _⟩
      exact ⟨SqL.of e1, SqL.of e2⟩
    · rintro i x y t σ H3 hx hy ⟨⟨v, w, rfl⟩, s3, e1, e2, e3⟩ ht
      have hi : i < needs.length := by
        have := (List.getElem?_eq_some_iff.mp hx).1
        rw [List.length_map, downs_len] at this
        exact this
      rw [List.getElem?_map, downs_get hi] at hx
      rw [List.getElem?_map, downs_get (by rw [hO.len]; exact hi)] at hy
      cases hx
      cases hy
      have dN := hO.needs.down i (by omega)
      have dH := hO.down i (by omega)
      have s4 := s3.trans (Same.upd (o := .tup [.int (down needs i), .int (down heats i)]) ht)
      have k1 := Same.upd (o := .tup [.int (down needs i), .int (down heats i)]) ht _ _ e1
      have k2 := Same.upd (o := .tup [.int (down needs i), .int (down heats i)]) ht _ _ e2
      have k3 := Same.upd (o := .tup [.int (down needs i), .int (down heats i)]) ht _ _ e3
      refine ⟨t, _, rfl, SqT.of upd_same, rfl, _, _, rfl, _, _, rfl, rfl, ?_⟩
      refine ⟨_, rfl, .inl ⟨rfl, _, SqL.of k3⟩, ?_⟩
      refine ⟨_, rfl, _, rfl, down needs i, c, ts, ss, rfl, s4.seq hC, hS.same s4, dN.1, hz, hsl, fun H5 r5 s5 f5 e5 => ?_⟩
      refine ⟨_, rfl, r5, rowR (down needs i) ss, n, rfl, e5, rowR_ok dN.1 ss, hnn, fun H6 r6 s6 e6 => ?_⟩
      refine ⟨_, rfl, r6, _, _, _, _, rfl, SqT.of e6, Rl.rep_ok (rowR_ok dN.1 ss) n, fun H7 s7 => ?_⟩
      have s47 := (s5.trans s6).trans s7
      have ev : clampI (down heats i + ((rowR (down needs i) ss).rep n).d) ((rowR (down needs i) ss).rep n).l ((rowR (down needs i) ss).rep n).m = down (yearsL needs heats ss (n + 1)).heats i := by
        have := rep_ap (full := down needs i) (ss := ss) dN.1 hz0 dH.1 dH.2 n
        rw [down_years hO hz0 (by omega), ← this]
        rfl
      refine ⟨p, _, _, rfl, rfl, s47 _ _ k3, sz1000 (by simp only [List.length_map, List.length_range]; omega), ?_⟩
      refine ⟨⟨_, _, rfl⟩, (s4.trans s47).set fp, by rw [upd_ne n1]; exact s47 _ _ k1, by rw [upd_ne n2]; exact s47 _ _ k2, ?_⟩
      rw [upd_same, ev, List.range_succ, List.map_append, List.map_append]
      rfl
    · rintro σ H3 ⟨⟨v, w, rfl⟩, s3, e1, e2, e3⟩
      rw [List.length_map, downs_len] at e3
      have hl : (yearsL needs heats ss (n + 1)).heats.length = needs.length := hY.len
      generalize (yearsL needs heats ss (n + 1)).heats = R at *
      have eD : downs R = (List.range needs.length).map (down R) := by unfold downs; rw [hl]
      rw [← eD] at e3
      have ec : cutV ((downs R).map V.int) (some ((1 : Nat) : Int)) none = ((downs R).drop 1).map V.int := by rw [cut_dropG, List.map_drop]
      refine ⟨_, rfl, _, rfl, 1, rfl, p, _, rfl, SqL.of e3, fun c1 f1 => ?_⟩
      have t1 := Same.upd (o := .lst (cutV ((downs R).map V.int) (some 1) none)) f1
      refine ⟨sz9, fun c2 f2 => ?_⟩
      have t2 := Same.upd (o := .lst [.int 0]) f2
      refine ⟨c1, c2, _, _, rfl, rfl, t2 _ _ upd_same, upd_same, sz1000' (by rw [show cutV ((downs R).map V.int) (some 1) none = _ from ec]; simp only [List.length_map, List.length_drop, downs_len, List.length_cons, List.length_nil]; omega), fun c3 f3 => ?_⟩
      have t3 := Same.upd (o := .lst (cutV ((downs R).map V.int) (some 1) none ++ [.int 0])) f3
      have t13 := t1.trans (t2.trans t3)
      have e4 := t13 _ _ e3
      have e5 : cutV ((downs R).map V.int) (some 1) none ++ [V.int 0] = ((downs R).drop 1 ++ [0]).map V.int := by
        rw [show cutV ((downs R).map V.int) (some 1) none = _ from ec, List.map_append]; rfl
      refine ⟨p, c3, rfl, ⟨_, SqL.of e4⟩, ⟨_, SqL.of upd_same⟩, fun pw fpw => ?_⟩
      refine comp_zip_ints (xs := downs R) (ys := (downs R).drop 1 ++ [0]) (fun d a => d - a) (by rw [List.length_append, List.length_drop, downs_len, hl]; show _ = _ - 1 + 1; omega) (by rw [downs_len, hl]; exact hn) (SqL.of e4) ?_ fpw (fun x y H Q' q => ⟨_, rfl, _, rfl, _, _, rfl, rfl, q⟩) fun H5 s5 h5 => ?_
      · exact SqL.of (upd_same.trans (by rw [e5]))
      · rw [downs_diff (by omega)] at h5
        exact q _ pw ((s3.trans t13).trans s5) (none_of (s3.trans t13) fpw) h5
abbrev s_missed_later : Stmt := top 39
abbrev N_missed_later : List Str := ["needs", "heats", "year", "times", "rule", "each", "held", "over"]
abbrev P_missed_later : List Str := ["needs", "heats", "year", "times"]
theorem sc_missed_later : FnScope N_missed_later P_missed_later (defScope s_missed_later) := mk9
/-! missed_later -/
def sp_missed_later (K : W.Frag) : Sp := fun vs H Q _ => ∃ (a b c : Addr) (needs heats : List Int) (ts : List Addr) (ss : List (Bool × Int)) (n : Nat), vs = [.ref a, .ref b, .ref c, .int ((n : Int) + 1)] ∧ SqL K H a (needs.map V.int) ∧ SqL K H b (heats.map V.int) ∧ SqL K H c (ts.map V.ref) ∧ SeasAt H ts ss ∧ HeatsOk needs heats ∧ needs.length ≤ 1000 ∧ (∀ z ∈ ss, 0 ≤ z.2 ∧ z.2 ≤ 1000000) ∧ ss.length ≤ 1000 ∧ (n : Int) + 1 ≤ 1000000000000000000 ∧
  stepsH (down needs 0) 0 ss ≤ down heats 0 ∧ down heats 0 ≤ stepsH (down needs 0) (down needs 0) ss ∧
  ∀ (H' : Hp) (t : Addr), Same H H' → H t = none → H' t = some (.tup [.int (yearsL needs heats ss (n + 1)).room, .int (yearsL needs heats ss (n + 1)).heat]) → Q (.ref t) H'
theorem ok_missed_later (F : Fun K "missed_later" "missed_later" s_missed_later f fd) (T : Txt K mg) (o_row_rule : Ok P w K mg base "row_rule" P_row_rule 3 (sp_row_rule K)) (o_passed : Ok P w K mg base "passed" P_passed 3 (sp_passed K)) (o_repeated : Ok P w K mg base "repeated" P_repeated 3 (sp_repeated K)) (o_applied : Ok P w K mg base "applied" P_applied 1 (sp_applied K)) : FnOk P w K mg base CX0 4 f fd P_missed_later (sp_missed_later K) := by
  refine F.ok sc_missed_later (fun vs H Q E h => ?_) (fun cdv A outer s H vs Q E hr h => ?_)
  · obtain ⟨a, b, c, needs, heats, ts, ss, n, rfl, _⟩ := h
    rfl
  · obtain ⟨a, b, c, needs, heats, ts, ss, n, rfl, hA, hB, hC, hS, hO, hn, hz, hsl, hnn, hL, hM, q⟩ := h
    have hz0 : ∀ z ∈ ss, 0 ≤ z.2 := fun z h => (hz z h).1
    have ym := years_miss hO hz0 hL hM (n + 1)
    have dH := hO.down 0 (Nat.zero_le _)
    have dN : 0 ≤ down needs 0 := Int.le_trans dH.1 dH.2
    have eN : needs.sum = down needs 0 := rfl
    have eH : heats.sum = down heats 0 := rfl
    have ra := rep_ap (full := down needs 0) (ss := ss) dN hz0 dH.1 dH.2 n
    rw [show ((n + 1 : Nat) : Int) = (n : Int) + 1 by omega] at ym
    refine ⟨_, (pss_cons (ps_set (i := 4) sc_missed_later.nd rfl (Or.inl rfl) (pe_callO o_row_rule hr (pa_cons (pe_sum (by rfl) T.n_sum (pv 0)) (pa_cons (pv 2) pa_nil))))
      (pss_cons (ps_if (pt_cmpR op_eq (pe_ix ix_tup (pv 4) pe_int (fun _ _ => rfl)) (pe_ix ix_tup (pv 4) pe_int (fun _ _ => rfl)) (nomark _))
        (pss_cons (ps_set (i := 5) sc_missed_later.nd rfl (Or.inl rfl) (pe_callO o_passed hr (pa_cons (pv 0) (pa_cons (pv 1) (pa_cons (pv 2) pa_nil)))))
        (pss_one (ps_ret (pe_tup (pa_cons (pe_op op_mul (pv 3) (pe_ix ix_tup (pv 5) pe_int (fun _ _ => rfl))) (pa_cons (pe_op op_mul (pv 3) (pe_ix ix_tup (pv 5) pe_int (fun _ _ => rfl))) pa_nil))))))
        pss_nil)
      (pss_cons (ps_set (i := 6) sc_missed_later.nd rfl (Or.inl rfl) (pe_sum (by rfl) T.n_sum (pv 1)))
      (pss_cons (ps_set (i := 7) sc_missed_later.nd rfl (Or.inl rfl) (pe_op op_sub (pe_op op_add (pv 6) (pe_op op_mul (pv 3) (pe_ix ix_tup (pv 4) pe_int (fun _ _ => rfl)))) (pe_callO o_applied hr (pa_cons (pe_callO o_repeated hr (pa_cons (pv 4) (pa_cons (pv 3) pa_nil))) (pa_cons (pv 6) pa_nil)))))
      (pss_one (ps_ret (pe_tup (pa_cons (pe_max (by rfl) T.n_max (pv 7) pe_int) (pa_cons (pe_max (by rfl) T.n_max (pe_un un_neg (pv 7)) pe_int) pa_nil))))))))), ?_⟩
    refine ⟨_, rfl, a, needs, rfl, hA, _, rfl, needs.sum, c, ts, ss, rfl, hC, hS, by rw [eN]; exact dN, hz, hsl, fun H1 r1 s1 f1 h1 => ?_⟩
    rw [eN] at h1
    refine ⟨_, rfl, r1, _, _, _, rfl, rfl, SqT.of h1, rfl, _, rfl, r1, _, _, _, rfl, rfl, SqT.of h1, rfl, rfl, _, rfl, ?_⟩
    have hmul : ∀ y : Int, CMul ((n : Int) + 1) y := fun y => .inl ⟨by omega, by omega⟩
    refine ite2 (fun hc => ?_) (fun hc => ?_)
    · have hc : stepsH (down needs 0) 0 ss = stepsH (down needs 0) (down needs 0) ss := V.int.inj (of_decide_eq_true hc)
      obtain ⟨y1, y2⟩ := ym.1 hc
      refine ⟨_, rfl, _, rfl, _, rfl, a, b, c, needs, heats, ts, ss, rfl, s1.seq hA, s1.seq hB, s1.seq hC, hS.same s1, hO, hn, hz, fun H2 t2 p2 s2 ft2 fp2 h2 h2p => ?_⟩
      refine ⟨_, rfl, _, rfl, t2, _, _, _, rfl, rfl, SqT.of h2, rfl, _, _, rfl, rfl, hmul _, ?_⟩
      refine ⟨_, rfl, _, rfl, t2, _, _, _, rfl, rfl, SqT.of h2, rfl, _, _, rfl, rfl, hmul _, sz9, fun t ft => ?_⟩
      refine q _ t ((s1.trans s2).trans (Same.upd ft)) (none_of (s1.trans s2) ft) (upd_same.trans ?_)
      rw [y1, y2]
    · have hc : stepsH (down needs 0) 0 ss ≠ stepsH (down needs 0) (down needs 0) ss := fun c => hc (decide_eq_true (congrArg V.int c))
      obtain ⟨y1, y2⟩ := ym.2 hc
      refine ⟨_, rfl, b, heats, rfl, s1.seq hB, ?_⟩
      refine ⟨_, rfl, _, rfl, _, rfl, r1, _, _, _, rfl, rfl, SqT.of h1, rfl, _, _, rfl, rfl, hmul _, _, _, rfl, rfl, ?_⟩
      refine ⟨_, rfl, _, rfl, r1, rowR (down needs 0) ss, n, rfl, h1, rowR_ok dN ss, hnn, fun H2 r2 s2 h2 => ?_⟩
      refine ⟨_, rfl, r2, _, _, _, _, rfl, SqT.of h2, Rl.rep_ok (rowR_ok dN ss) n, fun H3 s3 => ?_⟩
      refine ⟨_, _, rfl, rfl, ?_⟩
      refine ⟨_, rfl, _, _, rfl, _, rfl, _, rfl, _, _, rfl, sz9, fun t ft => ?_⟩
      refine q _ t ((s1.trans (s2.trans s3)).trans (Same.upd ft)) (none_of (s1.trans (s2.trans s3)) ft) (upd_same.trans ?_)
      have ev : clampI (heats.sum + ((rowR (down needs 0) ss).rep n).d) ((rowR (down needs 0) ss).rep n).l ((rowR (down needs 0) ss).rep n).m = yearsH (down needs 0) (down heats 0) ss (n + 1) := ra
      show some (HO.tup [.int (if heats.sum + ((n : Int) + 1) * addS ss - clampI (heats.sum + ((rowR (down needs 0) ss).rep n).d) ((rowR (down needs 0) ss).rep n).l ((rowR (down needs 0) ss).rep n).m < 0 then 0 else heats.sum + ((n : Int) + 1) * addS ss - clampI (heats.sum + ((rowR (down needs 0) ss).rep n).d) ((rowR (down needs 0) ss).rep n).l ((rowR (down needs 0) ss).rep n).m),
        .int (if -(heats.sum + ((n : Int) + 1) * addS ss - clampI (heats.sum + ((rowR (down needs 0) ss).rep n).d) ((rowR (down needs 0) ss).rep n).l ((rowR (down needs 0) ss).rep n).m) < 0 then 0 else -(heats.sum + ((n : Int) + 1) * addS ss - clampI (heats.sum + ((rowR (down needs 0) ss).rep n).d) ((rowR (down needs 0) ss).rep n).l ((rowR (down needs 0) ss).rep n).m))]) = _
      rw [y1, y2, ev, eH]
      generalize down heats 0 + ((n : Int) + 1) * addS ss - yearsH (down needs 0) (down heats 0) ss (n + 1) = X
      rw [show (if X < 0 then 0 else X) = max X 0 by split <;> omega, show (if -X < 0 then 0 else -X) = max (-X) 0 by split <;> omega]
abbrev s_whole_years : Stmt := top 40
abbrev N_whole_years : List Str := ["needs", "heats", "year", "times", "first", "behind", "missed"]
abbrev P_whole_years : List Str := ["needs", "heats", "year", "times"]
theorem sc_whole_years : FnScope N_whole_years P_whole_years (defScope s_whole_years) := mk9
/-! whole_years -/
def sp_whole_years (K : W.Frag) : Sp := fun vs H Q _ => ∃ (a b c : Addr) (needs heats : List Int) (ts : List Addr) (ss : List (Bool × Int)) (n : Nat), vs = [.ref a, .ref b, .ref c, .int (n : Int)] ∧ SqL K H a (needs.map V.int) ∧ SqL K H b (heats.map V.int) ∧ SqL K H c (ts.map V.ref) ∧ SeasAt H ts ss ∧ HeatsOk needs heats ∧ 1 ≤ needs.length ∧ needs.length ≤ 1000 ∧ (∀ z ∈ ss, 0 ≤ z.2 ∧ z.2 ≤ 1000000) ∧ ss.length ≤ 1000 ∧ (n : Int) ≤ 1000000000000000000 ∧
  ∀ (H' : Hp) (t p : Addr), Same H H' → H t = none → H p = none → H' t = some (.tup [.ref p, .int (yearsL needs heats ss n).room, .int (yearsL needs heats ss n).heat]) → H' p = some (.lst ((yearsL needs heats ss n).heats.map V.int)) → Q (.ref t) H'
theorem ok_whole_years (F : Fun K "whole_years" "whole_years" s_whole_years f fd) (T : Txt K mg) (o_passed : Ok P w K mg base "passed" P_passed 3 (sp_passed K)) (o_heats_later : Ok P w K mg base "heats_later" P_heats_later 4 (sp_heats_later K)) (o_missed_later : Ok P w K mg base "missed_later" P_missed_later 4 (sp_missed_later K)) : FnOk P w K mg base CX0 5 f fd P_whole_years (sp_whole_years K) := by
  refine F.ok sc_whole_years (fun vs H Q E h => ?_) (fun cdv A outer s H vs Q E hr h => ?_)
  · obtain ⟨a, b, c, needs, heats, ts, ss, n, rfl, _⟩ := h
    rfl
  · obtain ⟨a, b, c, needs, heats, ts, ss, n, rfl, hA, hB, hC, hS, hO, hn1, hn, hz, hsl, hnn, q⟩ := h
    have hz0 : ∀ z ∈ ss, 0 ≤ z.2 := fun z h => (hz z h).1
    refine ⟨_, (pss_cons (ps_if (pt_cmpR op_eq (pv 3) pe_int (nomark _))
        (pss_one (ps_ret (pe_tup (pa_cons (pe_list T.n_list (pv 1)) (pa_cons pe_int (pa_cons pe_int pa_nil))))))
        pss_nil)
      (pss_cons (ps_set (i := 4) sc_whole_years.nd rfl (Or.inl rfl) (pe_callO o_passed hr (pa_cons (pv 0) (pa_cons (pv 1) (pa_cons (pv 2) pa_nil)))))
      (pss_cons (ps_if (pt_cmpR op_eq (pv 3) pe_int (nomark _))
        (pss_one (ps_ret (pv 4)))
        pss_nil)
      (pss_cons (ps_set (i := 5) sc_whole_years.nd rfl (Or.inl rfl) (pe_callO o_heats_later hr (pa_cons (pv 0) (pa_cons (pe_ix ix_tup (pv 4) pe_int (fun _ _ => rfl)) (pa_cons (pv 2) (pa_cons (pe_op op_sub (pv 3) pe_int) pa_nil))))))
      (pss_cons (ps_set (i := 6) sc_whole_years.nd rfl (Or.inl rfl) (pe_callO o_missed_later hr (pa_cons (pv 0) (pa_cons (pe_ix ix_tup (pv 4) pe_int (fun _ _ => rfl)) (pa_cons (pv 2) (pa_cons (pe_op op_sub (pv 3) pe_int) pa_nil))))))
      (pss_one (ps_ret (pe_tup (pa_cons (pv 5) (pa_cons (pe_op op_add (pe_ix ix_tup (pv 4) pe_int (fun _ _ => rfl)) (pe_ix ix_tup (pv 6) pe_int (fun _ _ => rfl))) (pa_cons (pe_op op_add (pe_ix ix_tup (pv 4) pe_int (fun _ _ => rfl)) (pe_ix ix_tup (pv 6) pe_int (fun _ _ => rfl))) pa_nil))))))))))), ?_⟩
    refine ⟨_, rfl, rfl, _, rfl, ?_⟩
    refine ite2 (fun hc => ?_) (fun hc => ?_)
    · have hc : (n : Int) = 0 := V.int.inj (of_decide_eq_true hc)
      obtain rfl : n = 0 := by omega
      refine ⟨_, rfl, b, _, rfl, .inl hB, fun p fp => ⟨sz9, fun t ft => ?_⟩⟩
      exact q _ t p ((Same.upd fp).trans (Same.upd ft)) (none_of (Same.upd fp) ft) fp upd_same (Same.upd ft _ _ upd_same)
    · have hc : ¬ (n : Int) = 0 := fun c => hc (decide_eq_true (congrArg V.int c))
      refine ⟨_, rfl, _, rfl, _, rfl, a, b, c, needs, heats, ts, ss, rfl, hA, hB, hC, hS, hO, hn, hz, fun H1 t1 p1 s1 ft1 fp1 h1 h1p => ?_⟩
      refine ⟨_, rfl, rfl, _, rfl, ?_⟩
      refine ite2 (fun hc1 => ?_) (fun hc1 => ?_)
      · have hc1 : (n : Int) = 1 := V.int.inj (of_decide_eq_true hc1)
        obtain rfl : n = 1 := by omega
        exact ⟨_, rfl, q _ t1 p1 s1 ft1 fp1 h1 h1p⟩
      · have hc1 : ¬ (n : Int) = 1 := fun c => hc1 (decide_eq_true (congrArg V.int c))
        obtain ⟨m, rfl⟩ : ∃ m, n = m + 1 + 1 := ⟨n - 2, by omega⟩
        obtain ⟨y1, y2, y3⟩ := years_shift hO hz0 (m + 1)
        have hP := passL_ok hO ss
        have em : ((m + 1 + 1 : Nat) : Int) - 1 = (m : Int) + 1 := by omega
        have dH := hO.down 0 (Nat.zero_le _)
        have e0 : down (passL needs heats ss).heats 0 = stepsH (down needs 0) (down heats 0) ss := down_pass hO hz0 (Nat.zero_le _)
        rw [y1, y2, y3] at q
        refine ⟨_, rfl, _, rfl, t1, _, _, _, rfl, rfl, SqT.of h1, rfl, _, rfl, _, rfl, _, _, rfl, rfl, ?_⟩
        refine ⟨a, p1, c, needs, (passL needs heats ss).heats, ts, ss, m, congrArg (fun z : Int => [V.ref a, V.ref p1, V.ref c, V.int z]) em, s1.seq hA, SqL.of h1p, s1.seq hC, hS.same s1, hP, hn1, hn, hz, hsl, by omega, fun H2 p2 s2 f2 h2 => ?_⟩
        have s12 := s1.trans s2
        refine ⟨_, rfl, _, rfl, t1, _, _, _, rfl, rfl, SqT.of (s2 _ _ h1), rfl, _, rfl, _, rfl, _, _, rfl, rfl, ?_⟩
        refine ⟨a, p1, c, needs, (passL needs heats ss).heats, ts, ss, m, congrArg (fun z : Int => [V.ref a, V.ref p1, V.ref c, V.int z]) em, s12.seq hA, SqL.of (s2 _ _ h1p), s12.seq hC, hS.same s12, hP, hn, hz, hsl, by omega, by rw [e0]; exact stepsH_mono ss dH.1, by rw [e0]; exact stepsH_mono ss dH.2, fun H3 t3 s3 f3 h3 => ?_⟩
        have s13 := s12.trans s3
        refine ⟨_, rfl, _, rfl, t1, _, _, _, rfl, rfl, SqT.of (s3 _ _ (s2 _ _ h1)), rfl, _, rfl, t3, _, _, _, rfl, rfl, SqT.of h3, rfl, _, _, rfl, rfl, ?_⟩
        refine ⟨_, rfl, t1, _, _, _, rfl, rfl, SqT.of (s3 _ _ (s2 _ _ h1)), rfl, _, rfl, t3, _, _, _, rfl, rfl, SqT.of h3, rfl, _, _, rfl, rfl, sz9, fun t ft => ?_⟩
        exact q _ t p2 (s13.trans (Same.upd ft)) (none_of s13 ft) (none_of s1 f2) upd_same (Same.upd ft _ _ (s3 _ _ h2))
abbrev s_passed_until : Stmt := top 41
abbrev N_passed_until : List Str := ["needs", "heats", "year", "at_year", "season", "ahead", "last"]
abbrev P_passed_until : List Str := ["needs", "heats", "year", "at_year", "season"]
theorem sc_passed_until : FnScope N_passed_until P_passed_until (defScope s_passed_until) := mk9
/-! passed_until -/
def sp_passed_until (K : W.Frag) : Sp := fun vs H Q _ => ∃ (a b c : Addr) (needs heats : List Int) (ts : List Addr) (ss : List (Bool × Int)) (n so : Nat), vs = [.ref a, .ref b, .ref c, .int ((n : Int) + 1), .int so] ∧ SqL K H a (needs.map V.int) ∧ SqL K H b (heats.map V.int) ∧ SqL K H c (ts.map V.ref) ∧ SeasAt H ts ss ∧ HeatsOk needs heats ∧ 1 ≤ needs.length ∧ needs.length ≤ 1000 ∧ (∀ z ∈ ss, 0 ≤ z.2 ∧ z.2 ≤ 1000000) ∧ ss.length ≤ 1000 ∧ (n : Int) + 1 ≤ 1000000000000000000 ∧
  ∀ (H' : Hp) (t p : Addr), Same H H' → H t = none → H p = none → H' t = some (.tup [.ref p, .int (untilL needs heats ss n so).room, .int (untilL needs heats ss n so).heat]) → H' p = some (.lst ((untilL needs heats ss n so).heats.map V.int)) → Q (.ref t) H'
theorem ok_passed_until (F : Fun K "passed_until" "passed_until" s_passed_until f fd) (T : Txt K mg) (o_whole_years : Ok P w K mg base "whole_years" P_whole_years 5 (sp_whole_years K)) (o_passed : Ok P w K mg base "passed" P_passed 3 (sp_passed K)) : FnOk P w K mg base CX0 6 f fd P_passed_until (sp_passed_until K) := by
  refine F.ok sc_passed_until (fun vs H Q E h => ?_) (fun cdv A outer s H vs Q E hr h => ?_)
  · obtain ⟨a, b, c, needs, heats, ts, ss, n, so, rfl, _⟩ := h
    rfl
  · obtain ⟨a, b, c, needs, heats, ts, ss, n, so, rfl, hA, hB, hC, hS, hO, hn1, hn, hz, hsl, hnn, q⟩ := h
    have hz0 : ∀ z ∈ ss, 0 ≤ z.2 := fun z h => (hz z h).1
    have hY := yearsL_ok hO ss n
    have es : untilL needs heats ss n so = _ := fold_split (s := yearsL needs heats ss n) (ss := ss.take so) (fun z h => hz0 z (List.mem_of_mem_take h)) hY
    rw [es] at q
    refine ⟨_, (pss_cons (ps_set (i := 5) sc_passed_until.nd rfl (Or.inl rfl) (pe_callO o_whole_years hr (pa_cons (pv 0) (pa_cons (pv 1) (pa_cons (pv 2) (pa_cons (pe_op op_sub (pv 3) pe_int) pa_nil))))))
      (pss_cons (ps_set (i := 6) sc_passed_until.nd rfl (Or.inl rfl) (pe_callO o_passed hr (pa_cons (pv 0) (pa_cons (pe_ix ix_tup (pv 5) pe_int (fun _ _ => rfl)) (pa_cons (pe_slice sl_list (pv 2) po_none (po_some (pv 4))) pa_nil)))))
      (pss_one (ps_ret (pe_tup (pa_cons (pe_ix ix_tup (pv 6) pe_int (fun _ _ => rfl)) (pa_cons (pe_op op_add (pe_ix ix_tup (pv 5) pe_int (fun _ _ => rfl)) (pe_ix ix_tup (pv 6) pe_int (fun _ _ => rfl))) (pa_cons (pe_op op_add (pe_ix ix_tup (pv 5) pe_int (fun _ _ => rfl)) (pe_ix ix_tup (pv 6) pe_int (fun _ _ => rfl))) pa_nil)))))))), ?_⟩
    refine ⟨_, rfl, _, rfl, _, rfl, _, rfl, _, _, rfl, rfl, a, b, c, needs, heats, ts, ss, n, congrArg (fun z : Int => [V.ref a, V.ref b, V.ref c, V.int z]) (show (n : Int) + 1 - 1 = n by omega), hA, hB, hC, hS, hO, hn1, hn, hz, hsl, by omega, fun H1 t1 p1 s1 ft1 fp1 h1 h1p => ?_⟩
    have ec : cutV (ts.map V.ref) none (some (so : Int)) = (ts.take so).map V.ref := by rw [cut_takeG, List.map_take]
    refine ⟨_, rfl, _, rfl, t1, _, _, _, rfl, rfl, SqT.of h1, rfl, _, rfl, _, rfl, _, rfl, c, _, rfl, s1.seq hC, fun c2 f2 => ?_⟩
    have t2 := Same.upd (o := .lst (cutV (ts.map V.ref) none (some (so : Int)))) f2
    have s12 := s1.trans t2
    refine ⟨a, p1, c2, needs, _, ts.take so, ss.take so, rfl, s12.seq hA, SqL.of (t2 _ _ h1p), SqL.of (upd_same.trans (by rw [ec])), (hS.same s12).take so, hY, hn, fun z h => hz z (List.mem_of_mem_take h), fun H3 t3 p3 s3 ft3 fp3 h3 h3p => ?_⟩
    have s13 := s12.trans s3
    have h13 := s3 _ _ (t2 _ _ h1)
    refine ⟨_, rfl, t3, _, _, _, rfl, rfl, SqT.of h3, rfl, ?_⟩
    refine ⟨_, rfl, t1, _, _, _, rfl, rfl, SqT.of h13, rfl, _, rfl, t3, _, _, _, rfl, rfl, SqT.of h3, rfl, _, _, rfl, rfl, ?_⟩
    refine ⟨_, rfl, t1, _, _, _, rfl, rfl, SqT.of h13, rfl, _, rfl, t3, _, _, _, rfl, rfl, SqT.of h3, rfl, _, _, rfl, rfl, sz9, fun t ft => ?_⟩
    exact q _ t p3 (s13.trans (Same.upd ft)) (none_of s13 ft) (none_of s12 fp3) upd_same (Same.upd ft _ _ h3p)
abbrev s_years_passed : Stmt := top 42
abbrev N_years_passed : List Str := ["needs", "heats", "year", "times"]
abbrev P_years_passed : List Str := ["needs", "heats", "year", "times"]
theorem sc_years_passed : FnScope N_years_passed P_years_passed (defScope s_years_passed) := mk9
/-! years_passed -/
def sp_years_passedX (K : W.Frag) (mg : Str → Option Value) : Sp := fun vs H _ E => ∃ (va vb : V) (c : Addr) (ts : List Addr) (ss : List (Bool × Int)) (m : Int), vs = [va, vb, .ref c, .int m] ∧ SqL K H c (ts.map V.ref) ∧ SeasAt H ts ss ∧ (¬ (1 ≤ ss.length ∧ ss.length ≤ 12) → Thr mg "BadYear" E H) ∧ (1 ≤ ss.length ∧ ss.length ≤ 12 → ¬ (∀ z ∈ ss, GoodAm z.2) → Thr mg "BadAmount" E H) ∧ (1 ≤ ss.length ∧ ss.length ≤ 12 → (∀ z ∈ ss, GoodAm z.2) → ¬ (1 ≤ m ∧ m ≤ 1000000000000000000) ∧ Thr mg "BadTimes" E H)
def sp_years_passed (K : W.Frag) : Sp := fun vs H Q _ => ∃ (a b c : Addr) (needs heats : List Int) (ts : List Addr) (ss : List (Bool × Int)) (n : Nat), vs = [.ref a, .ref b, .ref c, .int ((n : Int) + 1)] ∧ SqL K H a (needs.map V.int) ∧ SqL K H b (heats.map V.int) ∧ SqL K H c (ts.map V.ref) ∧ SeasAt H ts ss ∧ Beds needs heats ∧ (∀ z ∈ ss, 0 ≤ z.2 ∧ z.2 ≤ 1000000) ∧ 1 ≤ ss.length ∧ ss.length ≤ 12 ∧ (n : Int) + 1 ≤ 1000000000000000000 ∧
  ∀ (H' : Hp) (t p : Addr), Same H H' → H t = none → H p = none → H' t = some (.tup [.ref p, .int (yearsL needs heats ss (n + 1)).room, .int (yearsL needs heats ss (n + 1)).heat]) → H' p = some (.lst ((yearsL needs heats ss (n + 1)).heats.map V.int)) → Q (.ref t) H'
theorem ok_years_passed (F : Fun K "years_passed" "years_passed" s_years_passed f fd) (T : Txt K mg) (o_check_year : Ok P w K mg base "check_year" P_check_year 2 (sp_check_year K)) (o_check_times : Ok P w K mg base "check_times" P_check_times 1 sp_check_times) (o_whole_years : Ok P w K mg base "whole_years" P_whole_years 5 (sp_whole_years K)) : FnOk P w K mg base CX0 6 f fd P_years_passed (sp_years_passed K) := by
  refine F.ok sc_years_passed (fun vs H Q E h => ?_) (fun cdv A outer s H vs Q E hr h => ?_)
  · obtain ⟨a, b, c, needs, heats, ts, ss, n, rfl, _⟩ := h
    rfl
  · obtain ⟨a, b, c, needs, heats, ts, ss, n, rfl, hA, hB, hC, hS, hO, hz, hs1, hs2, hnn, q⟩ := h
    have B1 := hO.lo
    have B2 := hO.hi
    refine ⟨_, (pss_cons (ps_expr (pe_callO o_check_year hr (pa_cons (pv 2) pa_nil)))
      (pss_cons (ps_expr (pe_callO o_check_times hr (pa_cons (pv 3) pa_nil)))
      (pss_one (ps_ret (pe_callO o_whole_years hr (pa_cons (pv 0) (pa_cons (pv 1) (pa_cons (pv 2) (pa_cons (pv 3) pa_nil))))))))), ?_⟩
    refine ⟨_, rfl, c, ts, ss, rfl, hC, hS, hz, hs1, hs2, ?_⟩
    refine ⟨_, rfl, _, rfl, by omega, hnn, ?_⟩
    exact ⟨_, rfl, _, rfl, _, rfl, _, rfl, a, b, c, needs, heats, ts, ss, n + 1, congrArg (fun z : Int => [V.ref a, V.ref b, V.ref c, V.int z]) (show (n : Int) + 1 = ((n + 1 : Nat) : Int) by omega), hA, hB, hC, hS, hO.ok, by omega, by omega, hz, by omega, by omega, q⟩
theorem ok_years_passedX (F : Fun K "years_passed" "years_passed" s_years_passed f fd) (T : Txt K mg) (o_check_yearX : OkX P w K mg base "check_year" P_check_year 2 (sp_check_yearX K mg)) (o_check_timesX : OkX P w K mg base "check_times" P_check_times 1 (sp_check_timesX mg)) : FnOk P w K mg base (CX1 P w) 6 f fd P_years_passed (sp_years_passedX K mg) := by
  refine F.okX sc_years_passed (fun vs H Q E h => ?_) (fun cdv A outer s H vs Q E hr h => ?_)
  · obtain ⟨va, vb, c, ts, ss, m, rfl, _⟩ := h
    rfl
  · obtain ⟨va, vb, c, ts, ss, m, rfl, hC, hS, e5, e6, e7⟩ := h
    refine ⟨_, (pss_cons (ps_expr (pe_callX o_check_yearX hr (pass_fn (E := E)) (pa_cons (pv 2) pa_nil)))
      (pss_cons (ps_expr (pe_callX o_check_timesX hr (pass_fn (E := E)) (pa_cons (pv 3) pa_nil)))
      pss_never)), ?_⟩
    exact ⟨_, rfl, c, ts, ss, rfl, hC, hS, e5, fun hl => ⟨fun hz => ⟨_, rfl, m, rfl, fun g => absurd g (e7 hl hz).1, fun _ => (e7 hl hz).2⟩, e6 hl⟩⟩
abbrev s_heats_at : Stmt := top 43
abbrev N_heats_at : List Str := ["needs", "heats", "year", "at_year", "season"]
abbrev P_heats_at : List Str := ["needs", "heats", "year", "at_year", "season"]
theorem sc_heats_at : FnScope N_heats_at P_heats_at (defScope s_heats_at) := mk9
/-! heats_at -/
def sp_heats_atX (K : W.Frag) (mg : Str → Option Value) : Sp := fun vs H _ E => ∃ (va vb : V) (c : Addr) (ts : List Addr) (ss : List (Bool × Int)) (m n : Int), vs = [va, vb, .ref c, .int m, .int n] ∧ SqL K H c (ts.map V.ref) ∧ SeasAt H ts ss ∧ (¬ (1 ≤ ss.length ∧ ss.length ≤ 12) → Thr mg "BadYear" E H) ∧ (1 ≤ ss.length ∧ ss.length ≤ 12 → ¬ (∀ z ∈ ss, GoodAm z.2) → Thr mg "BadAmount" E H) ∧ (1 ≤ ss.length ∧ ss.length ≤ 12 → (∀ z ∈ ss, GoodAm z.2) → ¬ (1 ≤ m ∧ m ≤ 1000000000000000000 ∧ 1 ≤ n ∧ n ≤ (ss.length : Int)) ∧ Thr mg "UnknownSeason" E H)
def sp_heats_at (K : W.Frag) : Sp := fun vs H Q _ => ∃ (a b c : Addr) (needs heats : List Int) (ts : List Addr) (ss : List (Bool × Int)) (n so : Nat), vs = [.ref a, .ref b, .ref c, .int ((n : Int) + 1), .int so] ∧ SqL K H a (needs.map V.int) ∧ SqL K H b (heats.map V.int) ∧ SqL K H c (ts.map V.ref) ∧ SeasAt H ts ss ∧ Beds needs heats ∧ (∀ z ∈ ss, 0 ≤ z.2 ∧ z.2 ≤ 1000000) ∧ 1 ≤ ss.length ∧ ss.length ≤ 12 ∧ (n : Int) + 1 ≤ 1000000000000000000 ∧ 1 ≤ so ∧ so ≤ ss.length ∧
  ∀ (H' : Hp) (p : Addr), Same H H' → H p = none → H' p = some (.lst ((farL needs heats ss n so).map V.int)) → Q (.ref p) H'
theorem ok_heats_at (F : Fun K "heats_at" "heats_at" s_heats_at f fd) (T : Txt K mg) (o_check_year : Ok P w K mg base "check_year" P_check_year 2 (sp_check_year K)) (o_check_season : Ok P w K mg base "check_season" P_check_season 1 sp_check_season) (o_passed_until : Ok P w K mg base "passed_until" P_passed_until 6 (sp_passed_until K)) : FnOk P w K mg base CX0 7 f fd P_heats_at (sp_heats_at K) := by
  refine F.ok sc_heats_at (fun vs H Q E h => ?_) (fun cdv A outer s H vs Q E hr h => ?_)
  · obtain ⟨a, b, c, needs, heats, ts, ss, n, so, rfl, _⟩ := h
    rfl
  · obtain ⟨a, b, c, needs, heats, ts, ss, n, so, rfl, hA, hB, hC, hS, hO, hz, hs1, hs2, hnn, ho1, ho2, q⟩ := h
    have hl : ((ts.map V.ref).length : Int) = ss.length := by rw [List.length_map, hS.len]
    have B1 := hO.lo
    have B2 := hO.hi
    refine ⟨_, (pss_cons (ps_expr (pe_callO o_check_year hr (pa_cons (pv 2) pa_nil)))
      (pss_cons (ps_expr (pe_callO o_check_season hr (pa_cons (pe_gint T.g_MOST_TIMES) (pa_cons (pe_len T.n_len (pv 2)) (pa_cons (pv 3) (pa_cons (pv 4) pa_nil))))))
      (pss_one (ps_ret (pe_ix ix_tup (pe_callO o_passed_until hr (pa_cons (pv 0) (pa_cons (pv 1) (pa_cons (pv 2) (pa_cons (pv 3) (pa_cons (pv 4) pa_nil)))))) pe_int (fun _ _ => rfl)))))), ?_⟩
    refine ⟨_, rfl, c, ts, ss, rfl, hC, hS, hz, hs1, hs2, ?_⟩
    refine ⟨_, rfl, c, _, rfl, .inl hC, _, rfl, _, rfl, _, _, _, _, rfl, by omega, by omega, by omega, by omega, ?_⟩
    refine ⟨_, rfl, _, rfl, _, rfl, _, rfl, _, rfl, a, b, c, needs, heats, ts, ss, n, so, rfl, hA, hB, hC, hS, hO.ok, by omega, by omega, hz, by omega, hnn, fun H1 t p s1 ft fp h1 h1p => ?_⟩
    exact ⟨t, _, _, _, rfl, rfl, SqT.of h1, rfl, q _ p s1 fp h1p⟩
theorem ok_heats_atX (F : Fun K "heats_at" "heats_at" s_heats_at f fd) (T : Txt K mg) (o_check_yearX : OkX P w K mg base "check_year" P_check_year 2 (sp_check_yearX K mg)) (o_check_seasonX : OkX P w K mg base "check_season" P_check_season 1 (sp_check_seasonX mg)) : FnOk P w K mg base (CX1 P w) 7 f fd P_heats_at (sp_heats_atX K mg) := by
  refine F.okX sc_heats_at (fun vs H Q E h => ?_) (fun cdv A outer s H vs Q E hr h => ?_)
  · obtain ⟨va, vb, c, ts, ss, m, n, rfl, _⟩ := h
    rfl
  · obtain ⟨va, vb, c, ts, ss, m, n, rfl, hC, hS, e5, e6, e8⟩ := h
    refine ⟨_, (pss_cons (ps_expr (pe_callX o_check_yearX hr (pass_fn (E := E)) (pa_cons (pv 2) pa_nil)))
      (pss_cons (ps_expr (pe_callX o_check_seasonX hr (pass_fn (E := E)) (pa_cons (pe_gint T.g_MOST_TIMES) (pa_cons (pe_len T.n_len (pv 2)) (pa_cons (pv 3) (pa_cons (pv 4) pa_nil))))))
      pss_never)), ?_⟩
    have hl : ((ts.map V.ref).length : Int) = (ss.length : Int) := by rw [List.length_map, hS.len]
    refine ⟨_, rfl, c, ts, ss, rfl, hC, hS, e5, fun hl => ⟨fun hz => ?_, e6 hl⟩⟩
    obtain ⟨bad, hE⟩ := e8 hl hz
    refine ⟨_, rfl, c, _, rfl, .inl hC, _, rfl, _, rfl, 1000000000000000000, ss.length, m, n, ?_, Nat.le_refl _, by omega, fun g => absurd g bad, fun _ C x hm hx => hE C x H hm (Same.refl _) hx⟩
    rw [List.length_map, hS.len]; rfl
abbrev s_rest_down_to : Stmt := top 44
abbrev N_rest_down_to : List Str := ["full", "held", "year", "rule", "first", "end", "step"]
abbrev P_rest_down_to : List Str := ["full", "held", "year"]
theorem sc_rest_down_to : FnScope N_rest_down_to P_rest_down_to (defScope s_rest_down_to) := mk9
/-! rest_down_to -/
def sp_rest_down_to (K : W.Frag) : Sp := fun vs H Q _ => ∃ (c : Addr) (full x : Int) (ts : List Addr) (ss : List (Bool × Int)), vs = [.int full, .int x, .ref c] ∧ SqL K H c (ts.map V.ref) ∧ SeasAt H ts ss ∧ 0 ≤ x ∧ x ≤ full ∧ (∀ z ∈ ss, 0 ≤ z.2 ∧ z.2 ≤ 1000000) ∧ ss.length ≤ 1000 ∧
  ∀ (H' : Hp) (r : Nat), Same H H' → RestH full x ss r → Q (.int r) H'
theorem ok_rest_down_to (F : Fun K "rest_down_to" "rest_down_to" s_rest_down_to f fd) (T : Txt K mg) (o_row_rule : Ok P w K mg base "row_rule" P_row_rule 3 (sp_row_rule K)) (o_applied : Ok P w K mg base "applied" P_applied 1 (sp_applied K)) : FnOk P w K mg base CX0 4 f fd P_rest_down_to (sp_rest_down_to K) := by
  refine F.ok sc_rest_down_to (fun vs H Q E h => ?_) (fun cdv A outer s H vs Q E hr h => ?_)
  · obtain ⟨c, full, x, ts, ss, rfl, _⟩ := h
    rfl
  · obtain ⟨c, full, x, ts, ss, rfl, hC, hS, h0, h1, hz, hsl, q⟩ := h
    have hz0 : ∀ z ∈ ss, 0 ≤ z.2 := fun z h => (hz z h).1
    have hf : 0 ≤ full := Int.le_trans h0 h1
    have ea : clampI (x + (rowR full ss).d) (rowR full ss).l (rowR full ss).m = stepsH full x ss := rowR_ap hz0 h0 h1
    have bd := addS_bound ss hz
    have l := stepsH_mono (full := full) ss h0
    have m := stepsH_mono (full := full) ss h1
    refine ⟨_, (pss_cons (ps_set (i := 3) sc_rest_down_to.nd rfl (Or.inl rfl) (pe_callO o_row_rule hr (pa_cons (pv 0) (pa_cons (pv 2) pa_nil))))
      (pss_cons (ps_set (i := 4) sc_rest_down_to.nd rfl (Or.inl rfl) (pe_callO o_applied hr (pa_cons (pv 3) (pa_cons (pv 1) pa_nil))))
      (pss_cons (ps_if (pt_cmpR op_eq (pv 4) (pv 1) (nomark _))
        (pss_one (ps_ret pe_int))
        pss_nil)
      (pss_cons (ps_if (pt_cmpR op_eq (pe_ix ix_tup (pv 3) pe_int (fun _ _ => rfl)) pe_int (nomark _))
        (pss_one (ps_ret pe_int))
        pss_nil)
      (pss_cons (ps_set (i := 5) sc_rest_down_to.nd rfl (Or.inl rfl) (pe_ifExp (pt_cmpR op_gt (pe_ix ix_tup (pv 3) pe_int (fun _ _ => rfl)) pe_int (nomark _)) (pe_ix ix_tup (pv 3) pe_int (fun _ _ => rfl)) (pe_ix ix_tup (pv 3) pe_int (fun _ _ => rfl))))
      (pss_cons (ps_set (i := 6) sc_rest_down_to.nd rfl (Or.inl rfl) (pe_abs T.n_abs (pe_ix ix_tup (pv 3) pe_int (fun _ _ => rfl))))
      (pss_one (ps_ret (pe_op op_add pe_int (pe_op op_fdiv (pe_op op_sub (pe_op op_add (pe_abs T.n_abs (pe_op op_sub (pv 5) (pv 4))) (pv 6)) pe_int) (pv 6))))))))))), ?_⟩
    refine ⟨_, rfl, _, rfl, full, c, ts, ss, rfl, hC, hS, hf, hz, hsl, fun H1 r1 s1 f1 e1 => ?_⟩
    refine ⟨_, rfl, _, rfl, r1, (rowR full ss).d, (rowR full ss).l, (rowR full ss).m, x, rfl, SqT.of e1, rowR_ok hf ss, fun H2 s2 => ?_⟩
    rw [ea]
    have s12 := s1.trans s2
    have e2 := s2 _ _ e1
    refine ⟨_, rfl, _, rfl, rfl, _, rfl, ?_⟩
    refine ite2 (fun hc => ?_) (fun hc => ?_)
    · exact q _ 1 s12 (rest_one (V.int.inj (of_decide_eq_true hc)))
    · have ne : stepsH full x ss ≠ x := fun c => hc (decide_eq_true (congrArg V.int c))
      refine ⟨_, rfl, r1, _, _, _, rfl, rfl, SqT.of e2, rfl, rfl, _, rfl, ?_⟩
      refine ite2 (fun hc => ?_) (fun hc => ?_)
      · have hd : addS ss = 0 := V.int.inj (of_decide_eq_true hc)
        exact q _ 2 s12 (rest_two hf hz0 h0 h1 ne hd)
      · have hd : addS ss ≠ 0 := fun c => hc (decide_eq_true (congrArg V.int c))
        refine ⟨_, rfl, r1, _, _, _, rfl, rfl, SqT.of e2, rfl, _, _, rfl, rfl, _, rfl, ?_⟩
        refine ite2 (fun hp => ?_) (fun hp => ?_)
        · have hp : 0 < addS ss := of_decide_eq_true hp
          refine ⟨_, rfl, r1, _, _, _, rfl, rfl, SqT.of e2, rfl, ?_⟩
          refine ⟨_, rfl, r1, _, _, _, rfl, rfl, SqT.of e2, rfl, _, rfl, ?_⟩
          have eA : (if (rowR full ss).d < 0 then -(rowR full ss).d else (rowR full ss).d) = addS ss := if_neg (by show ¬ addS ss < 0; omega)
          refine ⟨_, rfl, _, rfl, _, _, rfl, rfl, _, rfl, _, rfl, _, _, rfl, rfl, _, _, rfl, rfl, _, rfl, _, _, rfl, rfl, ?_, _, _, rfl, rfl, ?_⟩
          · show (0 : Int) < (if (rowR full ss).d < 0 then -(rowR full ss).d else (rowR full ss).d) ∧ (if (rowR full ss).d < 0 then -(rowR full ss).d else (rowR full ss).d) < 1073741824
            rw [eA]; omega
          · obtain ⟨k, k1, k2, k3⟩ := ceil_steps (e := stepsH full full ss - stepsH full x ss) (d := addS ss) (by omega) hp
            have := q _ (k + 2) s12 (rest_up hf hz0 h0 h1 ne (q := k) (by omega) (fun j hj => by have := k3 j hj; omega) (by omega))
            have ev : (((k + 2 : Nat) : Int)) = 2 + ((if stepsH full full ss - stepsH full x ss < 0 then -(stepsH full full ss - stepsH full x ss) else stepsH full full ss - stepsH full x ss) + (if addS ss < 0 then -addS ss else addS ss) - 1) / (if addS ss < 0 then -addS ss else addS ss) := by
              rw [if_neg (by omega), if_neg (by omega), k1]; omega
            rw [ev] at this
            exact this
        · have hp : ¬ 0 < addS ss := fun c => hp (decide_eq_true c)
          refine ⟨_, rfl, r1, _, _, _, rfl, rfl, SqT.of e2, rfl, ?_⟩
          refine ⟨_, rfl, r1, _, _, _, rfl, rfl, SqT.of e2, rfl, _, rfl, ?_⟩
          have eA : (if (rowR full ss).d < 0 then -(rowR full ss).d else (rowR full ss).d) = -addS ss := if_pos (by show addS ss < 0; omega)
          refine ⟨_, rfl, _, rfl, _, _, rfl, rfl, _, rfl, _, rfl, _, _, rfl, rfl, _, _, rfl, rfl, _, rfl, _, _, rfl, rfl, ?_, _, _, rfl, rfl, ?_⟩
          · show (0 : Int) < (if (rowR full ss).d < 0 then -(rowR full ss).d else (rowR full ss).d) ∧ (if (rowR full ss).d < 0 then -(rowR full ss).d else (rowR full ss).d) < 1073741824
            rw [eA]; omega
          · obtain ⟨k, k1, k2, k3⟩ := ceil_steps (e := stepsH full x ss - stepsH full 0 ss) (d := -addS ss) (by omega) (by omega)
            rw [Int.mul_neg] at k2
            have := q _ (k + 2) s12 (rest_dn hf hz0 h0 h1 ne (q := k) (by omega) (fun j hj => by have := k3 j hj; rw [Int.mul_neg] at this; omega) (by omega))
            have ev : (((k + 2 : Nat) : Int)) = 2 + ((if stepsH full 0 ss - stepsH full x ss < 0 then -(stepsH full 0 ss - stepsH full x ss) else stepsH full 0 ss - stepsH full x ss) + (if addS ss < 0 then -addS ss else addS ss) - 1) / (if addS ss < 0 then -addS ss else addS ss) := by
              have e3 : (if stepsH full 0 ss - stepsH full x ss < 0 then -(stepsH full 0 ss - stepsH full x ss) else stepsH full 0 ss - stepsH full x ss) = stepsH full x ss - stepsH full 0 ss := by split <;> omega
              rw [e3, if_pos (by omega), k1]; omega
            rw [ev] at this
            exact this
abbrev s_rest_of : Stmt := top 45
abbrev N_rest_of : List Str := ["needs", "heats", "year"]
abbrev P_rest_of : List Str := ["needs", "heats", "year"]
theorem sc_rest_of : FnScope N_rest_of P_rest_of (defScope s_rest_of) := mk9
/-! rest_of -/
def sp_rest_ofX (K : W.Frag) (mg : Str → Option Value) : Sp := fun vs H _ E => ∃ (va vb : V) (c : Addr) (ts : List Addr) (ss : List (Bool × Int)), vs = [va, vb, .ref c] ∧ SqL K H c (ts.map V.ref) ∧ SeasAt H ts ss ∧ (¬ (1 ≤ ss.length ∧ ss.length ≤ 12) → Thr mg "BadYear" E H) ∧ (1 ≤ ss.length ∧ ss.length ≤ 12 → ¬ (∀ z ∈ ss, GoodAm z.2) → Thr mg "BadAmount" E H) ∧ ¬ ((1 ≤ ss.length ∧ ss.length ≤ 12) ∧ (∀ z ∈ ss, GoodAm z.2))
def sp_rest_of (K : W.Frag) : Sp := fun vs H Q _ => ∃ (a b c : Addr) (needs heats : List Int) (ts : List Addr) (ss : List (Bool × Int)), vs = [.ref a, .ref b, .ref c] ∧ SqL K H a (needs.map V.int) ∧ SqL K H b (heats.map V.int) ∧ SqL K H c (ts.map V.ref) ∧ SeasAt H ts ss ∧ Beds needs heats ∧ (∀ z ∈ ss, 0 ≤ z.2 ∧ z.2 ≤ 1000000) ∧ 1 ≤ ss.length ∧ ss.length ≤ 12 ∧
  ∀ (H' : Hp) (r : Nat), Same H H' → IsRest needs heats ss r → Q (.int r) H'
theorem ok_rest_of (F : Fun K "rest_of" "rest_of" s_rest_of f fd) (T : Txt K mg) (o_check_year : Ok P w K mg base "check_year" P_check_year 2 (sp_check_year K)) (o_each_down_to : Ok P w K mg base "each_down_to" P_each_down_to 1 (sp_each_down_to K)) (o_rest_down_to : Ok P w K mg base "rest_down_to" P_rest_down_to 4 (sp_rest_down_to K)) : FnOk P w K mg base CX0 5 f fd P_rest_of (sp_rest_of K) := by
  refine F.ok sc_rest_of (fun vs H Q E h => ?_) (fun cdv A outer s H vs Q E hr h => ?_)
  · obtain ⟨a, b, c, needs, heats, ts, ss, rfl, _⟩ := h
    rfl
  · obtain ⟨a, b, c, needs, heats, ts, ss, rfl, hA, hB, hC, hS, hO, hz, hs1, hs2, q⟩ := h
    have hz0 : ∀ z ∈ ss, 0 ≤ z.2 := fun z h => (hz z h).1
    have B1 := hO.lo
    have B2 := hO.hi
    have B3 := hO.len
    refine ⟨_, (pss_cons (ps_expr (pe_callO o_check_year hr (pa_cons (pv 2) pa_nil)))
      (pss_one (ps_ret (pe_max1 (by rfl) T.n_max (pe_comp rfl (CompScope.of (T := ["full", "held"]) (js := [2]) (defScope s_rest_of).names N_rest_of rfl rfl rfl (by decide +kernel)) (pi_zip (by rfl) T.n_zip (pa_cons (pe_callO o_each_down_to hr (pa_cons (pv 0) pa_nil)) (pa_cons (pe_callO o_each_down_to hr (pa_cons (pv 1) pa_nil)) pa_nil))) (fun _ _ _ _ => ⟨(pg_tupK K (n := 2) (by rfl) (pgs_cons (pg_name (i := 0) (by show List.Nodup (["full", "held", "year"] : List Str); decide +kernel) rfl (Or.inl rfl)) (pgs_cons (pg_name (i := 1) (by show List.Nodup (["full", "held", "year"] : List Str); decide +kernel) rfl (Or.inl rfl)) pgs_nil))), pif_nil, (pe_callO o_rest_down_to hr (pa_cons (pv 0) (pa_cons (pv 1) (pa_cons (pv 2) pa_nil))))⟩)))))), ?_⟩
    refine ⟨_, rfl, c, ts, ss, rfl, hC, hS, hz, hs1, hs2, ?_⟩
    refine ⟨_, rfl, a, needs, rfl, hA, by omega, fun H1 u1 s1 f1 h1 => ?_⟩
    refine ⟨_, rfl, b, heats, rfl, s1.seq hB, by omega, fun H2 u2 s2 f2 h2 => ?_⟩
    have s12 := s1.trans s2
    refine ⟨u1, u2, rfl, ⟨_, SqL.of (s2 _ _ h1)⟩, ⟨_, SqL.of h2⟩, fun p fp => ?_⟩
    refine comp_zip (xs := (downs needs).map V.int) (ys := (downs heats).map V.int) (by rw [List.length_map, List.length_map, downs_len, downs_len, B3]) (fun i σ H3 => (∃ v w, σ = [v, w, some (.ref c)]) ∧ Same H2 H3 ∧ ∃ rs : List Nat, H3 p = some (.lst ((rs.map Nat.cast).map V.int)) ∧ rs.length = i ∧ ∀ j r, rs[j]? = some r → RestH (down needs j) (down heats j) ss r) ?_ ?_ ?_ ?_
    · exact ⟨⟨none, none, rfl⟩, Same.upd fp, [], upd_same, rfl, fun j r e => by simp at e⟩
    · rintro i σ H3 _ ⟨_, s3, _⟩
      exact ⟨SqL.of (s3 _ _ (s2 _ _ h1)), SqL.of (s3 _ _ h2)⟩
    · rintro i x y t σ H3 hx hy ⟨⟨v, w, rfl⟩, s3, rs, h3, hl, hR⟩ ht
      have hi : i < needs.length := by
        have := (List.getElem?_eq_some_iff.mp hx).1
        rw [List.length_map, downs_len] at this
        exact this
      rw [List.getElem?_map, downs_get hi] at hx
      rw [List.getElem?_map, downs_get (by omega)] at hy
      cases hx
      cases hy
      have s4 := (s12.trans s3).trans (Same.upd (o := .tup [.int (down needs i), .int (down heats i)]) ht)
      have dH := hO.ok.down i (by omega)
      refine compT_two (SqT.of upd_same) ?_
      refine ⟨_, rfl, _, rfl, _, rfl, c, down needs i, down heats i, ts, ss, rfl, s4.seq hC, hS.same s4, dH.1, dH.2, hz, by omega, fun H5 r s5 hr5 => ?_⟩
      have h5 := s5 _ _ (Same.upd (o := .tup [.int (down needs i), .int (down heats i)]) ht _ _ h3)
      refine ⟨_, h5, sz1000 (by rw [List.length_map, List.length_map]; omega), ⟨_, _, rfl⟩, ((s3.trans (Same.upd ht)).trans s5).set fp, rs ++ [r], ?_, by rw [List.length_append, hl]; rfl, fun j k e => ?_⟩
      · rw [upd_same, List.map_append, List.map_append]; rfl
      · by_cases hj : j < rs.length
        · rw [List.getElem?_append_left hj] at e
          exact hR j k e
        · rw [List.getElem?_append_right (by omega)] at e
          have : j - rs.length = 0 := by
            by_cases h : j - rs.length = 0
            · exact h
            · rw [List.getElem?_eq_none (by simp; omega)] at e; cases e
          rw [this] at e
          cases e
          have : j = i := by omega
          subst this
          exact hr5
    · rintro σ H3 ⟨_, s3, rs, h3, hl, hR⟩
      rw [List.length_map, downs_len] at hl
      refine ⟨p, rs.map Nat.cast, rfl, SqL.of h3, by rw [List.length_map]; omega, fun M hM hm => ?_⟩
      obtain ⟨R, hR1, rfl⟩ := List.mem_map.mp hM
      exact q _ R (s12.trans s3) (rest_max hO.ok hz0 B1 hl hR hR1 fun r hr => by have := hm _ (List.mem_map.mpr ⟨r, hr, rfl⟩); omega)
theorem ok_rest_ofX (F : Fun K "rest_of" "rest_of" s_rest_of f fd) (T : Txt K mg) (o_check_yearX : OkX P w K mg base "check_year" P_check_year 2 (sp_check_yearX K mg)) : FnOk P w K mg base (CX1 P w) 5 f fd P_rest_of (sp_rest_ofX K mg) := by
  refine F.okX sc_rest_of (fun vs H Q E h => ?_) (fun cdv A outer s H vs Q E hr h => ?_)
  · obtain ⟨va, vb, c, ts, ss, rfl, _⟩ := h
    rfl
  · obtain ⟨va, vb, c, ts, ss, rfl, hC, hS, e5, e6, bad⟩ := h
    refine ⟨_, (pss_cons (ps_expr (pe_callX o_check_yearX hr (pass_fn (E := E)) (pa_cons (pv 2) pa_nil)))
      pss_never), ?_⟩
    exact ⟨_, rfl, c, ts, ss, rfl, hC, hS, e5, fun hl => ⟨fun hz => absurd ⟨hl, hz⟩ bad, e6 hl⟩⟩
abbrev s_first_season : Stmt := top 46
abbrev N_first_season : List Str := ["needs", "heats", "bed", "year", "down", "above", "full_down", "full_above", "rules_down", "rules_above", "rest", "at_year", "place"]
abbrev P_first_season : List Str := ["needs", "heats", "bed", "year"]
theorem sc_first_season : FnScope N_first_season P_first_season (defScope s_first_season) := mk9
/-! first_season -/
def sp_first_seasonX (K : W.Frag) (mg : Str → Option Value) : Sp := fun vs H _ E => ∃ (a : Addr) (vb : V) (b : Int) (needs : List Int) (c : Addr) (ts : List Addr) (ss : List (Bool × Int)), vs = [.ref a, vb, .int b, .ref c] ∧ SqL K H a (needs.map V.int) ∧ needs.length ≤ 1000 ∧ (¬ (1 ≤ b ∧ b ≤ (needs.length : Int)) → Thr mg "UnknownBed" E H) ∧ (1 ≤ b ∧ b ≤ (needs.length : Int) → (SqL K H c (ts.map V.ref) ∧ SeasAt H ts ss ∧ (¬ (1 ≤ ss.length ∧ ss.length ≤ 12) → Thr mg "BadYear" E H) ∧ (1 ≤ ss.length ∧ ss.length ≤ 12 → ¬ (∀ z ∈ ss, GoodAm z.2) → Thr mg "BadAmount" E H)) ∧ ¬ ((1 ≤ ss.length ∧ ss.length ≤ 12) ∧ (∀ z ∈ ss, GoodAm z.2)))
def sp_first_season (K : W.Frag) : Sp := fun vs H Q _ => ∃ (a b c : Addr) (needs heats : List Int) (ts : List Addr) (ss : List (Bool × Int)) (i : Nat), vs = [.ref a, .ref b, .int ((i : Int) + 1), .ref c] ∧ SqL K H a (needs.map V.int) ∧ SqL K H b (heats.map V.int) ∧ SqL K H c (ts.map V.ref) ∧ SeasAt H ts ss ∧ Beds needs heats ∧ (∀ z ∈ ss, 0 ≤ z.2 ∧ z.2 ≤ 1000000) ∧ 1 ≤ ss.length ∧ ss.length ≤ 12 ∧ i < needs.length ∧
  ∀ (H' : Hp) (t : Addr) (d : Bool) (y k : Nat), Same H H' → H t = none → H' t = some (.tup [.bl d, .int y, .int k]) → First needs heats ss i d y k → Q (.ref t) H'
theorem comp_rules {c p : Addr} {Q : VK} {ts : List Addr} {ss : List (Bool × Int)} {full : Int} {H1 : Hp} (hC : SqL K H1 c (ts.map V.ref)) (hS : SeasAt H1 ts ss) (hf : 0 ≤ full) (hz : ∀ z ∈ ss, 0 ≤ z.2 ∧ z.2 ≤ 1000000) (hn : ss.length ≤ 1000) (fp : H1 p = none)
    (q : ∀ (H' : Hp) (rs : List Addr), Same H1 H' → H' p = some (.lst (rs.map V.ref)) → RulesAt H' rs (ss.map (seasR full)) → Q (.ref p) H') :
    CompR (Itl K c) p Q (gName 0) tNoIf (tCall (sp_season_rule K) [] E0 (tCons (tVar 1) (tCons (tVar 0) tNil))) [none, some (.int full)] (upd H1 p (.lst [])) := by
  refine comp_list (xs := ts.map V.ref) (fun i σ H2 => (∃ v, σ = [v, some (.int full)]) ∧ Same H1 H2 ∧ ∃ rs : List Addr, H2 p = some (.lst (rs.map V.ref)) ∧ RulesAt H2 rs ((ss.take i).map (seasR full))) ?_ ?_ ?_ ?_
  · exact ⟨⟨none, rfl⟩, Same.upd fp, [], upd_same, by rw [List.take_zero]; exact RulesAt.nil _⟩
  · rintro i σ H2 _ ⟨_, s2, _⟩
    exact s2.seq hC
  · rintro i x σ H2 hx ⟨⟨v, rfl⟩, s2, rs, h2p, hR⟩
    obtain ⟨t, z, rfl, ez, e2⟩ := hS.item hx
    have hzz := hz z (List.mem_of_getElem? ez)
    have hil : i < ss.length := (List.getElem?_eq_some_iff.mp ez).1
    refine compT_one ?_
    refine ⟨_, rfl, _, rfl, full, t, z, rfl, s2 _ _ e2, hf, hzz.1, hzz.2, fun H3 r s3 fr hr => ?_⟩
    have h3p := s3 _ _ h2p
    have hlen : rs.length = i := by rw [hR.len, List.length_map, List.length_take]; omega
    refine ⟨_, h3p, sz1000 (by rw [List.length_map]; omega), ⟨_, rfl⟩, (s2.trans s3).set fp, rs ++ [r], ?_, ?_⟩
    · rw [upd_same, List.map_append]; rfl
    · have S3 : RulesAt H3 (rs ++ [r]) ((ss.take i).map (seasR full) ++ [seasR full z]) := (hR.same s3).snoc hr
      rw [take_snoc ez, List.map_append]
      refine ⟨S3.len, fun j y e => ?_⟩
      obtain ⟨t', e1, e2⟩ := S3.at' j y e
      exact ⟨t', e1, by rw [upd_ne (ne_of e2 h3p (by intro z; cases z))]; exact e2⟩
  · rintro σ H2 ⟨_, s2, rs, h2p, hR⟩
    rw [List.length_map, hS.len, List.take_length] at hR
    exact q H2 rs s2 h2p hR
theorem ok_first_season (F : Fun K "first_season" "first_season" s_first_season f fd) (T : Txt K mg) (o_check_bed : Ok P w K mg base "check_bed" P_check_bed 1 sp_check_bed) (o_check_year : Ok P w K mg base "check_year" P_check_year 2 (sp_check_year K)) (o_season_rule : Ok P w K mg base "season_rule" P_season_rule 2 (sp_season_rule K)) (o_applied : Ok P w K mg base "applied" P_applied 1 (sp_applied K)) (o_rest_down_to : Ok P w K mg base "rest_down_to" P_rest_down_to 4 (sp_rest_down_to K)) (o_rest_of : Ok P w K mg base "rest_of" P_rest_of 5 (sp_rest_of K)) : FnOk P w K mg base CX0 6 f fd P_first_season (sp_first_season K) := by
  refine F.ok sc_first_season (fun vs H Q E h => ?_) (fun cdv A outer s H vs Q E hr h => ?_)
  · obtain ⟨a, b, c, needs, heats, ts, ss, i, rfl, _⟩ := h
    rfl
  · obtain ⟨a, b, c, needs, heats, ts, ss, i, rfl, hA, hB, hC, hS, hO, hz, hs1, hs2, hi, q⟩ := h
    have hz0 : ∀ z ∈ ss, 0 ≤ z.2 := fun z h => (hz z h).1
    have B1 := hO.lo
    have B2 := hO.hi
    have B3 := hO.len
    have B4 := hO.sum
    have d0 := hO.ok.down i (by omega)
    have d1 := hO.ok.down (i + 1) (by omega)
    have f0 : 0 ≤ down needs i := Int.le_trans d0.1 d0.2
    have f1 : 0 ≤ down needs (i + 1) := Int.le_trans d1.1 d1.2
    have hlts : ((ts.map V.ref).length : Int) = ss.length := by rw [List.length_map, hS.len]
    have cut0 : ∀ xs : List Int, cutV (xs.map V.int) (some ((i : Int) + 1 - 1)) none = (xs.drop i).map V.int := fun xs => by rw [show (i : Int) + 1 - 1 = (i : Int) by omega, cut_dropG, List.map_drop]
    have cut1 : ∀ xs : List Int, cutV (xs.map V.int) (some ((i : Int) + 1)) none = (xs.drop (i + 1)).map V.int := fun xs => by rw [show (i : Int) + 1 = ((i + 1 : Nat) : Int) by omega, cut_dropG, List.map_drop]
    refine ⟨_, (pss_cons (ps_expr (pe_callO o_check_bed hr (pa_cons (pe_len T.n_len (pv 0)) (pa_cons (pv 2) pa_nil))))
      (pss_cons (ps_expr (pe_callO o_check_year hr (pa_cons (pv 3) pa_nil)))
      (pss_cons (ps_set (i := 4) sc_first_season.nd rfl (Or.inl rfl) (pe_sum (by rfl) T.n_sum (pe_slice sl_list (pv 1) (po_some (pe_op op_sub (pv 2) pe_int)) po_none)))
      (pss_cons (ps_set (i := 5) sc_first_season.nd rfl (Or.inl rfl) (pe_sum (by rfl) T.n_sum (pe_slice sl_list (pv 1) (po_some (pv 2)) po_none)))
      (pss_cons (ps_set (i := 6) sc_first_season.nd rfl (Or.inr rfl) (pe_sum (by rfl) T.n_sum (pe_slice sl_list (pv 0) (po_some (pe_op op_sub (pv 2) pe_int)) po_none)))
      (pss_cons (ps_set (i := 7) sc_first_season.nd rfl (Or.inr rfl) (pe_sum (by rfl) T.n_sum (pe_slice sl_list (pv 0) (po_some (pv 2)) po_none)))
      (pss_cons (ps_setC (i := 8) rfl sc_first_season.nd rfl rfl (CompScope.of (T := ["season"]) (js := [6]) (defScope s_first_season).names N_first_season rfl rfl rfl (by decide +kernel)) (pi_list (pv 3)) (fun _ _ _ _ => ⟨(pg_name (i := 0) (by show List.Nodup (["season", "full_down"] : List Str); decide +kernel) rfl (Or.inl rfl)), pif_nil, (pe_callO o_season_rule hr (pa_cons (pv 1) (pa_cons (pv 0) pa_nil)))⟩))
      (pss_cons (ps_setC (i := 9) rfl sc_first_season.nd rfl rfl (CompScope.of (T := ["season"]) (js := [7]) (defScope s_first_season).names N_first_season rfl rfl rfl (by decide +kernel)) (pi_list (pv 3)) (fun _ _ _ _ => ⟨(pg_name (i := 0) (by show List.Nodup (["season", "full_above"] : List Str); decide +kernel) rfl (Or.inl rfl)), pif_nil, (pe_callO o_season_rule hr (pa_cons (pv 1) (pa_cons (pv 0) pa_nil)))⟩))
      (pss_cons (ps_set (i := 10) sc_first_season.nd rfl (Or.inl rfl) (pe_max (by rfl) T.n_max (pe_callO o_rest_down_to hr (pa_cons (pv 6) (pa_cons (pv 4) (pa_cons (pv 3) pa_nil)))) (pe_callO o_rest_down_to hr (pa_cons (pv 7) (pa_cons (pv 5) (pa_cons (pv 3) pa_nil))))))
      (pss_cons (ps_for PassesOwn.never rfl (pi_range2 (by rfl) T.n_range (pa_cons pe_int (pa_cons (pe_op op_add (pv 10) pe_int) pa_nil))) (pg_name (i := 11) sc_first_season.nd rfl (Or.inl rfl))
        (pss_one (ps_for PassesOwn.never rfl (pi_range1 (by rfl) T.n_range (pa_cons (pe_len T.n_len (pv 3)) pa_nil)) (pg_name (i := 12) sc_first_season.nd rfl (Or.inl rfl))
          (pss_cons (ps_set (i := 4) sc_first_season.nd rfl (Or.inl rfl) (pe_callO o_applied hr (pa_cons (pe_ix ix_list (pv 8) (pv 12) (fun _ _ => rfl)) (pa_cons (pv 4) pa_nil))))
          (pss_cons (ps_set (i := 5) sc_first_season.nd rfl (Or.inl rfl) (pe_callO o_applied hr (pa_cons (pe_ix ix_list (pv 9) (pv 12) (fun _ _ => rfl)) (pa_cons (pv 5) pa_nil))))
          (pss_one (ps_if (pt_cmpR op_eq (pe_op op_sub (pv 4) (pv 5)) (pe_ix ix_list (pv 0) (pe_op op_sub (pv 2) pe_int) (fun _ _ => rfl)) (nomark _))
            (pss_one (ps_ret (pe_tup (pa_cons pe_bl (pa_cons (pv 11) (pa_cons (pe_op op_add (pv 12) pe_int) pa_nil))))))
            pss_nil)))))))
      (pss_one (ps_ret (pe_tup (pa_cons pe_bl (pa_cons (pe_callO o_rest_of hr (pa_cons (pv 0) (pa_cons (pv 1) (pa_cons (pv 3) pa_nil)))) (pa_cons pe_int pa_nil)))))))))))))))), ?_⟩
    refine ⟨_, rfl, a, _, rfl, .inl hA, _, rfl, _, _, rfl, by omega, by rw [List.length_map]; omega, ?_⟩
    refine ⟨_, rfl, c, ts, ss, rfl, hC, hS, hz, hs1, hs2, ?_⟩
    refine ⟨_, rfl, _, rfl, _, _, rfl, rfl, _, rfl, b, _, rfl, hB, fun c1 e1 => ?_⟩
    have s1 := Same.upd (o := .lst (cutV (heats.map V.int) (some ((i : Int) + 1 - 1)) none)) e1
    refine ⟨c1, heats.drop i, rfl, SqL.of (upd_same.trans (by rw [← cut0])), ?_⟩
    refine ⟨_, rfl, _, rfl, _, rfl, b, _, rfl, s1.seq hB, fun c2 e2 => ?_⟩
    have s2 := s1.trans (Same.upd (o := .lst (cutV (heats.map V.int) (some ((i : Int) + 1)) none)) e2)
    refine ⟨c2, heats.drop (i + 1), rfl, SqL.of (upd_same.trans (by rw [← cut1])), ?_⟩
    refine ⟨_, rfl, _, rfl, _, _, rfl, rfl, _, rfl, a, _, rfl, s2.seq hA, fun c3 e3 => ?_⟩
    have s3 := s2.trans (Same.upd (o := .lst (cutV (needs.map V.int) (some ((i : Int) + 1 - 1)) none)) e3)
    refine ⟨c3, needs.drop i, rfl, SqL.of (upd_same.trans (by rw [← cut0])), ?_⟩
    refine ⟨_, rfl, _, rfl, _, rfl, a, _, rfl, s3.seq hA, fun c4 e4 => ?_⟩
    have s4 := s3.trans (Same.upd (o := .lst (cutV (needs.map V.int) (some ((i : Int) + 1)) none)) e4)
    refine ⟨c4, needs.drop (i + 1), rfl, SqL.of (upd_same.trans (by rw [← cut1])), ?_⟩
    generalize upd (upd (upd (upd H c1 (.lst (cutV (heats.map V.int) (some ((i : Int) + 1 - 1)) none))) c2 (.lst (cutV (heats.map V.int) (some ((i : Int) + 1)) none))) c3 (.lst (cutV (needs.map V.int) (some ((i : Int) + 1 - 1)) none))) c4 (.lst (cutV (needs.map V.int) (some ((i : Int) + 1)) none)) = H4 at *
    clear e1 e2 e3 e4 s1 s2 s3
    refine ⟨_, rfl, c, rfl, ⟨_, s4.seq hC⟩, fun p1 g1 => ?_⟩
    refine comp_rules (s4.seq hC) (hS.same s4) f0 hz (by omega) g1 fun H5 rs5 s5 h5 R5 => ?_
    have s45 := s4.trans s5
    refine ⟨_, rfl, c, rfl, ⟨_, s45.seq hC⟩, fun p2 g2 => ?_⟩
    refine comp_rules (s45.seq hC) (hS.same s45) f1 hz (by omega) g2 fun H6 rs6 s6 h6 R6 => ?_
    have s46 := s45.trans s6
    refine ⟨_, rfl, _, rfl, _, rfl, c, down needs i, down heats i, ts, ss, rfl, s46.seq hC, hS.same s46, d0.1, d0.2, hz, by omega, fun H7 r1 s7 RR1 => ?_⟩
    have s47 := s46.trans s7
    refine ⟨_, rfl, _, rfl, _, rfl, c, down needs (i + 1), down heats (i + 1), ts, ss, rfl, s47.seq hC, hS.same s47, d1.1, d1.2, hz, by omega, fun H8 r2 s8 RR2 => ?_⟩
    have s48 := s47.trans s8
    refine ⟨_, _, rfl, ?_⟩
    have h8d := s8 _ _ (s7 _ _ (s6 _ _ h5))
    have h8a := s8 _ _ (s7 _ _ h6)
    have RD := (R5.same s6).same (s7.trans s8)
    have RA := R6.same (s7.trans s8)
    obtain ⟨R, eR, hR1, hR2⟩ : ∃ R : Nat, (if (r1 : Int) < (r2 : Int) then (r2 : Int) else (r1 : Int)) = (R : Int) ∧ r1 ≤ R ∧ r2 ≤ R := by
      split
      · exact ⟨r2, rfl, by omega, Nat.le_refl _⟩
      · exact ⟨r1, rfl, Nat.le_refl _, by omega⟩
    rw [eR]
    have b1 := RR1.bound f0 hz0 d0.1 d0.2
    have b2 := RR2.bound f1 hz0 d1.1 d1.2
    have hRb : (R : Int) ≤ needs.sum + 2 := by
      have l0 := down_le hO.ok.needs i (by omega)
      have l1 := down_le hO.ok.needs (i + 1) (by omega)
      have e0 : down needs 0 = needs.sum := rfl
      rw [← eR]
      split <;> omega
    clear eR b1 b2 s5 s6 s7 s8 s45 s46 s47 g1 g2 h5 h6 R5 R6
    refine ⟨_, rfl, _, _, rfl, rfl, _, _, rfl, ⟨by omega, by omega, by omega, by omega⟩, ?_⟩
    rw [show ((R : Int) + 1 - 1).toNat = R by omega]
    refine for_range (n := R) (fun y σ H9 => ∃ (v11 v12 : Option V), Same H8 H9 ∧ (∀ y' k', y' < y → k' < ss.length → ¬ Thaw needs heats ss i y' (k' + 1)) ∧ σ = [some (.ref a), some (.ref b), some (.int ((i : Int) + 1)), some (.ref c), some (.int (yearsH (down needs i) (down heats i) ss y)), some (.int (yearsH (down needs (i + 1)) (down heats (i + 1)) ss y)), some (.int (down needs i)), some (.int (down needs (i + 1))), some (.ref p1), some (.ref p2), some (.int R), v11, v12]) ?_ ?_ ?_
    · exact ⟨none, none, Same.refl _, fun y' k' h => by omega, rfl⟩
    · rintro y σ H9 hy ⟨v11, v12, s9, hno, rfl⟩
      refine ⟨_, rfl, c, _, rfl, .inl ((s48.trans s9).seq hC), _, rfl, by omega, by omega, ?_⟩
      rw [show ((ts.map V.ref).length : Int).toNat = ss.length by omega]
      refine for_range (n := ss.length) (fun k σ H10 => ∃ (v12 : Option V), Same H8 H10 ∧ (∀ k', k' < k → ¬ Thaw needs heats ss i y (k' + 1)) ∧ σ = [some (.ref a), some (.ref b), some (.int ((i : Int) + 1)), some (.ref c), some (.int (stepsH (down needs i) (yearsH (down needs i) (down heats i) ss y) (ss.take k))), some (.int (stepsH (down needs (i + 1)) (yearsH (down needs (i + 1)) (down heats (i + 1)) ss y) (ss.take k))), some (.int (down needs i)), some (.int (down needs (i + 1))), some (.ref p1), some (.ref p2), some (.int R), some (.int (1 + (y : Int))), v12]) ?_ ?_ ?_
      · exact ⟨v12, s9, fun k' h => by omega, by rw [List.take_zero]; rfl⟩
      · rintro k σ H10 hk ⟨v12, s10, hno', rfl⟩
        have e0 : (0 : Int) + (k : Int) = (k : Int) := by omega
        rw [e0]
        obtain ⟨z, ez⟩ : ∃ z, ss[k]? = some z := ⟨_, List.getElem?_eq_getElem hk⟩
        have hzz := hz z (List.mem_of_getElem? ez)
        have hzt : ∀ z ∈ ss.take k, 0 ≤ z.2 := fun z h => hz0 z (List.mem_of_mem_take h)
        have y0 := yearsH_in (full := down needs i) (h := down heats i) hz0 d0.1 d0.2 y
        have y1 := yearsH_in (full := down needs (i + 1)) (h := down heats (i + 1)) hz0 d1.1 d1.2 y
        have i0 := stepsH_in (full := down needs i) hzt y0.1 y0.2
        have i1 := stepsH_in (full := down needs (i + 1)) hzt y1.1 y1.2
        have w0 : clampI (stepsH (down needs i) (yearsH (down needs i) (down heats i) ss y) (ss.take k) + (seasR (down needs i) z).d) (seasR (down needs i) z).l (seasR (down needs i) z).m = stepsH (down needs i) (yearsH (down needs i) (down heats i) ss y) (ss.take (k + 1)) := by
          rw [stepsH_take ez, ← seasR_ap hzz.1 i0.1 i0.2]; rfl
        have w1 : clampI (stepsH (down needs (i + 1)) (yearsH (down needs (i + 1)) (down heats (i + 1)) ss y) (ss.take k) + (seasR (down needs (i + 1)) z).d) (seasR (down needs (i + 1)) z).l (seasR (down needs (i + 1)) z).m = stepsH (down needs (i + 1)) (yearsH (down needs (i + 1)) (down heats (i + 1)) ss y) (ss.take (k + 1)) := by
          rw [stepsH_take ez, ← seasR_ap hzz.1 i1.1 i1.2]; rfl
        obtain ⟨u, eu, hu⟩ := (RD.same s10).ix (i := k) (R := seasR (down needs i) z) (by rw [List.getElem?_map, ez]; rfl)
        obtain ⟨u', eu', hu'⟩ := (RA.same s10).ix (i := k) (R := seasR (down needs (i + 1)) z) (by rw [List.getElem?_map, ez]; rfl)
        refine ⟨_, rfl, _, rfl, p1, _, _, _, rfl, rfl, SqL.of (s10 _ _ h8d), eu, _, rfl, u, (seasR (down needs i) z).d, (seasR (down needs i) z).l, (seasR (down needs i) z).m, _, rfl, SqT.of hu, seasR_ok f0 hzz.1, fun H11 s11 => ?_⟩
        rw [w0]
        have s11' := s10.trans s11
        refine ⟨_, rfl, _, rfl, p2, _, _, _, rfl, rfl, SqL.of (s11' _ _ h8a), eu', _, rfl, u', (seasR (down needs (i + 1)) z).d, (seasR (down needs (i + 1)) z).l, (seasR (down needs (i + 1)) z).m, _, rfl, SqT.of (s11 _ _ hu'), seasR_ok f1 hzz.1, fun H12 s12 => ?_⟩
        rw [w1]
        have s12' := s11'.trans s12
        refine ⟨_, rfl, _, rfl, _, _, rfl, rfl, _, rfl, _, rfl, _, _, rfl, rfl, a, _, _, _, rfl, rfl, (s48.trans s12').seq hA, by rw [show (i : Int) + 1 - 1 = (i : Int) by omega]; exact atI_int hi, rfl, _, rfl, ?_⟩
        refine ite2 (fun hc => ?_) (fun hc => ?_)
        · have hc : stepsH (down needs i) (yearsH (down needs i) (down heats i) ss y) (ss.take (k + 1)) - stepsH (down needs (i + 1)) (yearsH (down needs (i + 1)) (down heats (i + 1)) ss y) (ss.take (k + 1)) = needs.getD i 0 := V.int.inj (of_decide_eq_true hc)
          refine ⟨_, rfl, _, rfl, _, _, rfl, rfl, sz9, fun t ft => ?_⟩
          refine q _ t true (y + 1) (k + 1) ((s48.trans s12').trans (Same.upd ft)) (none_of (s48.trans s12') ft) (upd_same.trans ?_) (.yes y k hk ((thaw_iff hO.ok hz0 hi y (k + 1)).mpr hc) fun y' k' hk' hl => ?_)
          · show some (HO.tup [.bl true, .int (1 + (y : Int)), .int ((k : Int) + 1)]) = _
            rw [show 1 + (y : Int) = ((y + 1 : Nat) : Int) by omega, show (k : Int) + 1 = ((k + 1 : Nat) : Int) by omega]
          · rcases hl with hl | ⟨rfl, hl⟩
            · exact hno y' k' hl hk'
            · exact hno' k' hl
        · have hc : ¬ Thaw needs heats ss i y (k + 1) := fun c => hc (decide_eq_true (congrArg V.int ((thaw_iff hO.ok hz0 hi y (k + 1)).mp c)))
          refine ⟨_, s12', fun k' hk' => ?_, rfl⟩
          by_cases e : k' = k
          · rw [e]; exact hc
          · exact hno' k' (by omega)
      · rintro σ H10 ⟨v12, s10, hno', rfl⟩
        rw [List.take_length]
        refine ⟨_, v12, s10, fun y' k' hy' hk' => ?_, rfl⟩
        by_cases e : y' = y
        · rw [e]; exact hno' k' hk'
        · exact hno y' k' (by omega) hk'
    · rintro σ H9 ⟨v11, v12, s9, hno, rfl⟩
      have s49 := s48.trans s9
      refine ⟨_, rfl, _, rfl, _, rfl, a, b, c, needs, heats, ts, ss, rfl, s49.seq hA, s49.seq hB, s49.seq hC, hS.same s49, hO, hz, hs1, hs2, fun H10 r s10 hr10 => ?_⟩
      refine ⟨sz9, fun t ft => ?_⟩
      exact q _ t false r 0 ((s49.trans s10).trans (Same.upd ft)) (none_of (s49.trans s10) ft) upd_same (.no r hr10 (thaw_rest hO.ok hz0 hi RR1 RR2 hR1 hR2 hno))
theorem ok_first_seasonX (F : Fun K "first_season" "first_season" s_first_season f fd) (T : Txt K mg) (o_check_bedX : OkX P w K mg base "check_bed" P_check_bed 1 (sp_check_bedX mg)) (o_check_yearX : OkX P w K mg base "check_year" P_check_year 2 (sp_check_yearX K mg)) : FnOk P w K mg base (CX1 P w) 6 f fd P_first_season (sp_first_seasonX K mg) := by
  refine F.okX sc_first_season (fun vs H Q E h => ?_) (fun cdv A outer s H vs Q E hr h => ?_)
  · obtain ⟨a, vb, b, needs, c, ts, ss, rfl, _⟩ := h
    rfl
  · obtain ⟨a, vb, b, needs, c, ts, ss, rfl, hA, hn, e0, hy⟩ := h
    refine ⟨_, (pss_cons (ps_expr (pe_callX o_check_bedX hr (pass_fn (E := E)) (pa_cons (pe_len T.n_len (pv 0)) (pa_cons (pv 2) pa_nil))))
      (pss_cons (ps_expr (pe_callX o_check_yearX hr (pass_fn (E := E)) (pa_cons (pv 3) pa_nil)))
      pss_never)), ?_⟩
    refine ⟨_, rfl, a, _, rfl, .inl hA, _, rfl, needs.length, b, ?_, hn, fun hb => ?_, fun hb C x hm hx => e0 hb C x H hm (Same.refl _) hx⟩
    · rw [List.length_map]; rfl
    obtain ⟨⟨hC, hS, e5, e6⟩, bad⟩ := hy hb
    exact ⟨_, rfl, c, ts, ss, rfl, hC, hS, e5, fun hl => ⟨fun hz => absurd ⟨hl, hz⟩ bad, e6 hl⟩⟩
abbrev s_at : Stmt := top 48
abbrev N_at : List Str := ["_law_script", "_law_k"]
abbrev P_at : List Str := ["_law_script", "_law_k"]
theorem sc_at : FnScope N_at P_at (defScope s_at) := mk9
/-! _law_at -/
def sp_at (K : W.Frag) : Sp := fun vs H Q _ => ∃ (a : Addr) (ns : List Int) (k : Nat), vs = [.ref a, .int k] ∧ SqL K H a (ns.map V.int) ∧ Q (.int (ns.getD k 0)) H
theorem ok_at (F : Fun K "_law_at" "_law_at" s_at f fd) (T : Txt K mg) : FnOk P w K mg base CX0 1 f fd P_at (sp_at K) := by
  refine F.ok sc_at (fun vs H Q E h => ?_) (fun cdv A outer s H vs Q E hr h => ?_)
  · obtain ⟨a, ns, k, rfl, _⟩ := h
    rfl
  · obtain ⟨a, ns, k, rfl, hS, q⟩ := h
    refine ⟨_, (pss_cons (ps_if (pt_cmpR op_lt (pv 1) (pe_len T.n_len (pv 0)) (nomark _))
        (pss_one (ps_ret (pe_ix ix_list (pv 0) (pv 1) (fun _ _ => rfl))))
        pss_nil)
      (pss_one (ps_ret pe_int))), ?_⟩
    refine ⟨_, rfl, _, rfl, a, _, rfl, .inl hS, _, _, rfl, rfl, _, rfl, ?_⟩
    refine ite2 (fun hc => ?_) (fun hc => ?_)
    · have hc : (k : Int) < ((ns.map V.int).length : Int) := by simpa using hc
      rw [List.length_map] at hc
      exact ⟨_, rfl, _, rfl, a, _, _, _, rfl, rfl, hS, atI_int (by omega), q⟩
    · have hc : ¬ (k : Int) < ((ns.map V.int).length : Int) := by simpa using hc
      rw [List.length_map] at hc
      have e : ns.getD k 0 = 0 := by rw [List.getD_eq_getElem?_getD, List.getElem?_eq_none (by omega)]; rfl
      rw [e] at q
      exact q
abbrev s_whole : Stmt := top 49
abbrev N_whole : List Str := ["_law_found"]
abbrev P_whole : List Str := ["_law_found"]
theorem sc_whole : FnScope N_whole P_whole (defScope s_whole) := mk9
/-! _law_whole -/
def sp_whole : Sp := fun vs H Q _ => ∃ (i : Int), vs = [.int i] ∧ Q (.bl true) H
theorem ok_whole (F : Fun K "_law_whole" "_law_whole" s_whole f fd) (T : Txt K mg) : FnOk P w K mg base CX0 1 f fd P_whole sp_whole := by
  refine F.ok sc_whole (fun vs H Q E h => ?_) (fun cdv A outer s H vs Q E hr h => ?_)
  · obtain ⟨i, rfl, _⟩ := h
    rfl
  · obtain ⟨i, rfl, q⟩ := h
    refine ⟨_, (pss_one (ps_ret (pe_and (pe_isinst T.n_isinstance (pv 0) (pe_ty T.n_int)) (pe_one (pe_not (pe_isinst T.n_isinstance (pv 0) (pe_ty T.n_bool))))))), ?_⟩
    refine ⟨_, rfl, _, _, _, true, rfl, .int i, .inl ⟨_, rfl, kit_ii _⟩, _, rfl, ?_⟩
    refine iteT ?_
    exact ⟨_, rfl, _, _, _, false, rfl, .int i, .inl ⟨_, rfl, kit_ib _⟩, _, rfl, q⟩
abbrev s_row : Stmt := top 50
abbrev N_row : List Str := ["_law_cell", "_law_many", "_law_base", "_law_row_here", "_law_rest", "_law_k", "_law_one"]
abbrev P_row : List Str := ["_law_cell", "_law_many", "_law_base"]
theorem sc_row : FnScope N_row P_row (defScope s_row) := mk9
/-! _law_row -/
def sp_row : Sp := fun vs H Q _ => ∃ (cell base : Int) (many : Nat), vs = [.int cell, .int many, .int base] ∧ many ≤ 1000 ∧ 0 < base ∧ base < 1073741824 ∧
  ∀ (p : Addr) (fs : List Int), H p = none → fs.length = many → (∀ x ∈ fs, 0 ≤ x ∧ x < base) → Q (.ref p) (upd H p (.lst (fs.map V.int)))
theorem ok_row (F : Fun K "_law_row" "_law_row" s_row f fd) (T : Txt K mg) : FnOk P w K mg base CX0 1 f fd P_row sp_row := by
  refine F.ok sc_row (fun vs H Q E h => ?_) (fun cdv A outer s H vs Q E hr h => ?_)
  · obtain ⟨cell, bs, many, rfl, _⟩ := h
    rfl
  · obtain ⟨cell, bs, many, rfl, hm, hb0, hb1, q⟩ := h
    refine ⟨_, (pss_cons (ps_set (i := 3) sc_row.nd rfl (Or.inl rfl) (pe_lst pa_nil))
      (pss_cons (ps_set (i := 4) sc_row.nd rfl (Or.inl rfl) (pe_op op_fdiv (pv 0) pe_int))
      (pss_cons (ps_for PassesOwn.never rfl (pi_range1 (by rfl) T.n_range (pa_cons (pv 1) pa_nil)) (pg_name (i := 5) sc_row.nd rfl (Or.inl rfl))
        (pss_one (ps_if (pt_cmpR op_eq (pe_op op_mod (pv 0) pe_int) pe_int (nomark _))
          (pss_cons (ps_expr (pe_bm PySem.F.plainAttrs_list PySem.F.slot_list_append PySem.F.type_list_append mt_append (pv 3) (pa_cons (pe_op op_mod (pv 4) (pv 2)) pa_nil)))
          (pss_one (ps_set (i := 4) sc_row.nd rfl (Or.inl rfl) (pe_op op_fdiv (pv 4) (pv 2)))))
          (pss_cons (ps_set (i := 6) sc_row.nd rfl (Or.inl rfl) (pe_op op_mod (pe_op op_add (pe_op op_add (pe_op op_mul (pv 0) pe_int) (pe_op op_mul (pv 5) pe_int)) pe_int) pe_int))
          (pss_one (ps_expr (pe_bm PySem.F.plainAttrs_list PySem.F.slot_list_append PySem.F.type_list_append mt_append (pv 3) (pa_cons (pe_op op_mod (pe_op op_mod (pe_op op_add (pe_op op_mul (pv 6) (pv 6)) (pe_op op_mul (pv 5) pe_int)) pe_int) (pv 2)) pa_nil))))))))
      (pss_one (ps_ret (pv 3)))))), ?_⟩
    refine ⟨sz9, fun p hp => ?_⟩
    refine ⟨_, rfl, _, _, rfl, rfl, ⟨by decide, by decide⟩, ?_⟩
    refine ⟨_, rfl, _, rfl, by omega, by omega, ?_⟩
    refine for_range (n := (many : Int).toNat) (fun i σ H2 => ∃ (fs : List Int) (rest : Int) (k one : Option V), σ = [some (.int cell), some (.int many), some (.int bs), some (.ref p), some (.int rest), k, one] ∧ H2 = upd H p (.lst (fs.map V.int)) ∧ fs.length = i ∧ ∀ x ∈ fs, 0 ≤ x ∧ x < bs)
      ⟨[], _, _, _, rfl, rfl, rfl, by simp⟩ ?_ ?_
    · rintro i σ H2 hi ⟨fs, rest, k, one, rfl, rfl, hl, hx⟩
      have grow : ∀ z : Int, 0 ≤ z → z < bs → (∀ x ∈ fs ++ [z], 0 ≤ x ∧ x < bs) := fun z h0 h1 x hx' => by
        rcases List.mem_append.mp hx' with h | h
        · exact hx x h
        · have : x = z := by simpa using h
          subst this; exact ⟨h0, h1⟩
      have eqH : ∀ z : Int, upd (upd H p (.lst (fs.map V.int))) p (.lst (fs.map V.int ++ [.int z])) = upd H p (.lst ((fs ++ [z]).map V.int)) := fun z => by rw [upd_upd, List.map_append]; rfl
      refine ⟨_, rfl, _, _, rfl, rfl, (by show (0 : Int) < 3; decide), rfl, _, rfl, ?_⟩
      refine ite2 (fun _ => ?_) (fun _ => ?_)
      · refine ⟨_, rfl, .inl ⟨rfl, _, SqL.of upd_same⟩, _, rfl, _, rfl, _, _, rfl, rfl, hb0, p, _, _, rfl, rfl, upd_same, sz1000 (by rw [List.length_map]; omega), ?_⟩
        refine ⟨_, rfl, _, rfl, _, _, rfl, rfl, ⟨hb0, hb1⟩, ?_⟩
        rw [eqH]
        exact ⟨_, _, _, _, rfl, rfl, by rw [List.length_append, hl]; rfl, grow _ (Int.emod_nonneg _ (by omega)) (Int.emod_lt_of_pos _ hb0)⟩
      · refine ⟨_, rfl, _, _, rfl, rfl, .inr ⟨by decide, by decide⟩, _, rfl, _, _, rfl, rfl, .inr ⟨by decide, by decide⟩, _, _, rfl, rfl, _, _, rfl, rfl, _, _, rfl, rfl, (by show (0 : Int) < 2147483647; decide), ?_⟩
        refine ⟨_, rfl, .inl ⟨rfl, _, SqL.of upd_same⟩, ?_⟩
        refine ⟨_, rfl, _, rfl, _, _, rfl, rfl, .inl ⟨?_, ?_⟩, _, rfl, _, _, rfl, rfl, .inr ⟨by decide, by decide⟩, _, _, rfl, rfl, _, _, rfl, rfl, (by show (0 : Int) < 2147483629; decide), _, rfl, _, _, rfl, rfl, hb0, p, _, _, rfl, rfl, upd_same, sz1000 (by rw [List.length_map]; omega), ?_⟩
        · exact Int.lt_of_lt_of_le (by decide) (Int.emod_nonneg _ (by decide))
        · exact Int.lt_trans (Int.emod_lt_of_pos _ (by decide)) (by decide)
        · rw [eqH]
          exact ⟨_, _, _, _, rfl, rfl, by rw [List.length_append, hl]; rfl, grow _ (Int.emod_nonneg _ (by omega)) (Int.emod_lt_of_pos _ hb0)⟩
    · rintro σ H2 ⟨fs, rest, k, one, rfl, rfl, hl, hx⟩
      exact ⟨_, rfl, q p fs hp (by omega) hx⟩
abbrev s_beds : Stmt := top 51
abbrev N_beds : List Str := ["_law_script", "_law_cell", "_law_many", "_law_needs", "_law_figures", "_law_heats"]
abbrev P_beds : List Str := ["_law_script"]
theorem sc_beds : FnScope N_beds P_beds (defScope s_beds) := mk9
/-! _law_beds -/
def sp_beds (K : W.Frag) : Sp := fun vs H Q _ => ∃ (a : Addr) (ns : List Int), vs = [.ref a] ∧ SqL K H a (ns.map V.int) ∧
  ∀ (H' : Hp) (l pn ph : Addr) (needs heats : List Int), Same H H' → H l = none → H pn = none → H ph = none → l ≠ pn → l ≠ ph → pn ≠ ph →
    H' l = some (.lst [.ref pn, .ref ph]) → H' pn = some (.lst (needs.map V.int)) → H' ph = some (.lst (heats.map V.int)) → Beds needs heats → Q (.ref l) H'
theorem ok_beds (F : Fun K "_law_beds" "_law_beds" s_beds f fd) (T : Txt K mg) (o_at : Ok P w K mg base "_law_at" P_at 1 (sp_at K)) (o_row : Ok P w K mg base "_law_row" P_row 1 sp_row) : FnOk P w K mg base CX0 2 f fd P_beds (sp_beds K) := by
  refine F.ok sc_beds (fun vs H Q E h => ?_) (fun cdv A outer s H vs Q E hr h => ?_)
  · obtain ⟨a, ns, rfl, _⟩ := h
    rfl
  · obtain ⟨a, ns, rfl, hS, q⟩ := h
    refine ⟨_, (pss_cons (ps_set (i := 1) sc_beds.nd rfl (Or.inl rfl) (pe_callO o_at hr (pa_cons (pv 0) (pa_cons pe_int pa_nil))))
      (pss_cons (ps_set (i := 2) sc_beds.nd rfl (Or.inl rfl) (pe_op op_add pe_int (pe_op op_mod (pv 1) pe_int)))
      (pss_cons (ps_set (i := 3) sc_beds.nd rfl (Or.inr rfl) (pe_comp rfl (CompScope.of (T := ["_law_figure"]) (js := []) (defScope s_beds).names N_beds rfl rfl rfl (by decide +kernel)) (pi_list (pe_callO o_row hr (pa_cons (pe_callO o_at hr (pa_cons (pv 0) (pa_cons pe_int pa_nil))) (pa_cons (pv 2) (pa_cons (pe_ix ix_list (pe_lst (pa_cons pe_int (pa_cons pe_int (pa_cons pe_int pa_nil)))) (pe_op op_mod (pe_op op_fdiv (pv 1) pe_int) pe_int) (fun _ _ => rfl)) pa_nil))))) (fun _ _ _ _ => ⟨(pg_name (i := 0) (by show List.Nodup (["_law_figure"] : List Str); decide +kernel) rfl (Or.inl rfl)), pif_nil, (pe_op op_add pe_int (pv 0))⟩)))
      (pss_cons (ps_set (i := 4) sc_beds.nd rfl (Or.inr rfl) (pe_callO o_row hr (pa_cons (pe_callO o_at hr (pa_cons (pv 0) (pa_cons pe_int pa_nil))) (pa_cons (pv 2) (pa_cons pe_int pa_nil)))))
      (pss_cons (ps_setC (i := 5) rfl sc_beds.nd rfl rfl (CompScope.of (T := ["_law_k"]) (js := [3, 4]) (defScope s_beds).names N_beds rfl rfl rfl (by decide +kernel)) (pi_range1 (by rfl) T.n_range (pa_cons (pv 2) pa_nil)) (fun _ _ _ _ => ⟨(pg_name (i := 0) (by show List.Nodup (["_law_k", "_law_needs", "_law_figures"] : List Str); decide +kernel) rfl (Or.inl rfl)), pif_nil, (pe_op op_mod (pe_ix (ix_listK K) (pv 2) (pv 0) (fun _ _ => rfl)) (pe_op op_add (pe_ix (ix_listK K) (pv 1) (pv 0) (fun _ _ => rfl)) pe_int))⟩))
      (pss_cons (ps_if (pt_cmpR op_eq (pe_op op_mod (pe_op op_fdiv (pv 1) pe_int) pe_int) pe_int (nomark _))
        (pss_one (ps_set (i := 5) sc_beds.nd rfl (Or.inl rfl) (pe_op op_rep (pe_lst (pa_cons pe_int pa_nil)) (pv 2))))
        pss_nil)
      (pss_cons (ps_if (pt_cmpR op_eq (pe_op op_mod (pe_op op_fdiv (pv 1) pe_int) pe_int) pe_int (nomark _))
        (pss_one (ps_set (i := 5) sc_beds.nd rfl (Or.inl rfl) (pe_list T.n_list (pv 3))))
        pss_nil)
      (pss_one (ps_ret (pe_lst (pa_cons (pv 3) (pa_cons (pv 5) pa_nil)))))))))))), ?_⟩
    -- cell, many
    refine ⟨_, rfl, a, ns, 0, rfl, hS, ?_⟩
    refine ⟨_, rfl, _, _, rfl, rfl, (by show (0 : Int) < 50; decide), _, _, rfl, rfl, ?_⟩
    obtain ⟨n, en, hn1, hn2⟩ := many_nat (ns.getD 0 0) 50 (by decide)
    have hn3 : n ≤ 50 := by omega
    -- needs
    refine ⟨_, rfl, a, ns, 1, rfl, hS, _, rfl, sz9, fun p0 f0 => ?_⟩
    obtain ⟨bs, eb, hb0, hb1⟩ := base_at (ns.getD 0 0 / 50)
    refine ⟨_, rfl, _, _, rfl, rfl, ⟨by decide, by decide⟩, _, _, rfl, rfl, (by show (0 : Int) < 3; decide), p0, _, _, _, rfl, rfl, SqL.of upd_same, eb, ?_⟩
    refine ⟨_, bs, n, congrArg (fun z => [V.int _, V.int z, V.int _]) en, by omega, hb0, by omega, fun pr fs fr hfl hfx => ⟨pr, rfl, ⟨_, SqL.of upd_same⟩, fun pn fn => ?_⟩⟩
    have s2 : Same H (upd (upd H p0 (.lst [.int 3, .int 12, .int 200])) pr (.lst (fs.map V.int))) := (Same.upd f0).trans (Same.upd fr)
    have npr : pr ≠ pn := fun e => by rw [e] at fn; rw [upd_same] at fn; cases fn
    refine comp_list (xs := fs.map V.int) (fun i σ H2 => (∃ v, σ = [v]) ∧ H2 = upd (upd (upd H p0 (.lst [.int 3, .int 12, .int 200])) pr (.lst (fs.map V.int))) pn (.lst ((fs.take i).map fun x => V.int (1 + x)))) ?_ ?_ ?_ ?_
    · exact ⟨⟨none, rfl⟩, by rw [List.take_zero]; rfl⟩
    · rintro i σ H2 _ ⟨_, rfl⟩
      exact SqL.of (by rw [upd_ne npr]; exact upd_same)
    · rintro i x σ H2 hx ⟨⟨v, rfl⟩, rfl⟩
      obtain ⟨hi, rfl⟩ := getI_some hx
      refine compT_one ?_
      refine ⟨_, rfl, _, _, rfl, rfl, _, upd_same, sz1000 (by rw [List.length_map, List.length_take]; omega), ⟨_, rfl⟩, ?_⟩
      rw [upd_upd, take_map_succ (f := fun x => V.int (1 + x)) hi]
    rintro σ0 H3 ⟨_, e3⟩
    rw [List.length_map, List.take_length] at e3
    generalize eN : fs.map (fun x => 1 + x) = needs at *
    have eV : (fs.map fun x => V.int (1 + x)) = needs.map V.int := by rw [← eN, List.map_map]; rfl
    rw [eV] at e3
    have hnl : needs.length = n := by rw [← eN, List.length_map, hfl]
    have hnx : ∀ i, i < needs.length → 1 ≤ needs.getD i 0 ∧ needs.getD i 0 ≤ 200 := fun i hi => by
      rw [hnl, ← hfl] at hi
      rw [← eN, getD_map hi]
      have := hfx _ (getD_mem hi)
      omega
    have fpn : H pn = none := s2.free fn
    have s3 : Same H H3 := by rw [e3]; exact s2.trans (Same.upd fn)
    have h3n : H3 pn = some (.lst (needs.map V.int)) := by rw [e3]; exact upd_same
    clear e3
    -- figures
    refine ⟨_, rfl, a, ns, 2, rfl, s3.seq hS, _, rfl, _, 201, n, congrArg (fun z => [V.int _, V.int z, V.int _]) en, by omega, by decide, by decide, fun pf gs fpf hgl hgx => ?_⟩
    have s4 : Same H3 (upd H3 pf (.lst (gs.map V.int))) := Same.upd fpf
    -- heats
    refine ⟨_, rfl, _, rfl, by omega, by omega, fun ph fph => ?_⟩
    have hpf : pf ≠ ph := fun e => by rw [e, upd_same] at fph; cases fph
    have h4n : (upd H3 pf (.lst (gs.map V.int))) pn = some (.lst (needs.map V.int)) := s4 _ _ h3n
    have hpn : pn ≠ ph := ne_of_none h4n fph
    refine comp_range (fun i σ H2 => (∃ v, σ = [v, some (.ref pn), some (.ref pf)]) ∧ H2 = upd (upd H3 pf (.lst (gs.map V.int))) ph (.lst ((List.range i).map fun k => V.int (gs.getD k 0 % (needs.getD k 0 + 1))))) ?_ ?_ ?_
    · exact ⟨⟨none, rfl⟩, rfl⟩
    · rintro i σ H2 hi ⟨⟨v, rfl⟩, rfl⟩
      have hi' : i < n := by omega
      have e0 : (0 : Int) + (i : Int) = (i : Int) := by omega
      rw [e0]
      refine compT_one ?_
      refine ⟨_, rfl, _, rfl, pf, _, _, _, rfl, rfl, SqL.of (by rw [upd_ne hpf]; exact upd_same), atI_int (by omega), _, rfl, _, rfl, pn, _, _, _, rfl, rfl, SqL.of (by rw [upd_ne hpn]; exact h4n), atI_int (by omega), _, _, rfl, rfl, _, _, rfl, rfl, ?_, _, upd_same, sz1000 (by rw [List.length_map, List.length_range]; omega), ⟨_, rfl⟩, ?_⟩
      · have := hnx i (by omega)
        show (0 : Int) < needs.getD i 0 + 1
        omega
      · rw [upd_upd, range_map_succ (f := fun k => V.int (gs.getD k 0 % (needs.getD k 0 + 1)))]
    rintro σ1 H5 ⟨_, e5⟩
    rw [show ((1 + ns.getD 0 0 % 50 : Int)).toNat = n by omega] at e5
    generalize eH : (List.range n).map (fun k => gs.getD k 0 % (needs.getD k 0 + 1)) = heats at *
    have eV : ((List.range n).map fun k => V.int (gs.getD k 0 % (needs.getD k 0 + 1))) = heats.map V.int := by rw [← eH, List.map_map]; rfl
    rw [eV] at e5
    have hB : Beds needs heats := ⟨by rw [← eH, hnl]; simp, by omega, by omega, hnx, fun i hi => by
      have h1 := hnx i hi
      rw [← eH, getD_rangeMap (by omega)]
      exact ⟨Int.emod_nonneg _ (by omega), by have := Int.emod_lt_of_pos (gs.getD i 0) (show 0 < needs.getD i 0 + 1 by omega); omega⟩⟩
    have s5 : Same H3 H5 := by rw [e5]; exact s4.trans (Same.upd fph)
    have h5n : H5 pn = some (.lst (needs.map V.int)) := s5 _ _ h3n
    have h5h : H5 ph = some (.lst (heats.map V.int)) := by rw [e5]; exact upd_same
    have fhh : H3 ph = none := s4.free fph
    clear e5 eV eH
    -- what stands behind both ifs: heats at some address, new since H3
    have fin : ∀ (H6 : Hp) (ph : Addr) (heats : List Int), Same H3 H6 → H3 ph = none → H6 ph = some (.lst (heats.map V.int)) → Beds needs heats → ∀ l, H6 l = none → Q (.ref l) (upd H6 l (.lst [.ref pn, .ref ph])) := fun H6 ph heats s6 f6 h6 B l fl => by
      have h6n : H6 pn = some (.lst (needs.map V.int)) := s6 _ _ h3n
      have n1 : pn ≠ l := ne_of_none h6n fl
      have n2 : ph ≠ l := ne_of_none h6 fl
      have n3 : pn ≠ ph := ne_of_none h3n f6
      exact q _ l pn ph needs heats ((s3.trans s6).trans (Same.upd fl)) ((s3.trans s6).free fl) fpn (s3.free f6) (Ne.symm n1) (Ne.symm n2) n3 upd_same (by rw [upd_ne n1]; exact h6n) (by rw [upd_ne n2]; exact h6) B
    have B0 : Beds needs (List.replicate n 0) := ⟨by simp [hnl], hB.lo, hB.hi, hnx, fun i hi => by
      have h1 := hnx i hi
      have : (List.replicate n (0 : Int)).getD i 0 = 0 := by simp [List.getD_eq_getElem?_getD, List.getElem?_replicate, show i < n by omega]
      rw [this]
      omega⟩
    have B1 : Beds needs needs := ⟨rfl, hB.lo, hB.hi, hnx, fun i hi => by have := hnx i hi; omega⟩
    -- the second if and the end, from any heats
    have second : ∀ (H6 : Hp) (ph : Addr) (heats : List Int), Same H3 H6 → H3 ph = none → H6 ph = some (.lst (heats.map V.int)) → Beds needs heats →
        (∀ l, H6 l = none → Q (.ref l) (upd H6 l (.lst [.ref pn, .ref ph]))) ∧ ∀ l, H6 l = none → ∀ l', upd H6 l (.lst (needs.map V.int)) l' = none → Q (.ref l') (upd (upd H6 l (.lst (needs.map V.int))) l' (.lst [.ref pn, .ref l])) := fun H6 ph heats s6 f6 h6 B =>
      ⟨fin H6 ph heats s6 f6 h6 B, fun l fl l' fl' => fin _ l needs (s6.trans (Same.upd fl)) (s6.free fl) upd_same B1 l' fl'⟩
    refine ⟨_, rfl, _, _, rfl, rfl, ⟨by decide, by decide⟩, _, _, rfl, rfl, (by show (0 : Int) < 4; decide), rfl, _, rfl, ?_⟩
    refine ite2 (fun _ => ?_) (fun _ => ?_)
    · -- heats = [0] * many
      refine ⟨sz9, fun p6 f6 => ?_⟩
      refine ⟨_, rfl, p6, _, _, rfl, rfl, upd_same, ?_, ?_, ?_, fun p7 f7 => ?_⟩
      · omega
      · omega
      · rw [show ((1 + ns.getD 0 0 % 50 : Int)).toNat = n by omega]
        exact sz1000' (by show 1 * n ≤ 100000; omega)
      have e7 : (List.replicate ((1 + ns.getD 0 0 % 50 : Int)).toNat [V.int 0]).flatten = (List.replicate n (0 : Int)).map V.int := by
        rw [show ((1 + ns.getD 0 0 % 50 : Int)).toNat = n by omega]
        simp
      rw [e7]
      have s7 : Same H3 (upd (upd H5 p6 (.lst [.int 0])) p7 (.lst ((List.replicate n (0 : Int)).map V.int))) := (s5.trans (Same.upd f6)).trans (Same.upd f7)
      have f7' : H3 p7 = none := (s5.trans (Same.upd f6)).free f7
      obtain ⟨z1, z2⟩ := second _ p7 (List.replicate n 0) s7 f7' upd_same B0
      refine ⟨_, rfl, _, _, rfl, rfl, ⟨by decide, by decide⟩, _, _, rfl, rfl, (by show (0 : Int) < 4; decide), rfl, _, rfl, ?_⟩
      refine ite2 (fun _ => ?_) (fun _ => ?_)
      · refine ⟨_, rfl, pn, _, rfl, .inl (SqL.of (s7 _ _ h3n)), fun l fl => ?_⟩
        exact ⟨_, rfl, _, rfl, sz9, fun l' fl' => z2 l fl l' fl'⟩
      · exact ⟨_, rfl, _, rfl, sz9, fun l' fl' => z1 l' fl'⟩
    · obtain ⟨z1, z2⟩ := second H5 ph heats s5 fhh h5h hB
      refine ⟨_, rfl, _, _, rfl, rfl, ⟨by decide, by decide⟩, _, _, rfl, rfl, (by show (0 : Int) < 4; decide), rfl, _, rfl, ?_⟩
      refine ite2 (fun _ => ?_) (fun _ => ?_)
      · refine ⟨_, rfl, pn, _, rfl, .inl (SqL.of h5n), fun l fl => ?_⟩
        exact ⟨_, rfl, _, rfl, sz9, fun l' fl' => z2 l fl l' fl'⟩
      · exact ⟨_, rfl, _, rfl, sz9, fun l' fl' => z1 l' fl'⟩
abbrev s_amount : Stmt := top 52
abbrev N_amount : List Str := ["_law_cell", "_law_scale", "_law_free"]
abbrev P_amount : List Str := ["_law_cell", "_law_scale"]
theorem sc_amount : FnScope N_amount P_amount (defScope s_amount) := mk9
/-! _law_amount -/
def sp_amount : Sp := fun vs H Q _ => ∃ (cell scale : Int), vs = [.int cell, .int scale] ∧ 1 ≤ scale ∧ scale ≤ 999999 ∧ ∀ (m : Int) (H' : Hp), 0 ≤ m → m ≤ 1000000 → Same H H' → Q (.int m) H'
theorem amount_at (z scale : Int) (h1 : 1 ≤ scale) (h2 : scale ≤ 999999) : ∃ b : Int, atI [V.int 0, V.int 1, V.int scale, V.int (scale + 1), V.int 1000000, V.int 999999, V.int (scale - 1)] (z % 7) = some (.int b) ∧ 0 ≤ b ∧ b ≤ 1000000 := by
  have h3 := Int.emod_nonneg z (show (7 : Int) ≠ 0 by decide)
  have h4 := Int.emod_lt_of_pos z (show (0 : Int) < 7 by decide)
  have h5 : z % 7 = 0 ∨ z % 7 = 1 ∨ z % 7 = 2 ∨ z % 7 = 3 ∨ z % 7 = 4 ∨ z % 7 = 5 ∨ z % 7 = 6 := by omega
  rcases h5 with e | e | e | e | e | e | e <;> rw [e]
  · exact ⟨0, rfl, by decide, by decide⟩
  · exact ⟨1, rfl, by decide, by decide⟩
  · exact ⟨scale, rfl, by omega, by omega⟩
  · exact ⟨scale + 1, rfl, by omega, by omega⟩
  · exact ⟨1000000, rfl, by decide, by decide⟩
  · exact ⟨999999, rfl, by decide, by decide⟩
  · exact ⟨scale - 1, rfl, by omega, by omega⟩
theorem ok_amount (F : Fun K "_law_amount" "_law_amount" s_amount f fd) (T : Txt K mg) : FnOk P w K mg base CX0 1 f fd P_amount sp_amount := by
  refine F.ok sc_amount (fun vs H Q E h => ?_) (fun cdv A outer s H vs Q E hr h => ?_)
  · obtain ⟨cell, scale, rfl, _⟩ := h
    rfl
  · obtain ⟨cell, scale, rfl, h1, h2, q⟩ := h
    refine ⟨_, (pss_cons (ps_set (i := 2) sc_amount.nd rfl (Or.inl rfl) (pe_op op_fdiv (pv 0) pe_int))
      (pss_cons (ps_if (pt_cmpR op_eq (pe_op op_mod (pv 0) pe_int) pe_int (nomark _))
        (pss_one (ps_ret (pe_op op_mod (pv 2) pe_int)))
        pss_nil)
      (pss_cons (ps_if (pt_cmpR op_eq (pe_op op_mod (pv 0) pe_int) pe_int (nomark _))
        (pss_one (ps_ret (pe_ix ix_list (pe_lst (pa_cons pe_int (pa_cons pe_int (pa_cons (pv 1) (pa_cons (pe_op op_add (pv 1) pe_int) (pa_cons pe_int (pa_cons pe_int (pa_cons (pe_op op_sub (pv 1) pe_int) pa_nil)))))))) (pe_op op_mod (pv 2) pe_int) (fun _ _ => rfl))))
        pss_nil)
      (pss_cons (ps_if (pt_cmpR op_eq (pe_op op_mod (pv 0) pe_int) pe_int (nomark _))
        (pss_one (ps_ret (pe_op op_mod (pv 2) (pe_op op_add (pv 1) pe_int))))
        pss_nil)
      (pss_one (ps_ret (pe_op op_mod (pv 2) (pe_op op_add (pe_op op_fdiv (pv 1) pe_int) pe_int)))))))), ?_⟩
    refine ⟨_, rfl, _, _, rfl, rfl, ⟨by decide, by decide⟩, ?_⟩
    refine ⟨_, rfl, _, _, rfl, rfl, (by show (0 : Int) < 5; decide), rfl, _, rfl, ?_⟩
    refine ite2 (fun _ => ?_) (fun _ => ?_)
    · refine ⟨_, rfl, _, _, rfl, rfl, (by show (0 : Int) < 1000001; decide), q _ H (Int.emod_nonneg _ (by decide)) ?_ (Same.refl H)⟩
      have := Int.emod_lt_of_pos (cell / 5) (show (0 : Int) < 1000001 by decide)
      omega
    refine ⟨_, rfl, _, _, rfl, rfl, (by show (0 : Int) < 5; decide), rfl, _, rfl, ?_⟩
    refine ite2 (fun _ => ?_) (fun _ => ?_)
    · obtain ⟨b, eb, b1, b2⟩ := amount_at (cell / 5) scale h1 h2
      refine ⟨_, rfl, _, rfl, _, _, rfl, rfl, _, rfl, _, _, rfl, rfl, sz9, fun p hp => ?_⟩
      exact ⟨_, rfl, _, _, rfl, rfl, (by show (0 : Int) < 7; decide), p, _, _, _, rfl, rfl, SqL.of upd_same, eb, q b _ b1 b2 (Same.upd hp)⟩
    refine ⟨_, rfl, _, _, rfl, rfl, (by show (0 : Int) < 5; decide), rfl, _, rfl, ?_⟩
    refine ite2 (fun _ => ?_) (fun _ => ?_)
    · refine ⟨_, rfl, _, rfl, _, _, rfl, rfl, _, _, rfl, rfl, (by show (0 : Int) < scale + 1; omega), q _ H (Int.emod_nonneg _ (by omega)) ?_ (Same.refl H)⟩
      have := Int.emod_lt_of_pos (cell / 5) (show (0 : Int) < scale + 1 by omega)
      omega
    · refine ⟨_, rfl, _, rfl, _, _, rfl, rfl, ⟨by decide, by decide⟩, _, _, rfl, rfl, _, _, rfl, rfl, (by show (0 : Int) < scale / 8 + 2; omega), q _ H (Int.emod_nonneg _ (by omega)) ?_ (Same.refl H)⟩
      have := Int.emod_lt_of_pos (cell / 5) (show (0 : Int) < scale / 8 + 2 by omega)
      omega
abbrev s_season : Stmt := top 53
abbrev N_season : List Str := ["_law_cell", "_law_scale"]
abbrev P_season : List Str := ["_law_cell", "_law_scale"]
theorem sc_season : FnScope N_season P_season (defScope s_season) := mk9
/-! _law_season -/
def sp_season : Sp := fun vs H Q _ => ∃ (cell scale : Int), vs = [.int cell, .int scale] ∧ 1 ≤ scale ∧ scale ≤ 999999 ∧
  ∀ (H' : Hp) (t : Addr) (z : Bool × Int), Same H H' → H t = none → 0 ≤ z.2 → z.2 ≤ 1000000 → H' t = some (.tup [.str (kindS z.1), .int z.2]) → Q (.ref t) H'
theorem kind_at (z : Int) : ∃ b : Bool, atI [V.str "warm", V.str "cold"] (z % 2) = some (.str (kindS b)) := by
  have h3 := Int.emod_nonneg z (show (2 : Int) ≠ 0 by decide)
  have h4 := Int.emod_lt_of_pos z (show (0 : Int) < 2 by decide)
  have h5 : z % 2 = 0 ∨ z % 2 = 1 := by omega
  rcases h5 with e | e <;> rw [e]
  · exact ⟨true, rfl⟩
  · exact ⟨false, rfl⟩
theorem ok_season (F : Fun K "_law_season" "_law_season" s_season f fd) (T : Txt K mg) (o_amount : Ok P w K mg base "_law_amount" P_amount 1 sp_amount) : FnOk P w K mg base CX0 2 f fd P_season sp_season := by
  refine F.ok sc_season (fun vs H Q E h => ?_) (fun cdv A outer s H vs Q E hr h => ?_)
  · obtain ⟨cell, scale, rfl, _⟩ := h
    rfl
  · obtain ⟨cell, scale, rfl, h1, h2, q⟩ := h
    refine ⟨_, (pss_one (ps_ret (pe_tup (pa_cons (pe_ix ix_list (pe_lst (pa_cons pe_str (pa_cons pe_str pa_nil))) (pe_op op_mod (pv 0) pe_int) (fun _ _ => rfl)) (pa_cons (pe_callO o_amount hr (pa_cons (pe_op op_fdiv (pv 0) pe_int) (pa_cons (pv 1) pa_nil))) pa_nil))))), ?_⟩
    obtain ⟨b, eb⟩ := kind_at cell
    refine ⟨sz9, fun p hp => ⟨_, rfl, _, _, rfl, rfl, (by show (0 : Int) < 2; decide), p, _, _, _, rfl, rfl, SqL.of upd_same, eb, ?_⟩⟩
    refine ⟨_, rfl, _, _, rfl, rfl, ⟨by decide, by decide⟩, _, rfl, _, _, rfl, h1, h2, fun m H2 m0 m1 s2 => ⟨sz9, fun t ft => ?_⟩⟩
    have s3 : Same H H2 := (Same.upd hp).trans s2
    exact q _ t (b, m) (s3.trans (Same.upd ft)) (s3.free ft) m0 m1 upd_same
abbrev s_seasons : Stmt := top 54
abbrev N_seasons : List Str := ["_law_cell", "_law_many", "_law_scale"]
abbrev P_seasons : List Str := ["_law_cell", "_law_many", "_law_scale"]
theorem sc_seasons : FnScope N_seasons P_seasons (defScope s_seasons) := mk9
/-! _law_seasons -/
def sp_seasons : Sp := fun vs H Q _ => ∃ (cell scale : Int) (many : Nat), vs = [.int cell, .int many, .int scale] ∧ many ≤ 1000 ∧ 1 ≤ scale ∧ scale ≤ 999999 ∧
  ∀ (H' : Hp) (p : Addr) (ts : List Addr) (ss : List (Bool × Int)), Same H H' → H p = none → ss.length = many → (∀ z ∈ ss, 0 ≤ z.2 ∧ z.2 ≤ 1000000) → H' p = some (.lst (ts.map V.ref)) → SeasAt H' ts ss → Q (.ref p) H'
theorem ok_seasons (F : Fun K "_law_seasons" "_law_seasons" s_seasons f fd) (T : Txt K mg) (o_row : Ok P w K mg base "_law_row" P_row 1 sp_row) (o_season : Ok P w K mg base "_law_season" P_season 2 sp_season) : FnOk P w K mg base CX0 3 f fd P_seasons sp_seasons := by
  refine F.ok sc_seasons (fun vs H Q E h => ?_) (fun cdv A outer s H vs Q E hr h => ?_)
  · obtain ⟨cell, scale, many, rfl, _⟩ := h
    rfl
  · obtain ⟨cell, scale, many, rfl, hm, h1, h2, q⟩ := h
    refine ⟨_, (pss_one (ps_ret (pe_comp rfl (CompScope.of (T := ["_law_figure"]) (js := [2]) (defScope s_seasons).names N_seasons rfl rfl rfl (by decide +kernel)) (pi_list (pe_callO o_row hr (pa_cons (pv 0) (pa_cons (pv 1) (pa_cons pe_int pa_nil))))) (fun _ _ _ _ => ⟨(pg_name (i := 0) (by show List.Nodup (["_law_figure", "_law_scale"] : List Str); decide +kernel) rfl (Or.inl rfl)), pif_nil, (pe_callO o_season hr (pa_cons (pv 0) (pa_cons (pv 1) pa_nil)))⟩)))), ?_⟩
    refine ⟨_, rfl, _, rfl, _, _, many, rfl, hm, by decide, by decide, fun pr fs fr hfl hfx => ⟨pr, rfl, ⟨_, SqL.of upd_same⟩, fun p fp => ?_⟩⟩
    have fp' : H p = none := (Same.upd fr).free fp
    refine comp_list (xs := fs.map V.int) (fun i σ H2 => (∃ v, σ = [v, some (.int scale)]) ∧ ∃ (ts : List Addr) (ss : List (Bool × Int)), Same (upd H pr (.lst (fs.map V.int))) H2 ∧ ss.length = i ∧ (∀ z ∈ ss, 0 ≤ z.2 ∧ z.2 ≤ 1000000) ∧ H2 p = some (.lst (ts.map V.ref)) ∧ SeasAt H2 ts ss) ?_ ?_ ?_ ?_
    · exact ⟨⟨none, rfl⟩, [], [], Same.upd fp, rfl, by simp, upd_same, SeasAt.nil _⟩
    · rintro i σ H2 _ ⟨_, ts, ss, s2, _⟩
      exact s2.seq (SqL.of upd_same)
    · rintro i x σ H2 hx ⟨⟨v, rfl⟩, ts, ss, s2, hl, hz, h2p, hS⟩
      obtain ⟨hi, rfl⟩ := getI_some hx
      refine compT_one ?_
      refine ⟨_, rfl, _, rfl, _, _, rfl, h1, h2, fun H3 t z s3 ft z0 z1 ht => ?_⟩
      have h3p := s3 _ _ h2p
      have ntp : t ≠ p := Ne.symm (ne_of_none h2p ft)
      refine ⟨_, h3p, sz1000 (by rw [List.length_map, hS.len]; omega), ⟨_, rfl⟩, ts ++ [t], ss ++ [z], (s2.trans s3).set fp, by rw [List.length_append, hl]; rfl, fun y hy => ?_, ?_, ?_⟩
      · rcases List.mem_append.mp hy with h | h
        · exact hz y h
        · have : y = z := by simpa using h
          subst this
          exact ⟨z0, z1⟩
      · rw [upd_same, List.map_append]; rfl
      · have S3 : SeasAt H3 (ts ++ [t]) (ss ++ [z]) := (hS.same s3).snoc ht
        refine ⟨S3.len, fun j y e => ?_⟩
        obtain ⟨t', e1, e2⟩ := S3.at' j y e
        exact ⟨t', e1, by rw [upd_ne (ne_of e2 h3p (by intro z; cases z))]; exact e2⟩
    · rintro σ H2 ⟨_, ts, ss, s2, hl, hz, h2p, hS⟩
      rw [List.length_map] at hl
      exact q H2 p ts ss ((Same.upd fr).trans s2) fp' (by omega) hz h2p hS
abbrev s_refusal : Stmt := top 55
abbrev N_refusal : List Str := ["_law_call", "_law_place", "_law_kinds", "e"]
abbrev P_refusal : List Str := ["_law_call", "_law_place"]
theorem sc_refusal : FnScope N_refusal P_refusal (defScope s_refusal) := mk9
/-! _law_refusal -/
def sp_refusal (P : Program) (w : World) (K : W.Frag) (mg : Str → Option Value) (base : Heap) (CT : Addr) (C : Nat → Addr) : Sp := fun vs H Q E => ∃ (f : Addr) (j : Nat), vs = [.ref f, .int (j : Int)] ∧ j < 12 ∧ LamRef P w K mg base C H f j ∧ Refuses K CT C j ∧ ∀ H', Same H H' → Q (.bl true) H'
theorem ok_refusal (F : Fun K "_law_refusal" "_law_refusal" s_refusal f fd) (T : Txt K mg) {CT : Addr} {C : Nat → Addr} (XE : Errs mg CT C) : FnOk P w K mg base (CX1 P w) 15 f fd P_refusal (sp_refusal P w K mg base CT C) := by
  refine F.okX sc_refusal (fun vs H Q E h => ?_) (fun cdv A outer s H vs Q E hr h => ?_)
  · obtain ⟨f, j, rfl, _⟩ := h
    rfl
  · obtain ⟨f, j, rfl, hj, ⟨name, qual, params, body, scope, clos, pm, cv, ctv, sp, hf, FO, hb, hrun⟩, R, q⟩ := h
    refine ⟨_, (pss_cons (ps_set (i := 2) sc_refusal.nd rfl (Or.inl rfl) (pe_lst pa_nil))
      (pss_cons (ps_try (i := 0) (ie := 3) rfl rfl rfl rfl (Or.inl rfl) hr sc_refusal.nd rfl rfl (by rfl) XE.thaw (fun _ => by exact (pss_cons (ps_set (i := 2) sc_refusal.nd rfl (Or.inl rfl) (pe_lst (pa_cons (pe_isiXK K T.n_isinstance (pv 3) (pe_cls XE.g0)) (pa_cons (pe_isiXK K T.n_isinstance (pv 3) (pe_cls XE.g1)) (pa_cons (pe_isiXK K T.n_isinstance (pv 3) (pe_cls XE.g2)) pa_nil)))))
          (pss_cons (ps_set (i := 2) sc_refusal.nd rfl (Or.inl rfl) (pe_op op_cat (pv 2) (pe_lst (pa_cons (pe_isiXK K T.n_isinstance (pv 3) (pe_cls XE.g3)) (pa_cons (pe_isiXK K T.n_isinstance (pv 3) (pe_cls XE.g4)) (pa_cons (pe_isiXK K T.n_isinstance (pv 3) (pe_cls XE.g5)) pa_nil))))))
          (pss_cons (ps_set (i := 2) sc_refusal.nd rfl (Or.inl rfl) (pe_op op_cat (pv 2) (pe_lst (pa_cons (pe_isiXK K T.n_isinstance (pv 3) (pe_cls XE.g6)) (pa_cons (pe_isiXK K T.n_isinstance (pv 3) (pe_cls XE.g7)) (pa_cons (pe_isiXK K T.n_isinstance (pv 3) (pe_cls XE.g8)) pa_nil))))))
          (pss_cons (ps_set (i := 2) sc_refusal.nd rfl (Or.inl rfl) (pe_op op_cat (pv 2) (pe_lst (pa_cons (pe_isiXK K T.n_isinstance (pv 3) (pe_cls XE.g9)) (pa_cons (pe_isiXK K T.n_isinstance (pv 3) (pe_cls XE.g10)) (pa_cons (pe_isiXK K T.n_isinstance (pv 3) (pe_cls XE.g11)) pa_nil))))))
          (pss_one (ps_set (i := 2) sc_refusal.nd rfl (Or.inl rfl) (pe_op op_cat (pv 2) (pe_lst (pa_cons (pe_isiXK K T.n_isinstance (pv 3) (pe_ty T.n_ValueError)) pa_nil)))))))))))
      (pss_one (ps_ret (pe_cmpR (op_eqB hr.units0) (pv 2) (pe_comp rfl (CompScope.of (T := ["_law_k"]) (js := [1]) (defScope s_refusal).names N_refusal rfl rfl rfl (by decide +kernel)) (pi_range1 (by rfl) T.n_range (pa_cons pe_int pa_nil)) (fun _ _ _ _ => ⟨(pg_name (i := 0) (by show List.Nodup (["_law_k", "_law_place"] : List Str); decide +kernel) rfl (Or.inl rfl)), pif_nil, (pe_cmpR (op_in_seqK K) (pv 0) (pe_tup (pa_cons (pv 1) (pa_cons pe_int pa_nil))) rfl)⟩)) (nomark _)))))), ?_⟩
    refine ⟨sz9, fun l hl => ?_⟩
    have s0 : Same H (upd H l (.lst [])) := Same.upd hl
    refine ⟨_, rfl, f, name, qual, params, body, scope, clos, pm, cv, ctv, sp, rfl, s0 _ _ hf, FO, hb, hrun _ _ _ s0 fun H1 xa s1 hx => ?_⟩
    refine ⟨xa, C j, rfl, rfl, R.ex, ?_⟩
    have sx : Same H1 (upd H1 xa (.ext (ExcIs xa (.ref (C j))))) := Same.upd hx
    have hX : (upd H1 xa (.ext (ExcIs xa (.ref (C j))))) xa = some (.ext (ExcIs xa (.ref (C j)))) := upd_same
    generalize (upd H1 xa (.ext (ExcIs xa (.ref (C j))))) = G0 at sx hX ⊢
    have sG0 : Same H G0 := (s0.trans s1).trans sx
    clear sx s1 s0 hx
    -- the first three
    refine ⟨_, rfl, xa, _, _, _, rfl, hX, R.kx, .inr ⟨_, rfl, R.one 0 (by decide)⟩, _, rfl, xa, _, _, _, rfl, hX, R.kx, .inr ⟨_, rfl, R.one 1 (by decide)⟩, _, rfl, xa, _, _, _, rfl, hX, R.kx, .inr ⟨_, rfl, R.one 2 (by decide)⟩, sz9, fun p1 f1 => ?_⟩
    have sg1 := Same.upd (o := .lst [.bl (decide (0 = j)), .bl (decide (1 = j)), .bl (decide (2 = j))]) f1
    have hL1 : (upd G0 p1 (.lst [.bl (decide (0 = j)), .bl (decide (1 = j)), .bl (decide (2 = j))])) p1 = some (.lst [.bl (decide (0 = j)), .bl (decide (1 = j)), .bl (decide (2 = j))]) := upd_same
    generalize (upd G0 p1 (.lst [.bl (decide (0 = j)), .bl (decide (1 = j)), .bl (decide (2 = j))])) = G1 at sg1 hL1 ⊢
    have sG1 := sG0.trans sg1
    have hX1 := sg1 _ _ hX
    -- three more
    refine ⟨_, rfl, _, rfl, xa, _, _, _, rfl, hX1, R.kx, .inr ⟨_, rfl, R.one 3 (by decide)⟩, _, rfl, xa, _, _, _, rfl, hX1, R.kx, .inr ⟨_, rfl, R.one 4 (by decide)⟩, _, rfl, xa, _, _, _, rfl, hX1, R.kx, .inr ⟨_, rfl, R.one 5 (by decide)⟩, sz9, fun q2 g2 => ?_⟩
    refine ⟨p1, q2, _, _, rfl, rfl, Same.upd g2 _ _ hL1, upd_same, sz9, fun p2 f2 => ?_⟩
    have sg2 := (Same.upd (o := .lst [.bl (decide (3 = j)), .bl (decide (4 = j)), .bl (decide (5 = j))]) g2).trans (Same.upd (o := .lst ([.bl (decide (0 = j)), .bl (decide (1 = j)), .bl (decide (2 = j))] ++ [.bl (decide (3 = j)), .bl (decide (4 = j)), .bl (decide (5 = j))])) f2)
    have hL2 : (upd (upd G1 q2 (.lst [.bl (decide (3 = j)), .bl (decide (4 = j)), .bl (decide (5 = j))])) p2 (.lst ([.bl (decide (0 = j)), .bl (decide (1 = j)), .bl (decide (2 = j))] ++ [.bl (decide (3 = j)), .bl (decide (4 = j)), .bl (decide (5 = j))]))) p2 = some (.lst ([.bl (decide (0 = j)), .bl (decide (1 = j)), .bl (decide (2 = j))] ++ [.bl (decide (3 = j)), .bl (decide (4 = j)), .bl (decide (5 = j))])) := upd_same
    generalize (upd (upd G1 q2 (.lst [.bl (decide (3 = j)), .bl (decide (4 = j)), .bl (decide (5 = j))])) p2 (.lst ([.bl (decide (0 = j)), .bl (decide (1 = j)), .bl (decide (2 = j))] ++ [.bl (decide (3 = j)), .bl (decide (4 = j)), .bl (decide (5 = j))]))) = G2 at sg2 hL2 ⊢
    have sG2 := sG1.trans sg2
    have hX2 := sg2 _ _ hX1
    -- three more
    refine ⟨_, rfl, _, rfl, xa, _, _, _, rfl, hX2, R.kx, .inr ⟨_, rfl, R.one 6 (by decide)⟩, _, rfl, xa, _, _, _, rfl, hX2, R.kx, .inr ⟨_, rfl, R.one 7 (by decide)⟩, _, rfl, xa, _, _, _, rfl, hX2, R.kx, .inr ⟨_, rfl, R.one 8 (by decide)⟩, sz9, fun q3 g3 => ?_⟩
    refine ⟨p2, q3, _, _, rfl, rfl, Same.upd g3 _ _ hL2, upd_same, sz9, fun p3 f3 => ?_⟩
    refine ⟨_, rfl, _, rfl, xa, _, _, _, rfl, Same.upd f3 _ _ (Same.upd g3 _ _ hX2), R.kx, .inr ⟨_, rfl, R.one 9 (by decide)⟩, _, rfl, xa, _, _, _, rfl, Same.upd f3 _ _ (Same.upd g3 _ _ hX2), R.kx, .inr ⟨_, rfl, R.one 10 (by decide)⟩, _, rfl, xa, _, _, _, rfl, Same.upd f3 _ _ (Same.upd g3 _ _ hX2), R.kx, .inr ⟨_, rfl, R.one 11 (by decide)⟩, sz9, fun q4 g4 => ?_⟩
    refine ⟨p3, q4, _, _, rfl, rfl, Same.upd g4 _ _ upd_same, upd_same, sz9, fun p4 f4 => ?_⟩
    refine ⟨_, rfl, _, rfl, xa, _, _, _, rfl, Same.upd f4 _ _ (Same.upd g4 _ _ (Same.upd f3 _ _ (Same.upd g3 _ _ hX2))), R.kx, .inl ⟨_, rfl, R.ve⟩, sz9, fun q5 g5 => ?_⟩
    refine ⟨p4, q5, _, _, rfl, rfl, Same.upd g5 _ _ upd_same, upd_same, sz9, fun p5 f5 => ?_⟩
    have sG5 := (((((sG2.trans (Same.upd (o := .lst [.bl (decide (6 = j)), .bl (decide (7 = j)), .bl (decide (8 = j))]) g3)).trans (Same.upd f3)).trans (Same.upd g4)).trans (Same.upd f4)).trans (Same.upd g5)).trans (Same.upd (o := .lst (((([.bl (decide (0 = j)), .bl (decide (1 = j)), .bl (decide (2 = j))] ++ [.bl (decide (3 = j)), .bl (decide (4 = j)), .bl (decide (5 = j))]) ++ [.bl (decide (6 = j)), .bl (decide (7 = j)), .bl (decide (8 = j))]) ++ [.bl (decide (9 = j)), .bl (decide (10 = j)), .bl (decide (11 = j))]) ++ [.bl true])) f5)
    refine ⟨_, rfl, 13, rfl, by decide, by decide, fun ph fph => ?_⟩
    have h5 := upd_same (H := (upd (upd (upd (upd (upd G2 q3 (.lst [.bl (decide (6 = j)), .bl (decide (7 = j)), .bl (decide (8 = j))])) p3 (.lst (([.bl (decide (0 = j)), .bl (decide (1 = j)), .bl (decide (2 = j))] ++ [.bl (decide (3 = j)), .bl (decide (4 = j)), .bl (decide (5 = j))]) ++ [.bl (decide (6 = j)), .bl (decide (7 = j)), .bl (decide (8 = j))]))) q4 (.lst [.bl (decide (9 = j)), .bl (decide (10 = j)), .bl (decide (11 = j))])) p4 (.lst ((([.bl (decide (0 = j)), .bl (decide (1 = j)), .bl (decide (2 = j))] ++ [.bl (decide (3 = j)), .bl (decide (4 = j)), .bl (decide (5 = j))]) ++ [.bl (decide (6 = j)), .bl (decide (7 = j)), .bl (decide (8 = j))]) ++ [.bl (decide (9 = j)), .bl (decide (10 = j)), .bl (decide (11 = j))]))) q5 (.lst [.bl true]))) (a := p5) (o := .lst (((([.bl (decide (0 = j)), .bl (decide (1 = j)), .bl (decide (2 = j))] ++ [.bl (decide (3 = j)), .bl (decide (4 = j)), .bl (decide (5 = j))]) ++ [.bl (decide (6 = j)), .bl (decide (7 = j)), .bl (decide (8 = j))]) ++ [.bl (decide (9 = j)), .bl (decide (10 = j)), .bl (decide (11 = j))]) ++ [.bl true]))
    revert fph
    generalize upd (upd (upd (upd (upd (upd G2 q3 (.lst [.bl (decide (6 = j)), .bl (decide (7 = j)), .bl (decide (8 = j))])) p3 (.lst (([.bl (decide (0 = j)), .bl (decide (1 = j)), .bl (decide (2 = j))] ++ [.bl (decide (3 = j)), .bl (decide (4 = j)), .bl (decide (5 = j))]) ++ [.bl (decide (6 = j)), .bl (decide (7 = j)), .bl (decide (8 = j))]))) q4 (.lst [.bl (decide (9 = j)), .bl (decide (10 = j)), .bl (decide (11 = j))])) p4 (.lst ((([.bl (decide (0 = j)), .bl (decide (1 = j)), .bl (decide (2 = j))] ++ [.bl (decide (3 = j)), .bl (decide (4 = j)), .bl (decide (5 = j))]) ++ [.bl (decide (6 = j)), .bl (decide (7 = j)), .bl (decide (8 = j))]) ++ [.bl (decide (9 = j)), .bl (decide (10 = j)), .bl (decide (11 = j))]))) q5 (.lst [.bl true])) p5 (.lst (((([.bl (decide (0 = j)), .bl (decide (1 = j)), .bl (decide (2 = j))] ++ [.bl (decide (3 = j)), .bl (decide (4 = j)), .bl (decide (5 = j))]) ++ [.bl (decide (6 = j)), .bl (decide (7 = j)), .bl (decide (8 = j))]) ++ [.bl (decide (9 = j)), .bl (decide (10 = j)), .bl (decide (11 = j))]) ++ [.bl true])) = G5 at sG5 h5 ⊢
    intro fph
    have h5n : p5 ≠ ph := ne_of_none h5 fph
    refine comp_range (fun i σ H2 => (∃ v, σ = [v, some (.int (j : Int))]) ∧ Same G5 H2 ∧ H2 ph = some (.lst ((List.range i).map fun k : Nat => V.bl (inV (.int ((0 : Int) + (k : Int))) [.int (j : Int), .int 12])))) ?_ ?_ ?_
    · exact ⟨⟨none, rfl⟩, Same.upd fph, upd_same⟩
    · rintro i σ H2 hi ⟨⟨v, rfl⟩, sH, hp⟩
      have hi' : i < 13 := hi
      refine compT_one ?_
      refine ⟨_, rfl, _, rfl, sz9, fun tp ft => ⟨tp, _, rfl, .inr (SqT.of upd_same), rfl, rfl, _, Same.upd ft _ _ hp, sz1000 (by rw [List.length_map, List.length_range]; omega), ⟨_, rfl⟩, ?_, ?_⟩⟩
      · intro b o hb
        have : b ≠ ph := fun z => by rw [z] at hb; rw [fph] at hb; cases hb
        rw [upd_ne this]
        exact Same.upd ft _ _ (sH _ _ hb)
      · rw [upd_same, range_map_succ (f := fun k : Nat => V.bl (inV (.int ((0 : Int) + (k : Int))) [.int (j : Int), .int 12]))]
        rfl
    rintro σ1 H6 ⟨_, s6, h6⟩
    refine ⟨p5, ph, ([0, 1, 2, 3, 4, 5, 6, 7, 8, 9, 10, 11].map (fun i : Nat => decide (i = j)) ++ [true]), (List.range 13).map (fun k : Nat => inV (.int ((0 : Int) + (k : Int))) [.int (j : Int), .int 12]), rfl, rfl, SqL.of (s6 _ _ h5), SqL.of (h6.trans (by rw [List.map_map]; rfl)), ?_⟩
    rw [decide_eq_true (kinds_due j hj)]
    exact q _ (sG5.trans s6)
abbrev s_answers : Stmt := top 56
abbrev N_answers : List Str := ["_law_call"]
abbrev P_answers : List Str := ["_law_call"]
theorem sc_answers : FnScope N_answers P_answers (defScope s_answers) := mk9
/-! _law_answers -/
def sp_answers (P : Program) (w : World) (K : W.Frag) (mg : Str → Option Value) (base : Heap) : Sp := fun vs H Q _ => ∃ (f : Addr), vs = [.ref f] ∧ LamAns P w K mg base H f ∧ ∀ H', Same H H' → Q (.bl true) H'
theorem ok_answers (F : Fun K "_law_answers" "_law_answers" s_answers f fd) (T : Txt K mg) : FnOk P w K mg base (CX1 P w) 15 f fd P_answers (sp_answers P w K mg base) := by
  refine F.okX sc_answers (fun vs H Q E h => ?_) (fun cdv A outer s H vs Q E hr h => ?_)
  · obtain ⟨f, rfl, _⟩ := h
    rfl
  · obtain ⟨f, rfl, ⟨name, qual, params, body, scope, clos, pm, cv, ctv, sp, hf, FO, hb, hrun⟩, q⟩ := h
    refine ⟨_, (pss_cons (ps_tryA (i := 0) rfl (Or.inl rfl) hr)
      (pss_one (ps_ret pe_bl))), ?_⟩
    exact ⟨_, rfl, f, name, qual, params, body, scope, clos, pm, cv, ctv, sp, rfl, hf, FO, hb, hrun _ _ _ (Same.refl _) fun v H1 s1 => q _ s1⟩
abbrev s_beyond : Stmt := top 57
abbrev N_beyond : List Str := ["_law_cell", "_law_most"]
abbrev P_beyond : List Str := ["_law_cell", "_law_most"]
theorem sc_beyond : FnScope N_beyond P_beyond (defScope s_beyond) := mk9
/-! _law_beyond -/
def sp_beyond : Sp := fun vs H Q _ => ∃ (cell most : Int), vs = [.int cell, .int most] ∧ 0 ≤ most ∧ ∀ (z : Int) (H' : Hp), Same H H' → ¬ (1 ≤ z ∧ z ≤ most) → Q (.int z) H'
theorem beyond_at (r c most : Int) (h0 : 0 ≤ most) : ∃ m : Int, atI [V.int 0, V.int (-1), V.int (most + 1), V.int (most + 1 + r % 10 ^ 30), V.int (-1 - r % 10 ^ 30)] (c % 5) = some (.int m) ∧ ¬ (1 ≤ m ∧ m ≤ most) := by
  have h3 := Int.emod_nonneg c (show (5 : Int) ≠ 0 by decide)
  have h4 := Int.emod_lt_of_pos c (show (0 : Int) < 5 by decide)
  have a3 := Int.emod_nonneg r (show (10 ^ 30 : Int) ≠ 0 by decide)
  have h5 : c % 5 = 0 ∨ c % 5 = 1 ∨ c % 5 = 2 ∨ c % 5 = 3 ∨ c % 5 = 4 := by omega
  rcases h5 with e | e | e | e | e <;> rw [e]
  · exact ⟨_, rfl, by omega⟩
  · exact ⟨_, rfl, by omega⟩
  · exact ⟨_, rfl, by omega⟩
  · exact ⟨_, rfl, by omega⟩
  · exact ⟨_, rfl, by omega⟩
theorem ok_beyond (F : Fun K "_law_beyond" "_law_beyond" s_beyond f fd) (T : Txt K mg) : FnOk P w K mg base CX0 1 f fd P_beyond sp_beyond := by
  refine F.ok sc_beyond (fun vs H Q E h => ?_) (fun cdv A outer s H vs Q E hr h => ?_)
  · obtain ⟨cell, most, rfl, _⟩ := h
    rfl
  · obtain ⟨cell, most, rfl, h0, q⟩ := h
    refine ⟨_, (pss_one (ps_ret (pe_ix ix_list (pe_lst (pa_cons pe_int (pa_cons (pe_un un_neg pe_int) (pa_cons (pe_op op_add (pv 1) pe_int) (pa_cons (pe_op op_add (pe_op op_add (pv 1) pe_int) (pe_op op_mod (pe_op op_fdiv (pv 0) pe_int) (pe_op op_pow pe_int pe_int))) (pa_cons (pe_op op_sub (pe_un un_neg pe_int) (pe_op op_mod (pe_op op_fdiv (pv 0) pe_int) (pe_op op_pow pe_int pe_int))) pa_nil)))))) (pe_op op_mod (pv 0) pe_int) (fun _ _ => rfl)))), ?_⟩
    obtain ⟨z, ez, hz⟩ := beyond_at (cell / 4) cell most h0
    refine ⟨_, rfl, _, rfl, _, _, rfl, rfl, _, rfl, _, _, rfl, rfl, _, rfl, _, _, rfl, rfl, ⟨by decide, by decide⟩, _, _, rfl, rfl, ⟨by decide, by decide, by decide⟩, _, _, rfl, rfl, (by show (0 : Int) < 10 ^ 30; decide), _, _, rfl, rfl, _, rfl, _, rfl, _, _, rfl, rfl, ⟨by decide, by decide⟩, _, _, rfl, rfl, ⟨by decide, by decide, by decide⟩, _, _, rfl, rfl, (by show (0 : Int) < 10 ^ 30; decide), _, _, rfl, rfl, sz9, fun p f => ?_⟩
    exact ⟨_, rfl, _, _, rfl, rfl, (by show (0 : Int) < 5; decide), p, _, _, _, rfl, rfl, SqL.of upd_same, ez, q z _ (Same.upd f) hz⟩
abbrev s_all : Stmt := top 58
abbrev N_all : List Str := ["_law_calls", "_law_wrong", "_law_doors", "_law_k", "_law_due"]
abbrev P_all : List Str := ["_law_calls", "_law_wrong"]
theorem sc_all : FnScope N_all P_all (defScope s_all) := mk9
/-! _law_all -/
def doorsN : List (List Nat) := [[5, 6, 7], [5, 6, 7], [5, 6, 8], [5, 6], [0, 5, 6], [7]]
def dueN (ws : List Bool) (d : List Nat) : List Nat := d.filter fun j => ws.getD j false
def sp_all (P : Program) (w : World) (K : W.Frag) (mg : Str → Option Value) (base : Heap) (CT : Addr) (C : Nat → Addr) : Sp := fun vs H Q _ => ∃ (pc pw : Addr) (fs : List Addr) (ws : List Bool), vs = [.ref pc, .ref pw] ∧ H pc = some (.lst (fs.map V.ref)) ∧ fs.length = 6 ∧ H pw = some (.lst (ws.map V.bl)) ∧ ws.length = 12 ∧
  (∀ (k : Nat) (g : Addr) (d : List Nat), fs[k]? = some g → doorsN[k]? = some d → (dueN ws d = [] → LamAns P w K mg base H g) ∧ (∀ j r, dueN ws d = j :: r → LamRef P w K mg base C H g j ∧ Refuses K CT C j)) ∧ ∀ H', Same H H' → Q (.bl true) H'
theorem lamRef_same {C : Nat → Addr} {H H' : Hp} {f : Addr} {j : Nat} (h : LamRef P w K mg base C H f j) (s : Same H H') : LamRef P w K mg base C H' f j := by
  obtain ⟨name, qual, params, body, scope, clos, pm, cv, ctv, sp, h1, h2, h3, h4⟩ := h
  exact ⟨name, qual, params, body, scope, clos, pm, cv, ctv, sp, s _ _ h1, h2, h3, fun H2 Q' E' s2 hE => h4 H2 Q' E' (s.trans s2) hE⟩
theorem lamAns_same {H H' : Hp} {f : Addr} (h : LamAns P w K mg base H f) (s : Same H H') : LamAns P w K mg base H' f := by
  obtain ⟨name, qual, params, body, scope, clos, pm, cv, ctv, sp, h1, h2, h3, h4⟩ := h
  exact ⟨name, qual, params, body, scope, clos, pm, cv, ctv, sp, s _ _ h1, h2, h3, fun H2 Q' E' s2 hE => h4 H2 Q' E' (s.trans s2) hE⟩
theorem same_addC {cs : List (Addr × Obj)} {H : Hp} (un : ∀ b o, cs.lookup b = some o → H b = none) : Same H (addC cs H) := fun b o e => by
  rw [addC_out]
  · exact e
  · cases z : cs.lookup b with
    | none => rfl
    | some u => rw [un b u z] at e; cases e
theorem doors_lo : ∀ d ∈ doorsN, d.length ≤ 3 ∧ ∀ j ∈ d, j < 12 := by decide
theorem ok_all (F : Fun K "_law_all" "_law_all" s_all f fd) (T : Txt K mg) {CT : Addr} {C : Nat → Addr} (o_whole : Ok P w K mg base "_law_whole" P_whole 1 sp_whole) (o_refusal : OkX P w K mg base "_law_refusal" P_refusal 15 (sp_refusal P w K mg base CT C)) (o_answers : OkX P w K mg base "_law_answers" P_answers 15 (sp_answers P w K mg base)) : FnOk P w K mg base (CX1 P w) 16 f fd P_all (sp_all P w K mg base CT C) := by
  refine F.okLq sc_all (fun vs H Q E h => ?_) (fun A outer s H vs Q E hr h => ?_)
  · obtain ⟨pc, pw, fs, ws, rfl, _⟩ := h
    rfl
  · obtain ⟨pc, pw, fs, ws, rfl, hc, hfl, hw, hwl, hd, q⟩ := h
    refine ⟨_, (pss_consQ (ps_setQ (i := 2) sc_all.nd rfl (Or.inl rfl) (pe_lstL6 pe_li3q pe_li3q pe_li3q pe_li2q pe_li3q pe_li1q))
      (pss_consQ (PSq.of (ps_for PassesOwn.never rfl (pi_range1 (by rfl) T.n_range (pa_cons pe_int pa_nil)) (pg_name (i := 3) sc_all.nd rfl (Or.inl rfl))
        (pss_cons (ps_setC (i := 4) rfl sc_all.nd rfl rfl (CompScope.of (T := ["_law_kind"]) (js := [1]) (defScope s_all).names N_all rfl rfl rfl (by decide +kernel)) (pi_list (pe_ix ix_list (pv 2) (pv 3) (fun _ _ => rfl))) (fun _ _ _ _ => ⟨(pg_name (i := 0) (by show List.Nodup (["_law_kind", "_law_wrong"] : List Str); decide +kernel) rfl (Or.inl rfl)), (pif_one (pt_val (pe_ix (ix_listK K) (pv 1) (pv 0) (fun _ _ => rfl)))), (pv 0)⟩))
        (pss_cons (ps_if (PW.pt (pw_and (pt_cmpR (op_neNil hr.units0) (pv 4) (pe_lst pa_nil) (nomark _)) (pw_and1 (pt_not (pt_val (pe_callC o_refusal hr (pa_cons (pe_ix ix_list (pv 0) (pv 3) (fun _ _ => rfl)) (pa_cons (pe_ix ix_list (pv 4) pe_int (fun _ _ => rfl)) pa_nil)) (fun _ => rfl) (cells_in (by decide +kernel) (fun _ _ h => nomatch h))))))))
          (pss_one (ps_ret pe_bl))
          pss_nil)
        (pss_one (ps_if (PW.pt (pw_and (pt_cmpR (op_eqNil hr.units0) (pv 4) (pe_lst pa_nil) (nomark _)) (pw_and1 (pt_not (pt_val (pe_callX o_answers hr passE0 (pa_cons (pe_ix ix_list (pv 0) (pv 3) (fun _ _ => rfl)) pa_nil)))))))
          (pss_one (ps_ret pe_bl))
          pss_nil))))))
      (pss_oneQ (PSq.of (ps_ret (pe_and (pe_callO o_whole hr (pa_cons (pe_gint T.g_MOST_SEASONS) pa_nil)) (pe_one (pe_cmpR op_eq (pe_gint T.g_MOST_SEASONS) pe_int (nomark _))))))))), ?_⟩
    refine ⟨sz9, fun p1 f1 => ?_⟩
    have s1 := Same.upd (o := .lst [.int 5, .int 6, .int 7]) f1
    have e1 : (upd H p1 (.lst [.int 5, .int 6, .int 7])) p1 = some (.lst [.int 5, .int 6, .int 7]) := upd_same
    generalize upd H p1 (.lst [.int 5, .int 6, .int 7]) = H1 at s1 e1 ⊢
    refine ⟨sz9, fun p2 f2 => ?_⟩
    have s2 := Same.upd (o := .lst [.int 5, .int 6, .int 7]) f2
    have e2 : (upd H1 p2 (.lst [.int 5, .int 6, .int 7])) p2 = some (.lst [.int 5, .int 6, .int 7]) := upd_same
    generalize upd H1 p2 (.lst [.int 5, .int 6, .int 7]) = H2 at s2 e2 ⊢
    refine ⟨sz9, fun p3 f3 => ?_⟩
    have s3 := Same.upd (o := .lst [.int 5, .int 6, .int 8]) f3
    have e3 : (upd H2 p3 (.lst [.int 5, .int 6, .int 8])) p3 = some (.lst [.int 5, .int 6, .int 8]) := upd_same
    generalize upd H2 p3 (.lst [.int 5, .int 6, .int 8]) = H3 at s3 e3 ⊢
    refine ⟨sz9, fun p4 f4 => ?_⟩
    have s4 := Same.upd (o := .lst [.int 5, .int 6]) f4
    have e4 : (upd H3 p4 (.lst [.int 5, .int 6])) p4 = some (.lst [.int 5, .int 6]) := upd_same
    generalize upd H3 p4 (.lst [.int 5, .int 6]) = H4 at s4 e4 ⊢
    refine ⟨sz9, fun p5 f5 => ?_⟩
    have s5 := Same.upd (o := .lst [.int 0, .int 5, .int 6]) f5
    have e5 : (upd H4 p5 (.lst [.int 0, .int 5, .int 6])) p5 = some (.lst [.int 0, .int 5, .int 6]) := upd_same
    generalize upd H4 p5 (.lst [.int 0, .int 5, .int 6]) = H5 at s5 e5 ⊢
    refine ⟨sz9, fun p6 f6 => ?_⟩
    have s6 := Same.upd (o := .lst [.int 7]) f6
    have e6 : (upd H5 p6 (.lst [.int 7])) p6 = some (.lst [.int 7]) := upd_same
    generalize upd H5 p6 (.lst [.int 7]) = H6 at s6 e6 ⊢
    refine ⟨sz9, fun pd fd' => ?_⟩
    have s7 := Same.upd (o := .lst [.ref p1, .ref p2, .ref p3, .ref p4, .ref p5, .ref p6]) fd'
    have e7 : (upd H6 pd (.lst [.ref p1, .ref p2, .ref p3, .ref p4, .ref p5, .ref p6])) pd = some (.lst ([p1, p2, p3, p4, p5, p6].map V.ref)) := upd_same
    generalize upd H6 pd (.lst [.ref p1, .ref p2, .ref p3, .ref p4, .ref p5, .ref p6]) = H7 at s7 e7 ⊢
    have s07 : Same H H7 := (((((s1.trans s2).trans s3).trans s4).trans s5).trans s6).trans s7
    have hds : ∀ (k : Nat) (d : List Nat), doorsN[k]? = some d → ∃ p, [p1, p2, p3, p4, p5, p6][k]? = some p ∧ H7 p = some (.lst (d.map fun j : Nat => V.int (j : Int))) := fun k d e => by
      match k, e with
      | 0, e => cases e; exact ⟨p1, rfl, s7 _ _ (s6 _ _ (s5 _ _ (s4 _ _ (s3 _ _ (s2 _ _ e1)))))⟩
      | 1, e => cases e; exact ⟨p2, rfl, s7 _ _ (s6 _ _ (s5 _ _ (s4 _ _ (s3 _ _ e2))))⟩
      | 2, e => cases e; exact ⟨p3, rfl, s7 _ _ (s6 _ _ (s5 _ _ (s4 _ _ e3)))⟩
      | 3, e => cases e; exact ⟨p4, rfl, s7 _ _ (s6 _ _ (s5 _ _ e4))⟩
      | 4, e => cases e; exact ⟨p5, rfl, s7 _ _ (s6 _ _ e5)⟩
      | 5, e => cases e; exact ⟨p6, rfl, s7 _ _ e6⟩
      | k + 6, e => simp [doorsN] at e
    clear s1 s2 s3 s4 s5 s6 s7 e1 e2 e3 e4 e5 e6 f1 f2 f3 f4 f5 f6 fd'
    generalize [p1, p2, p3, p4, p5, p6] = ps at e7 hds
    have h7c := s07 _ _ hc
    have h7w := s07 _ _ hw
    refine ⟨_, rfl, by decide, by decide, ?_⟩
    refine for_range (n := (6 : Int).toNat) (fun k σ H' => (∃ v3 v4, σ = [some (.ref pc), some (.ref pw), some (.ref pd), v3, v4]) ∧ Same H7 H') ?_ ?_ ?_
    · exact ⟨⟨_, _, rfl⟩, Same.refl _⟩
    · rintro k σ H8 hk ⟨⟨v3, v4, rfl⟩, s8⟩
      have hk : k < 6 := hk
      rw [show (0 : Int) + (k : Int) = (k : Int) by omega]
      obtain ⟨d, ed⟩ : ∃ d, doorsN[k]? = some d := ⟨_, List.getElem?_eq_getElem (show k < doorsN.length from hk)⟩
      obtain ⟨p, ep, hp⟩ := hds k d ed
      obtain ⟨g, eg⟩ : ∃ g, fs[k]? = some g := ⟨_, List.getElem?_eq_getElem (by omega)⟩
      obtain ⟨d1, d2⟩ := doors_lo d (List.mem_of_getElem? ed)
      obtain ⟨q1, q2⟩ := hd k g d eg ed
      have h8p := s8 _ _ hp
      have h8w := s8 _ _ h7w
      refine ⟨_, rfl, _, rfl, pd, _, _, _, rfl, rfl, SqL.of (s8 _ _ e7), atI_nat (j := k) (by rw [List.getElem?_map, ep]; rfl), p, rfl, ⟨_, SqL.of h8p⟩, fun l fl => ?_⟩
      refine comp_list (xs := d.map fun j : Nat => V.int (j : Int)) (fun i σ H' => (∃ v, σ = [v, some (.ref pw)]) ∧ H' = upd H8 l (.lst ((dueN ws (d.take i)).map fun j : Nat => V.int (j : Int)))) ?_ ?_ ?_ ?_
      · exact ⟨⟨none, rfl⟩, rfl⟩
      · rintro i σ H' _ ⟨_, rfl⟩
        exact SqL.of (Same.upd fl _ _ h8p)
      · rintro i y σ H' hy ⟨⟨v, rfl⟩, rfl⟩
        rw [List.getElem?_map] at hy
        obtain ⟨j, ej, rfl⟩ : ∃ j, d[i]? = some j ∧ y = .int (j : Int) := by
          cases z : d[i]? with
          | none => rw [z] at hy; cases hy
          | some j => rw [z] at hy; cases hy; exact ⟨j, rfl, rfl⟩
        have hj := d2 j (List.mem_of_getElem? ej)
        have hil := (List.getElem?_eq_some_iff.mp ej).1
        have ew : (ws.map V.bl)[j]? = some (.bl (ws.getD j false)) := by
          rw [List.getElem?_map, List.getElem?_eq_getElem (by omega), List.getD_eq_getElem?_getD, List.getElem?_eq_getElem (by omega)]; rfl
        have hdl : (dueN ws (d.take i)).length ≤ 3 := Nat.le_trans (List.length_filter_le _ _) (by rw [List.length_take]; omega)
        refine ⟨_, rfl, _, rfl, pw, _, _, _, rfl, rfl, SqL.of (Same.upd fl _ _ h8w), atI_nat ew, _, rfl, ?_⟩
        have tk : dueN ws (d.take (i + 1)) = dueN ws (d.take i) ++ (if ws.getD j false = true then [j] else []) := by
          unfold dueN
          rw [take_snoc ej, List.filter_append, List.filter_cons, List.filter_nil]
        rw [tk]
        cases z : ws.getD j false with
        | true => exact iteT ⟨_, rfl, _, upd_same, sz1000 (by rw [List.length_map]; omega), ⟨_, rfl⟩, by rw [upd_upd, if_pos rfl, List.map_append]; rfl⟩
        | false => exact iteF ⟨⟨_, rfl⟩, by rw [if_neg (by decide), List.append_nil]⟩
      rintro σ H9 ⟨_, rfl⟩
      rw [List.length_map, List.take_length]
      have s9 := Same.upd (o := .lst ((dueN ws d).map fun j : Nat => V.int (j : Int))) fl
      have e9 : (upd H8 l (.lst ((dueN ws d).map fun j : Nat => V.int (j : Int)))) l = some (.lst ((dueN ws d).map fun j : Nat => V.int (j : Int))) := upd_same
      generalize upd H8 l (.lst ((dueN ws d).map fun j : Nat => V.int (j : Int))) = H9 at s9 e9 ⊢
      have hdj : ∀ j ∈ dueN ws d, j < 12 := fun j hj => d2 j (List.mem_filter.mp hj).1
      generalize dueN ws d = due at e9 q1 q2 hdj
      have s79 := s8.trans s9
      have at_c : atI (fs.map V.ref) (k : Int) = some (.ref g) := atI_nat (by rw [List.getElem?_map, eg]; rfl)
      refine ⟨_, rfl, sz9, fun pe fe => ?_⟩
      have s10 := Same.upd (o := .lst []) fe
      have e10 : (upd H9 pe (.lst [])) pe = some (.lst []) := upd_same
      generalize upd H9 pe (.lst []) = H10 at s10 e10 ⊢
      refine ⟨l, pe, _, rfl, rfl, SqL.of (s10 _ _ e9), SqL.of e10, _, rfl, ?_⟩
      have s710 := s79.trans s10
      cases due with
      | nil =>
        refine iteF ?_
        refine iteF ?_
        refine ⟨_, rfl, sz9, fun pe fe => ?_⟩
        have s11 := Same.upd (o := .lst []) fe
        have e11 : (upd H10 pe (.lst [])) pe = some (.lst []) := upd_same
        generalize upd H10 pe (.lst []) = H11 at s11 e11 ⊢
        refine ⟨l, pe, _, rfl, rfl, SqL.of (s11 _ _ (s10 _ _ e9)), SqL.of e11, _, rfl, ?_⟩
        refine iteT ?_
        have s711 := s710.trans s11
        refine ⟨_, rfl, _, rfl, pc, _, _, _, rfl, rfl, SqL.of (s711 _ _ h7c), at_c, g, rfl, lamAns_same (q1 rfl) (s07.trans s711), fun H12 s12 => ⟨_, rfl, ?_⟩⟩
        refine iteF ?_
        exact ⟨⟨_, _, rfl⟩, s711.trans s12⟩
      | cons j r =>
        obtain ⟨LR, R⟩ := q2 j r rfl
        refine iteT ?_
        dsimp only [gName, tIfS, tNot, tB, tCallC, tCons]
        refine ⟨_, rfl, _, rfl, pc, _, _, _, rfl, rfl, SqL.of (s710 _ _ h7c), at_c, _, rfl, l, _, _, _, rfl, rfl, SqL.of (s10 _ _ e9), atI_nat (j := 0) rfl, ?_⟩
        intro cs CA
        refine ⟨g, j, rfl, hdj j (by simp), lamRef_same (lamRef_same LR (s07.trans s710)) (same_addC CA.un), R, fun H11 s11 => ?_⟩
        have s12 := s11.drop CA.un
        refine ⟨_, rfl, ?_⟩
        refine iteF ?_
        refine ⟨_, rfl, sz9, fun pe fe => ?_⟩
        have s13 := Same.upd (o := .lst []) fe
        have e13 : (upd (dropC cs H11) pe (.lst [])) pe = some (.lst []) := upd_same
        generalize upd (dropC cs H11) pe (.lst []) = H13 at s13 e13 ⊢
        refine ⟨l, pe, _, rfl, rfl, SqL.of (s13 _ _ (s12 _ _ (s10 _ _ e9))), SqL.of e13, _, rfl, ?_⟩
        refine iteF ?_
        refine iteF ?_
        exact ⟨⟨_, _, rfl⟩, (s710.trans s12).trans s13⟩
    · rintro σ H8 ⟨⟨v3, v4, rfl⟩, s8⟩
      refine ⟨_, rfl, _, rfl, ?_⟩
      refine iteT ?_
      exact ⟨rfl, q _ (s07.trans s8)⟩
abbrev s_law : Stmt := top 59
abbrev N_law : List Str := ["_law_script", "_law_needs", "_law_heats", "_law_cell", "_law_wrong", "_law_many", "_law_year", "_law_far", "_law_bad", "_law_times", "_law_bed", "_law_place", "_law_at_here", "_law_handed", "_law_calls"]
abbrev P_law : List Str := ["_law_script"]
theorem sc_law : FnScope N_law P_law (defScope s_law) := mk9
/-! law -/
def sp_law (K : W.Frag) (PT : Addr) : Sp := fun vs H Q _ => ∃ (a : Addr) (ns : List Int), vs = [.ref a] ∧ SqL K H a (ns.map V.int) ∧ ns.length ≤ 63 ∧ H PT = some (.tbl #[]) ∧ ∀ H', Q (.bl true) H'
def wrongL (w0 w5 w6 w7 w8 : Bool) : List Bool := [w0, false, false, false, false, w5, w6, w7, w8, false, false, false]
theorem many_at (w5 : Bool) (c x y : Int) : ∃ n : Nat, n ≤ 100 ∧ (w5 = true → ¬ (1 ≤ n ∧ n ≤ 12)) ∧ (w5 = false → 1 ≤ n ∧ n ≤ 12) ∧ ∀ z : Int, atI [V.int 0, V.int 13, V.int (14 + x % 47), V.int 100] (y % 4) = some (.int z) → atI [V.int (1 + c % 12), V.int z] (if w5 = true then 1 else 0) = some (.int (n : Int)) := by
  have h3 := Int.emod_nonneg y (show (4 : Int) ≠ 0 by decide)
  have h4 := Int.emod_lt_of_pos y (show (0 : Int) < 4 by decide)
  have a1 := Int.emod_nonneg c (show (12 : Int) ≠ 0 by decide)
  have a2 := Int.emod_lt_of_pos c (show (0 : Int) < 12 by decide)
  have b1 := Int.emod_nonneg x (show (47 : Int) ≠ 0 by decide)
  have b2 := Int.emod_lt_of_pos x (show (0 : Int) < 47 by decide)
  cases w5 with
  | false =>
    refine ⟨(1 + c % 12).toNat, by omega, by simp, fun _ => by omega, fun z _ => ?_⟩
    show some (V.int (1 + c % 12)) = some (.int (((1 + c % 12).toNat : Nat) : Int))
    rw [show (((1 + c % 12).toNat : Nat) : Int) = 1 + c % 12 by omega]
  | true =>
    have h5 : y % 4 = 0 ∨ y % 4 = 1 ∨ y % 4 = 2 ∨ y % 4 = 3 := by omega
    rcases h5 with e | e | e | e <;> rw [e]
    · exact ⟨0, by omega, fun _ => by omega, by simp, fun z hz => by cases hz; rfl⟩
    · exact ⟨13, by omega, fun _ => by omega, by simp, fun z hz => by cases hz; rfl⟩
    · refine ⟨(14 + x % 47).toNat, by omega, fun _ => by omega, by simp, fun z hz => ?_⟩
      cases hz
      show some (V.int (14 + x % 47)) = some (.int (((14 + x % 47).toNat : Nat) : Int))
      rw [show (((14 + x % 47).toNat : Nat) : Int) = 14 + x % 47 by omega]
    · exact ⟨100, by omega, fun _ => by omega, by simp, fun z hz => by cases hz; rfl⟩
theorem four_at (x y : Int) : ∃ z : Int, atI [V.int 0, V.int 13, V.int (14 + x % 47), V.int 100] (y % 4) = some (.int z) := by
  have h3 := Int.emod_nonneg y (show (4 : Int) ≠ 0 by decide)
  have h4 := Int.emod_lt_of_pos y (show (0 : Int) < 4 by decide)
  have h5 : y % 4 = 0 ∨ y % 4 = 1 ∨ y % 4 = 2 ∨ y % 4 = 3 := by omega
  rcases h5 with e | e | e | e <;> rw [e] <;> exact ⟨_, rfl⟩
theorem bad_at (c far : Int) (hf : 0 ≤ far) : ∃ m : Int, atI [V.int (-1), V.int 1000001, V.int (-1 - far), V.int (1000001 + far)] (c % 4) = some (.int m) ∧ ¬ GoodAm m := by
  have h1 := Int.emod_nonneg c (show (4 : Int) ≠ 0 by decide)
  have h2 := Int.emod_lt_of_pos c (show (0 : Int) < 4 by decide)
  have h5 : c % 4 = 0 ∨ c % 4 = 1 ∨ c % 4 = 2 ∨ c % 4 = 3 := by omega
  rcases h5 with e | e | e | e <;> rw [e]
  · exact ⟨_, rfl, by unfold GoodAm; omega⟩
  · exact ⟨_, rfl, by unfold GoodAm; omega⟩
  · exact ⟨_, rfl, by unfold GoodAm; omega⟩
  · exact ⟨_, rfl, by unfold GoodAm; omega⟩
theorem SeasAt.set {H : Hp} {ts : List Addr} {ss : List (Bool × Int)} (S : SeasAt H ts ss) {k : Nat} {t : Addr} {z : Bool × Int} (hk : k < ss.length) (ht : H t = some (.tup [.str (kindS z.1), .int z.2])) : SeasAt H (ts.set k t) (ss.set k z) := by
  refine ⟨by rw [List.length_set, List.length_set, S.len], fun j y e => ?_⟩
  have hl := S.len
  by_cases h : k = j
  · subst h
    rw [List.getElem?_set_self hk] at e
    cases e
    exact ⟨t, by rw [List.getElem?_set_self (by omega)], ht⟩
  · rw [List.getElem?_set_ne h] at e
    obtain ⟨u, e1, e2⟩ := S.at' j y e
    exact ⟨u, by rw [List.getElem?_set_ne h]; exact e1, e2⟩
theorem dueN_t {ws : List Bool} {a : Nat} {d : List Nat} (h : ws.getD a false = true) : dueN ws (a :: d) = a :: dueN ws d := by
  unfold dueN; rw [List.filter_cons, if_pos h]
theorem dueN_f {ws : List Bool} {a : Nat} {d : List Nat} (h : ws.getD a false = false) : dueN ws (a :: d) = dueN ws d := by
  unfold dueN; rw [List.filter_cons, if_neg (by rw [h]; decide)]
theorem door_step {ws : List Bool} {a : Nat} {d : List Nat} {A : Prop} {R : Nat → Prop} (ha : ws.getD a false = true → R a) (rest : ws.getD a false = false → (dueN ws d = [] → A) ∧ ∀ j r, dueN ws d = j :: r → R j) : (dueN ws (a :: d) = [] → A) ∧ ∀ j r, dueN ws (a :: d) = j :: r → R j := by
  cases h : ws.getD a false with
  | true => rw [dueN_t h]; exact ⟨(by intro z; cases z), fun j r z => (by cases z; exact ha h)⟩
  | false => rw [dueN_f h]; exact rest h
theorem door_nil {ws : List Bool} {A : Prop} {R : Nat → Prop} (h : A) : (dueN ws [] = [] → A) ∧ ∀ j r, dueN ws [] = j :: r → R j := ⟨fun _ => h, fun j r z => by cases z⟩
theorem two_at (w : Bool) (x z : Int) : atI [V.int x, V.int z] (if w = true then 1 else 0) = some (.int (if w = true then z else x)) := by cases w <;> rfl
theorem ok_law (F : Fun K "law" "law" s_law f fd) (T : Txt K mg) {c PT CT : Addr} {C : Nat → Addr} (XE : Errs mg CT C) (R0 : Refuses K CT C 0) (R5 : Refuses K CT C 5) (R6 : Refuses K CT C 6) (R7 : Refuses K CT C 7) (R8 : Refuses K CT C 8) (hcode : fd.code = .ref c) (hC : W.CodeHd base c PT) (hB : base.BuiltinsAt mg PT)
    (o_at : Ok P w K mg base "_law_at" P_at 1 (sp_at K)) (o_beds : Ok P w K mg base "_law_beds" P_beds 2 (sp_beds K)) (o_seasons : Ok P w K mg base "_law_seasons" P_seasons 3 sp_seasons) (o_beyond : Ok P w K mg base "_law_beyond" P_beyond 1 sp_beyond) (o_all : OkX P w K mg base "_law_all" P_all 16 (sp_all P w K mg base CT C))
    (o_year_rule : Ok P w K mg base "year_rule" P_year_rule 4 (sp_year_rule K)) (o_years_passed : Ok P w K mg base "years_passed" P_years_passed 6 (sp_years_passed K)) (o_heats_at : Ok P w K mg base "heats_at" P_heats_at 7 (sp_heats_at K)) (o_rest_of : Ok P w K mg base "rest_of" P_rest_of 5 (sp_rest_of K)) (o_first_season : Ok P w K mg base "first_season" P_first_season 6 (sp_first_season K)) (o_repeated : Ok P w K mg base "repeated" P_repeated 3 (sp_repeated K))
    (o_year_ruleX : OkX P w K mg base "year_rule" P_year_rule 4 (sp_year_ruleX K mg)) (o_years_passedX : OkX P w K mg base "years_passed" P_years_passed 6 (sp_years_passedX K mg)) (o_heats_atX : OkX P w K mg base "heats_at" P_heats_at 7 (sp_heats_atX K mg)) (o_rest_ofX : OkX P w K mg base "rest_of" P_rest_of 5 (sp_rest_ofX K mg)) (o_first_seasonX : OkX P w K mg base "first_season" P_first_season 6 (sp_first_seasonX K mg)) (o_repeatedX : OkX P w K mg base "repeated" P_repeated 3 (sp_repeatedX K mg)) : FnOk P w K mg base (CX1 P w) 17 f fd P_law (sp_law K PT) := by
  refine F.okL sc_law (fun vs H Q E h => ?_) (fun A outer s H vs Q E hr h => ?_)
  · obtain ⟨a, ns, rfl, _⟩ := h
    rfl
  · obtain ⟨a, ns, rfl, hS, hlen, hT, q⟩ := h
    refine ⟨_, (pss_cons (ps_asg (pe_callO o_beds hr (pa_cons (pv 0) pa_nil)) (pg_tupL (n := 2) (by rfl) (pgs_cons (pg_name (i := 1) sc_law.nd rfl (Or.inr rfl)) (pgs_cons (pg_name (i := 2) sc_law.nd rfl (Or.inl rfl)) pgs_nil))))
      (pss_cons (ps_set (i := 3) sc_law.nd rfl (Or.inl rfl) (pe_callO o_at hr (pa_cons (pv 0) (pa_cons pe_int pa_nil))))
      (pss_cons (ps_set (i := 4) sc_law.nd rfl (Or.inl rfl) (pe_op op_rep (pe_lst (pa_cons pe_bl pa_nil)) pe_int))
      (pss_cons (ps_asg (pe_cmpR op_eq (pe_op op_mod (pv 3) pe_int) pe_int (nomark _)) (pg_sub (pv 4) pe_int set_list))
      (pss_cons (ps_set (i := 5) sc_law.nd rfl (Or.inl rfl) (pe_ix ix_list (pe_lst (pa_cons (pe_op op_add pe_int (pe_op op_mod (pe_op op_fdiv (pv 3) pe_int) pe_int)) (pa_cons (pe_ix ix_list (pe_lst (pa_cons pe_int (pa_cons pe_int (pa_cons (pe_op op_add pe_int (pe_op op_mod (pe_op op_fdiv (pv 3) pe_int) pe_int)) (pa_cons pe_int pa_nil))))) (pe_op op_mod (pe_op op_fdiv (pv 3) pe_int) pe_int) (fun _ _ => rfl)) pa_nil))) (pe_callTy call_int1 (by rfl) T.n_int (by decide +kernel) (pa_cons (pe_ix ix_list (pv 4) pe_int (fun _ _ => rfl)) pa_nil)) (fun _ _ => rfl)))
      (pss_cons (ps_set (i := 6) sc_law.nd rfl (Or.inl rfl) (pe_callO o_seasons hr (pa_cons (pe_callO o_at hr (pa_cons (pv 0) (pa_cons pe_int pa_nil))) (pa_cons (pv 5) (pa_cons (pe_sum (by rfl) T.n_sum (pv 1)) pa_nil)))))
      (pss_cons (ps_asg (pe_and (pe_cmpR op_eq (pe_op op_mod (pe_op op_fdiv (pv 3) pe_int) pe_int) pe_int (nomark _)) (pe_one (pe_cmpR op_gt (pv 5) pe_int (nomark _)))) (pg_sub (pv 4) pe_int set_list))
      (pss_cons (ps_if (pt_val (pe_ix ix_list (pv 4) pe_int (fun _ _ => rfl)))
        (pss_cons (ps_set (i := 7) sc_law.nd rfl (Or.inl rfl) (pe_op op_mod (pe_op op_fdiv (pe_callO o_at hr (pa_cons (pv 0) (pa_cons pe_int pa_nil))) pe_int) (pe_op op_pow pe_int pe_int)))
        (pss_cons (ps_set (i := 8) sc_law.nd rfl (Or.inl rfl) (pe_ix ix_list (pe_lst (pa_cons (pe_un un_neg pe_int) (pa_cons pe_int (pa_cons (pe_op op_sub (pe_un un_neg pe_int) (pv 7)) (pa_cons (pe_op op_add pe_int (pv 7)) pa_nil))))) (pe_op op_mod (pe_callO o_at hr (pa_cons (pv 0) (pa_cons pe_int pa_nil))) pe_int) (fun _ _ => rfl)))
        (pss_one (ps_asg (pe_tup (pa_cons (pe_ix ix_list (pe_lst (pa_cons pe_str (pa_cons pe_str pa_nil))) (pe_op op_mod (pe_op op_mod (pe_callO o_at hr (pa_cons (pv 0) (pa_cons pe_int pa_nil))) pe_int) pe_int) (fun _ _ => rfl)) (pa_cons (pv 8) pa_nil))) (pg_sub (pv 6) (pe_op op_mod (pe_callO o_at hr (pa_cons (pv 0) (pa_cons pe_int pa_nil))) (pv 5)) set_list)))))
        pss_nil)
      (pss_cons (ps_asg (pe_cmpR op_eq (pe_op op_mod (pe_op op_fdiv (pv 3) pe_int) pe_int) pe_int (nomark _)) (pg_sub (pv 4) pe_int set_list))
      (pss_cons (ps_set (i := 9) sc_law.nd rfl (Or.inr rfl) (pe_ix ix_list (pe_lst (pa_cons (pe_op op_add pe_int (pe_op op_mod (pe_callO o_at hr (pa_cons (pv 0) (pa_cons pe_int pa_nil))) (pe_op op_pow pe_int pe_int))) (pa_cons (pe_callO o_beyond hr (pa_cons (pe_callO o_at hr (pa_cons (pv 0) (pa_cons pe_int pa_nil))) (pa_cons (pe_op op_pow pe_int pe_int) pa_nil))) pa_nil))) (pe_callTy call_int1 (by rfl) T.n_int (by decide +kernel) (pa_cons (pe_ix ix_list (pv 4) pe_int (fun _ _ => rfl)) pa_nil)) (fun _ _ => rfl)))
      (pss_cons (ps_asg (pe_cmpR op_eq (pe_op op_mod (pe_op op_fdiv (pv 3) pe_int) pe_int) pe_int (nomark _)) (pg_sub (pv 4) pe_int set_list))
      (pss_cons (ps_set (i := 10) sc_law.nd rfl (Or.inr rfl) (pe_ix ix_list (pe_lst (pa_cons (pe_op op_add pe_int (pe_op op_mod (pe_callO o_at hr (pa_cons (pv 0) (pa_cons pe_int pa_nil))) (pe_len T.n_len (pv 1)))) (pa_cons (pe_callO o_beyond hr (pa_cons (pe_callO o_at hr (pa_cons (pv 0) (pa_cons pe_int pa_nil))) (pa_cons (pe_len T.n_len (pv 1)) pa_nil))) pa_nil))) (pe_callTy call_int1 (by rfl) T.n_int (by decide +kernel) (pa_cons (pe_ix ix_list (pv 4) pe_int (fun _ _ => rfl)) pa_nil)) (fun _ _ => rfl)))
      (pss_cons (ps_asg (pe_cmpR op_eq (pe_op op_mod (pe_op op_fdiv (pv 3) pe_int) pe_int) pe_int (nomark _)) (pg_sub (pv 4) pe_int set_list))
      (pss_cons (ps_set (i := 11) sc_law.nd rfl (Or.inr rfl) (pe_lst (pa_cons pe_int (pa_cons (pe_op op_add pe_int (pe_op op_mod (pe_callO o_at hr (pa_cons (pv 0) (pa_cons pe_int pa_nil))) (pe_max (by rfl) T.n_max pe_int (pv 5)))) pa_nil))))
      (pss_cons (ps_if (pt_val (pe_ix ix_list (pv 4) pe_int (fun _ _ => rfl)))
        (pss_cons (ps_set (i := 12) sc_law.nd rfl (Or.inl rfl) (pe_op op_mod (pe_callO o_at hr (pa_cons (pv 0) (pa_cons pe_int pa_nil))) pe_int))
        (pss_one (ps_asg (pe_callO o_beyond hr (pa_cons (pe_callO o_at hr (pa_cons (pv 0) (pa_cons pe_int pa_nil))) (pa_cons (pe_ix ix_list (pe_lst (pa_cons (pe_op op_pow pe_int pe_int) (pa_cons (pv 5) pa_nil))) (pv 12) (fun _ _ => rfl)) pa_nil))) (pg_sub (pv 11) (pv 12) set_list))))
        pss_nil)
      (pss_cons (ps_set (i := 13) sc_law.nd rfl (Or.inr rfl) (pe_lst (pa_cons (pe_list T.n_list (pv 1)) (pa_cons (pe_list T.n_list (pv 2)) (pa_cons (pe_list T.n_list (pv 6)) pa_nil)))))
      (pss_cons (ps_set (i := 14) sc_law.nd rfl (Or.inl rfl) (pe_lst (pa_cons (pe_lamC (c := c) (P := PT) (defScope s_law).names rfl rfl (by decide +kernel) hcode hC hB) pa_nil)))
      (pss_cons (ps_expr (pe_bm PySem.F.plainAttrs_list PySem.F.slot_list_append PySem.F.type_list_append mt_append (pv 14) (pa_cons (pe_lamC (c := c) (P := PT) (defScope s_law).names rfl rfl (by decide +kernel) hcode hC hB) pa_nil)))
      (pss_cons (ps_expr (pe_bm PySem.F.plainAttrs_list PySem.F.slot_list_append PySem.F.type_list_append mt_append (pv 14) (pa_cons (pe_lamC (c := c) (P := PT) (defScope s_law).names rfl rfl (by decide +kernel) hcode hC hB) pa_nil)))
      (pss_cons (ps_expr (pe_bm PySem.F.plainAttrs_list PySem.F.slot_list_append PySem.F.type_list_append mt_append (pv 14) (pa_cons (pe_lamC (c := c) (P := PT) (defScope s_law).names rfl rfl (by decide +kernel) hcode hC hB) pa_nil)))
      (pss_cons (ps_expr (pe_bm PySem.F.plainAttrs_list PySem.F.slot_list_append PySem.F.type_list_append mt_append (pv 14) (pa_cons (pe_lamC (c := c) (P := PT) (defScope s_law).names rfl rfl (by decide +kernel) hcode hC hB) pa_nil)))
      (pss_cons (ps_expr (pe_bm PySem.F.plainAttrs_list PySem.F.slot_list_append PySem.F.type_list_append mt_append (pv 14) (pa_cons (pe_lamC (c := c) (P := PT) (defScope s_law).names rfl rfl (by decide +kernel) hcode hC hB) pa_nil)))
      (pss_one (ps_ret (pe_and (pe_callC o_all hr (pa_cons (pv 14) (pa_cons (pv 4) pa_nil)) (fun _ => rfl) (cells_in (by decide +kernel) (fun _ _ h => nomatch h))) (pe_one (pe_cmpR (op_eqLV (hu_of hr)) (pv 13) (pe_lst (pa_cons (pv 1) (pa_cons (pv 2) (pa_cons (pv 6) pa_nil)))) (nomark _)))))))))))))))))))))))))))), ?_⟩
    refine seq_in fun D1 hx => ?_
    refine ⟨_, rfl, a, ns, rfl, hS, fun H1 l pn ph needs heats s1 fl fpn fph d1 d2 d3 hl hn hh B => ?_⟩
    refine ⟨l, _, rfl, SqL.of hl, rfl, _, _, rfl, _, _, rfl, rfl, ?_⟩
    refine hx _ _ ?_
    have hBs := B.sum
    have hBl := B.len
    have hBlo := B.lo
    have hBhi := B.hi
    clear fl fpn fph d1 d2 d3 hl
    refine seq_in fun D1 hx => ?_
    refine ⟨_, rfl, a, ns, 3, rfl, s1.seq hS, ?_⟩
    refine hx _ _ ?_
    generalize ns.getD 3 0 = cell
    -- nothing is wrong yet
    refine seq_in fun D1 hx => ?_
    refine ⟨sz9, fun p1 f1 => ?_⟩
    have u1 := Same.upd (o := .lst [.bl false]) f1
    have e1 : (upd H1 p1 (.lst [.bl false])) p1 = some (.lst [.bl false]) := upd_same
    generalize upd H1 p1 (.lst [.bl false]) = H2 at u1 e1 ⊢
    refine ⟨p1, 12, _, rfl, rfl, e1, by decide, by decide, (by show 1 * 12 ≤ _; decide), fun pw fw => ?_⟩
    refine hx _ _ ?_
    have u2 := Same.upd (o := .lst ((wrongL false false false false false).map V.bl)) fw
    have e2 : (upd H2 pw (.lst (List.replicate (12 : Int).toNat [V.bl false]).flatten)) = upd H2 pw (.lst ((wrongL false false false false false).map V.bl)) := rfl
    rw [e2]
    have h3w : (upd H2 pw (.lst ((wrongL false false false false false).map V.bl))) pw = some (.lst ((wrongL false false false false false).map V.bl)) := upd_same
    have fw1 : H1 pw = none := u1.free fw
    have s3 := u1.trans u2
    generalize upd H2 pw (.lst ((wrongL false false false false false).map V.bl)) = H3 at s3 h3w ⊢
    clear u1 u2 e1 e2 f1 fw
    -- too few seasons, or too many
    refine seq_in fun D1 hx => ?_
    refine ⟨_, rfl, _, _, rfl, rfl, (by show (0 : Int) < 2; decide), rfl, ?_⟩
    refine ⟨_, rfl, pw, _, _, 5, rfl, rfl, h3w, rfl, ?_⟩
    refine hx _ _ ?_
    generalize decide (V.int (cell % 2) = V.int 1) = w5
    have h4w : (upd H3 pw (.lst (((wrongL false false false false false).map V.bl).set 5 (.bl w5)))) pw = some (.lst ((wrongL false w5 false false false).map V.bl)) := upd_same
    have s4 := s3.set (o := .lst (((wrongL false false false false false).map V.bl).set 5 (.bl w5))) fw1
    generalize upd H3 pw (.lst (((wrongL false false false false false).map V.bl).set 5 (.bl w5))) = H4 at s4 h4w ⊢
    clear h3w s3
    -- how many
    obtain ⟨n, hn100, hn5, hn5', en⟩ := many_at w5 (cell / 32) (cell / 128) (cell / 32)
    obtain ⟨z4, e4⟩ := four_at (cell / 128) (cell / 32)
    refine seq_in fun D1 hx => ?_
    refine ⟨_, rfl, _, _, rfl, rfl, ⟨by decide, by decide⟩, _, _, rfl, rfl, (by show (0 : Int) < 12; decide), _, _, rfl, rfl, _, rfl, _, _, rfl, rfl, ⟨by decide, by decide⟩, _, _, rfl, rfl, (by show (0 : Int) < 47; decide), _, _, rfl, rfl, sz9, fun p2 f2 => ?_⟩
    have v2 := Same.upd (o := .lst [V.int 0, V.int 13, V.int (14 + cell / 128 % 47), V.int 100]) f2
    refine ⟨_, rfl, _, _, rfl, rfl, ⟨by decide, by decide⟩, _, _, rfl, rfl, (by show (0 : Int) < 4; decide), p2, _, _, _, rfl, rfl, SqL.of upd_same, e4, sz9, fun p3 f3 => ?_⟩
    have v3 := v2.trans (Same.upd (o := .lst [V.int (1 + cell / 32 % 12), V.int z4]) f3)
    refine ⟨_, rfl, pw, _, _, _, rfl, rfl, SqL.of (v3 _ _ h4w), rfl, .inr ⟨_, rfl, p3, _, _, _, rfl, rfl, SqL.of upd_same, en z4 e4, ?_⟩⟩
    refine hx _ _ ?_
    generalize upd (upd H4 p2 _) p3 _ = H5 at v3 ⊢
    have s5 := s4.trans v3
    have h5w := v3 _ _ h4w
    clear en e4 v2 v3 f2 f3 s4 h4w
    -- the year
    refine seq_in fun D1 hx => ?_
    refine ⟨_, rfl, a, ns, 4, rfl, (s1.trans s5).seq hS, _, rfl, _, rfl, pn, needs, rfl, SqL.of (s5 _ _ hn), _, _, n, rfl, by omega, hBs.1, by omega, fun H6 py ts0 ss0 v6 fpy hsl hz h6y hS6 => ?_⟩
    refine hx _ _ ?_
    have s6 := s5.trans v6
    have h6w := v6 _ _ h5w
    have fy1 : H1 py = none := s5.free fpy
    have nyw : py ≠ pw := Ne.symm (ne_of_none h5w fpy)
    clear v6 h5w s5 fpy
    -- is an amount wrong
    refine seq_cut (fun σ' H' => ∃ w6 : Bool, σ' = [some (.ref a), some (.ref pn), some (.ref ph), some (.int cell), some (.ref pw), some (.int (n : Int)), some (.ref py), none, none, none, none, none, none, none, none] ∧ H' = upd H6 pw (.lst ((wrongL false w5 w6 false false).map V.bl)) ∧ (w6 = true → 0 < n)) (fun nx hnx => ?_) ?_
    · refine ⟨_, rfl, _, _, rfl, rfl, ⟨by decide, by decide⟩, _, _, rfl, rfl, (by show (0 : Int) < 2; decide), rfl, _, rfl, ?_⟩
      refine ite2 (fun hc => ?_) (fun hc => ?_)
      · exact ⟨_, rfl, _, _, rfl, rfl, _, rfl, pw, _, _, 6, rfl, rfl, h6w, rfl, hnx _ _ ⟨_, rfl, rfl, fun h => by have h : (0 : Int) < (n : Int) := of_decide_eq_true h; omega⟩⟩
      · exact ⟨_, rfl, pw, _, _, 6, rfl, rfl, h6w, rfl, hnx _ _ ⟨false, rfl, rfl, by simp⟩⟩
    rintro _ _ ⟨w6, rfl, rfl, hw6⟩
    have h7w : (upd H6 pw (.lst ((wrongL false w5 w6 false false).map V.bl))) pw = some (.lst ((wrongL false w5 w6 false false).map V.bl)) := upd_same
    have s7 := s6.set (o := .lst ((wrongL false w5 w6 false false).map V.bl)) fw1
    have h7y : (upd H6 pw (.lst ((wrongL false w5 w6 false false).map V.bl))) py = some (.lst (ts0.map V.ref)) := by rw [upd_ne nyw]; exact h6y
    have hS7 := hS6.tup (keepT_upd (o := .lst ((wrongL false w5 w6 false false).map V.bl)) h6w)
    generalize upd H6 pw (.lst ((wrongL false w5 w6 false false).map V.bl)) = H7 at s7 h7w h7y hS7 ⊢
    clear s6 h6w h6y hS6
    refine seq_cut (fun σ' H' => ∃ (ts : List Addr) (ss : List (Bool × Int)) (v7 v8 : Option V), σ' = [some (.ref a), some (.ref pn), some (.ref ph), some (.int cell), some (.ref pw), some (.int (n : Int)), some (.ref py), v7, v8, none, none, none, none, none, none] ∧ Same H1 H' ∧ H' pw = some (.lst ((wrongL false w5 w6 false false).map V.bl)) ∧ H' py = some (.lst (ts.map V.ref)) ∧ SeasAt H' ts ss ∧ ss.length = n ∧ (w6 = true → ¬ ∀ z ∈ ss, GoodAm z.2) ∧ (w6 = false → ∀ z ∈ ss, GoodAm z.2)) (fun nx hnx => ?_) ?_
    · refine ⟨_, rfl, pw, _, _, _, rfl, rfl, SqL.of h7w, rfl, w6, rfl, ?_⟩
      cases w6 with
      | false =>
        refine iteF ?_
        exact hnx _ _ ⟨ts0, ss0, _, _, rfl, s7, h7w, h7y, hS7, hsl, by simp, fun _ => hz⟩
      | true =>
        refine iteT ?_
        have h0 := hw6 rfl
        have hS' := (s1.trans s7).seq hS
        refine seq_in fun D3 hz3 => ?_
        refine ⟨_, rfl, a, ns, 5, rfl, hS', _, _, rfl, rfl, ⟨by decide, by decide⟩, _, _, rfl, rfl, ⟨by decide, by decide, by decide⟩, _, _, rfl, rfl, (by show (0 : Int) < 10 ^ 30; decide), ?_⟩
        refine hz3 _ _ ?_
        have far0 : 0 ≤ ns.getD 5 0 / 4 % 10 ^ ((30 : Int).toNat) := Int.emod_nonneg _ (by decide)
        obtain ⟨bad, ebad, hbad⟩ := bad_at (ns.getD 5 0) _ far0
        refine seq_in fun D3 hz3 => ?_
        refine ⟨_, rfl, _, rfl, _, rfl, _, _, rfl, rfl, _, rfl, _, _, rfl, rfl, sz9, fun p0 f0 => ?_⟩
        have w0 := Same.upd (o := .lst [V.int (-1), V.int 1000001, V.int (-1 - ns.getD 5 0 / 4 % 10 ^ ((30 : Int).toNat)), V.int (1000001 + ns.getD 5 0 / 4 % 10 ^ ((30 : Int).toNat))]) f0
        refine ⟨_, rfl, a, ns, 5, rfl, w0.seq hS', _, _, rfl, rfl, (by show (0 : Int) < 4; decide), p0, _, _, _, rfl, rfl, SqL.of upd_same, ebad, ?_⟩
        refine hz3 _ _ ?_
        generalize upd H7 p0 _ = H8 at w0 ⊢
        obtain ⟨bk, ebk⟩ := kind_at (ns.getD 6 0 % 3)
        refine ⟨sz9, fun p4 f4 => ?_⟩
        have w4 := w0.trans (Same.upd (o := .lst [V.str "warm", V.str "cold"]) f4)
        refine ⟨_, rfl, a, ns, 6, rfl, w4.seq hS', _, _, rfl, rfl, (by show (0 : Int) < 3; decide), _, _, rfl, rfl, (by show (0 : Int) < 2; decide), p4, _, _, _, rfl, rfl, SqL.of upd_same, ebk, ?_⟩
        refine ⟨_, rfl, sz9, fun t2 ft2 => ?_⟩
        have w5' := w4.trans (Same.upd (o := .tup [.str (kindS bk), .int bad]) ft2)
        have h9t : (upd (upd H8 p4 (.lst [V.str "warm", V.str "cold"])) t2 (.tup [.str (kindS bk), .int bad])) t2 = some (.tup [.str (kindS bk), .int bad]) := upd_same
        generalize upd (upd H8 p4 _) t2 _ = H9 at w5' h9t ⊢
        have hn0 : (0 : Int) < (n : Int) := by omega
        obtain ⟨k, ek, hk⟩ : ∃ k : Nat, ns.getD 6 0 % (n : Int) = (k : Int) ∧ k < n := by
          have r1 := Int.emod_nonneg (ns.getD 6 0) (Int.ne_of_gt hn0)
          have r2 := Int.emod_lt_of_pos (ns.getD 6 0) hn0
          exact ⟨(ns.getD 6 0 % (n : Int)).toNat, by omega, by omega⟩
        refine ⟨_, rfl, _, rfl, a, ns, 6, rfl, w5'.seq hS', _, rfl, _, _, rfl, rfl, hn0, ?_⟩
        try dsimp only
        rw [ek]
        have hlt := hS7.len
        refine ⟨py, _, _, k, rfl, rfl, w5' _ _ h7y, ixN_nat (k := k) (by rw [List.length_map]; omega), ?_⟩
        have h9y := w5' _ _ h7y
        have h9w := w5' _ _ h7w
        have kt := keepT_upd (o := .lst ((ts0.map V.ref).set k (.ref t2))) h9y
        have hS9 := (((hS7.same w5').set (k := k) (t := t2) (z := (bk, bad)) (by omega) h9t).tup kt)
        refine hnx _ _ ⟨ts0.set k t2, ss0.set k (bk, bad), _, _, rfl, (s7.trans w5').set fy1, by rw [upd_ne (Ne.symm nyw)]; exact h9w, by rw [upd_same, List.map_set], hS9, by rw [List.length_set]; exact hsl, fun _ all => hbad (all (bk, bad) (List.mem_set (by omega) _)), by simp⟩
    rintro _ H8 ⟨ts, ss, v7, v8, rfl, s8, h8w, h8y, hS8, hsn, bad6, good6⟩
    clear hS7 h7y h7w s7 hz hsl hw6
    have hS1 := s1.seq hS
    -- how many times
    refine seq_in fun D1 hx => ?_
    refine ⟨_, rfl, _, _, rfl, rfl, ⟨by decide, by decide⟩, _, _, rfl, rfl, (by show (0 : Int) < 2; decide), rfl, ?_⟩
    refine ⟨_, rfl, pw, _, _, 7, rfl, rfl, h8w, rfl, ?_⟩
    refine hx _ _ ?_
    generalize decide (V.int (cell / 4 % 2) = V.int 1) = w7
    have h9w : (upd H8 pw (.lst (((wrongL false w5 w6 false false).map V.bl).set 7 (.bl w7)))) pw = some (.lst ((wrongL false w5 w6 w7 false).map V.bl)) := upd_same
    have s9 := s8.set (o := .lst (((wrongL false w5 w6 false false).map V.bl).set 7 (.bl w7))) fw1
    have h9y : (upd H8 pw (.lst (((wrongL false w5 w6 false false).map V.bl).set 7 (.bl w7)))) py = some (.lst (ts.map V.ref)) := by rw [upd_ne nyw]; exact h8y
    have hS9 := hS8.tup (keepT_upd (o := .lst (((wrongL false w5 w6 false false).map V.bl).set 7 (.bl w7))) h8w)
    generalize upd H8 pw (.lst (((wrongL false w5 w6 false false).map V.bl).set 7 (.bl w7))) = H9 at s9 h9w h9y hS9 ⊢
    clear h8w s8 h8y hS8
    refine seq_in fun D1 hx => ?_
    refine ⟨_, rfl, a, ns, 7, rfl, s9.seq hS1, _, _, rfl, rfl, ⟨by decide, by decide, by decide⟩, _, _, rfl, rfl, (by show (0 : Int) < 10 ^ 18; decide), _, _, rfl, rfl, _, rfl, a, ns, 7, rfl, s9.seq hS1, _, _, rfl, rfl, ⟨by decide, by decide, by decide⟩, _, _, rfl, (by show (0 : Int) ≤ 10 ^ 18; decide), fun zm H10 x10 hzm => ?_⟩
    have e18 : (10 : Int) ^ ((18 : Int).toNat) = 1000000000000000000 := by decide
    rw [e18] at hzm
    refine ⟨sz9, fun p5 f5 => ?_⟩
    have x11 := x10.trans (Same.upd (o := .lst [V.int (1 + ns.getD 7 0 % 10 ^ ((18 : Int).toNat)), V.int zm]) f5)
    refine ⟨_, rfl, pw, _, _, _, rfl, rfl, SqL.of (x11 _ _ h9w), rfl, .inr ⟨_, rfl, p5, _, _, _, rfl, rfl, SqL.of upd_same, two_at w7 _ _, ?_⟩⟩
    refine hx _ _ ?_
    obtain ⟨m, em, hm7, hm7'⟩ : ∃ m : Int, (if w7 = true then zm else 1 + ns.getD 7 0 % 10 ^ ((18 : Int).toNat)) = m ∧ (w7 = true → ¬ (1 ≤ m ∧ m ≤ 1000000000000000000)) ∧ (w7 = false → 1 ≤ m ∧ m ≤ 1000000000000000000) := by
      refine ⟨_, rfl, fun e => by rw [if_pos e]; exact hzm, fun e => ?_⟩
      rw [if_neg (by rw [e]; decide), e18]
      have r1 := Int.emod_nonneg (ns.getD 7 0) (show (1000000000000000000 : Int) ≠ 0 by decide)
      have r2 := Int.emod_lt_of_pos (ns.getD 7 0) (show (0 : Int) < 1000000000000000000 by decide)
      omega
    rw [em]
    generalize upd H10 p5 _ = H11 at x11 ⊢
    have s11 := s9.trans x11
    have h11w := x11 _ _ h9w
    have h11y := x11 _ _ h9y
    have hS11 := hS9.same x11
    clear h9w s9 h9y hS9 x10 x11 f5 hzm em
    -- which bed
    refine seq_in fun D1 hx => ?_
    refine ⟨_, rfl, _, _, rfl, rfl, ⟨by decide, by decide⟩, _, _, rfl, rfl, (by show (0 : Int) < 2; decide), rfl, ?_⟩
    refine ⟨_, rfl, pw, _, _, 0, rfl, rfl, h11w, rfl, ?_⟩
    refine hx _ _ ?_
    generalize decide (V.int (cell / 8 % 2) = V.int 1) = w0
    have h12w : (upd H11 pw (.lst (((wrongL false w5 w6 w7 false).map V.bl).set 0 (.bl w0)))) pw = some (.lst ((wrongL w0 w5 w6 w7 false).map V.bl)) := upd_same
    have s12 := s11.set (o := .lst (((wrongL false w5 w6 w7 false).map V.bl).set 0 (.bl w0))) fw1
    have h12y : (upd H11 pw (.lst (((wrongL false w5 w6 w7 false).map V.bl).set 0 (.bl w0)))) py = some (.lst (ts.map V.ref)) := by rw [upd_ne nyw]; exact h11y
    have hS12 := hS11.tup (keepT_upd (o := .lst (((wrongL false w5 w6 w7 false).map V.bl).set 0 (.bl w0))) h11w)
    generalize upd H11 pw (.lst (((wrongL false w5 w6 w7 false).map V.bl).set 0 (.bl w0))) = H12 at s12 h12w h12y hS12 ⊢
    clear h11w s11 h11y hS11
    refine seq_in fun D1 hx => ?_
    have hlp : (0 : Int) < ((needs.map V.int).length : Int) := by rw [List.length_map]; omega
    refine ⟨_, rfl, a, ns, 8, rfl, s12.seq hS1, _, rfl, pn, _, rfl, .inl (SqL.of (s12 _ _ hn)), _, _, rfl, rfl, hlp, _, _, rfl, rfl, _, rfl, a, ns, 8, rfl, s12.seq hS1, _, rfl, pn, _, rfl, .inl (SqL.of (s12 _ _ hn)), _, _, rfl, Int.le_of_lt hlp, fun zb H13 x13 hzb => ?_⟩
    refine ⟨sz9, fun p6 f6 => ?_⟩
    have x14 := x13.trans (Same.upd (o := .lst [V.int (1 + ns.getD 8 0 % ((needs.map V.int).length : Int)), V.int zb]) f6)
    refine ⟨_, rfl, pw, _, _, _, rfl, rfl, SqL.of (x14 _ _ h12w), rfl, .inr ⟨_, rfl, p6, _, _, _, rfl, rfl, SqL.of upd_same, two_at w0 _ _, ?_⟩⟩
    refine hx _ _ ?_
    obtain ⟨b, eb, hb0, hb0'⟩ : ∃ b : Int, (if w0 = true then zb else 1 + ns.getD 8 0 % ((needs.map V.int).length : Int)) = b ∧ (w0 = true → ¬ (1 ≤ b ∧ b ≤ (needs.length : Int))) ∧ (w0 = false → 1 ≤ b ∧ b ≤ (needs.length : Int)) := by
      rw [List.length_map] at hzb hlp ⊢
      refine ⟨_, rfl, fun e => by rw [if_pos e]; exact hzb, fun e => ?_⟩
      rw [if_neg (by rw [e]; decide)]
      have r1 := Int.emod_nonneg (ns.getD 8 0) (Int.ne_of_gt hlp)
      have r2 := Int.emod_lt_of_pos (ns.getD 8 0) hlp
      omega
    rw [eb]
    generalize upd H13 p6 _ = H14 at x14 ⊢
    have s14 := s12.trans x14
    have h14w := x14 _ _ h12w
    have h14y := x14 _ _ h12y
    have hS14 := hS12.same x14
    clear h12w s12 h12y hS12 x13 x14 f6 hzb eb
    -- which year and season
    refine seq_in fun D1 hx => ?_
    refine ⟨_, rfl, _, _, rfl, rfl, ⟨by decide, by decide⟩, _, _, rfl, rfl, (by show (0 : Int) < 2; decide), rfl, ?_⟩
    refine ⟨_, rfl, pw, _, _, 8, rfl, rfl, h14w, rfl, ?_⟩
    refine hx _ _ ?_
    generalize decide (V.int (cell / 16 % 2) = V.int 1) = w8
    have h15w : (upd H14 pw (.lst (((wrongL w0 w5 w6 w7 false).map V.bl).set 8 (.bl w8)))) pw = some (.lst ((wrongL w0 w5 w6 w7 w8).map V.bl)) := upd_same
    have s15 := s14.set (o := .lst (((wrongL w0 w5 w6 w7 false).map V.bl).set 8 (.bl w8))) fw1
    have h15y : (upd H14 pw (.lst (((wrongL w0 w5 w6 w7 false).map V.bl).set 8 (.bl w8)))) py = some (.lst (ts.map V.ref)) := by rw [upd_ne nyw]; exact h14y
    have hS15 := hS14.tup (keepT_upd (o := .lst (((wrongL w0 w5 w6 w7 false).map V.bl).set 8 (.bl w8))) h14w)
    generalize upd H14 pw (.lst (((wrongL w0 w5 w6 w7 false).map V.bl).set 8 (.bl w8))) = H15 at s15 h15w h15y hS15 ⊢
    clear h14w s14 h14y hS14
    refine seq_in fun D1 hx => ?_
    have hmx : (0 : Int) < (if (1 : Int) < (n : Int) then (n : Int) else 1) := by split <;> omega
    refine ⟨_, rfl, a, ns, 9, rfl, s15.seq hS1, _, rfl, _, _, rfl, _, _, rfl, rfl, hmx, ?_⟩
    refine ⟨_, _, rfl, rfl, sz9, fun pl fpl => ?_⟩
    refine hx _ _ ?_
    have r1 := Int.emod_nonneg (ns.getD 9 0) (Int.ne_of_gt hmx)
    have r2 := Int.emod_lt_of_pos (ns.getD 9 0) hmx
    try dsimp only
    generalize (ns.getD 9 0) % (if (1 : Int) < (n : Int) then (n : Int) else 1) = sq at r1 r2 ⊢
    have x16 := Same.upd (o := .lst [V.int 1, V.int (1 + sq)]) fpl
    have h16p : (upd H15 pl (.lst [V.int 1, V.int (1 + sq)])) pl = some (.lst [V.int 1, V.int (1 + sq)]) := upd_same
    generalize upd H15 pl (.lst [V.int 1, V.int (1 + sq)]) = H16 at x16 h16p ⊢
    have s16 := s15.trans x16
    have fl1 : H1 pl = none := s15.free fpl
    have h16w := x16 _ _ h15w
    have h16y := x16 _ _ h15y
    have hS16 := hS15.same x16
    have nlw : pl ≠ pw := Ne.symm (ne_of_none h15w fpl)
    have nly : pl ≠ py := Ne.symm (ne_of_none h15y fpl)
    clear x16 h15w s15 h15y hS15 fpl
    refine seq_cut (fun σ' H' => ∃ (y u : Int) (v12 : Option V), σ' = [some (.ref a), some (.ref pn), some (.ref ph), some (.int cell), some (.ref pw), some (.int (n : Int)), some (.ref py), v7, v8, some (.int m), some (.int b), some (.ref pl), v12, none, none] ∧ Same H1 H' ∧ H' pw = some (.lst ((wrongL w0 w5 w6 w7 w8).map V.bl)) ∧ H' py = some (.lst (ts.map V.ref)) ∧ SeasAt H' ts ss ∧ H' pl = some (.lst [.int y, .int u]) ∧ (w8 = true → ¬ (1 ≤ y ∧ y ≤ 1000000000000000000 ∧ 1 ≤ u ∧ u ≤ (n : Int))) ∧ (w8 = false → 1 ≤ n → 1 ≤ y ∧ y ≤ 1000000000000000000 ∧ 1 ≤ u ∧ u ≤ (n : Int))) (fun nx hnx => ?_) ?_
    · refine ⟨_, rfl, pw, _, _, _, rfl, rfl, SqL.of h16w, rfl, w8, rfl, ?_⟩
      cases w8 with
      | false =>
        refine iteF ?_
        refine hnx _ _ ⟨1, 1 + sq, _, rfl, s16, h16w, h16y, hS16, h16p, by simp, fun _ h1 => ⟨by decide, by decide, by omega, ?_⟩⟩
        split at r2 <;> omega
      | true =>
        refine iteT ?_
        refine seq_in fun D3 hz3 => ?_
        refine ⟨_, rfl, a, ns, 10, rfl, s16.seq hS1, _, _, rfl, rfl, (by show (0 : Int) < 2; decide), ?_⟩
        refine hz3 _ _ ?_
        try dsimp only
        have g1 := Int.emod_nonneg (ns.getD 10 0) (show (2 : Int) ≠ 0 by decide)
        have g2 := Int.emod_lt_of_pos (ns.getD 10 0) (show (0 : Int) < 2 by decide)
        have hg : ns.getD 10 0 % 2 = 0 ∨ ns.getD 10 0 % 2 = 1 := by omega
        generalize ns.getD 10 0 % 2 = g at hg ⊢
        refine ⟨_, rfl, a, ns, 9, rfl, s16.seq hS1, _, _, rfl, rfl, ⟨by decide, by decide, by decide⟩, _, rfl, sz9, fun p7 f7 => ?_⟩
        have x17 := Same.upd (o := .lst [V.int (10 ^ ((18 : Int).toNat)), V.int (n : Int)]) f7
        obtain ⟨mo, emo, hmo, hmo1, hmo2⟩ : ∃ mo : Int, atI [V.int (10 ^ ((18 : Int).toNat)), V.int (n : Int)] g = some (.int mo) ∧ 0 ≤ mo ∧ (g = 0 → mo = 1000000000000000000) ∧ (g = 1 → mo = (n : Int)) := by
          rcases hg with rfl | rfl
          · exact ⟨_, rfl, by rw [e18]; decide, fun _ => e18, by omega⟩
          · exact ⟨_, rfl, by omega, by omega, fun _ => rfl⟩
        refine ⟨_, rfl, p7, _, _, _, rfl, rfl, SqL.of upd_same, emo, _, _, rfl, hmo, fun zz H18 x18 hzz => ?_⟩
        have x18 := x17.trans x18
        have h18p := x18 _ _ h16p
        have h18w := x18 _ _ h16w
        have h18y := x18 _ _ h16y
        have hS18 := hS16.same x18
        have kt := fun o => keepT_upd (o := o) h18p
        rcases hg with rfl | rfl
        · refine ⟨_, rfl, _, rfl, pl, _, _, 0, rfl, rfl, h18p, rfl, ?_⟩
          have h0 := hmo1 rfl
          exact hnx _ _ ⟨zz, 1 + sq, _, rfl, (s16.trans x18).set fl1, by rw [upd_ne (Ne.symm nlw)]; exact h18w, by rw [upd_ne (Ne.symm nly)]; exact h18y, hS18.tup (kt _), upd_same, fun _ => by omega, by simp⟩
        · refine ⟨_, rfl, _, rfl, pl, _, _, 1, rfl, rfl, h18p, rfl, ?_⟩
          have h0 := hmo2 rfl
          exact hnx _ _ ⟨1, zz, _, rfl, (s16.trans x18).set fl1, by rw [upd_ne (Ne.symm nlw)]; exact h18w, by rw [upd_ne (Ne.symm nly)]; exact h18y, hS18.tup (kt _), upd_same, fun _ => by omega, by simp⟩
    rintro _ H17 ⟨y, u, v12, rfl, s17, h17w, h17y, hS17, h17p, bad8, good8⟩
    clear h16p s16 h16w h16y hS16 hmx r1 r2
    -- what is handed in
    refine seq_in fun D1 hx => ?_
    refine ⟨_, rfl, pn, _, rfl, .inl (SqL.of (s17 _ _ hn)), fun c1 g1 => ?_⟩
    have y1 := Same.upd (o := .lst (needs.map V.int)) g1
    have j1 : (upd H17 c1 (.lst (needs.map V.int))) c1 = some (.lst (needs.map V.int)) := upd_same
    generalize upd H17 c1 (.lst (needs.map V.int)) = J1 at y1 j1 ⊢
    refine ⟨_, rfl, ph, _, rfl, .inl (SqL.of (y1 _ _ (s17 _ _ hh))), fun c2 g2 => ?_⟩
    have y2 := Same.upd (o := .lst (heats.map V.int)) g2
    have j2 : (upd J1 c2 (.lst (heats.map V.int))) c2 = some (.lst (heats.map V.int)) := upd_same
    generalize upd J1 c2 (.lst (heats.map V.int)) = J2 at y2 j2 ⊢
    refine ⟨_, rfl, py, _, rfl, .inl (SqL.of (y2 _ _ (y1 _ _ h17y))), fun c3 g3 => ?_⟩
    have y3 := Same.upd (o := .lst (ts.map V.ref)) g3
    have j3 : (upd J2 c3 (.lst (ts.map V.ref))) c3 = some (.lst (ts.map V.ref)) := upd_same
    generalize upd J2 c3 (.lst (ts.map V.ref)) = J3 at y3 j3 ⊢
    refine ⟨sz9, fun pa g4 => ?_⟩
    have y4 := Same.upd (o := .lst [.ref c1, .ref c2, .ref c3]) g4
    have h18a : (upd J3 pa (.lst [.ref c1, .ref c2, .ref c3])) pa = some (.lst [.ref c1, .ref c2, .ref c3]) := upd_same
    generalize upd J3 pa (.lst [.ref c1, .ref c2, .ref c3]) = H18 at y4 h18a ⊢
    refine hx _ _ ?_
    have y14 := ((y1.trans y2).trans y3).trans y4
    have h18c1 := y4 _ _ (y3 _ _ (y2 _ _ j1))
    have h18c2 := y4 _ _ (y3 _ _ j2)
    have h18c3 := y4 _ _ j3
    have s18 := s17.trans y14
    have h18w := y14 _ _ h17w
    have h18y := y14 _ _ h17y
    have h18p := y14 _ _ h17p
    have hS18 := hS17.same y14
    have h18n := s18 _ _ hn
    have h18h := s18 _ _ hh
    have hT18 : TabOk PT ((("law" : Str) ++ ".<locals>.") ++ "<lambda>") H18 := TabOk.nil (s18 _ _ (s1 _ _ hT))
    clear y1 y2 y3 y4 y14 j1 j2 j3 g1 g2 g3 g4 s17 h17w h17y h17p hS17
    -- the doors
    refine seq_in fun D1 hx => tAsg_i (first_lam hT18 fun f1 pc G1 fpc sT1 hp1 hT1 L1 => hx _ _ ?_)
    refine seq_in fun D1 hx => append_lam (fs := [f1]) hT1 hp1 L1 rfl rfl fun f2 G2 s2 hp2 hT2 L2 => hx _ _ ?_
    refine seq_in fun D1 hx => append_lam (fs := ([f1] ++ [f2])) hT2 hp2 L2 rfl rfl fun f3 G3 s3 hp3 hT3 L3 => hx _ _ ?_
    refine seq_in fun D1 hx => append_lam (fs := (([f1] ++ [f2]) ++ [f3])) hT3 hp3 L3 rfl rfl fun f4 G4 s4 hp4 hT4 L4 => hx _ _ ?_
    refine seq_in fun D1 hx => append_lam (fs := ((([f1] ++ [f2]) ++ [f3]) ++ [f4])) hT4 hp4 L4 rfl rfl fun f5 G5 s5 hp5 hT5 L5 => hx _ _ ?_
    refine seq_in fun D1 hx => append_lam (fs := (((([f1] ++ [f2]) ++ [f3]) ++ [f4]) ++ [f5])) hT5 hp5 L5 rfl rfl fun f6 G6 s6 hp6 hT6 L6 => hx _ _ ?_
    have sT6 : SameT H18 G6 := fun b o no e => ((((s2.trans s3).trans s4).trans s5).trans s6) b o no (ne_of_none e fpc) (sT1 b o no e)
    generalize hes : (((([f1] ++ [f2]) ++ [f3]) ++ [f4]) ++ [f5]) ++ [f6] = fs at hp6 L6
    have hfl : fs.length = 6 := by rw [← hes]; rfl
    clear L1 L2 L3 L4 L5 hp1 hp2 hp3 hp4 hp5 hT1 hT2 hT3 hT4 hT5 s2 s3 s4 s5 s6 sT1
    have kp : ∀ {b : Addr} {xs : List V}, H18 b = some (.lst xs) → G6 b = some (.lst xs) := fun {b xs} e => sT6.lst e
    have h6w := kp h18w
    have h6y := kp h18y
    have h6p := kp h18p
    have h6n := kp h18n
    have h6h := kp h18h
    have h6a := kp h18a
    have h6c1 := kp h18c1
    have h6c2 := kp h18c2
    have h6c3 := kp h18c3
    have hS6 : SeasAt G6 ts ss := hS18.tup fun t xs e => sT6 _ _ (fun _ z => by cases z) e
    clear h18w h18y h18p h18n h18h h18a h18c1 h18c2 h18c3 hS18 sT6 kp hT6 s18
    subst hsn
    have Len : w5 = false → 1 ≤ ss.length ∧ ss.length ≤ 12 := hn5'
    refine ⟨_, rfl, _, rfl, ?_⟩
    intro cs CA
    have hcc := same_addC CA.un
    have thr : ∀ {nm : Str} {j : Nat} {E' : XK} {Hn : Hp}, mg nm = some (.ref (C j)) → (∀ (H1 : Hp) (xa : Addr), Same Hn H1 → H1 xa = none → E' (.ref (C j)) (some xa) H1) → Thr mg nm E' Hn := fun {nm j E' Hn} hg hE C' xa H' hm s hx => by
      have := hg.symm.trans hm
      cases this
      exact hE H' xa s hx
    have ye : ∀ {E' : XK} {Hn : Hp} {j : Nat}, (j = 5 ∧ w5 = true) ∨ (j = 6 ∧ w5 = false ∧ w6 = true) → (∀ (H1 : Hp) (xa : Addr), Same Hn H1 → H1 xa = none → E' (.ref (C j)) (some xa) H1) → (¬ (1 ≤ ss.length ∧ ss.length ≤ 12) → Thr mg "BadYear" E' Hn) ∧ (1 ≤ ss.length ∧ ss.length ≤ 12 → ¬ (∀ z ∈ ss, GoodAm z.2) → Thr mg "BadAmount" E' Hn) ∧ ¬ ((1 ≤ ss.length ∧ ss.length ≤ 12) ∧ ∀ z ∈ ss, GoodAm z.2) := fun {E' Hn j} hj hE => by
      rcases hj with ⟨rfl, e⟩ | ⟨rfl, e, e'⟩
      · exact ⟨fun _ => thr XE.g5 hE, fun l => absurd l (hn5 e), fun l => absurd l.1 (hn5 e)⟩
      · exact ⟨fun b => absurd (Len e) b, fun _ _ => thr XE.g6 hE, fun l => absurd l.2 (bad6 e')⟩
    have yg : ∀ {E' : XK} {Hn : Hp}, w5 = false → w6 = false → (¬ (1 ≤ ss.length ∧ ss.length ≤ 12) → Thr mg "BadYear" E' Hn) ∧ (1 ≤ ss.length ∧ ss.length ≤ 12 → ¬ (∀ z ∈ ss, GoodAm z.2) → Thr mg "BadAmount" E' Hn) := fun {E' Hn} e e' => ⟨fun b => absurd (Len e) b, fun _ b => absurd (good6 e') b⟩
    refine ⟨pc, pw, fs, wrongL w0 w5 w6 w7 w8, rfl, hcc _ _ hp6, hfl, hcc _ _ h6w, rfl, fun k g d eg ed => ?_, fun H7 s7 => ?_⟩
    · match k, ed with
      | 0, ed =>
        cases ed
        obtain ⟨f', ef, LI⟩ := L6.2 0 _ rfl
        rw [eg] at ef
        cases ef
        have mkR := fun (j : Nat) => lamRef_is (P := P) (w := w) (K := K) (mg := mg) (base := base) (C := C) (j := j) (N := ["_law_needs", "_law_handed", "_law_times"]) (σ := [some (.ref pn), some (.ref pa), some (.int m)]) (defScope s_law).names rfl rfl rfl rfl (by decide +kernel) (by decide +kernel) (fun _ _ _ _ => .all fun us hl => match us, hl with | [], _ => rfl) LI CA.un CA.all rfl (fun i y v e1 e2 => match i, e1, e2 with
        | 0, e1, e2 => by cases e1; cases e2; exact ⟨by decide +kernel, CA.val 1 _ _ rfl rfl rfl⟩
        | 1, e1, e2 => by cases e1; cases e2; exact ⟨by decide +kernel, CA.val 13 _ _ rfl rfl rfl⟩
        | 2, e1, e2 => by cases e1; cases e2; exact ⟨by decide +kernel, CA.val 9 _ _ rfl rfl rfl⟩
        | k + 3, e1, _ => by cases e1)
        have mkA := lamAns_is (P := P) (w := w) (K := K) (mg := mg) (base := base) (N := ["_law_needs", "_law_handed", "_law_times"]) (σ := [some (.ref pn), some (.ref pa), some (.int m)]) (defScope s_law).names rfl rfl rfl rfl (by decide +kernel) (by decide +kernel) (fun _ _ _ _ => .all fun us hl => match us, hl with | [], _ => rfl) LI CA.un CA.all rfl (fun i y v e1 e2 => match i, e1, e2 with
        | 0, e1, e2 => by cases e1; cases e2; exact ⟨by decide +kernel, CA.val 1 _ _ rfl rfl rfl⟩
        | 1, e1, e2 => by cases e1; cases e2; exact ⟨by decide +kernel, CA.val 13 _ _ rfl rfl rfl⟩
        | 2, e1, e2 => by cases e1; cases e2; exact ⟨by decide +kernel, CA.val 9 _ _ rfl rfl rfl⟩
        | k + 3, e1, _ => by cases e1)
        have ref : ∀ j : Nat, (j = 5 ∧ w5 = true) ∨ (j = 6 ∧ w5 = false ∧ w6 = true) → LamRef P w K mg base C (addC cs G6) g j := fun j hj => mkR j (fun c' A2 out2 s8' H0 Q' E' hr2 s0 hE => ⟨_, pe_callX o_year_ruleX hr2 (pass_at rfl (Heap.get?_none_of_le (Nat.le_refl _))) (pa_cons (pe_sum (by rfl) T.n_sum (pv 0)) (pa_cons (pe_ix ix_list (pv 1) pe_int (fun _ _ => rfl)) (pa_cons (pv 2) pa_nil))), ⟨_, rfl, pn, needs, rfl, SqL.of (s0 _ _ h6n), _, rfl, pa, _, _, _, rfl, rfl, SqL.of (s0 _ _ h6a), rfl, _, rfl, _, c3, ts, ss, m, rfl, SqL.of (s0 _ _ h6c3), hS6.same s0, (ye hj hE).1, (ye hj hE).2.1, by omega, fun l g => absurd ⟨l, g⟩ (ye hj hE).2.2⟩⟩)
        have ref7 : w5 = false → w6 = false → w7 = true → LamRef P w K mg base C (addC cs G6) g 7 := fun n5 n6 t7 => mkR 7 (fun c' A2 out2 s8' H0 Q' E' hr2 s0 hE => ⟨_, pe_callX o_year_ruleX hr2 (pass_at rfl (Heap.get?_none_of_le (Nat.le_refl _))) (pa_cons (pe_sum (by rfl) T.n_sum (pv 0)) (pa_cons (pe_ix ix_list (pv 1) pe_int (fun _ _ => rfl)) (pa_cons (pv 2) pa_nil))), ⟨_, rfl, pn, needs, rfl, SqL.of (s0 _ _ h6n), _, rfl, pa, _, _, _, rfl, rfl, SqL.of (s0 _ _ h6a), rfl, _, rfl, _, c3, ts, ss, m, rfl, SqL.of (s0 _ _ h6c3), hS6.same s0, (yg n5 n6).1, (yg n5 n6).2, by omega, fun _ _ => ⟨hm7 t7, thr XE.g7 hE⟩⟩⟩)
        have answ : w5 = false → w6 = false → w7 = false → LamAns P w K mg base (addC cs G6) g := fun n5 n6 n7 => by
          obtain ⟨m', rfl, hm'⟩ : ∃ m' : Nat, m = (m' : Int) + 1 ∧ (m' : Int) + 1 ≤ 1000000000000000000 := ⟨(m - 1).toNat, by have := hm7' n7; omega, by have := hm7' n7; omega⟩
          exact mkA fun c' A2 out2 s8' H0 Q' E' hr2 s0 hE => ⟨_, pe_callO o_year_rule hr2 (pa_cons (pe_sum (by rfl) T.n_sum (pv 0)) (pa_cons (pe_ix ix_list (pv 1) pe_int (fun _ _ => rfl)) (pa_cons (pv 2) pa_nil))), ⟨_, rfl, pn, needs, rfl, SqL.of (s0 _ _ h6n), _, rfl, pa, _, _, _, rfl, rfl, SqL.of (s0 _ _ h6a), rfl, _, rfl, _, c3, ts, ss, m', rfl, SqL.of (s0 _ _ h6c3), hS6.same s0, by omega, good6 n6, (Len n5).1, (Len n5).2, hm', fun H' r s _ => hE (.ref r) _ s⟩⟩
        exact door_step (fun t5 => ⟨ref 5 (.inl ⟨rfl, t5⟩), R5⟩) fun n5 => door_step (fun t6 => ⟨ref 6 (.inr ⟨rfl, n5, t6⟩), R6⟩) fun n6 => door_step (fun t7 => ⟨ref7 n5 n6 t7, R7⟩) fun n7 => door_nil (answ n5 n6 n7)
      | 1, ed =>
        cases ed
        obtain ⟨f', ef, LI⟩ := L6.2 1 _ rfl
        rw [eg] at ef
        cases ef
        have mkR := fun (j : Nat) => lamRef_is (P := P) (w := w) (K := K) (mg := mg) (base := base) (C := C) (j := j) (N := ["_law_handed", "_law_times"]) (σ := [some (.ref pa), some (.int m)]) (defScope s_law).names rfl rfl rfl rfl (by decide +kernel) (by decide +kernel) (fun _ _ _ _ => .all fun us hl => match us, hl with | [], _ => rfl) LI CA.un CA.all rfl (fun i y v e1 e2 => match i, e1, e2 with
        | 0, e1, e2 => by cases e1; cases e2; exact ⟨by decide +kernel, CA.val 13 _ _ rfl rfl rfl⟩
        | 1, e1, e2 => by cases e1; cases e2; exact ⟨by decide +kernel, CA.val 9 _ _ rfl rfl rfl⟩
        | k + 2, e1, _ => by cases e1)
        have mkA := lamAns_is (P := P) (w := w) (K := K) (mg := mg) (base := base) (N := ["_law_handed", "_law_times"]) (σ := [some (.ref pa), some (.int m)]) (defScope s_law).names rfl rfl rfl rfl (by decide +kernel) (by decide +kernel) (fun _ _ _ _ => .all fun us hl => match us, hl with | [], _ => rfl) LI CA.un CA.all rfl (fun i y v e1 e2 => match i, e1, e2 with
        | 0, e1, e2 => by cases e1; cases e2; exact ⟨by decide +kernel, CA.val 13 _ _ rfl rfl rfl⟩
        | 1, e1, e2 => by cases e1; cases e2; exact ⟨by decide +kernel, CA.val 9 _ _ rfl rfl rfl⟩
        | k + 2, e1, _ => by cases e1)
        have ref : ∀ j : Nat, (j = 5 ∧ w5 = true) ∨ (j = 6 ∧ w5 = false ∧ w6 = true) → LamRef P w K mg base C (addC cs G6) g j := fun j hj => mkR j (fun c' A2 out2 s8' H0 Q' E' hr2 s0 hE => ⟨_, pe_callX o_years_passedX hr2 (pass_at rfl (Heap.get?_none_of_le (Nat.le_refl _))) (pa_cons (pe_ix ix_list (pv 0) pe_int (fun _ _ => rfl)) (pa_cons (pe_ix ix_list (pv 0) pe_int (fun _ _ => rfl)) (pa_cons (pe_ix ix_list (pv 0) pe_int (fun _ _ => rfl)) (pa_cons (pv 1) pa_nil)))), ⟨_, rfl, pa, _, _, _, rfl, rfl, SqL.of (s0 _ _ h6a), rfl, _, rfl, pa, _, _, _, rfl, rfl, SqL.of (s0 _ _ h6a), rfl, _, rfl, pa, _, _, _, rfl, rfl, SqL.of (s0 _ _ h6a), rfl, _, rfl, .ref c1, .ref c2, c3, ts, ss, m, rfl, SqL.of (s0 _ _ h6c3), hS6.same s0, (ye hj hE).1, (ye hj hE).2.1, fun l g => absurd ⟨l, g⟩ (ye hj hE).2.2⟩⟩)
        have ref7 : w5 = false → w6 = false → w7 = true → LamRef P w K mg base C (addC cs G6) g 7 := fun n5 n6 t7 => mkR 7 (fun c' A2 out2 s8' H0 Q' E' hr2 s0 hE => ⟨_, pe_callX o_years_passedX hr2 (pass_at rfl (Heap.get?_none_of_le (Nat.le_refl _))) (pa_cons (pe_ix ix_list (pv 0) pe_int (fun _ _ => rfl)) (pa_cons (pe_ix ix_list (pv 0) pe_int (fun _ _ => rfl)) (pa_cons (pe_ix ix_list (pv 0) pe_int (fun _ _ => rfl)) (pa_cons (pv 1) pa_nil)))), ⟨_, rfl, pa, _, _, _, rfl, rfl, SqL.of (s0 _ _ h6a), rfl, _, rfl, pa, _, _, _, rfl, rfl, SqL.of (s0 _ _ h6a), rfl, _, rfl, pa, _, _, _, rfl, rfl, SqL.of (s0 _ _ h6a), rfl, _, rfl, .ref c1, .ref c2, c3, ts, ss, m, rfl, SqL.of (s0 _ _ h6c3), hS6.same s0, (yg n5 n6).1, (yg n5 n6).2, fun _ _ => ⟨hm7 t7, thr XE.g7 hE⟩⟩⟩)
        have answ : w5 = false → w6 = false → w7 = false → LamAns P w K mg base (addC cs G6) g := fun n5 n6 n7 => by
          obtain ⟨m', rfl, hm'⟩ : ∃ m' : Nat, m = (m' : Int) + 1 ∧ (m' : Int) + 1 ≤ 1000000000000000000 := ⟨(m - 1).toNat, by have := hm7' n7; omega, by have := hm7' n7; omega⟩
          exact mkA fun c' A2 out2 s8' H0 Q' E' hr2 s0 hE => ⟨_, pe_callO o_years_passed hr2 (pa_cons (pe_ix ix_list (pv 0) pe_int (fun _ _ => rfl)) (pa_cons (pe_ix ix_list (pv 0) pe_int (fun _ _ => rfl)) (pa_cons (pe_ix ix_list (pv 0) pe_int (fun _ _ => rfl)) (pa_cons (pv 1) pa_nil)))), ⟨_, rfl, pa, _, _, _, rfl, rfl, SqL.of (s0 _ _ h6a), rfl, _, rfl, pa, _, _, _, rfl, rfl, SqL.of (s0 _ _ h6a), rfl, _, rfl, pa, _, _, _, rfl, rfl, SqL.of (s0 _ _ h6a), rfl, _, rfl, c1, c2, c3, needs, heats, ts, ss, m', rfl, SqL.of (s0 _ _ h6c1), SqL.of (s0 _ _ h6c2), SqL.of (s0 _ _ h6c3), hS6.same s0, B, good6 n6, (Len n5).1, (Len n5).2, hm', fun H' t p s _ _ _ _ => hE (.ref t) _ s⟩⟩
        exact door_step (fun t5 => ⟨ref 5 (.inl ⟨rfl, t5⟩), R5⟩) fun n5 => door_step (fun t6 => ⟨ref 6 (.inr ⟨rfl, n5, t6⟩), R6⟩) fun n6 => door_step (fun t7 => ⟨ref7 n5 n6 t7, R7⟩) fun n7 => door_nil (answ n5 n6 n7)
      | 2, ed =>
        cases ed
        obtain ⟨f', ef, LI⟩ := L6.2 2 _ rfl
        rw [eg] at ef
        cases ef
        have mkR := fun (j : Nat) => lamRef_is (P := P) (w := w) (K := K) (mg := mg) (base := base) (C := C) (j := j) (N := ["_law_handed", "_law_place"]) (σ := [some (.ref pa), some (.ref pl)]) (defScope s_law).names rfl rfl rfl rfl (by decide +kernel) (by decide +kernel) (fun _ _ _ _ => .all fun us hl => match us, hl with | [], _ => rfl) LI CA.un CA.all rfl (fun i y v e1 e2 => match i, e1, e2 with
        | 0, e1, e2 => by cases e1; cases e2; exact ⟨by decide +kernel, CA.val 13 _ _ rfl rfl rfl⟩
        | 1, e1, e2 => by cases e1; cases e2; exact ⟨by decide +kernel, CA.val 11 _ _ rfl rfl rfl⟩
        | k + 2, e1, _ => by cases e1)
        have mkA := lamAns_is (P := P) (w := w) (K := K) (mg := mg) (base := base) (N := ["_law_handed", "_law_place"]) (σ := [some (.ref pa), some (.ref pl)]) (defScope s_law).names rfl rfl rfl rfl (by decide +kernel) (by decide +kernel) (fun _ _ _ _ => .all fun us hl => match us, hl with | [], _ => rfl) LI CA.un CA.all rfl (fun i y v e1 e2 => match i, e1, e2 with
        | 0, e1, e2 => by cases e1; cases e2; exact ⟨by decide +kernel, CA.val 13 _ _ rfl rfl rfl⟩
        | 1, e1, e2 => by cases e1; cases e2; exact ⟨by decide +kernel, CA.val 11 _ _ rfl rfl rfl⟩
        | k + 2, e1, _ => by cases e1)
        have ref : ∀ j : Nat, (j = 5 ∧ w5 = true) ∨ (j = 6 ∧ w5 = false ∧ w6 = true) → LamRef P w K mg base C (addC cs G6) g j := fun j hj => mkR j (fun c' A2 out2 s8' H0 Q' E' hr2 s0 hE => ⟨_, pe_callX o_heats_atX hr2 (pass_at rfl (Heap.get?_none_of_le (Nat.le_refl _))) (pa_cons (pe_ix ix_list (pv 0) pe_int (fun _ _ => rfl)) (pa_cons (pe_ix ix_list (pv 0) pe_int (fun _ _ => rfl)) (pa_cons (pe_ix ix_list (pv 0) pe_int (fun _ _ => rfl)) (pa_cons (pe_ix ix_list (pv 1) pe_int (fun _ _ => rfl)) (pa_cons (pe_ix ix_list (pv 1) pe_int (fun _ _ => rfl)) pa_nil))))), ⟨_, rfl, pa, _, _, _, rfl, rfl, SqL.of (s0 _ _ h6a), rfl, _, rfl, pa, _, _, _, rfl, rfl, SqL.of (s0 _ _ h6a), rfl, _, rfl, pa, _, _, _, rfl, rfl, SqL.of (s0 _ _ h6a), rfl, _, rfl, pl, _, _, _, rfl, rfl, SqL.of (s0 _ _ h6p), rfl, _, rfl, pl, _, _, _, rfl, rfl, SqL.of (s0 _ _ h6p), rfl, .ref c1, .ref c2, c3, ts, ss, y, u, rfl, SqL.of (s0 _ _ h6c3), hS6.same s0, (ye hj hE).1, (ye hj hE).2.1, fun l g => absurd ⟨l, g⟩ (ye hj hE).2.2⟩⟩)
        have ref8 : w5 = false → w6 = false → w8 = true → LamRef P w K mg base C (addC cs G6) g 8 := fun n5 n6 t8 => mkR 8 (fun c' A2 out2 s8' H0 Q' E' hr2 s0 hE => ⟨_, pe_callX o_heats_atX hr2 (pass_at rfl (Heap.get?_none_of_le (Nat.le_refl _))) (pa_cons (pe_ix ix_list (pv 0) pe_int (fun _ _ => rfl)) (pa_cons (pe_ix ix_list (pv 0) pe_int (fun _ _ => rfl)) (pa_cons (pe_ix ix_list (pv 0) pe_int (fun _ _ => rfl)) (pa_cons (pe_ix ix_list (pv 1) pe_int (fun _ _ => rfl)) (pa_cons (pe_ix ix_list (pv 1) pe_int (fun _ _ => rfl)) pa_nil))))), ⟨_, rfl, pa, _, _, _, rfl, rfl, SqL.of (s0 _ _ h6a), rfl, _, rfl, pa, _, _, _, rfl, rfl, SqL.of (s0 _ _ h6a), rfl, _, rfl, pa, _, _, _, rfl, rfl, SqL.of (s0 _ _ h6a), rfl, _, rfl, pl, _, _, _, rfl, rfl, SqL.of (s0 _ _ h6p), rfl, _, rfl, pl, _, _, _, rfl, rfl, SqL.of (s0 _ _ h6p), rfl, .ref c1, .ref c2, c3, ts, ss, y, u, rfl, SqL.of (s0 _ _ h6c3), hS6.same s0, (yg n5 n6).1, (yg n5 n6).2, fun _ _ => ⟨bad8 t8, thr XE.g8 hE⟩⟩⟩)
        have answ : w5 = false → w6 = false → w8 = false → LamAns P w K mg base (addC cs G6) g := fun n5 n6 n8 => by
          obtain ⟨gy1, gy2, gu1, gu2⟩ := good8 n8 (Len n5).1
          obtain ⟨y', rfl⟩ : ∃ y' : Nat, y = (y' : Int) + 1 := ⟨(y - 1).toNat, by omega⟩
          obtain ⟨u', rfl⟩ : ∃ u' : Nat, u = (u' : Int) := ⟨u.toNat, by omega⟩
          exact mkA fun c' A2 out2 s8' H0 Q' E' hr2 s0 hE => ⟨_, pe_callO o_heats_at hr2 (pa_cons (pe_ix ix_list (pv 0) pe_int (fun _ _ => rfl)) (pa_cons (pe_ix ix_list (pv 0) pe_int (fun _ _ => rfl)) (pa_cons (pe_ix ix_list (pv 0) pe_int (fun _ _ => rfl)) (pa_cons (pe_ix ix_list (pv 1) pe_int (fun _ _ => rfl)) (pa_cons (pe_ix ix_list (pv 1) pe_int (fun _ _ => rfl)) pa_nil))))), ⟨_, rfl, pa, _, _, _, rfl, rfl, SqL.of (s0 _ _ h6a), rfl, _, rfl, pa, _, _, _, rfl, rfl, SqL.of (s0 _ _ h6a), rfl, _, rfl, pa, _, _, _, rfl, rfl, SqL.of (s0 _ _ h6a), rfl, _, rfl, pl, _, _, _, rfl, rfl, SqL.of (s0 _ _ h6p), rfl, _, rfl, pl, _, _, _, rfl, rfl, SqL.of (s0 _ _ h6p), rfl, c1, c2, c3, needs, heats, ts, ss, y', u', rfl, SqL.of (s0 _ _ h6c1), SqL.of (s0 _ _ h6c2), SqL.of (s0 _ _ h6c3), hS6.same s0, B, good6 n6, (Len n5).1, (Len n5).2, by omega, by omega, by omega, fun H' p s _ _ => hE (.ref p) _ s⟩⟩
        exact door_step (fun t5 => ⟨ref 5 (.inl ⟨rfl, t5⟩), R5⟩) fun n5 => door_step (fun t6 => ⟨ref 6 (.inr ⟨rfl, n5, t6⟩), R6⟩) fun n6 => door_step (fun t8 => ⟨ref8 n5 n6 t8, R8⟩) fun n8 => door_nil (answ n5 n6 n8)
      | 3, ed =>
        cases ed
        obtain ⟨f', ef, LI⟩ := L6.2 3 _ rfl
        rw [eg] at ef
        cases ef
        have mkR := fun (j : Nat) => lamRef_is (P := P) (w := w) (K := K) (mg := mg) (base := base) (C := C) (j := j) (N := ["_law_handed"]) (σ := [some (.ref pa)]) (defScope s_law).names rfl rfl rfl rfl (by decide +kernel) (by decide +kernel) (fun _ _ _ _ => .all fun us hl => match us, hl with | [], _ => rfl) LI CA.un CA.all rfl (fun i y v e1 e2 => match i, e1, e2 with
        | 0, e1, e2 => by cases e1; cases e2; exact ⟨by decide +kernel, CA.val 13 _ _ rfl rfl rfl⟩
        | k + 1, e1, _ => by cases e1)
        have mkA := lamAns_is (P := P) (w := w) (K := K) (mg := mg) (base := base) (N := ["_law_handed"]) (σ := [some (.ref pa)]) (defScope s_law).names rfl rfl rfl rfl (by decide +kernel) (by decide +kernel) (fun _ _ _ _ => .all fun us hl => match us, hl with | [], _ => rfl) LI CA.un CA.all rfl (fun i y v e1 e2 => match i, e1, e2 with
        | 0, e1, e2 => by cases e1; cases e2; exact ⟨by decide +kernel, CA.val 13 _ _ rfl rfl rfl⟩
        | k + 1, e1, _ => by cases e1)
        have ref : ∀ j : Nat, (j = 5 ∧ w5 = true) ∨ (j = 6 ∧ w5 = false ∧ w6 = true) → LamRef P w K mg base C (addC cs G6) g j := fun j hj => mkR j (fun c' A2 out2 s8' H0 Q' E' hr2 s0 hE => ⟨_, pe_callX o_rest_ofX hr2 (pass_at rfl (Heap.get?_none_of_le (Nat.le_refl _))) (pa_cons (pe_ix ix_list (pv 0) pe_int (fun _ _ => rfl)) (pa_cons (pe_ix ix_list (pv 0) pe_int (fun _ _ => rfl)) (pa_cons (pe_ix ix_list (pv 0) pe_int (fun _ _ => rfl)) pa_nil))), ⟨_, rfl, pa, _, _, _, rfl, rfl, SqL.of (s0 _ _ h6a), rfl, _, rfl, pa, _, _, _, rfl, rfl, SqL.of (s0 _ _ h6a), rfl, _, rfl, pa, _, _, _, rfl, rfl, SqL.of (s0 _ _ h6a), rfl, .ref c1, .ref c2, c3, ts, ss, rfl, SqL.of (s0 _ _ h6c3), hS6.same s0, (ye hj hE).1, (ye hj hE).2.1, (ye hj hE).2.2⟩⟩)
        have answ : w5 = false → w6 = false → LamAns P w K mg base (addC cs G6) g := fun n5 n6 => by
          exact mkA fun c' A2 out2 s8' H0 Q' E' hr2 s0 hE => ⟨_, pe_callO o_rest_of hr2 (pa_cons (pe_ix ix_list (pv 0) pe_int (fun _ _ => rfl)) (pa_cons (pe_ix ix_list (pv 0) pe_int (fun _ _ => rfl)) (pa_cons (pe_ix ix_list (pv 0) pe_int (fun _ _ => rfl)) pa_nil))), ⟨_, rfl, pa, _, _, _, rfl, rfl, SqL.of (s0 _ _ h6a), rfl, _, rfl, pa, _, _, _, rfl, rfl, SqL.of (s0 _ _ h6a), rfl, _, rfl, pa, _, _, _, rfl, rfl, SqL.of (s0 _ _ h6a), rfl, c1, c2, c3, needs, heats, ts, ss, rfl, SqL.of (s0 _ _ h6c1), SqL.of (s0 _ _ h6c2), SqL.of (s0 _ _ h6c3), hS6.same s0, B, good6 n6, (Len n5).1, (Len n5).2, fun H' r s _ => hE (.int r) _ s⟩⟩
        exact door_step (fun t5 => ⟨ref 5 (.inl ⟨rfl, t5⟩), R5⟩) fun n5 => door_step (fun t6 => ⟨ref 6 (.inr ⟨rfl, n5, t6⟩), R6⟩) fun n6 => door_nil (answ n5 n6)
      | 4, ed =>
        cases ed
        obtain ⟨f', ef, LI⟩ := L6.2 4 _ rfl
        rw [eg] at ef
        cases ef
        have mkR := fun (j : Nat) => lamRef_is (P := P) (w := w) (K := K) (mg := mg) (base := base) (C := C) (j := j) (N := ["_law_handed", "_law_bed"]) (σ := [some (.ref pa), some (.int b)]) (defScope s_law).names rfl rfl rfl rfl (by decide +kernel) (by decide +kernel) (fun _ _ _ _ => .all fun us hl => match us, hl with | [], _ => rfl) LI CA.un CA.all rfl (fun i y v e1 e2 => match i, e1, e2 with
        | 0, e1, e2 => by cases e1; cases e2; exact ⟨by decide +kernel, CA.val 13 _ _ rfl rfl rfl⟩
        | 1, e1, e2 => by cases e1; cases e2; exact ⟨by decide +kernel, CA.val 10 _ _ rfl rfl rfl⟩
        | k + 2, e1, _ => by cases e1)
        have mkA := lamAns_is (P := P) (w := w) (K := K) (mg := mg) (base := base) (N := ["_law_handed", "_law_bed"]) (σ := [some (.ref pa), some (.int b)]) (defScope s_law).names rfl rfl rfl rfl (by decide +kernel) (by decide +kernel) (fun _ _ _ _ => .all fun us hl => match us, hl with | [], _ => rfl) LI CA.un CA.all rfl (fun i y v e1 e2 => match i, e1, e2 with
        | 0, e1, e2 => by cases e1; cases e2; exact ⟨by decide +kernel, CA.val 13 _ _ rfl rfl rfl⟩
        | 1, e1, e2 => by cases e1; cases e2; exact ⟨by decide +kernel, CA.val 10 _ _ rfl rfl rfl⟩
        | k + 2, e1, _ => by cases e1)
        have ref : ∀ j : Nat, (j = 5 ∧ w5 = true) ∨ (j = 6 ∧ w5 = false ∧ w6 = true) → w0 = false → LamRef P w K mg base C (addC cs G6) g j := fun j hj n0 => mkR j (fun c' A2 out2 s8' H0 Q' E' hr2 s0 hE => ⟨_, pe_callX o_first_seasonX hr2 (pass_at rfl (Heap.get?_none_of_le (Nat.le_refl _))) (pa_cons (pe_ix ix_list (pv 0) pe_int (fun _ _ => rfl)) (pa_cons (pe_ix ix_list (pv 0) pe_int (fun _ _ => rfl)) (pa_cons (pv 1) (pa_cons (pe_ix ix_list (pv 0) pe_int (fun _ _ => rfl)) pa_nil)))), ⟨_, rfl, pa, _, _, _, rfl, rfl, SqL.of (s0 _ _ h6a), rfl, _, rfl, pa, _, _, _, rfl, rfl, SqL.of (s0 _ _ h6a), rfl, _, rfl, _, rfl, pa, _, _, _, rfl, rfl, SqL.of (s0 _ _ h6a), rfl, c1, .ref c2, b, needs, c3, ts, ss, rfl, SqL.of (s0 _ _ h6c1), by omega, fun z => absurd (hb0' n0) z, fun _ => ⟨⟨SqL.of (s0 _ _ h6c3), hS6.same s0, (ye hj hE).1, (ye hj hE).2.1⟩, (ye hj hE).2.2⟩⟩⟩)
        have ref0 : w0 = true → LamRef P w K mg base C (addC cs G6) g 0 := fun t0 => mkR 0 (fun c' A2 out2 s8' H0 Q' E' hr2 s0 hE => ⟨_, pe_callX o_first_seasonX hr2 (pass_at rfl (Heap.get?_none_of_le (Nat.le_refl _))) (pa_cons (pe_ix ix_list (pv 0) pe_int (fun _ _ => rfl)) (pa_cons (pe_ix ix_list (pv 0) pe_int (fun _ _ => rfl)) (pa_cons (pv 1) (pa_cons (pe_ix ix_list (pv 0) pe_int (fun _ _ => rfl)) pa_nil)))), ⟨_, rfl, pa, _, _, _, rfl, rfl, SqL.of (s0 _ _ h6a), rfl, _, rfl, pa, _, _, _, rfl, rfl, SqL.of (s0 _ _ h6a), rfl, _, rfl, _, rfl, pa, _, _, _, rfl, rfl, SqL.of (s0 _ _ h6a), rfl, c1, .ref c2, b, needs, c3, ts, ss, rfl, SqL.of (s0 _ _ h6c1), by omega, fun _ => thr XE.g0 hE, fun z => absurd z (hb0 t0)⟩⟩)
        have answ : w0 = false → w5 = false → w6 = false → LamAns P w K mg base (addC cs G6) g := fun n0 n5 n6 => by
          obtain ⟨b', rfl, hb'⟩ : ∃ b' : Nat, b = (b' : Int) + 1 ∧ b' < needs.length := ⟨(b - 1).toNat, by have := hb0' n0; omega, by have := hb0' n0; omega⟩
          exact mkA fun c' A2 out2 s8' H0 Q' E' hr2 s0 hE => ⟨_, pe_callO o_first_season hr2 (pa_cons (pe_ix ix_list (pv 0) pe_int (fun _ _ => rfl)) (pa_cons (pe_ix ix_list (pv 0) pe_int (fun _ _ => rfl)) (pa_cons (pv 1) (pa_cons (pe_ix ix_list (pv 0) pe_int (fun _ _ => rfl)) pa_nil)))), ⟨_, rfl, pa, _, _, _, rfl, rfl, SqL.of (s0 _ _ h6a), rfl, _, rfl, pa, _, _, _, rfl, rfl, SqL.of (s0 _ _ h6a), rfl, _, rfl, _, rfl, pa, _, _, _, rfl, rfl, SqL.of (s0 _ _ h6a), rfl, c1, c2, c3, needs, heats, ts, ss, b', rfl, SqL.of (s0 _ _ h6c1), SqL.of (s0 _ _ h6c2), SqL.of (s0 _ _ h6c3), hS6.same s0, B, good6 n6, (Len n5).1, (Len n5).2, hb', fun H' t _ _ _ s _ _ _ => hE (.ref t) _ s⟩⟩
        exact door_step (fun t0 => ⟨ref0 t0, R0⟩) fun n0 => door_step (fun t5 => ⟨ref 5 (.inl ⟨rfl, t5⟩) n0, R5⟩) fun n5 => door_step (fun t6 => ⟨ref 6 (.inr ⟨rfl, n5, t6⟩) n0, R6⟩) fun n6 => door_nil (answ n0 n5 n6)
      | 5, ed =>
        cases ed
        obtain ⟨f', ef, LI⟩ := L6.2 5 _ rfl
        rw [eg] at ef
        cases ef
        have ref7 : w7 = true → LamRef P w K mg base C (addC cs G6) g 7 := fun t7 => lamRef_is (P := P) (w := w) (K := K) (mg := mg) (base := base) (C := C) (j := 7) (N := ["_law_times"]) (σ := [some (.int m)]) (defScope s_law).names rfl rfl rfl rfl (by decide +kernel) (by decide +kernel) (fun _ _ _ _ => .all fun us hl => match us, hl with | [], _ => rfl) LI CA.un CA.all rfl (fun i y v e1 e2 => match i, e1, e2 with
        | 0, e1, e2 => by cases e1; cases e2; exact ⟨by decide +kernel, CA.val 9 _ _ rfl rfl rfl⟩
        | k + 1, e1, _ => by cases e1) fun c' A2 out2 s8' H0 Q' E' hr2 s0 hE => ⟨_, pe_callX o_repeatedX hr2 (pass_at rfl (Heap.get?_none_of_le (Nat.le_refl _))) (pa_cons (pe_tup (pa_cons pe_int (pa_cons pe_int (pa_cons pe_int pa_nil)))) (pa_cons (pv 0) pa_nil)), ⟨sz9, fun tr ftr => ⟨_, rfl, .ref tr, m, rfl, hm7 t7, (thr XE.g7 hE).same (Same.upd ftr)⟩⟩⟩
        have mkA := lamAns_is (P := P) (w := w) (K := K) (mg := mg) (base := base) (N := ["_law_times"]) (σ := [some (.int m)]) (defScope s_law).names rfl rfl rfl rfl (by decide +kernel) (by decide +kernel) (fun _ _ _ _ => .all fun us hl => match us, hl with | [], _ => rfl) LI CA.un CA.all rfl (fun i y v e1 e2 => match i, e1, e2 with
        | 0, e1, e2 => by cases e1; cases e2; exact ⟨by decide +kernel, CA.val 9 _ _ rfl rfl rfl⟩
        | k + 1, e1, _ => by cases e1)
        have answ : w7 = false → LamAns P w K mg base (addC cs G6) g := fun n7 => by
          obtain ⟨m', rfl, hm'⟩ : ∃ m' : Nat, m = (m' : Int) + 1 ∧ (m' : Int) + 1 ≤ 1000000000000000000 := ⟨(m - 1).toNat, by have := hm7' n7; omega, by have := hm7' n7; omega⟩
          exact mkA fun c' A2 out2 s8' H0 Q' E' hr2 s0 hE => ⟨_, pe_callO o_repeated hr2 (pa_cons (pe_tup (pa_cons pe_int (pa_cons pe_int (pa_cons pe_int pa_nil)))) (pa_cons (pv 0) pa_nil)), ⟨sz9, fun tr ftr => ⟨_, rfl, tr, ⟨1, 2, 3⟩, m', rfl, upd_same, (by show (2 : Int) ≤ 3; decide), hm', fun H' t s _ => hE (.ref t) _ ((Same.upd ftr).trans s)⟩⟩⟩
        exact door_step (fun t7 => ⟨ref7 t7, R7⟩) fun n7 => door_nil (answ n7)
      | k + 6, ed => simp [doorsN] at ed
    have s8 := s7.drop CA.un
    refine ⟨_, rfl, ?_⟩
    refine iteT ?_
    refine ⟨_, rfl, _, rfl, _, rfl, _, rfl, sz9, fun pf ff => ?_⟩
    have sf := s8.trans (Same.upd (o := .lst [.ref pn, .ref ph, .ref py]) ff)
    refine ⟨pa, pf, [c1, c2, c3], [pn, ph, py], [needs.map V.int, heats.map V.int, ts.map V.ref], rfl, rfl, SqL.of (sf _ _ h6a), SqL.of upd_same, rfl, rfl, fun i r e => ?_, q _⟩
    match i, e with
    | 0, e => cases e; exact ⟨by simp [eqOk], c1, pn, rfl, rfl, SqL.of (sf _ _ h6c1), SqL.of (sf _ _ h6n)⟩
    | 1, e => cases e; exact ⟨by simp [eqOk], c2, ph, rfl, rfl, SqL.of (sf _ _ h6c2), SqL.of (sf _ _ h6h)⟩
    | 2, e => cases e; exact ⟨by simp [eqOk], c3, py, rfl, rfl, SqL.of (sf _ _ h6c3), SqL.of (sf _ _ h6y)⟩
    | k + 3, e => simp at e
end
theorem len1 {fd : FuncData} {ps : List Str} {us : List Value} (hl : us.length = 1) (h : ∀ a, bindArgs fd ⟨[a], []⟩ = pure (ps.zip [a])) : bindArgs fd ⟨us, []⟩ = pure (ps.zip us) := match us, hl with | [a], _ => h a
theorem len2 {fd : FuncData} {ps : List Str} {us : List Value} (hl : us.length = 2) (h : ∀ a b, bindArgs fd ⟨[a, b], []⟩ = pure (ps.zip [a, b])) : bindArgs fd ⟨us, []⟩ = pure (ps.zip us) := match us, hl with | [a, b], _ => h a b
theorem len3 {fd : FuncData} {ps : List Str} {us : List Value} (hl : us.length = 3) (h : ∀ a b c, bindArgs fd ⟨[a, b, c], []⟩ = pure (ps.zip [a, b, c])) : bindArgs fd ⟨us, []⟩ = pure (ps.zip us) := match us, hl with | [a, b, c], _ => h a b c
theorem len4 {fd : FuncData} {ps : List Str} {us : List Value} (hl : us.length = 4) (h : ∀ a b c d, bindArgs fd ⟨[a, b, c, d], []⟩ = pure (ps.zip [a, b, c, d])) : bindArgs fd ⟨us, []⟩ = pure (ps.zip us) := match us, hl with | [a, b, c, d], _ => h a b c d
theorem len5 {fd : FuncData} {ps : List Str} {us : List Value} (hl : us.length = 5) (h : ∀ a b c d e, bindArgs fd ⟨[a, b, c, d, e], []⟩ = pure (ps.zip [a, b, c, d, e])) : bindArgs fd ⟨us, []⟩ = pure (ps.zip us) := match us, hl with | [a, b, c, d, e], _ => h a b c d e
theorem len6 {fd : FuncData} {ps : List Str} {us : List Value} (hl : us.length = 6) (h : ∀ a b c d e f, bindArgs fd ⟨[a, b, c, d, e, f], []⟩ = pure (ps.zip [a, b, c, d, e, f])) : bindArgs fd ⟨us, []⟩ = pure (ps.zip us) := match us, hl with | [a, b, c, d, e, f], _ => h a b c d e f
theorem all_mk {l : W.OpenLaw} {w : World} {K : W.Frag} {h : Heap} {mg : Str → Option Value} {fa c PT CT f_x37 f_x36 f_x33 f_x25 f_x29 f_x24 f_x26 f_x32 f_x22 f_x19 f_x34 f_x1 f_x13 f_x31 f_x11 f_x20 f_x27 f_x18 f_x9 f_x17 f_x15 f_x0 f_x30 f_x21 f_x28 f_x3 f_x10 f_x5 f_x12 f_x8 f_x2 f_x6 f_x16 f_x7 f_x23 f_x14 f_x4 f_law e_0 e_1 e_2 e_3 e_4 e_5 e_6 e_7 e_8 e_9 e_10 e_11 : Addr} {cdT cd_0 cd_1 cd_2 cd_3 cd_4 cd_5 cd_6 cd_7 cd_8 cd_9 cd_10 cd_11 : ClassData} (X : K.In h) (GX : h.Ns mainGlobals mg) (hfa : mg "law" = some (.ref fa))
    {od_x37 an_x37 od_x36 an_x36 od_x33 an_x33 od_x25 an_x25 od_x29 an_x29 od_x24 an_x24 od_x26 an_x26 od_x32 an_x32 od_x22 an_x22 od_x19 an_x19 od_x34 an_x34 od_x1 an_x1 od_x13 an_x13 od_x31 an_x31 od_x11 an_x11 od_x20 an_x20 od_x27 an_x27 od_x18 an_x18 od_x9 an_x9 od_x17 an_x17 od_x15 an_x15 od_x0 an_x0 od_x30 an_x30 od_x21 an_x21 od_x28 an_x28 od_x3 an_x3 od_x10 an_x10 od_x5 an_x5 od_x12 an_x12 od_x8 an_x8 od_x2 an_x2 od_x6 an_x6 od_x16 an_x16 od_x7 an_x7 od_x23 an_x23 od_x14 an_x14 od_x4 an_x4 od_law an_law : Option Addr} {sl_x37 sl_x36 sl_x33 sl_x25 sl_x29 sl_x24 sl_x26 sl_x32 sl_x22 sl_x19 sl_x34 sl_x1 sl_x13 sl_x31 sl_x11 sl_x20 sl_x27 sl_x18 sl_x9 sl_x17 sl_x15 sl_x0 sl_x30 sl_x21 sl_x28 sl_x3 sl_x10 sl_x5 sl_x12 sl_x8 sl_x2 sl_x6 sl_x16 sl_x7 sl_x23 sl_x14 sl_x4 sl_law : Array (Option Value)} {oc_x37 kV_x37 dc_x37 pm_x37 ct_x37 cv_x37 oc_x36 kV_x36 dc_x36 pm_x36 ct_x36 cv_x36 oc_x33 kV_x33 dc_x33 pm_x33 ct_x33 cv_x33 oc_x25 kV_x25 dc_x25 pm_x25 ct_x25 cv_x25 oc_x29 kV_x29 dc_x29 pm_x29 ct_x29 cv_x29 oc_x24 kV_x24 dc_x24 pm_x24 ct_x24 cv_x24 oc_x26 kV_x26 dc_x26 pm_x26 ct_x26 cv_x26 oc_x32 kV_x32 dc_x32 pm_x32 ct_x32 cv_x32 oc_x22 kV_x22 dc_x22 pm_x22 ct_x22 cv_x22 oc_x19 kV_x19 dc_x19 pm_x19 ct_x19 cv_x19 oc_x34 kV_x34 dc_x34 pm_x34 ct_x34 cv_x34 oc_x1 kV_x1 dc_x1 pm_x1 ct_x1 cv_x1 oc_x13 kV_x13 dc_x13 pm_x13 ct_x13 cv_x13 oc_x31 kV_x31 dc_x31 pm_x31 ct_x31 cv_x31 oc_x11 kV_x11 dc_x11 pm_x11 ct_x11 cv_x11 oc_x20 kV_x20 dc_x20 pm_x20 ct_x20 cv_x20 oc_x27 kV_x27 dc_x27 pm_x27 ct_x27 cv_x27 oc_x18 kV_x18 dc_x18 pm_x18 ct_x18 cv_x18 oc_x9 kV_x9 dc_x9 pm_x9 ct_x9 cv_x9 oc_x17 kV_x17 dc_x17 pm_x17 ct_x17 cv_x17 oc_x15 kV_x15 dc_x15 pm_x15 ct_x15 cv_x15 oc_x0 kV_x0 dc_x0 pm_x0 ct_x0 cv_x0 oc_x30 kV_x30 dc_x30 pm_x30 ct_x30 cv_x30 oc_x21 kV_x21 dc_x21 pm_x21 ct_x21 cv_x21 oc_x28 kV_x28 dc_x28 pm_x28 ct_x28 cv_x28 oc_x3 kV_x3 dc_x3 pm_x3 ct_x3 cv_x3 oc_x10 kV_x10 dc_x10 pm_x10 ct_x10 cv_x10 oc_x5 kV_x5 dc_x5 pm_x5 ct_x5 cv_x5 oc_x12 kV_x12 dc_x12 pm_x12 ct_x12 cv_x12 oc_x8 kV_x8 dc_x8 pm_x8 ct_x8 cv_x8 oc_x2 kV_x2 dc_x2 pm_x2 ct_x2 cv_x2 oc_x6 kV_x6 dc_x6 pm_x6 ct_x6 cv_x6 oc_x16 kV_x16 dc_x16 pm_x16 ct_x16 cv_x16 oc_x7 kV_x7 dc_x7 pm_x7 ct_x7 cv_x7 oc_x23 kV_x23 dc_x23 pm_x23 ct_x23 cv_x23 oc_x14 kV_x14 dc_x14 pm_x14 ct_x14 cv_x14 oc_x4 kV_x4 dc_x4 pm_x4 ct_x4 cv_x4 oc_law kV_law dc_law pm_law ct_law : Value}
    {t_MOST_AMOUNT t_MOST_SEASONS t_MOST_TIMES : Tok}
    (a_x37 : W.nsIn K mainGlobals "_law_at" = some (some (.ref f_x37))) (l_x37 : K.lookup f_x37 = some ⟨oc_x37, od_x37, .func (W.fnOf "_law_at" "_law_at" (defArgs s_at) (defBody s_at) (defScope s_at) .none kV_x37 dc_x37 pm_x37 an_x37 cv_x37 ct_x37), sl_x37⟩) (c_x37 : W.codeIn K cv_x37 "_law_at" = true) (k_x37 : W.keepIn K (.ref f_x37) = true)
    (a_x36 : W.nsIn K mainGlobals "_law_row" = some (some (.ref f_x36))) (l_x36 : K.lookup f_x36 = some ⟨oc_x36, od_x36, .func (W.fnOf "_law_row" "_law_row" (defArgs s_row) (defBody s_row) (defScope s_row) .none kV_x36 dc_x36 pm_x36 an_x36 cv_x36 ct_x36), sl_x36⟩) (c_x36 : W.codeIn K cv_x36 "_law_row" = true) (k_x36 : W.keepIn K (.ref f_x36) = true)
    (a_x33 : W.nsIn K mainGlobals "_law_beds" = some (some (.ref f_x33))) (l_x33 : K.lookup f_x33 = some ⟨oc_x33, od_x33, .func (W.fnOf "_law_beds" "_law_beds" (defArgs s_beds) (defBody s_beds) (defScope s_beds) .none kV_x33 dc_x33 pm_x33 an_x33 cv_x33 ct_x33), sl_x33⟩) (c_x33 : W.codeIn K cv_x33 "_law_beds" = true) (k_x33 : W.keepIn K (.ref f_x33) = true)
    (a_x25 : W.nsIn K mainGlobals "_law_amount" = some (some (.ref f_x25))) (l_x25 : K.lookup f_x25 = some ⟨oc_x25, od_x25, .func (W.fnOf "_law_amount" "_law_amount" (defArgs s_amount) (defBody s_amount) (defScope s_amount) .none kV_x25 dc_x25 pm_x25 an_x25 cv_x25 ct_x25), sl_x25⟩) (c_x25 : W.codeIn K cv_x25 "_law_amount" = true) (k_x25 : W.keepIn K (.ref f_x25) = true)
    (a_x29 : W.nsIn K mainGlobals "_law_season" = some (some (.ref f_x29))) (l_x29 : K.lookup f_x29 = some ⟨oc_x29, od_x29, .func (W.fnOf "_law_season" "_law_season" (defArgs s_season) (defBody s_season) (defScope s_season) .none kV_x29 dc_x29 pm_x29 an_x29 cv_x29 ct_x29), sl_x29⟩) (c_x29 : W.codeIn K cv_x29 "_law_season" = true) (k_x29 : W.keepIn K (.ref f_x29) = true)
    (a_x24 : W.nsIn K mainGlobals "_law_seasons" = some (some (.ref f_x24))) (l_x24 : K.lookup f_x24 = some ⟨oc_x24, od_x24, .func (W.fnOf "_law_seasons" "_law_seasons" (defArgs s_seasons) (defBody s_seasons) (defScope s_seasons) .none kV_x24 dc_x24 pm_x24 an_x24 cv_x24 ct_x24), sl_x24⟩) (c_x24 : W.codeIn K cv_x24 "_law_seasons" = true) (k_x24 : W.keepIn K (.ref f_x24) = true)
    (a_x26 : W.nsIn K mainGlobals "_law_beyond" = some (some (.ref f_x26))) (l_x26 : K.lookup f_x26 = some ⟨oc_x26, od_x26, .func (W.fnOf "_law_beyond" "_law_beyond" (defArgs s_beyond) (defBody s_beyond) (defScope s_beyond) .none kV_x26 dc_x26 pm_x26 an_x26 cv_x26 ct_x26), sl_x26⟩) (c_x26 : W.codeIn K cv_x26 "_law_beyond" = true) (k_x26 : W.keepIn K (.ref f_x26) = true)
    (a_x32 : W.nsIn K mainGlobals "_law_whole" = some (some (.ref f_x32))) (l_x32 : K.lookup f_x32 = some ⟨oc_x32, od_x32, .func (W.fnOf "_law_whole" "_law_whole" (defArgs s_whole) (defBody s_whole) (defScope s_whole) .none kV_x32 dc_x32 pm_x32 an_x32 cv_x32 ct_x32), sl_x32⟩) (c_x32 : W.codeIn K cv_x32 "_law_whole" = true) (k_x32 : W.keepIn K (.ref f_x32) = true)
    (a_x22 : W.nsIn K mainGlobals "_law_refusal" = some (some (.ref f_x22))) (l_x22 : K.lookup f_x22 = some ⟨oc_x22, od_x22, .func (W.fnOf "_law_refusal" "_law_refusal" (defArgs s_refusal) (defBody s_refusal) (defScope s_refusal) .none kV_x22 dc_x22 pm_x22 an_x22 cv_x22 ct_x22), sl_x22⟩) (c_x22 : W.codeIn K cv_x22 "_law_refusal" = true) (k_x22 : W.keepIn K (.ref f_x22) = true)
    (a_x19 : W.nsIn K mainGlobals "_law_answers" = some (some (.ref f_x19))) (l_x19 : K.lookup f_x19 = some ⟨oc_x19, od_x19, .func (W.fnOf "_law_answers" "_law_answers" (defArgs s_answers) (defBody s_answers) (defScope s_answers) .none kV_x19 dc_x19 pm_x19 an_x19 cv_x19 ct_x19), sl_x19⟩) (c_x19 : W.codeIn K cv_x19 "_law_answers" = true) (k_x19 : W.keepIn K (.ref f_x19) = true)
    (a_x34 : W.nsIn K mainGlobals "_law_all" = some (some (.ref f_x34))) (l_x34 : K.lookup f_x34 = some ⟨oc_x34, od_x34, .func (W.fnOf "_law_all" "_law_all" (defArgs s_all) (defBody s_all) (defScope s_all) .none kV_x34 dc_x34 pm_x34 an_x34 cv_x34 ct_x34), sl_x34⟩) (c_x34 : W.codeIn K cv_x34 "_law_all" = true) (k_x34 : W.keepIn K (.ref f_x34) = true)
    (a_x1 : W.nsIn K mainGlobals "check_amount" = some (some (.ref f_x1))) (l_x1 : K.lookup f_x1 = some ⟨oc_x1, od_x1, .func (W.fnOf "check_amount" "check_amount" (defArgs s_check_amount) (defBody s_check_amount) (defScope s_check_amount) .none kV_x1 dc_x1 pm_x1 an_x1 cv_x1 ct_x1), sl_x1⟩) (c_x1 : W.codeIn K cv_x1 "check_amount" = true) (k_x1 : W.keepIn K (.ref f_x1) = true)
    (a_x13 : W.nsIn K mainGlobals "check_year" = some (some (.ref f_x13))) (l_x13 : K.lookup f_x13 = some ⟨oc_x13, od_x13, .func (W.fnOf "check_year" "check_year" (defArgs s_check_year) (defBody s_check_year) (defScope s_check_year) .none kV_x13 dc_x13 pm_x13 an_x13 cv_x13 ct_x13), sl_x13⟩) (c_x13 : W.codeIn K cv_x13 "check_year" = true) (k_x13 : W.keepIn K (.ref f_x13) = true)
    (a_x31 : W.nsIn K mainGlobals "still" = some (some (.ref f_x31))) (l_x31 : K.lookup f_x31 = some ⟨oc_x31, od_x31, .func (W.fnOf "still" "still" (defArgs s_still) (defBody s_still) (defScope s_still) .none kV_x31 dc_x31 pm_x31 an_x31 cv_x31 ct_x31), sl_x31⟩) (c_x31 : W.codeIn K cv_x31 "still" = true) (k_x31 : W.keepIn K (.ref f_x31) = true)
    (a_x11 : W.nsIn K mainGlobals "season_rule" = some (some (.ref f_x11))) (l_x11 : K.lookup f_x11 = some ⟨oc_x11, od_x11, .func (W.fnOf "season_rule" "season_rule" (defArgs s_season_rule) (defBody s_season_rule) (defScope s_season_rule) .none kV_x11 dc_x11 pm_x11 an_x11 cv_x11 ct_x11), sl_x11⟩) (c_x11 : W.codeIn K cv_x11 "season_rule" = true) (k_x11 : W.keepIn K (.ref f_x11) = true)
    (a_x20 : W.nsIn K mainGlobals "applied" = some (some (.ref f_x20))) (l_x20 : K.lookup f_x20 = some ⟨oc_x20, od_x20, .func (W.fnOf "applied" "applied" (defArgs s_applied) (defBody s_applied) (defScope s_applied) .none kV_x20 dc_x20 pm_x20 an_x20 cv_x20 ct_x20), sl_x20⟩) (c_x20 : W.codeIn K cv_x20 "applied" = true) (k_x20 : W.keepIn K (.ref f_x20) = true)
    (a_x27 : W.nsIn K mainGlobals "joined" = some (some (.ref f_x27))) (l_x27 : K.lookup f_x27 = some ⟨oc_x27, od_x27, .func (W.fnOf "joined" "joined" (defArgs s_joined) (defBody s_joined) (defScope s_joined) .none kV_x27 dc_x27 pm_x27 an_x27 cv_x27 ct_x27), sl_x27⟩) (c_x27 : W.codeIn K cv_x27 "joined" = true) (k_x27 : W.keepIn K (.ref f_x27) = true)
    (a_x18 : W.nsIn K mainGlobals "row_rule" = some (some (.ref f_x18))) (l_x18 : K.lookup f_x18 = some ⟨oc_x18, od_x18, .func (W.fnOf "row_rule" "row_rule" (defArgs s_row_rule) (defBody s_row_rule) (defScope s_row_rule) .none kV_x18 dc_x18 pm_x18 an_x18 cv_x18 ct_x18), sl_x18⟩) (c_x18 : W.codeIn K cv_x18 "row_rule" = true) (k_x18 : W.keepIn K (.ref f_x18) = true)
    (a_x9 : W.nsIn K mainGlobals "check_times" = some (some (.ref f_x9))) (l_x9 : K.lookup f_x9 = some ⟨oc_x9, od_x9, .func (W.fnOf "check_times" "check_times" (defArgs s_check_times) (defBody s_check_times) (defScope s_check_times) .none kV_x9 dc_x9 pm_x9 an_x9 cv_x9 ct_x9), sl_x9⟩) (c_x9 : W.codeIn K cv_x9 "check_times" = true) (k_x9 : W.keepIn K (.ref f_x9) = true)
    (a_x17 : W.nsIn K mainGlobals "repeated" = some (some (.ref f_x17))) (l_x17 : K.lookup f_x17 = some ⟨oc_x17, od_x17, .func (W.fnOf "repeated" "repeated" (defArgs s_repeated) (defBody s_repeated) (defScope s_repeated) .none kV_x17 dc_x17 pm_x17 an_x17 cv_x17 ct_x17), sl_x17⟩) (c_x17 : W.codeIn K cv_x17 "repeated" = true) (k_x17 : W.keepIn K (.ref f_x17) = true)
    (a_x15 : W.nsIn K mainGlobals "year_rule" = some (some (.ref f_x15))) (l_x15 : K.lookup f_x15 = some ⟨oc_x15, od_x15, .func (W.fnOf "year_rule" "year_rule" (defArgs s_year_rule) (defBody s_year_rule) (defScope s_year_rule) .none kV_x15 dc_x15 pm_x15 an_x15 cv_x15 ct_x15), sl_x15⟩) (c_x15 : W.codeIn K cv_x15 "year_rule" = true) (k_x15 : W.keepIn K (.ref f_x15) = true)
    (a_x0 : W.nsIn K mainGlobals "shared_from_top" = some (some (.ref f_x0))) (l_x0 : K.lookup f_x0 = some ⟨oc_x0, od_x0, .func (W.fnOf "shared_from_top" "shared_from_top" (defArgs s_shared_from_top) (defBody s_shared_from_top) (defScope s_shared_from_top) .none kV_x0 dc_x0 pm_x0 an_x0 cv_x0 ct_x0), sl_x0⟩) (c_x0 : W.codeIn K cv_x0 "shared_from_top" = true) (k_x0 : W.keepIn K (.ref f_x0) = true)
    (a_x30 : W.nsIn K mainGlobals "warmed" = some (some (.ref f_x30))) (l_x30 : K.lookup f_x30 = some ⟨oc_x30, od_x30, .func (W.fnOf "warmed" "warmed" (defArgs s_warmed) (defBody s_warmed) (defScope s_warmed) .none kV_x30 dc_x30 pm_x30 an_x30 cv_x30 ct_x30), sl_x30⟩) (c_x30 : W.codeIn K cv_x30 "warmed" = true) (k_x30 : W.keepIn K (.ref f_x30) = true)
    (a_x21 : W.nsIn K mainGlobals "chilled" = some (some (.ref f_x21))) (l_x21 : K.lookup f_x21 = some ⟨oc_x21, od_x21, .func (W.fnOf "chilled" "chilled" (defArgs s_chilled) (defBody s_chilled) (defScope s_chilled) .none kV_x21 dc_x21 pm_x21 an_x21 cv_x21 ct_x21), sl_x21⟩) (c_x21 : W.codeIn K cv_x21 "chilled" = true) (k_x21 : W.keepIn K (.ref f_x21) = true)
    (a_x28 : W.nsIn K mainGlobals "passed" = some (some (.ref f_x28))) (l_x28 : K.lookup f_x28 = some ⟨oc_x28, od_x28, .func (W.fnOf "passed" "passed" (defArgs s_passed) (defBody s_passed) (defScope s_passed) .none kV_x28 dc_x28 pm_x28 an_x28 cv_x28 ct_x28), sl_x28⟩) (c_x28 : W.codeIn K cv_x28 "passed" = true) (k_x28 : W.keepIn K (.ref f_x28) = true)
    (a_x3 : W.nsIn K mainGlobals "each_down_to" = some (some (.ref f_x3))) (l_x3 : K.lookup f_x3 = some ⟨oc_x3, od_x3, .func (W.fnOf "each_down_to" "each_down_to" (defArgs s_each_down_to) (defBody s_each_down_to) (defScope s_each_down_to) .none kV_x3 dc_x3 pm_x3 an_x3 cv_x3 ct_x3), sl_x3⟩) (c_x3 : W.codeIn K cv_x3 "each_down_to" = true) (k_x3 : W.keepIn K (.ref f_x3) = true)
    (a_x10 : W.nsIn K mainGlobals "heats_later" = some (some (.ref f_x10))) (l_x10 : K.lookup f_x10 = some ⟨oc_x10, od_x10, .func (W.fnOf "heats_later" "heats_later" (defArgs s_heats_later) (defBody s_heats_later) (defScope s_heats_later) .none kV_x10 dc_x10 pm_x10 an_x10 cv_x10 ct_x10), sl_x10⟩) (c_x10 : W.codeIn K cv_x10 "heats_later" = true) (k_x10 : W.keepIn K (.ref f_x10) = true)
    (a_x5 : W.nsIn K mainGlobals "missed_later" = some (some (.ref f_x5))) (l_x5 : K.lookup f_x5 = some ⟨oc_x5, od_x5, .func (W.fnOf "missed_later" "missed_later" (defArgs s_missed_later) (defBody s_missed_later) (defScope s_missed_later) .none kV_x5 dc_x5 pm_x5 an_x5 cv_x5 ct_x5), sl_x5⟩) (c_x5 : W.codeIn K cv_x5 "missed_later" = true) (k_x5 : W.keepIn K (.ref f_x5) = true)
    (a_x12 : W.nsIn K mainGlobals "whole_years" = some (some (.ref f_x12))) (l_x12 : K.lookup f_x12 = some ⟨oc_x12, od_x12, .func (W.fnOf "whole_years" "whole_years" (defArgs s_whole_years) (defBody s_whole_years) (defScope s_whole_years) .none kV_x12 dc_x12 pm_x12 an_x12 cv_x12 ct_x12), sl_x12⟩) (c_x12 : W.codeIn K cv_x12 "whole_years" = true) (k_x12 : W.keepIn K (.ref f_x12) = true)
    (a_x8 : W.nsIn K mainGlobals "years_passed" = some (some (.ref f_x8))) (l_x8 : K.lookup f_x8 = some ⟨oc_x8, od_x8, .func (W.fnOf "years_passed" "years_passed" (defArgs s_years_passed) (defBody s_years_passed) (defScope s_years_passed) .none kV_x8 dc_x8 pm_x8 an_x8 cv_x8 ct_x8), sl_x8⟩) (c_x8 : W.codeIn K cv_x8 "years_passed" = true) (k_x8 : W.keepIn K (.ref f_x8) = true)
    (a_x2 : W.nsIn K mainGlobals "check_season" = some (some (.ref f_x2))) (l_x2 : K.lookup f_x2 = some ⟨oc_x2, od_x2, .func (W.fnOf "check_season" "check_season" (defArgs s_check_season) (defBody s_check_season) (defScope s_check_season) .none kV_x2 dc_x2 pm_x2 an_x2 cv_x2 ct_x2), sl_x2⟩) (c_x2 : W.codeIn K cv_x2 "check_season" = true) (k_x2 : W.keepIn K (.ref f_x2) = true)
    (a_x6 : W.nsIn K mainGlobals "passed_until" = some (some (.ref f_x6))) (l_x6 : K.lookup f_x6 = some ⟨oc_x6, od_x6, .func (W.fnOf "passed_until" "passed_until" (defArgs s_passed_until) (defBody s_passed_until) (defScope s_passed_until) .none kV_x6 dc_x6 pm_x6 an_x6 cv_x6 ct_x6), sl_x6⟩) (c_x6 : W.codeIn K cv_x6 "passed_until" = true) (k_x6 : W.keepIn K (.ref f_x6) = true)
    (a_x16 : W.nsIn K mainGlobals "heats_at" = some (some (.ref f_x16))) (l_x16 : K.lookup f_x16 = some ⟨oc_x16, od_x16, .func (W.fnOf "heats_at" "heats_at" (defArgs s_heats_at) (defBody s_heats_at) (defScope s_heats_at) .none kV_x16 dc_x16 pm_x16 an_x16 cv_x16 ct_x16), sl_x16⟩) (c_x16 : W.codeIn K cv_x16 "heats_at" = true) (k_x16 : W.keepIn K (.ref f_x16) = true)
    (a_x7 : W.nsIn K mainGlobals "rest_down_to" = some (some (.ref f_x7))) (l_x7 : K.lookup f_x7 = some ⟨oc_x7, od_x7, .func (W.fnOf "rest_down_to" "rest_down_to" (defArgs s_rest_down_to) (defBody s_rest_down_to) (defScope s_rest_down_to) .none kV_x7 dc_x7 pm_x7 an_x7 cv_x7 ct_x7), sl_x7⟩) (c_x7 : W.codeIn K cv_x7 "rest_down_to" = true) (k_x7 : W.keepIn K (.ref f_x7) = true)
    (a_x23 : W.nsIn K mainGlobals "rest_of" = some (some (.ref f_x23))) (l_x23 : K.lookup f_x23 = some ⟨oc_x23, od_x23, .func (W.fnOf "rest_of" "rest_of" (defArgs s_rest_of) (defBody s_rest_of) (defScope s_rest_of) .none kV_x23 dc_x23 pm_x23 an_x23 cv_x23 ct_x23), sl_x23⟩) (c_x23 : W.codeIn K cv_x23 "rest_of" = true) (k_x23 : W.keepIn K (.ref f_x23) = true)
    (a_x14 : W.nsIn K mainGlobals "check_bed" = some (some (.ref f_x14))) (l_x14 : K.lookup f_x14 = some ⟨oc_x14, od_x14, .func (W.fnOf "check_bed" "check_bed" (defArgs s_check_bed) (defBody s_check_bed) (defScope s_check_bed) .none kV_x14 dc_x14 pm_x14 an_x14 cv_x14 ct_x14), sl_x14⟩) (c_x14 : W.codeIn K cv_x14 "check_bed" = true) (k_x14 : W.keepIn K (.ref f_x14) = true)
    (a_x4 : W.nsIn K mainGlobals "first_season" = some (some (.ref f_x4))) (l_x4 : K.lookup f_x4 = some ⟨oc_x4, od_x4, .func (W.fnOf "first_season" "first_season" (defArgs s_first_season) (defBody s_first_season) (defScope s_first_season) .none kV_x4 dc_x4 pm_x4 an_x4 cv_x4 ct_x4), sl_x4⟩) (c_x4 : W.codeIn K cv_x4 "first_season" = true) (k_x4 : W.keepIn K (.ref f_x4) = true)
    (a_law : W.nsIn K mainGlobals "law" = some (some (.ref f_law))) (l_law : K.lookup f_law = some ⟨oc_law, od_law, .func (W.fnOf "law" "law" (defArgs s_law) (defBody s_law) (defScope s_law) .none kV_law dc_law pm_law an_law (.ref c) ct_law), sl_law⟩) (c_law : W.codeIn K (.ref c) "law" = true) (k_law : W.keepIn K (.ref f_law) = true)
    (z_ValueError : W.nsIn K mainGlobals "ValueError" = some none)
    (z_abs : W.nsIn K mainGlobals "abs" = some none)
    (z_bool : W.nsIn K mainGlobals "bool" = some none)
    (z_int : W.nsIn K mainGlobals "int" = some none)
    (z_isinstance : W.nsIn K mainGlobals "isinstance" = some none)
    (z_len : W.nsIn K mainGlobals "len" = some none)
    (z_list : W.nsIn K mainGlobals "list" = some none)
    (z_max : W.nsIn K mainGlobals "max" = some none)
    (z_min : W.nsIn K mainGlobals "min" = some none)
    (z_range : W.nsIn K mainGlobals "range" = some none)
    (z_reversed : W.nsIn K mainGlobals "reversed" = some none)
    (z_sum : W.nsIn K mainGlobals "sum" = some none)
    (z_zip : W.nsIn K mainGlobals "zip" = some none)
    (g_MOST_AMOUNT : W.nsIn K mainGlobals "MOST_AMOUNT" = some (some (.int 1000000 t_MOST_AMOUNT)))
    (g_MOST_SEASONS : W.nsIn K mainGlobals "MOST_SEASONS" = some (some (.int 12 t_MOST_SEASONS)))
    (g_MOST_TIMES : W.nsIn K mainGlobals "MOST_TIMES" = some (some (.int 1000000000000000000 t_MOST_TIMES)))
    (aT : W.nsIn K mainGlobals "ThawError" = some (some (.ref CT))) (bT : W.subIn K (.ref CT) (.type "BaseException") = some true) (cT : W.clsIn K CT = some cdT) (tT : W.typeIn K (.ref CT) = some (.type "type"))
    (aE0 : W.nsIn K mainGlobals "UnknownBed" = some (some (.ref e_0))) (cE0 : W.clsIn K e_0 = some cd_0) (tE0 : W.typeIn K (.ref e_0) = some (.type "type"))
    (aE1 : W.nsIn K mainGlobals "UnknownDeed" = some (some (.ref e_1))) (cE1 : W.clsIn K e_1 = some cd_1) (tE1 : W.typeIn K (.ref e_1) = some (.type "type"))
    (aE2 : W.nsIn K mainGlobals "BadBeds" = some (some (.ref e_2))) (cE2 : W.clsIn K e_2 = some cd_2) (tE2 : W.typeIn K (.ref e_2) = some (.type "type"))
    (aE3 : W.nsIn K mainGlobals "BadNeed" = some (some (.ref e_3))) (cE3 : W.clsIn K e_3 = some cd_3) (tE3 : W.typeIn K (.ref e_3) = some (.type "type"))
    (aE4 : W.nsIn K mainGlobals "BadHeat" = some (some (.ref e_4))) (cE4 : W.clsIn K e_4 = some cd_4) (tE4 : W.typeIn K (.ref e_4) = some (.type "type"))
    (aE5 : W.nsIn K mainGlobals "BadYear" = some (some (.ref e_5))) (cE5 : W.clsIn K e_5 = some cd_5) (tE5 : W.typeIn K (.ref e_5) = some (.type "type"))
    (aE6 : W.nsIn K mainGlobals "BadAmount" = some (some (.ref e_6))) (cE6 : W.clsIn K e_6 = some cd_6) (tE6 : W.typeIn K (.ref e_6) = some (.type "type"))
    (aE7 : W.nsIn K mainGlobals "BadTimes" = some (some (.ref e_7))) (cE7 : W.clsIn K e_7 = some cd_7) (tE7 : W.typeIn K (.ref e_7) = some (.type "type"))
    (aE8 : W.nsIn K mainGlobals "UnknownSeason" = some (some (.ref e_8))) (cE8 : W.clsIn K e_8 = some cd_8) (tE8 : W.typeIn K (.ref e_8) = some (.type "type"))
    (aE9 : W.nsIn K mainGlobals "TooManyLaid" = some (some (.ref e_9))) (cE9 : W.clsIn K e_9 = some cd_9) (tE9 : W.typeIn K (.ref e_9) = some (.type "type"))
    (aE10 : W.nsIn K mainGlobals "TooManyDeeds" = some (some (.ref e_10))) (cE10 : W.clsIn K e_10 = some cd_10) (tE10 : W.typeIn K (.ref e_10) = some (.type "type"))
    (aE11 : W.nsIn K mainGlobals "NothingDone" = some (some (.ref e_11))) (cE11 : W.clsIn K e_11 = some cd_11) (tE11 : W.typeIn K (.ref e_11) = some (.type "type"))
    (xE6 : W.excIn K e_6 [.type "ValueError", .type "Exception", .type "BaseException", .type "object"] "ValueError.__new__" = true)
    (xE5 : W.excIn K e_5 [.type "ValueError", .type "Exception", .type "BaseException", .type "object"] "ValueError.__new__" = true)
    (xE7 : W.excIn K e_7 [.type "ValueError", .type "Exception", .type "BaseException", .type "object"] "ValueError.__new__" = true)
    (xE8 : W.excIn K e_8 [.type "ValueError", .type "Exception", .type "BaseException", .type "object"] "ValueError.__new__" = true)
    (xE0 : W.excIn K e_0 [.type "ValueError", .type "Exception", .type "BaseException", .type "object"] "ValueError.__new__" = true)
    (r0g : W.findIn K (.ref e_0) "__getattribute__" = some (some (.builtin "BaseException.__getattribute__"))) (r0n : W.findIn K (.ref e_0) "__getattr__" = some none) (r0c : W.findIn K (.ref e_0) "__class__" = some (some (.builtin "object.__class__"))) (r0b : W.mroIn K e_0 (.type "BaseException") = some true) (r0o : W.mroIn K e_0 (.type "object") = some true) (r0t : W.subIn K (.ref e_0) (.ref CT) = some true) (r0v : W.subIn K (.ref e_0) (.type "ValueError") = some true)
    (s0_1 : W.subIn K (.ref e_0) (.ref e_1) = some false) (n0_1 : (e_0 == e_1) = false)
    (s0_2 : W.subIn K (.ref e_0) (.ref e_2) = some false) (n0_2 : (e_0 == e_2) = false)
    (s0_3 : W.subIn K (.ref e_0) (.ref e_3) = some false) (n0_3 : (e_0 == e_3) = false)
    (s0_4 : W.subIn K (.ref e_0) (.ref e_4) = some false) (n0_4 : (e_0 == e_4) = false)
    (s0_5 : W.subIn K (.ref e_0) (.ref e_5) = some false) (n0_5 : (e_0 == e_5) = false)
    (s0_6 : W.subIn K (.ref e_0) (.ref e_6) = some false) (n0_6 : (e_0 == e_6) = false)
    (s0_7 : W.subIn K (.ref e_0) (.ref e_7) = some false) (n0_7 : (e_0 == e_7) = false)
    (s0_8 : W.subIn K (.ref e_0) (.ref e_8) = some false) (n0_8 : (e_0 == e_8) = false)
    (s0_9 : W.subIn K (.ref e_0) (.ref e_9) = some false) (n0_9 : (e_0 == e_9) = false)
    (s0_10 : W.subIn K (.ref e_0) (.ref e_10) = some false) (n0_10 : (e_0 == e_10) = false)
    (s0_11 : W.subIn K (.ref e_0) (.ref e_11) = some false) (n0_11 : (e_0 == e_11) = false)
    (r5g : W.findIn K (.ref e_5) "__getattribute__" = some (some (.builtin "BaseException.__getattribute__"))) (r5n : W.findIn K (.ref e_5) "__getattr__" = some none) (r5c : W.findIn K (.ref e_5) "__class__" = some (some (.builtin "object.__class__"))) (r5b : W.mroIn K e_5 (.type "BaseException") = some true) (r5o : W.mroIn K e_5 (.type "object") = some true) (r5t : W.subIn K (.ref e_5) (.ref CT) = some true) (r5v : W.subIn K (.ref e_5) (.type "ValueError") = some true)
    (s5_0 : W.subIn K (.ref e_5) (.ref e_0) = some false) (n5_0 : (e_5 == e_0) = false)
    (s5_1 : W.subIn K (.ref e_5) (.ref e_1) = some false) (n5_1 : (e_5 == e_1) = false)
    (s5_2 : W.subIn K (.ref e_5) (.ref e_2) = some false) (n5_2 : (e_5 == e_2) = false)
    (s5_3 : W.subIn K (.ref e_5) (.ref e_3) = some false) (n5_3 : (e_5 == e_3) = false)
    (s5_4 : W.subIn K (.ref e_5) (.ref e_4) = some false) (n5_4 : (e_5 == e_4) = false)
    (s5_6 : W.subIn K (.ref e_5) (.ref e_6) = some false) (n5_6 : (e_5 == e_6) = false)
    (s5_7 : W.subIn K (.ref e_5) (.ref e_7) = some false) (n5_7 : (e_5 == e_7) = false)
    (s5_8 : W.subIn K (.ref e_5) (.ref e_8) = some false) (n5_8 : (e_5 == e_8) = false)
    (s5_9 : W.subIn K (.ref e_5) (.ref e_9) = some false) (n5_9 : (e_5 == e_9) = false)
    (s5_10 : W.subIn K (.ref e_5) (.ref e_10) = some false) (n5_10 : (e_5 == e_10) = false)
    (s5_11 : W.subIn K (.ref e_5) (.ref e_11) = some false) (n5_11 : (e_5 == e_11) = false)
    (r6g : W.findIn K (.ref e_6) "__getattribute__" = some (some (.builtin "BaseException.__getattribute__"))) (r6n : W.findIn K (.ref e_6) "__getattr__" = some none) (r6c : W.findIn K (.ref e_6) "__class__" = some (some (.builtin "object.__class__"))) (r6b : W.mroIn K e_6 (.type "BaseException") = some true) (r6o : W.mroIn K e_6 (.type "object") = some true) (r6t : W.subIn K (.ref e_6) (.ref CT) = some true) (r6v : W.subIn K (.ref e_6) (.type "ValueError") = some true)
    (s6_0 : W.subIn K (.ref e_6) (.ref e_0) = some false) (n6_0 : (e_6 == e_0) = false)
    (s6_1 : W.subIn K (.ref e_6) (.ref e_1) = some false) (n6_1 : (e_6 == e_1) = false)
    (s6_2 : W.subIn K (.ref e_6) (.ref e_2) = some false) (n6_2 : (e_6 == e_2) = false)
    (s6_3 : W.subIn K (.ref e_6) (.ref e_3) = some false) (n6_3 : (e_6 == e_3) = false)
    (s6_4 : W.subIn K (.ref e_6) (.ref e_4) = some false) (n6_4 : (e_6 == e_4) = false)
    (s6_5 : W.subIn K (.ref e_6) (.ref e_5) = some false) (n6_5 : (e_6 == e_5) = false)
    (s6_7 : W.subIn K (.ref e_6) (.ref e_7) = some false) (n6_7 : (e_6 == e_7) = false)
    (s6_8 : W.subIn K (.ref e_6) (.ref e_8) = some false) (n6_8 : (e_6 == e_8) = false)
    (s6_9 : W.subIn K (.ref e_6) (.ref e_9) = some false) (n6_9 : (e_6 == e_9) = false)
    (s6_10 : W.subIn K (.ref e_6) (.ref e_10) = some false) (n6_10 : (e_6 == e_10) = false)
    (s6_11 : W.subIn K (.ref e_6) (.ref e_11) = some false) (n6_11 : (e_6 == e_11) = false)
    (r7g : W.findIn K (.ref e_7) "__getattribute__" = some (some (.builtin "BaseException.__getattribute__"))) (r7n : W.findIn K (.ref e_7) "__getattr__" = some none) (r7c : W.findIn K (.ref e_7) "__class__" = some (some (.builtin "object.__class__"))) (r7b : W.mroIn K e_7 (.type "BaseException") = some true) (r7o : W.mroIn K e_7 (.type "object") = some true) (r7t : W.subIn K (.ref e_7) (.ref CT) = some true) (r7v : W.subIn K (.ref e_7) (.type "ValueError") = some true)
    (s7_0 : W.subIn K (.ref e_7) (.ref e_0) = some false) (n7_0 : (e_7 == e_0) = false)
    (s7_1 : W.subIn K (.ref e_7) (.ref e_1) = some false) (n7_1 : (e_7 == e_1) = false)
    (s7_2 : W.subIn K (.ref e_7) (.ref e_2) = some false) (n7_2 : (e_7 == e_2) = false)
    (s7_3 : W.subIn K (.ref e_7) (.ref e_3) = some false) (n7_3 : (e_7 == e_3) = false)
    (s7_4 : W.subIn K (.ref e_7) (.ref e_4) = some false) (n7_4 : (e_7 == e_4) = false)
    (s7_5 : W.subIn K (.ref e_7) (.ref e_5) = some false) (n7_5 : (e_7 == e_5) = false)
    (s7_6 : W.subIn K (.ref e_7) (.ref e_6) = some false) (n7_6 : (e_7 == e_6) = false)
    (s7_8 : W.subIn K (.ref e_7) (.ref e_8) = some false) (n7_8 : (e_7 == e_8) = false)
    (s7_9 : W.subIn K (.ref e_7) (.ref e_9) = some false) (n7_9 : (e_7 == e_9) = false)
    (s7_10 : W.subIn K (.ref e_7) (.ref e_10) = some false) (n7_10 : (e_7 == e_10) = false)
    (s7_11 : W.subIn K (.ref e_7) (.ref e_11) = some false) (n7_11 : (e_7 == e_11) = false)
    (r8g : W.findIn K (.ref e_8) "__getattribute__" = some (some (.builtin "BaseException.__getattribute__"))) (r8n : W.findIn K (.ref e_8) "__getattr__" = some none) (r8c : W.findIn K (.ref e_8) "__class__" = some (some (.builtin "object.__class__"))) (r8b : W.mroIn K e_8 (.type "BaseException") = some true) (r8o : W.mroIn K e_8 (.type "object") = some true) (r8t : W.subIn K (.ref e_8) (.ref CT) = some true) (r8v : W.subIn K (.ref e_8) (.type "ValueError") = some true)
    (s8_0 : W.subIn K (.ref e_8) (.ref e_0) = some false) (n8_0 : (e_8 == e_0) = false)
    (s8_1 : W.subIn K (.ref e_8) (.ref e_1) = some false) (n8_1 : (e_8 == e_1) = false)
    (s8_2 : W.subIn K (.ref e_8) (.ref e_2) = some false) (n8_2 : (e_8 == e_2) = false)
    (s8_3 : W.subIn K (.ref e_8) (.ref e_3) = some false) (n8_3 : (e_8 == e_3) = false)
    (s8_4 : W.subIn K (.ref e_8) (.ref e_4) = some false) (n8_4 : (e_8 == e_4) = false)
    (s8_5 : W.subIn K (.ref e_8) (.ref e_5) = some false) (n8_5 : (e_8 == e_5) = false)
    (s8_6 : W.subIn K (.ref e_8) (.ref e_6) = some false) (n8_6 : (e_8 == e_6) = false)
    (s8_7 : W.subIn K (.ref e_8) (.ref e_7) = some false) (n8_7 : (e_8 == e_7) = false)
    (s8_9 : W.subIn K (.ref e_8) (.ref e_9) = some false) (n8_9 : (e_8 == e_9) = false)
    (s8_10 : W.subIn K (.ref e_8) (.ref e_10) = some false) (n8_10 : (e_8 == e_10) = false)
    (s8_11 : W.subIn K (.ref e_8) (.ref e_11) = some false) (n8_11 : (e_8 == e_11) = false)
    : ∃ fd : FuncData, (∀ (s : Shared) (v : Value), BindsTo s fd ⟨[v], []⟩ [("_law_script", v)]) ∧ ∀ base : Heap, K.In base → base.Ns mainGlobals mg → W.CodeHd base c PT → base.BuiltinsAt mg PT → FnOk l.prog w K mg base (CX1 l.prog w) 17 fa fd ["_law_script"] (sp_law K PT) := by
  have e := hfa.symm.trans (W.mg_of X GX a_law)
  cases e
  have T : Txt K mg := ⟨W.mg_none_of X GX z_ValueError, W.mg_none_of X GX z_abs, W.mg_none_of X GX z_bool, W.mg_none_of X GX z_int, W.mg_none_of X GX z_isinstance, W.mg_none_of X GX z_len, W.mg_none_of X GX z_list, W.mg_none_of X GX z_max, W.mg_none_of X GX z_min, W.mg_none_of X GX z_range, W.mg_none_of X GX z_reversed, W.mg_none_of X GX z_sum, W.mg_none_of X GX z_zip, ⟨_, W.mg_of X GX g_MOST_AMOUNT⟩, ⟨_, W.mg_of X GX g_MOST_SEASONS⟩, ⟨_, W.mg_of X GX g_MOST_TIMES⟩⟩
  have XE : Errs mg CT (fun i => [e_0, e_1, e_2, e_3, e_4, e_5, e_6, e_7, e_8, e_9, e_10, e_11].getD i 0) := ⟨W.mg_of X GX aT, W.mg_of X GX aE0, W.mg_of X GX aE1, W.mg_of X GX aE2, W.mg_of X GX aE3, W.mg_of X GX aE4, W.mg_of X GX aE5, W.mg_of X GX aE6, W.mg_of X GX aE7, W.mg_of X GX aE8, W.mg_of X GX aE9, W.mg_of X GX aE10, W.mg_of X GX aE11⟩
  have XU_BadAmount : Exc K mg "BadAmount" e_6 := ⟨W.mg_of X GX aE6, xE6⟩
  have XU_BadYear : Exc K mg "BadYear" e_5 := ⟨W.mg_of X GX aE5, xE5⟩
  have XU_BadTimes : Exc K mg "BadTimes" e_7 := ⟨W.mg_of X GX aE7, xE7⟩
  have XU_UnknownSeason : Exc K mg "UnknownSeason" e_8 := ⟨W.mg_of X GX aE8, xE8⟩
  have XU_UnknownBed : Exc K mg "UnknownBed" e_0 := ⟨W.mg_of X GX aE0, xE0⟩
  have R0 : Refuses K CT (fun i => [e_0, e_1, e_2, e_3, e_4, e_5, e_6, e_7, e_8, e_9, e_10, e_11].getD i 0) 0 := ⟨⟨by show (W.clsIn K e_0).isSome = true; rw [cE0]; rfl, r0g, r0n, r0c, r0b, r0o⟩, exm_of bT cT tT r0t, fun i hi => match i, hi with | 0, _ => kit_self | 1, _ => kit_no n0_1 cE1 tE1 s0_1 | 2, _ => kit_no n0_2 cE2 tE2 s0_2 | 3, _ => kit_no n0_3 cE3 tE3 s0_3 | 4, _ => kit_no n0_4 cE4 tE4 s0_4 | 5, _ => kit_no n0_5 cE5 tE5 s0_5 | 6, _ => kit_no n0_6 cE6 tE6 s0_6 | 7, _ => kit_no n0_7 cE7 tE7 s0_7 | 8, _ => kit_no n0_8 cE8 tE8 s0_8 | 9, _ => kit_no n0_9 cE9 tE9 s0_9 | 10, _ => kit_no n0_10 cE10 tE10 s0_10 | 11, _ => kit_no n0_11 cE11 tE11 s0_11 | k + 12, hi => absurd hi (by omega), kit_ve r0v⟩
  have R5 : Refuses K CT (fun i => [e_0, e_1, e_2, e_3, e_4, e_5, e_6, e_7, e_8, e_9, e_10, e_11].getD i 0) 5 := ⟨⟨by show (W.clsIn K e_5).isSome = true; rw [cE5]; rfl, r5g, r5n, r5c, r5b, r5o⟩, exm_of bT cT tT r5t, fun i hi => match i, hi with | 0, _ => kit_no n5_0 cE0 tE0 s5_0 | 1, _ => kit_no n5_1 cE1 tE1 s5_1 | 2, _ => kit_no n5_2 cE2 tE2 s5_2 | 3, _ => kit_no n5_3 cE3 tE3 s5_3 | 4, _ => kit_no n5_4 cE4 tE4 s5_4 | 5, _ => kit_self | 6, _ => kit_no n5_6 cE6 tE6 s5_6 | 7, _ => kit_no n5_7 cE7 tE7 s5_7 | 8, _ => kit_no n5_8 cE8 tE8 s5_8 | 9, _ => kit_no n5_9 cE9 tE9 s5_9 | 10, _ => kit_no n5_10 cE10 tE10 s5_10 | 11, _ => kit_no n5_11 cE11 tE11 s5_11 | k + 12, hi => absurd hi (by omega), kit_ve r5v⟩
  have R6 : Refuses K CT (fun i => [e_0, e_1, e_2, e_3, e_4, e_5, e_6, e_7, e_8, e_9, e_10, e_11].getD i 0) 6 := ⟨⟨by show (W.clsIn K e_6).isSome = true; rw [cE6]; rfl, r6g, r6n, r6c, r6b, r6o⟩, exm_of bT cT tT r6t, fun i hi => match i, hi with | 0, _ => kit_no n6_0 cE0 tE0 s6_0 | 1, _ => kit_no n6_1 cE1 tE1 s6_1 | 2, _ => kit_no n6_2 cE2 tE2 s6_2 | 3, _ => kit_no n6_3 cE3 tE3 s6_3 | 4, _ => kit_no n6_4 cE4 tE4 s6_4 | 5, _ => kit_no n6_5 cE5 tE5 s6_5 | 6, _ => kit_self | 7, _ => kit_no n6_7 cE7 tE7 s6_7 | 8, _ => kit_no n6_8 cE8 tE8 s6_8 | 9, _ => kit_no n6_9 cE9 tE9 s6_9 | 10, _ => kit_no n6_10 cE10 tE10 s6_10 | 11, _ => kit_no n6_11 cE11 tE11 s6_11 | k + 12, hi => absurd hi (by omega), kit_ve r6v⟩
  have R7 : Refuses K CT (fun i => [e_0, e_1, e_2, e_3, e_4, e_5, e_6, e_7, e_8, e_9, e_10, e_11].getD i 0) 7 := ⟨⟨by show (W.clsIn K e_7).isSome = true; rw [cE7]; rfl, r7g, r7n, r7c, r7b, r7o⟩, exm_of bT cT tT r7t, fun i hi => match i, hi with | 0, _ => kit_no n7_0 cE0 tE0 s7_0 | 1, _ => kit_no n7_1 cE1 tE1 s7_1 | 2, _ => kit_no n7_2 cE2 tE2 s7_2 | 3, _ => kit_no n7_3 cE3 tE3 s7_3 | 4, _ => kit_no n7_4 cE4 tE4 s7_4 | 5, _ => kit_no n7_5 cE5 tE5 s7_5 | 6, _ => kit_no n7_6 cE6 tE6 s7_6 | 7, _ => kit_self | 8, _ => kit_no n7_8 cE8 tE8 s7_8 | 9, _ => kit_no n7_9 cE9 tE9 s7_9 | 10, _ => kit_no n7_10 cE10 tE10 s7_10 | 11, _ => kit_no n7_11 cE11 tE11 s7_11 | k + 12, hi => absurd hi (by omega), kit_ve r7v⟩
  have R8 : Refuses K CT (fun i => [e_0, e_1, e_2, e_3, e_4, e_5, e_6, e_7, e_8, e_9, e_10, e_11].getD i 0) 8 := ⟨⟨by show (W.clsIn K e_8).isSome = true; rw [cE8]; rfl, r8g, r8n, r8c, r8b, r8o⟩, exm_of bT cT tT r8t, fun i hi => match i, hi with | 0, _ => kit_no n8_0 cE0 tE0 s8_0 | 1, _ => kit_no n8_1 cE1 tE1 s8_1 | 2, _ => kit_no n8_2 cE2 tE2 s8_2 | 3, _ => kit_no n8_3 cE3 tE3 s8_3 | 4, _ => kit_no n8_4 cE4 tE4 s8_4 | 5, _ => kit_no n8_5 cE5 tE5 s8_5 | 6, _ => kit_no n8_6 cE6 tE6 s8_6 | 7, _ => kit_no n8_7 cE7 tE7 s8_7 | 8, _ => kit_self | 9, _ => kit_no n8_9 cE9 tE9 s8_9 | 10, _ => kit_no n8_10 cE10 tE10 s8_10 | 11, _ => kit_no n8_11 cE11 tE11 s8_11 | k + 12, hi => absurd hi (by omega), kit_ve r8v⟩
  have F_x37 := fun_mk (st := s_at) l_x37 c_x37 k_x37
  have b_x37 := F_x37.binds (ps := P_at) fun _ _ _ _ _ _ us hl => len2 hl fun _ _ => rfl
  have F_x36 := fun_mk (st := s_row) l_x36 c_x36 k_x36
  have b_x36 := F_x36.binds (ps := P_row) fun _ _ _ _ _ _ us hl => len3 hl fun _ _ _ => rfl
  have F_x33 := fun_mk (st := s_beds) l_x33 c_x33 k_x33
  have b_x33 := F_x33.binds (ps := P_beds) fun _ _ _ _ _ _ us hl => len1 hl fun _ => rfl
  have F_x25 := fun_mk (st := s_amount) l_x25 c_x25 k_x25
  have b_x25 := F_x25.binds (ps := P_amount) fun _ _ _ _ _ _ us hl => len2 hl fun _ _ => rfl
  have F_x29 := fun_mk (st := s_season) l_x29 c_x29 k_x29
  have b_x29 := F_x29.binds (ps := P_season) fun _ _ _ _ _ _ us hl => len2 hl fun _ _ => rfl
  have F_x24 := fun_mk (st := s_seasons) l_x24 c_x24 k_x24
  have b_x24 := F_x24.binds (ps := P_seasons) fun _ _ _ _ _ _ us hl => len3 hl fun _ _ _ => rfl
  have F_x26 := fun_mk (st := s_beyond) l_x26 c_x26 k_x26
  have b_x26 := F_x26.binds (ps := P_beyond) fun _ _ _ _ _ _ us hl => len2 hl fun _ _ => rfl
  have F_x32 := fun_mk (st := s_whole) l_x32 c_x32 k_x32
  have b_x32 := F_x32.binds (ps := P_whole) fun _ _ _ _ _ _ us hl => len1 hl fun _ => rfl
  have F_x22 := fun_mk (st := s_refusal) l_x22 c_x22 k_x22
  have b_x22 := F_x22.binds (ps := P_refusal) fun _ _ _ _ _ _ us hl => len2 hl fun _ _ => rfl
  have F_x19 := fun_mk (st := s_answers) l_x19 c_x19 k_x19
  have b_x19 := F_x19.binds (ps := P_answers) fun _ _ _ _ _ _ us hl => len1 hl fun _ => rfl
  have F_x34 := fun_mk (st := s_all) l_x34 c_x34 k_x34
  have b_x34 := F_x34.binds (ps := P_all) fun _ _ _ _ _ _ us hl => len2 hl fun _ _ => rfl
  have F_x1 := fun_mk (st := s_check_amount) l_x1 c_x1 k_x1
  have b_x1 := F_x1.binds (ps := P_check_amount) fun _ _ _ _ _ _ us hl => len1 hl fun _ => rfl
  have F_x13 := fun_mk (st := s_check_year) l_x13 c_x13 k_x13
  have b_x13 := F_x13.binds (ps := P_check_year) fun _ _ _ _ _ _ us hl => len1 hl fun _ => rfl
  have F_x31 := fun_mk (st := s_still) l_x31 c_x31 k_x31
  have b_x31 := F_x31.binds (ps := P_still) fun _ _ _ _ _ _ us hl => len1 hl fun _ => rfl
  have F_x11 := fun_mk (st := s_season_rule) l_x11 c_x11 k_x11
  have b_x11 := F_x11.binds (ps := P_season_rule) fun _ _ _ _ _ _ us hl => len2 hl fun _ _ => rfl
  have F_x20 := fun_mk (st := s_applied) l_x20 c_x20 k_x20
  have b_x20 := F_x20.binds (ps := P_applied) fun _ _ _ _ _ _ us hl => len2 hl fun _ _ => rfl
  have F_x27 := fun_mk (st := s_joined) l_x27 c_x27 k_x27
  have b_x27 := F_x27.binds (ps := P_joined) fun _ _ _ _ _ _ us hl => len2 hl fun _ _ => rfl
  have F_x18 := fun_mk (st := s_row_rule) l_x18 c_x18 k_x18
  have b_x18 := F_x18.binds (ps := P_row_rule) fun _ _ _ _ _ _ us hl => len2 hl fun _ _ => rfl
  have F_x9 := fun_mk (st := s_check_times) l_x9 c_x9 k_x9
  have b_x9 := F_x9.binds (ps := P_check_times) fun _ _ _ _ _ _ us hl => len1 hl fun _ => rfl
  have F_x17 := fun_mk (st := s_repeated) l_x17 c_x17 k_x17
  have b_x17 := F_x17.binds (ps := P_repeated) fun _ _ _ _ _ _ us hl => len2 hl fun _ _ => rfl
  have F_x15 := fun_mk (st := s_year_rule) l_x15 c_x15 k_x15
  have b_x15 := F_x15.binds (ps := P_year_rule) fun _ _ _ _ _ _ us hl => len3 hl fun _ _ _ => rfl
  have F_x0 := fun_mk (st := s_shared_from_top) l_x0 c_x0 k_x0
  have b_x0 := F_x0.binds (ps := P_shared_from_top) fun _ _ _ _ _ _ us hl => len2 hl fun _ _ => rfl
  have F_x30 := fun_mk (st := s_warmed) l_x30 c_x30 k_x30
  have b_x30 := F_x30.binds (ps := P_warmed) fun _ _ _ _ _ _ us hl => len3 hl fun _ _ _ => rfl
  have F_x21 := fun_mk (st := s_chilled) l_x21 c_x21 k_x21
  have b_x21 := F_x21.binds (ps := P_chilled) fun _ _ _ _ _ _ us hl => len3 hl fun _ _ _ => rfl
  have F_x28 := fun_mk (st := s_passed) l_x28 c_x28 k_x28
  have b_x28 := F_x28.binds (ps := P_passed) fun _ _ _ _ _ _ us hl => len3 hl fun _ _ _ => rfl
  have F_x3 := fun_mk (st := s_each_down_to) l_x3 c_x3 k_x3
  have b_x3 := F_x3.binds (ps := P_each_down_to) fun _ _ _ _ _ _ us hl => len1 hl fun _ => rfl
  have F_x10 := fun_mk (st := s_heats_later) l_x10 c_x10 k_x10
  have b_x10 := F_x10.binds (ps := P_heats_later) fun _ _ _ _ _ _ us hl => len4 hl fun _ _ _ _ => rfl
  have F_x5 := fun_mk (st := s_missed_later) l_x5 c_x5 k_x5
  have b_x5 := F_x5.binds (ps := P_missed_later) fun _ _ _ _ _ _ us hl => len4 hl fun _ _ _ _ => rfl
  have F_x12 := fun_mk (st := s_whole_years) l_x12 c_x12 k_x12
  have b_x12 := F_x12.binds (ps := P_whole_years) fun _ _ _ _ _ _ us hl => len4 hl fun _ _ _ _ => rfl
  have F_x8 := fun_mk (st := s_years_passed) l_x8 c_x8 k_x8
  have b_x8 := F_x8.binds (ps := P_years_passed) fun _ _ _ _ _ _ us hl => len4 hl fun _ _ _ _ => rfl
  have F_x2 := fun_mk (st := s_check_season) l_x2 c_x2 k_x2
  have b_x2 := F_x2.binds (ps := P_check_season) fun _ _ _ _ _ _ us hl => len4 hl fun _ _ _ _ => rfl
  have F_x6 := fun_mk (st := s_passed_until) l_x6 c_x6 k_x6
  have b_x6 := F_x6.binds (ps := P_passed_until) fun _ _ _ _ _ _ us hl => len5 hl fun _ _ _ _ _ => rfl
  have F_x16 := fun_mk (st := s_heats_at) l_x16 c_x16 k_x16
  have b_x16 := F_x16.binds (ps := P_heats_at) fun _ _ _ _ _ _ us hl => len5 hl fun _ _ _ _ _ => rfl
  have F_x7 := fun_mk (st := s_rest_down_to) l_x7 c_x7 k_x7
  have b_x7 := F_x7.binds (ps := P_rest_down_to) fun _ _ _ _ _ _ us hl => len3 hl fun _ _ _ => rfl
  have F_x23 := fun_mk (st := s_rest_of) l_x23 c_x23 k_x23
  have b_x23 := F_x23.binds (ps := P_rest_of) fun _ _ _ _ _ _ us hl => len3 hl fun _ _ _ => rfl
  have F_x14 := fun_mk (st := s_check_bed) l_x14 c_x14 k_x14
  have b_x14 := F_x14.binds (ps := P_check_bed) fun _ _ _ _ _ _ us hl => len2 hl fun _ _ => rfl
  have F_x4 := fun_mk (st := s_first_season) l_x4 c_x4 k_x4
  have b_x4 := F_x4.binds (ps := P_first_season) fun _ _ _ _ _ _ us hl => len4 hl fun _ _ _ _ => rfl
  have F_law := fun_mk (st := s_law) l_law c_law k_law
  refine ⟨W.fnOf "law" "law" (defArgs s_law) (defBody s_law) (defScope s_law) .none kV_law dc_law pm_law an_law (.ref c) ct_law, fun s v => .of_eq rfl, fun base _ _ hC hB => ?_⟩
  have o_x37 : Ok l.prog w K mg base "_law_at" P_at 1 (sp_at K) := ⟨_, _, ok_at F_x37 T, b_x37, W.mg_of X GX a_x37, k_x37⟩
  have o_x36 : Ok l.prog w K mg base "_law_row" P_row 1 sp_row := ⟨_, _, ok_row F_x36 T, b_x36, W.mg_of X GX a_x36, k_x36⟩
  have o_x33 : Ok l.prog w K mg base "_law_beds" P_beds 2 (sp_beds K) := ⟨_, _, ok_beds F_x33 T o_x37 o_x36, b_x33, W.mg_of X GX a_x33, k_x33⟩
  have o_x25 : Ok l.prog w K mg base "_law_amount" P_amount 1 sp_amount := ⟨_, _, ok_amount F_x25 T, b_x25, W.mg_of X GX a_x25, k_x25⟩
  have o_x29 : Ok l.prog w K mg base "_law_season" P_season 2 sp_season := ⟨_, _, ok_season F_x29 T o_x25, b_x29, W.mg_of X GX a_x29, k_x29⟩
  have o_x24 : Ok l.prog w K mg base "_law_seasons" P_seasons 3 sp_seasons := ⟨_, _, ok_seasons F_x24 T o_x36 o_x29, b_x24, W.mg_of X GX a_x24, k_x24⟩
  have o_x26 : Ok l.prog w K mg base "_law_beyond" P_beyond 1 sp_beyond := ⟨_, _, ok_beyond F_x26 T, b_x26, W.mg_of X GX a_x26, k_x26⟩
  have o_x32 : Ok l.prog w K mg base "_law_whole" P_whole 1 sp_whole := ⟨_, _, ok_whole F_x32 T, b_x32, W.mg_of X GX a_x32, k_x32⟩
  have o_x22 : OkX l.prog w K mg base "_law_refusal" P_refusal 15 (sp_refusal l.prog w K mg base CT (fun i => [e_0, e_1, e_2, e_3, e_4, e_5, e_6, e_7, e_8, e_9, e_10, e_11].getD i 0)) := ⟨_, _, ok_refusal F_x22 T XE, b_x22, W.mg_of X GX a_x22, k_x22⟩
  have o_x19 : OkX l.prog w K mg base "_law_answers" P_answers 15 (sp_answers l.prog w K mg base) := ⟨_, _, ok_answers F_x19 T, b_x19, W.mg_of X GX a_x19, k_x19⟩
  have o_x34 : OkX l.prog w K mg base "_law_all" P_all 16 (sp_all l.prog w K mg base CT (fun i => [e_0, e_1, e_2, e_3, e_4, e_5, e_6, e_7, e_8, e_9, e_10, e_11].getD i 0)) := ⟨_, _, ok_all F_x34 T o_x32 o_x22 o_x19, b_x34, W.mg_of X GX a_x34, k_x34⟩
  have o_x1 : Ok l.prog w K mg base "check_amount" P_check_amount 1 sp_check_amount := ⟨_, _, ok_check_amount F_x1 T, b_x1, W.mg_of X GX a_x1, k_x1⟩
  have o_x13 : Ok l.prog w K mg base "check_year" P_check_year 2 (sp_check_year K) := ⟨_, _, ok_check_year F_x13 T o_x1, b_x13, W.mg_of X GX a_x13, k_x13⟩
  have o_x31 : Ok l.prog w K mg base "still" P_still 1 sp_still := ⟨_, _, ok_still F_x31 T, b_x31, W.mg_of X GX a_x31, k_x31⟩
  have o_x11 : Ok l.prog w K mg base "season_rule" P_season_rule 2 (sp_season_rule K) := ⟨_, _, ok_season_rule F_x11 T o_x1, b_x11, W.mg_of X GX a_x11, k_x11⟩
  have o_x20 : Ok l.prog w K mg base "applied" P_applied 1 (sp_applied K) := ⟨_, _, ok_applied F_x20 T, b_x20, W.mg_of X GX a_x20, k_x20⟩
  have o_x27 : Ok l.prog w K mg base "joined" P_joined 2 (sp_joined K) := ⟨_, _, ok_joined F_x27 T o_x20, b_x27, W.mg_of X GX a_x27, k_x27⟩
  have o_x18 : Ok l.prog w K mg base "row_rule" P_row_rule 3 (sp_row_rule K) := ⟨_, _, ok_row_rule F_x18 T o_x31 o_x11 o_x27, b_x18, W.mg_of X GX a_x18, k_x18⟩
  have o_x9 : Ok l.prog w K mg base "check_times" P_check_times 1 sp_check_times := ⟨_, _, ok_check_times F_x9 T, b_x9, W.mg_of X GX a_x9, k_x9⟩
  have o_x17 : Ok l.prog w K mg base "repeated" P_repeated 3 (sp_repeated K) := ⟨_, _, ok_repeated F_x17 T o_x9 o_x27, b_x17, W.mg_of X GX a_x17, k_x17⟩
  have o_x15 : Ok l.prog w K mg base "year_rule" P_year_rule 4 (sp_year_rule K) := ⟨_, _, ok_year_rule F_x15 T o_x13 o_x18 o_x17, b_x15, W.mg_of X GX a_x15, k_x15⟩
  have o_x0 : Ok l.prog w K mg base "shared_from_top" P_shared_from_top 1 (sp_shared_from_top K) := ⟨_, _, ok_shared_from_top F_x0 T, b_x0, W.mg_of X GX a_x0, k_x0⟩
  have o_x30 : Ok l.prog w K mg base "warmed" P_warmed 2 (sp_warmed K) := ⟨_, _, ok_warmed F_x30 T o_x1 o_x0, b_x30, W.mg_of X GX a_x30, k_x30⟩
  have o_x21 : Ok l.prog w K mg base "chilled" P_chilled 2 (sp_chilled K) := ⟨_, _, ok_chilled F_x21 T o_x1 o_x0, b_x21, W.mg_of X GX a_x21, k_x21⟩
  have o_x28 : Ok l.prog w K mg base "passed" P_passed 3 (sp_passed K) := ⟨_, _, ok_passed F_x28 T o_x30 o_x21, b_x28, W.mg_of X GX a_x28, k_x28⟩
  have o_x3 : Ok l.prog w K mg base "each_down_to" P_each_down_to 1 (sp_each_down_to K) := ⟨_, _, ok_each_down_to F_x3 T, b_x3, W.mg_of X GX a_x3, k_x3⟩
  have o_x10 : Ok l.prog w K mg base "heats_later" P_heats_later 4 (sp_heats_later K) := ⟨_, _, ok_heats_later F_x10 T o_x3 o_x18 o_x17 o_x20, b_x10, W.mg_of X GX a_x10, k_x10⟩
  have o_x5 : Ok l.prog w K mg base "missed_later" P_missed_later 4 (sp_missed_later K) := ⟨_, _, ok_missed_later F_x5 T o_x18 o_x28 o_x17 o_x20, b_x5, W.mg_of X GX a_x5, k_x5⟩
  have o_x12 : Ok l.prog w K mg base "whole_years" P_whole_years 5 (sp_whole_years K) := ⟨_, _, ok_whole_years F_x12 T o_x28 o_x10 o_x5, b_x12, W.mg_of X GX a_x12, k_x12⟩
  have o_x8 : Ok l.prog w K mg base "years_passed" P_years_passed 6 (sp_years_passed K) := ⟨_, _, ok_years_passed F_x8 T o_x13 o_x9 o_x12, b_x8, W.mg_of X GX a_x8, k_x8⟩
  have o_x2 : Ok l.prog w K mg base "check_season" P_check_season 1 sp_check_season := ⟨_, _, ok_check_season F_x2 T, b_x2, W.mg_of X GX a_x2, k_x2⟩
  have o_x6 : Ok l.prog w K mg base "passed_until" P_passed_until 6 (sp_passed_until K) := ⟨_, _, ok_passed_until F_x6 T o_x12 o_x28, b_x6, W.mg_of X GX a_x6, k_x6⟩
  have o_x16 : Ok l.prog w K mg base "heats_at" P_heats_at 7 (sp_heats_at K) := ⟨_, _, ok_heats_at F_x16 T o_x13 o_x2 o_x6, b_x16, W.mg_of X GX a_x16, k_x16⟩
  have o_x7 : Ok l.prog w K mg base "rest_down_to" P_rest_down_to 4 (sp_rest_down_to K) := ⟨_, _, ok_rest_down_to F_x7 T o_x18 o_x20, b_x7, W.mg_of X GX a_x7, k_x7⟩
  have o_x23 : Ok l.prog w K mg base "rest_of" P_rest_of 5 (sp_rest_of K) := ⟨_, _, ok_rest_of F_x23 T o_x13 o_x3 o_x7, b_x23, W.mg_of X GX a_x23, k_x23⟩
  have o_x14 : Ok l.prog w K mg base "check_bed" P_check_bed 1 sp_check_bed := ⟨_, _, ok_check_bed F_x14 T, b_x14, W.mg_of X GX a_x14, k_x14⟩
  have o_x4 : Ok l.prog w K mg base "first_season" P_first_season 6 (sp_first_season K) := ⟨_, _, ok_first_season F_x4 T o_x14 o_x13 o_x11 o_x20 o_x7 o_x23, b_x4, W.mg_of X GX a_x4, k_x4⟩
  have o_check_amountX : OkX l.prog w K mg base "check_amount" P_check_amount 1 (sp_check_amountX mg) := ⟨_, _, ok_check_amountX F_x1 T XU_BadAmount, b_x1, W.mg_of X GX a_x1, k_x1⟩
  have o_check_yearX : OkX l.prog w K mg base "check_year" P_check_year 2 (sp_check_yearX K mg) := ⟨_, _, ok_check_yearX F_x13 T XU_BadYear o_check_amountX, b_x13, W.mg_of X GX a_x13, k_x13⟩
  have o_check_timesX : OkX l.prog w K mg base "check_times" P_check_times 1 (sp_check_timesX mg) := ⟨_, _, ok_check_timesX F_x9 T XU_BadTimes, b_x9, W.mg_of X GX a_x9, k_x9⟩
  have o_repeatedX : OkX l.prog w K mg base "repeated" P_repeated 3 (sp_repeatedX K mg) := ⟨_, _, ok_repeatedX F_x17 T o_check_timesX, b_x17, W.mg_of X GX a_x17, k_x17⟩
  have o_year_ruleX : OkX l.prog w K mg base "year_rule" P_year_rule 4 (sp_year_ruleX K mg) := ⟨_, _, ok_year_ruleX F_x15 T o_check_yearX o_x18 o_repeatedX, b_x15, W.mg_of X GX a_x15, k_x15⟩
  have o_years_passedX : OkX l.prog w K mg base "years_passed" P_years_passed 6 (sp_years_passedX K mg) := ⟨_, _, ok_years_passedX F_x8 T o_check_yearX o_check_timesX, b_x8, W.mg_of X GX a_x8, k_x8⟩
  have o_check_seasonX : OkX l.prog w K mg base "check_season" P_check_season 1 (sp_check_seasonX mg) := ⟨_, _, ok_check_seasonX F_x2 T XU_UnknownSeason, b_x2, W.mg_of X GX a_x2, k_x2⟩
  have o_heats_atX : OkX l.prog w K mg base "heats_at" P_heats_at 7 (sp_heats_atX K mg) := ⟨_, _, ok_heats_atX F_x16 T o_check_yearX o_check_seasonX, b_x16, W.mg_of X GX a_x16, k_x16⟩
  have o_rest_ofX : OkX l.prog w K mg base "rest_of" P_rest_of 5 (sp_rest_ofX K mg) := ⟨_, _, ok_rest_ofX F_x23 T o_check_yearX, b_x23, W.mg_of X GX a_x23, k_x23⟩
  have o_check_bedX : OkX l.prog w K mg base "check_bed" P_check_bed 1 (sp_check_bedX mg) := ⟨_, _, ok_check_bedX F_x14 T XU_UnknownBed, b_x14, W.mg_of X GX a_x14, k_x14⟩
  have o_first_seasonX : OkX l.prog w K mg base "first_season" P_first_season 6 (sp_first_seasonX K mg) := ⟨_, _, ok_first_seasonX F_x4 T o_check_bedX o_check_yearX, b_x4, W.mg_of X GX a_x4, k_x4⟩
  exact ok_law F_law T XE R0 R5 R6 R7 R8 rfl hC hB o_x37 o_x33 o_x24 o_x26 o_x34 o_x15 o_x8 o_x16 o_x23 o_x4 o_x17 o_year_ruleX o_years_passedX o_heats_atX o_rest_ofX o_first_seasonX o_repeatedX
theorem walk {l : W.OpenLaw} {q : Program} {loose : List Str} {XP : (Str → Option Value) → Heap → Prop} {YP : World → Heap → Prop} {d : DefRec} {K : Params → W.Frag} {c PT : Addr} (hn : l.most = some 63) (hdf : d.params.defaults = [])
    (hY : ∀ (w : World) (h : Heap), YP w h → (K w.params).In h) (hdn : d.name = "law") (hrec : (PyProof.Rows.recsOf q).find? (fun e => e.name == d.name) = some d) (ht : ∀ w : World, W.tabIn (K w.params) "law" = some (c, PT)) (hKP : ∀ w : World, (K w.params).lookup PT = none)
    (F : ∀ (w : World) (mg : Str → Option Value) (fa : Addr) (h : Heap), (K w.params).In h → h.Ns mainGlobals mg → mg "law" = some (.ref fa) →
      ∃ fd : FuncData, (∀ (s : Shared) (u : Value), BindsTo s fd ⟨[u], []⟩ [("_law_script", u)]) ∧ ∀ base : Heap, (K w.params).In base → base.Ns mainGlobals mg → W.CodeHd base c PT → base.BuiltinsAt mg PT → FnOk l.prog w (K w.params) mg base (CX1 l.prog w) 17 fa fd ["_law_script"] (sp_law (K w.params) PT)) :
    W.WalkO q loose XP YP l.row.toRowW d [] (fun f vs => PySem.call f vs) :=
  L2.walk_ofT (n := 63) (k := 17) (x := "_law_script") (c := fun _ => c) (P := fun _ => PT) (CX := fun w => CX1 l.prog w) (sp := fun w => sp_law (K w.params) PT) hn (by decide) hdf ⟨rfl, by decide, by decide⟩ hY hrec (fun w => by rw [hdn]; exact ht w) hKP (fun w mg fa h a b e => F w mg fa h a b (by rw [← hdn]; exact e)) (fun _ _ a ns hl _ hT hS => ⟨a, ns, rfl, hS, hl, hT, fun _ => rfl⟩) fun _ _ _ _ _ z => by obtain ⟨_, _, _, _, _, _, _, _, _, hE⟩ := z; exact hE
end Tf
namespace PySem.W.Fast
def tw15557903573576709502:=0
def tw15988870393321082807:=0
def tw2182288966637423048:=0
def tw15583455176600983177:=0
def tw12204333823953750130:=0
def tw2410733406446889632:=0
def tw12356606484730216679:=0
def tw4537256940131159810:=0
def tw16244600618591651493:=0
def tw4550049461597768405:=0
def tw2456570493697321767:=0
def tw9105913987328957157:=0
def tw1583034394946178109:=0
def tw6115806332360647876:=0
def tw925636618035755744:=0
def tw7723342306777703437:=0
def tw14727949591571064992:=0
def tw4472168913027774886:=0
def tw16487277822174916801:=0
def tw6599348250172372643:=0
def tw4305751529496712117:=0
def tw4381766652468333169:=0
def tw11099400146124367786:=0
def tw77935781423860275:=0
def tw9143752711714718595:=0
def tw8837117645811611868:=0
def tw17810829663983567658:=0
def tw569072894084142727:=0
def tw4582441794031786983:=0
def tw2013888514137837119:=0
def tw4685376818285914320:=0
def tw9990157127361401255:=0
def tw4596584835408944827:=0
def tw18041742398253345052:=0
def tw3156082749911291538:=0
def tw4971267489021528137:=0
def tw4434311571381491859:=0
def tw17067871798667151061:=0
def tw3122384498688779403:=0
def tw18047386730059742771:=0
def tw12550209358751316494:=0
def tw823467903297695188:=0
def tw5145825401053814617:=0
def tw5875585519854045127:=0
def tw1603411543467622188:=0
def tw2947886290465209811:=0
def tw14392680180917331889:=0
def tw17739855586473966575:=0
def tw185462603143952310:=0
def tw10134573065579881528:=0
def tw17599166536952412458:=0
def tw16562445664605915382:=0
def tw5400119972333561469:=0
def tw880355916892704503:=0
def tw13272339452103310920:=0
def tw9885001759887932165:=0
def tw18127788355673691520:=0
def tw2658608318832125154:=0
def tw3977097232745812142:=0
def tw14337994019711982325:=0
def tw4586447503357603960:=0
def tw17002688524732386853:=0
def tw18410224844485077911:=0
def tw5968672355343526774:=0
def tw17569114675067504581:=0
def tw10832933511289023564:=0
def tw6771279781695721948:=0
def tw15143079084289814826:=0
def tw4767541763616807302:=0
def tw10760302793496759803:=0
def tw4125028743148235074:=0
def tw18035261497623131648:=0
def tw11537232788183140688:=0
def tw5387733696903476696:=0
def tw9616449357349891639:=0
def tw6191514293229419258:=0
def tw6818069351767751129:=0
def tw5036083348304335169:=0
def tw18064241743050802633:=0
def tw500845608294295207:=0
def tw3614875939157210142:=0
def tw7655312947406462256:=0
def tw1124110405723927995:=0
def tw14001815671553574716:=0
def tw14539049688826876214:=0
def tw2270849504831775484:=0
def tw6055093580171051708:=0
def tw10913776645851647389:=0
def tw3141746501744717512:=0
def tw8289222762683225659:=0
def tw3457468539023229624:=0
def tw6023416058111978940:=0
def tw8129117507925647380:=0
def tw10106365398075971905:=0
def tw10778773097799082313:=0
def tw309704192184128182:=0
def tw5673391983050165250:=0
end PySem.W.Fast
open PySem PySem.W PyProof.Rows
set_option maxRecDepth 100000 in
set_option maxHeartbeats 0 in
theorem PySem.Challenge.cw_thawfront_k23_doors_of_years_holds : PySem.Challenge.rw_thawfront_k23_doors_of_years.Holds := by
  w_on; o_law; k_head; (case hw => w_witness2)
  k_fill
  refine' Tf.walk (l := PySem.Challenge.rw_thawfront_k23_doors_of_years) rfl rfl (fun w h Y => PySem.W.km_in_of Y) rfl rfl ?ht ?hKP ?F
  case ht =>
    intro w
    refine' L2.tabIn_of ?h1 ?h2 ?h3 ?h4 ?h5
    (case h1 => k_is)
    (case h2 => k_is)
    (case h3 => rfl)
    (case h4 => k_is)
    (case h5 => rfl)
  case hKP =>
    intro w
    kernel_rfl
  case F =>
    intro w mg fa h KX G hmg
    refine' Tf.all_mk KX G hmg ?a_x37 ?l_x37 ?c_x37 ?k_x37 ?a_x36 ?l_x36 ?c_x36 ?k_x36 ?a_x33 ?l_x33 ?c_x33 ?k_x33 ?a_x25 ?l_x25 ?c_x25 ?k_x25 ?a_x29 ?l_x29 ?c_x29 ?k_x29 ?a_x24 ?l_x24 ?c_x24 ?k_x24 ?a_x26 ?l_x26 ?c_x26 ?k_x26 ?a_x32 ?l_x32 ?c_x32 ?k_x32 ?a_x22 ?l_x22 ?c_x22 ?k_x22 ?a_x19 ?l_x19 ?c_x19 ?k_x19 ?a_x34 ?l_x34 ?c_x34 ?k_x34 ?a_x1 ?l_x1 ?c_x1 ?k_x1 ?a_x13 ?l_x13 ?c_x13 ?k_x13 ?a_x31 ?l_x31 ?c_x31 ?k_x31 ?a_x11 ?l_x11 ?c_x11 ?k_x11 ?a_x20 ?l_x20 ?c_x20 ?k_x20 ?a_x27 ?l_x27 ?c_x27 ?k_x27 ?a_x18 ?l_x18 ?c_x18 ?k_x18 ?a_x9 ?l_x9 ?c_x9 ?k_x9 ?a_x17 ?l_x17 ?c_x17 ?k_x17 ?a_x15 ?l_x15 ?c_x15 ?k_x15 ?a_x0 ?l_x0 ?c_x0 ?k_x0 ?a_x30 ?l_x30 ?c_x30 ?k_x30 ?a_x21 ?l_x21 ?c_x21 ?k_x21 ?a_x28 ?l_x28 ?c_x28 ?k_x28 ?a_x3 ?l_x3 ?c_x3 ?k_x3 ?a_x10 ?l_x10 ?c_x10 ?k_x10 ?a_x5 ?l_x5 ?c_x5 ?k_x5 ?a_x12 ?l_x12 ?c_x12 ?k_x12 ?a_x8 ?l_x8 ?c_x8 ?k_x8 ?a_x2 ?l_x2 ?c_x2 ?k_x2 ?a_x6 ?l_x6 ?c_x6 ?k_x6 ?a_x16 ?l_x16 ?c_x16 ?k_x16 ?a_x7 ?l_x7 ?c_x7 ?k_x7 ?a_x23 ?l_x23 ?c_x23 ?k_x23 ?a_x14 ?l_x14 ?c_x14 ?k_x14 ?a_x4 ?l_x4 ?c_x4 ?k_x4 ?a_law ?l_law ?c_law ?k_law ?z_ValueError ?z_abs ?z_bool ?z_int ?z_isinstance ?z_len ?z_list ?z_max ?z_min ?z_range ?z_reversed ?z_sum ?z_zip ?g_MOST_AMOUNT ?g_MOST_SEASONS ?g_MOST_TIMES ?aT ?bT ?cT ?tT ?aE0 ?cE0 ?tE0 ?aE1 ?cE1 ?tE1 ?aE2 ?cE2 ?tE2 ?aE3 ?cE3 ?tE3 ?aE4 ?cE4 ?tE4 ?aE5 ?cE5 ?tE5 ?aE6 ?cE6 ?tE6 ?aE7 ?cE7 ?tE7 ?aE8 ?cE8 ?tE8 ?aE9 ?cE9 ?tE9 ?aE10 ?cE10 ?tE10 ?aE11 ?cE11 ?tE11 ?xE6 ?xE5 ?xE7 ?xE8 ?xE0 ?r0g ?r0n ?r0c ?r0b ?r0o ?r0t ?r0v ?s0_1 ?n0_1 ?s0_2 ?n0_2 ?s0_3 ?n0_3 ?s0_4 ?n0_4 ?s0_5 ?n0_5 ?s0_6 ?n0_6 ?s0_7 ?n0_7 ?s0_8 ?n0_8 ?s0_9 ?n0_9 ?s0_10 ?n0_10 ?s0_11 ?n0_11 ?r5g ?r5n ?r5c ?r5b ?r5o ?r5t ?r5v ?s5_0 ?n5_0 ?s5_1 ?n5_1 ?s5_2 ?n5_2 ?s5_3 ?n5_3 ?s5_4 ?n5_4 ?s5_6 ?n5_6 ?s5_7 ?n5_7 ?s5_8 ?n5_8 ?s5_9 ?n5_9 ?s5_10 ?n5_10 ?s5_11 ?n5_11 ?r6g ?r6n ?r6c ?r6b ?r6o ?r6t ?r6v ?s6_0 ?n6_0 ?s6_1 ?n6_1 ?s6_2 ?n6_2 ?s6_3 ?n6_3 ?s6_4 ?n6_4 ?s6_5 ?n6_5 ?s6_7 ?n6_7 ?s6_8 ?n6_8 ?s6_9 ?n6_9 ?s6_10 ?n6_10 ?s6_11 ?n6_11 ?r7g ?r7n ?r7c ?r7b ?r7o ?r7t ?r7v ?s7_0 ?n7_0 ?s7_1 ?n7_1 ?s7_2 ?n7_2 ?s7_3 ?n7_3 ?s7_4 ?n7_4 ?s7_5 ?n7_5 ?s7_6 ?n7_6 ?s7_8 ?n7_8 ?s7_9 ?n7_9 ?s7_10 ?n7_10 ?s7_11 ?n7_11 ?r8g ?r8n ?r8c ?r8b ?r8o ?r8t ?r8v ?s8_0 ?n8_0 ?s8_1 ?n8_1 ?s8_2 ?n8_2 ?s8_3 ?n8_3 ?s8_4 ?n8_4 ?s8_5 ?n8_5 ?s8_6 ?n8_6 ?s8_7 ?n8_7 ?s8_9 ?n8_9 ?s8_10 ?n8_10 ?s8_11 ?n8_11
    (case a_x37 => k_is)
    (case l_x37 => k_is)
    (case c_x37 => k_is)
    (case k_x37 => k_is)
    (case a_x36 => k_is)
    (case l_x36 => k_is)
    (case c_x36 => k_is)
    (case k_x36 => k_is)
    (case a_x33 => k_is)
    (case l_x33 => k_is)
    (case c_x33 => k_is)
    (case k_x33 => k_is)
    (case a_x25 => k_is)
    (case l_x25 => k_is)
    (case c_x25 => k_is)
    (case k_x25 => k_is)
    (case a_x29 => k_is)
    (case l_x29 => k_is)
    (case c_x29 => k_is)
    (case k_x29 => k_is)
    (case a_x24 => k_is)
    (case l_x24 => k_is)
    (case c_x24 => k_is)
    (case k_x24 => k_is)
    (case a_x26 => k_is)
    (case l_x26 => k_is)
    (case c_x26 => k_is)
    (case k_x26 => k_is)
    (case a_x32 => k_is)
    (case l_x32 => k_is)
    (case c_x32 => k_is)
    (case k_x32 => k_is)
    (case a_x22 => k_is)
    (case l_x22 => k_is)
    (case c_x22 => k_is)
    (case k_x22 => k_is)
    (case a_x19 => k_is)
    (case l_x19 => k_is)
    (case c_x19 => k_is)
    (case k_x19 => k_is)
    (case a_x34 => k_is)
    (case l_x34 => k_is)
    (case c_x34 => k_is)
    (case k_x34 => k_is)
    (case a_x1 => k_is)
    (case l_x1 => k_is)
    (case c_x1 => k_is)
    (case k_x1 => k_is)
    (case a_x13 => k_is)
    (case l_x13 => k_is)
    (case c_x13 => k_is)
    (case k_x13 => k_is)
    (case a_x31 => k_is)
    (case l_x31 => k_is)
    (case c_x31 => k_is)
    (case k_x31 => k_is)
    (case a_x11 => k_is)
    (case l_x11 => k_is)
    (case c_x11 => k_is)
    (case k_x11 => k_is)
    (case a_x20 => k_is)
    (case l_x20 => k_is)
    (case c_x20 => k_is)
    (case k_x20 => k_is)
    (case a_x27 => k_is)
    (case l_x27 => k_is)
    (case c_x27 => k_is)
    (case k_x27 => k_is)
    (case a_x18 => k_is)
    (case l_x18 => k_is)
    (case c_x18 => k_is)
    (case k_x18 => k_is)
    (case a_x9 => k_is)
    (case l_x9 => k_is)
    (case c_x9 => k_is)
    (case k_x9 => k_is)
    (case a_x17 => k_is)
    (case l_x17 => k_is)
    (case c_x17 => k_is)
    (case k_x17 => k_is)
    (case a_x15 => k_is)
    (case l_x15 => k_is)
    (case c_x15 => k_is)
    (case k_x15 => k_is)
    (case a_x0 => k_is)
    (case l_x0 => k_is)
    (case c_x0 => k_is)
    (case k_x0 => k_is)
    (case a_x30 => k_is)
    (case l_x30 => k_is)
    (case c_x30 => k_is)
    (case k_x30 => k_is)
    (case a_x21 => k_is)
    (case l_x21 => k_is)
    (case c_x21 => k_is)
    (case k_x21 => k_is)
    (case a_x28 => k_is)
    (case l_x28 => k_is)
    (case c_x28 => k_is)
    (case k_x28 => k_is)
    (case a_x3 => k_is)
    (case l_x3 => k_is)
    (case c_x3 => k_is)
    (case k_x3 => k_is)
    (case a_x10 => k_is)
    (case l_x10 => k_is)
    (case c_x10 => k_is)
    (case k_x10 => k_is)
    (case a_x5 => k_is)
    (case l_x5 => k_is)
    (case c_x5 => k_is)
    (case k_x5 => k_is)
    (case a_x12 => k_is)
    (case l_x12 => k_is)
    (case c_x12 => k_is)
    (case k_x12 => k_is)
    (case a_x8 => k_is)
    (case l_x8 => k_is)
    (case c_x8 => k_is)
    (case k_x8 => k_is)
    (case a_x2 => k_is)
    (case l_x2 => k_is)
    (case c_x2 => k_is)
    (case k_x2 => k_is)
    (case a_x6 => k_is)
    (case l_x6 => k_is)
    (case c_x6 => k_is)
    (case k_x6 => k_is)
    (case a_x16 => k_is)
    (case l_x16 => k_is)
    (case c_x16 => k_is)
    (case k_x16 => k_is)
    (case a_x7 => k_is)
    (case l_x7 => k_is)
    (case c_x7 => k_is)
    (case k_x7 => k_is)
    (case a_x23 => k_is)
    (case l_x23 => k_is)
    (case c_x23 => k_is)
    (case k_x23 => k_is)
    (case a_x14 => k_is)
    (case l_x14 => k_is)
    (case c_x14 => k_is)
    (case k_x14 => k_is)
    (case a_x4 => k_is)
    (case l_x4 => k_is)
    (case c_x4 => k_is)
    (case k_x4 => k_is)
    (case a_law => k_is)
    (case l_law => k_is)
    (case c_law => k_is)
    (case k_law => k_is)
    (case z_ValueError => k_is)
    (case z_abs => k_is)
    (case z_bool => k_is)
    (case z_int => k_is)
    (case z_isinstance => k_is)
    (case z_len => k_is)
    (case z_list => k_is)
    (case z_max => k_is)
    (case z_min => k_is)
    (case z_range => k_is)
    (case z_reversed => k_is)
    (case z_sum => k_is)
    (case z_zip => k_is)
    (case g_MOST_AMOUNT => k_is)
    (case g_MOST_SEASONS => k_is)
    (case g_MOST_TIMES => k_is)
    (case aT => k_is)
    (case bT => k_is)
    (case cT => k_is)
    (case tT => k_is)
    (case aE0 => k_is)
    (case cE0 => k_is)
    (case tE0 => k_is)
    (case aE1 => k_is)
    (case cE1 => k_is)
    (case tE1 => k_is)
    (case aE2 => k_is)
    (case cE2 => k_is)
    (case tE2 => k_is)
    (case aE3 => k_is)
    (case cE3 => k_is)
    (case tE3 => k_is)
    (case aE4 => k_is)
    (case cE4 => k_is)
    (case tE4 => k_is)
    (case aE5 => k_is)
    (case cE5 => k_is)
    (case tE5 => k_is)
    (case aE6 => k_is)
    (case cE6 => k_is)
    (case tE6 => k_is)
    (case aE7 => k_is)
    (case cE7 => k_is)
    (case tE7 => k_is)
    (case aE8 => k_is)
    (case cE8 => k_is)
    (case tE8 => k_is)
    (case aE9 => k_is)
    (case cE9 => k_is)
    (case tE9 => k_is)
    (case aE10 => k_is)
    (case cE10 => k_is)
    (case tE10 => k_is)
    (case aE11 => k_is)
    (case cE11 => k_is)
    (case tE11 => k_is)
    (case xE6 => k_exc)
    (case xE5 => k_exc)
    (case xE7 => k_exc)
    (case xE8 => k_exc)
    (case xE0 => k_exc)
    (case r0g => k_is)
    (case r0n => k_is)
    (case r0c => k_is)
    (case r0b => k_is)
    (case r0o => k_is)
    (case r0t => k_is)
    (case r0v => k_is)
    (case s0_1 => k_is)
    (case n0_1 => rfl)
    (case s0_2 => k_is)
    (case n0_2 => rfl)
    (case s0_3 => k_is)
    (case n0_3 => rfl)
    (case s0_4 => k_is)
    (case n0_4 => rfl)
    (case s0_5 => k_is)
    (case n0_5 => rfl)
    (case s0_6 => k_is)
    (case n0_6 => rfl)
    (case s0_7 => k_is)
    (case n0_7 => rfl)
    (case s0_8 => k_is)
    (case n0_8 => rfl)
    (case s0_9 => k_is)
    (case n0_9 => rfl)
    (case s0_10 => k_is)
    (case n0_10 => rfl)
    (case s0_11 => k_is)
    (case n0_11 => rfl)
    (case r5g => k_is)
    (case r5n => k_is)
    (case r5c => k_is)
    (case r5b => k_is)
    (case r5o => k_is)
    (case r5t => k_is)
    (case r5v => k_is)
    (case s5_0 => k_is)
    (case n5_0 => rfl)
    (case s5_1 => k_is)
    (case n5_1 => rfl)
    (case s5_2 => k_is)
    (case n5_2 => rfl)
    (case s5_3 => k_is)
    (case n5_3 => rfl)
    (case s5_4 => k_is)
    (case n5_4 => rfl)
    (case s5_6 => k_is)
    (case n5_6 => rfl)
    (case s5_7 => k_is)
    (case n5_7 => rfl)
    (case s5_8 => k_is)
    (case n5_8 => rfl)
    (case s5_9 => k_is)
    (case n5_9 => rfl)
    (case s5_10 => k_is)
    (case n5_10 => rfl)
    (case s5_11 => k_is)
    (case n5_11 => rfl)
    (case r6g => k_is)
    (case r6n => k_is)
    (case r6c => k_is)
    (case r6b => k_is)
    (case r6o => k_is)
    (case r6t => k_is)
    (case r6v => k_is)
    (case s6_0 => k_is)
    (case n6_0 => rfl)
    (case s6_1 => k_is)
    (case n6_1 => rfl)
    (case s6_2 => k_is)
    (case n6_2 => rfl)
    (case s6_3 => k_is)
    (case n6_3 => rfl)
    (case s6_4 => k_is)
    (case n6_4 => rfl)
    (case s6_5 => k_is)
    (case n6_5 => rfl)
    (case s6_7 => k_is)
    (case n6_7 => rfl)
    (case s6_8 => k_is)
    (case n6_8 => rfl)
    (case s6_9 => k_is)
    (case n6_9 => rfl)
    (case s6_10 => k_is)
    (case n6_10 => rfl)
    (case s6_11 => k_is)
    (case n6_11 => rfl)
    (case r7g => k_is)
    (case r7n => k_is)
    (case r7c => k_is)
    (case r7b => k_is)
    (case r7o => k_is)
    (case r7t => k_is)
    (case r7v => k_is)
    (case s7_0 => k_is)
    (case n7_0 => rfl)
    (case s7_1 => k_is)
    (case n7_1 => rfl)
    (case s7_2 => k_is)
    (case n7_2 => rfl)
    (case s7_3 => k_is)
    (case n7_3 => rfl)
    (case s7_4 => k_is)
    (case n7_4 => rfl)
    (case s7_5 => k_is)
    (case n7_5 => rfl)
    (case s7_6 => k_is)
    (case n7_6 => rfl)
    (case s7_8 => k_is)
    (case n7_8 => rfl)
    (case s7_9 => k_is)
    (case n7_9 => rfl)
    (case s7_10 => k_is)
    (case n7_10 => rfl)
    (case s7_11 => k_is)
    (case n7_11 => rfl)
    (case r8g => k_is)
    (case r8n => k_is)
    (case r8c => k_is)
    (case r8b => k_is)
    (case r8o => k_is)
    (case r8t => k_is)
    (case r8v => k_is)
    (case s8_0 => k_is)
    (case n8_0 => rfl)
    (case s8_1 => k_is)
    (case n8_1 => rfl)
    (case s8_2 => k_is)
    (case n8_2 => rfl)
    (case s8_3 => k_is)
    (case n8_3 => rfl)
    (case s8_4 => k_is)
    (case n8_4 => rfl)
    (case s8_5 => k_is)
    (case n8_5 => rfl)
    (case s8_6 => k_is)
    (case n8_6 => rfl)
    (case s8_7 => k_is)
    (case n8_7 => rfl)
    (case s8_9 => k_is)
    (case n8_9 => rfl)
    (case s8_10 => k_is)
    (case n8_10 => rfl)
    (case s8_11 => k_is)
    (case n8_11 => rfl)
