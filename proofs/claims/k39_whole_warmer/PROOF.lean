import PyProof.Rows.All
import Wide.All
import OpenK.AllK
import Wide.FinOn
import Lean
import PyProof.EqAt
import PyProof.EqKinds
import PyProof.TupleCall
import PyProof.ZipIter
import PyProof.Rows.SumAny
import PyProof.Rows.SortWalk
import PyProof.NeKinds
import PySem.Challenge.RW_thawfront_k39_whole_warmer
set_option Elab.async false
set_option linter.all false
set_option maxRecDepth 100000
set_option maxHeartbeats 4000000
/-! THE HAND LAYER, for ints, bools, texts, own classes, LISTS and tuples (index, slices, in, append, pop ..), calls, loops. Paste it whole ahead of your own text; what your proof does not reach may be deleted. -/
namespace L2
open PySem PySem.Spec PyProof.Rows

abbrev Key := Sum Int Str
def keyIs : Key → Value → Bool
  | .inl k, v => Value.isInt k v
  | .inr x, v => Value.isStrOf x v
def keyH (w : World) : Key → Int
  | .inl k => hashInt k
  | .inr x => hashStr w x
theorem keyIs_shape : ∀ {k : Key} {v : Value}, keyIs k v = true → (∃ i t, k = Sum.inl i ∧ v = Value.int i t) ∨ (∃ x t, k = Sum.inr x ∧ v = Value.str x t)
  | .inl i, v, h => by
    obtain ⟨t, e⟩ := Value.isInt_shape (k := i) (v := v) h
    exact .inl ⟨i, t, rfl, e⟩
  | .inr x, v, h => by
    obtain ⟨t, e⟩ := Value.isStrOf_shape (x := x) (v := v) h
    exact .inr ⟨x, t, rfl, e⟩
theorem keyIs_int (i : Int) (t : Tok) : keyIs (.inl i) (.int i t) = true := by simp [keyIs, Value.isInt]
theorem keyIs_str (x : Str) (t : Tok) : keyIs (.inr x) (.str x t) = true := by simp [keyIs, Value.isStrOf]
theorem key_ll (a b : Int) : decide ((Sum.inl a : Key) = Sum.inl b) = (a == b) := by
  by_cases e : a = b
  · subst e; simp
  · have h : ¬ (Sum.inl a : Key) = Sum.inl b := fun q => e (Sum.inl.inj q)
    rw [decide_eq_false h]
    exact (beq_eq_false_iff_ne.mpr e).symm
theorem key_rr (a b : Str) : decide ((Sum.inr a : Key) = Sum.inr b) = decide (a = b) := by
  by_cases e : a = b
  · subst e; simp
  · have h : ¬ (Sum.inr a : Key) = Sum.inr b := fun q => e (Sum.inr.inj q)
    rw [decide_eq_false h, decide_eq_false e]
theorem key_lr (a : Int) (b : Str) : decide ((Sum.inl a : Key) = Sum.inr b) = false := decide_eq_false (fun q => nomatch q)
theorem key_rl (a : Str) (b : Int) : decide ((Sum.inr a : Key) = Sum.inl b) = false := decide_eq_false (fun q => nomatch q)

def mixKind (prog : Program) (w : World) : PySem.KeyKind prog w Key where
  is := keyIs
  hash := keyH w
  inj := fun v a b ha hb => by
    rcases keyIs_shape ha with ⟨i, t, rfl, rfl⟩ | ⟨x, t, rfl, rfl⟩
    · rcases keyIs_shape hb with ⟨j, u, rfl, e⟩ | ⟨y, u, rfl, e⟩
      · injection e with e1 _; rw [e1]
      · exact nomatch e
    · rcases keyIs_shape hb with ⟨j, u, rfl, e⟩ | ⟨y, u, rfl, e⟩
      · exact nomatch e
      · injection e with e1 _; rw [e1]
  byValue := fun k v h => by
    rcases keyIs_shape h with ⟨i, t, rfl, rfl⟩ | ⟨x, t, rfl, rfl⟩ <;> rfl
  pyHash := fun hv h => by
    rcases keyIs_shape hv with ⟨i, t, rfl, rfl⟩ | ⟨x, t, rfl, rfl⟩
    · exact wpAny_pyHash_int h
    · exact wpAny_pyHash_str h
  eqBool := fun hu hv h => by
    rcases keyIs_shape hu with ⟨i, t, rfl, rfl⟩ | ⟨x, t, rfl, rfl⟩
    · rcases keyIs_shape hv with ⟨j, u, rfl, rfl⟩ | ⟨y, u, rfl, rfl⟩
      · rw [key_ll] at h; exact wpAny_eqBool_int h
      · rw [key_lr] at h; exact SeqAt.EqAt.int_str i t y u _ _ _ _ h
    · rcases keyIs_shape hv with ⟨j, u, rfl, rfl⟩ | ⟨y, u, rfl, rfl⟩
      · rw [key_rl] at h; exact SeqAt.EqAt.str_int x t j u _ _ _ _ h
      · rw [key_rr] at h; exact wpAny_eqBool_str h
  «strs» := fun k x t v h => by
    rcases keyIs_shape h with ⟨i, u, rfl, e⟩ | ⟨y, u, rfl, e⟩
    · exact nomatch e
    · injection e with e1 _
      subst e1
      cases v <;> rfl

theorem mixKind_int (prog : Program) (w : World) (i : Int) (t : Tok) : (mixKind prog w).is (.inl i) (.int i t) = true := keyIs_int i t
theorem mixKind_str (prog : Program) (w : World) (x : Str) (t : Tok) : (mixKind prog w).is (.inr x) (.str x t) = true := keyIs_str x t
end L2

namespace L2
open PySem PySem.Spec PyProof.Rows

inductive V where
  | non | bl (b : Bool) | int (i : Int) | str (x : Str) | byt (b : Array UInt8) | flt (b : UInt64) | ref (a : Addr) | ty (n : String)
  deriving DecidableEq

def RelV : V → Value → Prop
  | .non, u => u = Value.none
  | .bl b, u => u = Value.bool b
  | .int i, u => ∃ t, u = Value.int i t
  | .str x, u => ∃ t, u = Value.str x t
  | .byt b, u => ∃ t, u = Value.bytes b t
  | .flt b, u => ∃ t, u = Value.float b t
  | .ref a, u => u = Value.ref a
  | .ty n, u => u = Value.type n

abbrev Vals : List V → List Value → Prop := Paired RelV
theorem Vals.length {xs : List V} {us : List Value} (r : Vals xs us) : xs.length = us.length := Paired.length r
theorem Vals.get : ∀ {xs : List V} {us : List Value} {i : Nat} {x : V}, Vals xs us → xs[i]? = some x → ∃ u, us[i]? = some u ∧ RelV x u
  | _, _, _, _, .nil, e => by simp at e
  | _, _, 0, _, .cons r _, e => by simp at e; subst e; exact ⟨_, rfl, r⟩
  | _, _, i + 1, x, .cons _ t, e => by
    obtain ⟨u, h1, h2⟩ := Vals.get (i := i) (x := x) t (by simpa using e)
    exact ⟨u, by simpa using h1, h2⟩
theorem Vals.set {x : V} {u : Value} (r : RelV x u) : ∀ {xs : List V} {us : List Value} (i : Nat), Vals xs us → Vals (xs.set i x) (us.set i u)
  | _, _, _, .nil => .nil
  | _, _, 0, .cons _ t => .cons r t
  | _, _, i + 1, .cons q t => .cons q (Vals.set r i t)
theorem Vals.append : ∀ {xs ys : List V} {us ws : List Value}, Vals xs us → Vals ys ws → Vals (xs ++ ys) (us ++ ws)
  | _, _, _, _, .nil, s => s
  | _, _, _, _, .cons r t, s => .cons r (Vals.append t s)
theorem Vals.take : ∀ {xs : List V} {us : List Value} (n : Nat), Vals xs us → Vals (xs.take n) (us.take n)
  | _, _, 0, _ => .nil
  | _, _, _ + 1, .nil => .nil
  | _, _, n + 1, .cons r t => .cons r (Vals.take n t)
theorem Vals.drop : ∀ {xs : List V} {us : List Value} (n : Nat), Vals xs us → Vals (xs.drop n) (us.drop n)
  | _, _, 0, r => r
  | _, _, _ + 1, .nil => .nil
  | _, _, n + 1, .cons _ t => Vals.drop n t
def RelO : Option V → Option Value → Prop
  | some v, some u => RelV v u
  | none, none => True
  | _, _ => False
def KV {κ : Type} : List (κ × V) → List (κ × Value) → Prop := Paired fun (p : κ × V) (q : κ × Value) => p.1 = q.1 ∧ RelV p.2 q.2

def kV : Key → V
  | .inl i => .int i
  | .inr x => .str x

inductive HO where
  /-- a list -/
  | lst (xs : List V)
  /-- a tuple (never changes) -/
  | tup (xs : List V)
  /-- a dict whose keys are ints and texts; one whose keys are tuples of ints and texts (the empty one is both) -/
  | dK (kvs : List (Key × V)) | dT (kvs : List (List Key × V))
  /-- a set of ints: its members, its size -/
  | set (S : Int → Bool) (n : Nat)
  /-- an instance of the class at C, its dict at dx, its attributes -/
  | ins (C dx : Addr) (fs : List (Str × V))
  /-- the dict of the instance at x -/
  | own (x : Addr)
  /-- the dict of an exception -/
  | xd (fs : List (Str × V))
  /-- a bound method, f of x -/
  | met (f x : Addr)
  /-- a range object lo, lo + 1, .. below hi -/
  | rng (lo hi : Int)
  /-- a thing that is known to the object (the script; a dict while a loop walks it): read, never written while it is so -/
  | frz (o : Obj) (u : HO)
  /-- a code object's table -/
  | tbl (ps : Array Value)
  /-- any other thing, by what is true of its one object (a def of one's own: SetO a S n := HO.ext fun h => ..) -/
  | ext (φ : Heap → Prop)

abbrev Hp := Addr → Option HO
def upd (H : Hp) (a : Addr) (o : HO) : Hp := fun b => if b = a then some o else H b
theorem upd_same {H : Hp} {a : Addr} {o : HO} : upd H a o a = some o := by unfold upd; rw [if_pos rfl]
theorem upd_ne {H : Hp} {a b : Addr} {o : HO} (h : b ≠ a) : upd H a o b = H b := by unfold upd; rw [if_neg h]
theorem upd_upd {H : Hp} {a : Addr} {o u : HO} : upd (upd H a o) a u = upd H a u := by
  funext b; unfold upd; split <;> rfl
theorem ne_of {H : Hp} {a b : Addr} {o u : HO} (h : H a = some o) (h' : H b = some u) (d : o ≠ u) : a ≠ b := by
  intro e; subst e; rw [h] at h'; exact d (Option.some.inj h')
theorem ne_of_none {H : Hp} {a b : Addr} {o : HO} (h : H a = some o) (h' : H b = none) : a ≠ b := by
  intro e; subst e; rw [h] at h'; cases h'

section
variable (P : Program) (w : World)
def ObjOk (H : Hp) (h : Heap) (a : Addr) : HO → Prop
  | .lst xs => xs.length ≤ sizeLine ∧ ∃ (its : List Value) (n : Nat), Vals xs its ∧ h.get? a = some { cls := .type "list", data := .seq its.toArray n }
  | .tup xs => xs.length ≤ sizeLine ∧ ∃ its : List Value, Vals xs its ∧ IsTup h a its.toArray
  | .dK kvs => kvs.length ≤ sizeLine ∧ (a == sysModules) = false ∧ ∃ vs, KV kvs vs ∧ h.DictOf (mixKind P w) a vs
  | .dT kvs => kvs.length ≤ sizeLine ∧ (a == sysModules) = false ∧ ∃ xs : List (List Key × Addr × Value),
      Paired (fun (p : List Key × V) (q : List Key × Addr × Value) => p.1 = q.1 ∧ H q.2.1 = some (.tup (p.1.map kV)) ∧ RelV p.2 q.2.2) kvs xs ∧
      ∃ o es ep, h.get? a = some o ∧ o.ExactDict ∧ o.data = .dict es ep ∧ es.toList = xs.map (entryOfKey (tupleKind (mixKind P w))) ∧ (xs.map (·.1)).Nodup
  | .set S n => h.SetOf (intKind P w) a S n
  | .ins C dx fs => H dx = some (.own a) ∧ fs.length ≤ 1000 ∧ dx ≠ a ∧ h.get? a = some (PySem.W.instObj C dx) ∧
      ∃ mA, h.Ns1 dx mA ∧ (∀ f, RelO (fs.lookup f) (mA f)) ∧ PySem.Within mA (fs.map (·.1))
  | .own _ => ∃ o, h.get? a = some o
  | .xd fs => ∃ mA, h.Ns1 a mA ∧ ∀ f, RelO (fs.lookup f) (mA f)
  | .rng lo hi => ∃ t u v, h.get? a = some { cls := .type "range", data := .fields #[.int lo t, .int hi u, .int 1 v] }
  | .frz o u => h.get? a = some o ∧ ObjOk H h a u
  | .tbl ps => h.get? a = some { cls := .none, data := .fields ps }
  | .met f x => h.get? a = some (PySem.W.methodObj (.ref f) (.ref x))
  | .ext φ => φ h ∧ (∃ o, h.get? a = some o) ∧ ∀ h1 h2 : Heap, φ h1 → (∀ o, h1.get? a = some o → h2.get? a = some o) → φ h2
def HOk (H : Hp) (h : Heap) : Prop := ∀ a o, H a = some o → ObjOk P w H h a o
end

section
variable {P : Program} {w : World} {H H' : Hp} {h h' : Heap} {a : Addr} {o : HO}
theorem ObjOk.lt (x : ObjOk P w H h a o) : a < h.objs.size := by
  cases o with
  | lst xs => obtain ⟨_, _, _, _, e⟩ := x; exact Heap.lt_size e
  | tup xs => obtain ⟨_, _, _, p⟩ := x; exact p.lt
  | dK kvs => obtain ⟨_, _, _, _, o, _, _, e, _⟩ := x; exact Heap.lt_size e
  | dT kvs => obtain ⟨_, _, _, _, o, _, _, e, _⟩ := x; exact Heap.lt_size e
  | set S n => obtain ⟨o, _, _, _, e, _⟩ := x; exact Heap.lt_size e
  | ins C dx fs => obtain ⟨_, _, _, e, _⟩ := x; exact Heap.lt_size e
  | own y => obtain ⟨_, e⟩ := x; exact Heap.lt_size e
  | xd fs => obtain ⟨_, ⟨_, _, _, e, _⟩, _⟩ := x; exact Heap.lt_size e
  | rng lo hi => obtain ⟨_, _, _, e⟩ := x; exact Heap.lt_size e
  | frz ob u => obtain ⟨e, _⟩ := x; exact Heap.lt_size e
  | tbl ps => exact Heap.lt_size (show h.get? a = some _ from x)
  | met f y => exact Heap.lt_size (show h.get? a = some _ from x)
  | ext φ => obtain ⟨_, ⟨_, e⟩, _⟩ := x; exact Heap.lt_size e
theorem Paired.mapP {α β : Type} {F G : α → β → Prop} : ∀ {l₁ : List α} {l₂ : List β}, Paired F l₁ l₂ → (∀ a b, F a b → G a b) → Paired G l₁ l₂
  | _, _, .nil, _ => .nil
  | _, _, .cons r t, f => .cons (f _ _ r) (Paired.mapP t f)
theorem ObjOk.stay (x : ObjOk P w H h a o) (k : ∀ b u, (b = a ∨ H b = some (.own a)) → h.get? b = some u → h'.get? b = some u)
    (ho : ∀ b, H b = some (.own a) → H' b = some (.own a)) (ht : ∀ b xs, H b = some (.tup xs) → H' b = some (.tup xs)) : ObjOk P w H' h' a o := by
  induction o with
  | lst xs => obtain ⟨z, its, n, r, e⟩ := x; exact ⟨z, its, n, r, k _ _ (.inl rfl) e⟩
  | tup xs => obtain ⟨z, its, r, ob, e, c⟩ := x; exact ⟨z, its, r, ob, k _ _ (.inl rfl) e, c⟩
  | dK kvs => obtain ⟨z, y, vs, r, ob, es, ep, e, c⟩ := x; exact ⟨z, y, vs, r, ob, es, ep, k _ _ (.inl rfl) e, c⟩
  | dT kvs =>
    obtain ⟨z, y, xs, r, ob, es, ep, e, c⟩ := x
    exact ⟨z, y, xs, Paired.mapP r fun p q z => ⟨z.1, ht _ _ z.2.1, z.2.2⟩, ob, es, ep, k _ _ (.inl rfl) e, c⟩
  | set S n => obtain ⟨ob, es, ep, t, e, c⟩ := x; exact ⟨ob, es, ep, t, k _ _ (.inl rfl) e, c⟩
  | ins C dx fs =>
    obtain ⟨d, z, ne, e, mA, ⟨od, es, ep, e2, c⟩, r⟩ := x
    exact ⟨ho _ d, z, ne, k _ _ (.inl rfl) e, mA, ⟨od, es, ep, k _ _ (.inr d) e2, c⟩, r⟩
  | own y => obtain ⟨ob, e⟩ := x; exact ⟨ob, k _ _ (.inl rfl) e⟩
  | xd fs => obtain ⟨mA, ⟨od, es, ep, e, c⟩, r⟩ := x; exact ⟨mA, ⟨od, es, ep, k _ _ (.inl rfl) e, c⟩, r⟩
  | rng lo hi => obtain ⟨t, u, v, e⟩ := x; exact ⟨t, u, v, k _ _ (.inl rfl) e⟩
  | frz ob u ih => obtain ⟨e, q⟩ := x; exact ⟨k _ _ (.inl rfl) e, ih q⟩
  | tbl ps =>
    have e : h.get? a = some { cls := .none, data := .fields ps } := x
    show h'.get? a = some { cls := .none, data := .fields ps }
    exact k a _ (.inl rfl) e
  | met f y =>
    have e : h.get? a = some (PySem.W.methodObj (.ref f) (.ref y)) := x
    show h'.get? a = some (PySem.W.methodObj (.ref f) (.ref y))
    exact k a _ (.inl rfl) e
  | ext φ => obtain ⟨p, ⟨o, e⟩, st⟩ := x; exact ⟨st _ _ p fun o q => k _ _ (.inl rfl) q, ⟨o, k _ _ (.inl rfl) e⟩, st⟩
theorem HOk.lt (x : HOk P w H h) (e : H a = some o) : a < h.objs.size := (x a o e).lt
theorem HOk.fresh (x : HOk P w H h) (e : h.objs.size ≤ a) : H a = none := by
  cases q : H a with
  | none => rfl
  | some u => exact absurd (Nat.lt_of_lt_of_le (x.lt q) e) (Nat.lt_irrefl _)
theorem HOk.kept (x : HOk P w H h) (k : ∀ b u, h.get? b = some u → h'.get? b = some u) : HOk P w H h' := fun a o e =>
  (x a o e).stay (fun b u _ q => k b u q) (fun _ q => q) fun _ _ q => q
theorem HOk.laid (x : HOk P w H h) (k : ∀ b u, h.get? b = some u → h'.get? b = some u) (hp : h.objs.size ≤ a) (new : ObjOk P w (upd H a o) h' a o) : HOk P w (upd H a o) h' := fun b u e => by
  have hn := x.fresh hp
  by_cases hb : b = a
  · subst hb; rw [upd_same] at e; cases e; exact new
  · rw [upd_ne hb] at e
    exact (x b u e).stay (fun c v _ q => k c v q) (fun c q => by rw [upd_ne (ne_of_none q hn)]; exact q) fun c xs q => by rw [upd_ne (ne_of_none q hn)]; exact q
end

def Rd (H : Hp) (a : Addr) (u : HO) : Prop := H a = some u ∨ ∃ o, H a = some (.frz o u)
theorem Rd.ok {P : Program} {w : World} {H : Hp} {h : Heap} {a : Addr} {u : HO} (r : Rd H a u) (x : HOk P w H h) : ObjOk P w H h a u := by
  rcases r with r | ⟨o, r⟩
  · exact x a u r
  · obtain ⟨_, q⟩ := x a _ r
    exact q
def Mut : Option HO → Prop
  | some (.lst _) => True
  | some (.dK _) => True
  | some (.dT _) => True
  | some (.set _ _) => True
  | some (.ins _ _ _) => True
  | some (.ext _) => True
  | _ => False
section
variable {P : Program} {w : World} {H : Hp} {h h' : Heap} {x e : Addr} {o' : HO}
theorem HOk.write (ok : HOk P w H h) (mu : Mut (H x)) (he : e = x ∨ H e = some (.own x)) (k : ∀ b u, b ≠ e → h.get? b = some u → h'.get? b = some u) (heo : ∃ u, h'.get? e = some u)
    (new : ObjOk P w (upd H x o') h' x o') : HOk P w (upd H x o') h' := fun b u q => by
  have nown : ∀ c y, H c = some (.own y) → c ≠ x := fun c y r z => by subst z; rw [r] at mu; exact mu
  have ntup : ∀ c xs, H c = some (.tup xs) → c ≠ x := fun c xs r z => by subst z; rw [r] at mu; exact mu
  by_cases hb : b = x
  · subst hb; rw [upd_same] at q; cases q; exact new
  · rw [upd_ne hb] at q
    by_cases hbe : b = e
    · have q' : H b = some (.own x) := by
        rcases he with z | z
        · exact absurd (hbe.trans z) hb
        · rw [hbe]; exact z
      rw [q] at q'; cases q'
      obtain ⟨v, hv⟩ := heo
      exact ⟨v, by rw [hbe]; exact hv⟩
    · refine (ok b u q).stay (fun c v hc r => k c v ?_ r) (fun c r => by rw [upd_ne (nown c b r)]; exact r) fun c xs r => by rw [upd_ne (ntup c xs r)]; exact r
      rcases hc with rfl | hc
      · exact hbe
      · rintro rfl
        rcases he with z | z
        · exact nown c b hc z
        · rw [hc] at z; cases z; exact hb rfl
end

/-! ### kept unless tracked; of the frames at fs (the callers') the slots may change (an exception that passes writes there); of the records at ex (iterators) nothing is said -/
structure Un (fs ex : List Addr) (H H' : Hp) (h h' : Heap) : Prop where
  keep : ∀ b o, h.get? b = some o → H b = none → b ∉ fs → b ∉ ex → h'.get? b = some o
  slot : ∀ b o, h.get? b = some o → H b = none → b ∈ fs → b ∉ ex → ∃ sl, h'.get? b = some { o with slots := sl }
  free : ∀ b o, h.get? b = some o → H b = none → b ∉ ex → H' b = none
  there : ∀ b o, h.get? b = some o → b ∉ ex → ∃ o', h'.get? b = some o'
  tups : ∀ b xs, H b = some (.tup xs) → H' b = some (.tup xs)
  frzs : ∀ b o u, H b = some (.frz o u) → H' b = some (.frz o u)
  tbls : ∀ b ps, H b = some (.tbl ps) → ∃ more, H' b = some (.tbl (ps ++ more))
section
variable {fs fs' ex ex' : List Addr} {H H1 H2 : Hp} {h h1 h2 h' : Heap} {a x e : Addr} {o : HO}
theorem Un.any (u : Un fs ex H H1 h h1) {b : Addr} {ob : Obj} (q : h.get? b = some ob) (n : H b = none) (hx : b ∉ ex) : ∃ sl, h1.get? b = some { ob with slots := sl } := by
  by_cases hb : b ∈ fs
  · exact u.slot b ob q n hb hx
  · exact ⟨ob.slots, u.keep b ob q n hb hx⟩
theorem Un.kept (k : ∀ b u, h.get? b = some u → h'.get? b = some u) : Un fs ex H H h h' :=
  ⟨fun b ob q _ _ _ => k b ob q, fun b ob q _ _ _ => ⟨ob.slots, k b ob q⟩, fun _ _ _ n _ => n, fun b ob q _ => ⟨ob, k b ob q⟩, fun _ _ q => q, fun _ _ _ q => q, fun _ ps q => ⟨#[], by rw [q]; simp⟩⟩
theorem Un.refl : Un fs ex H H h h := Un.kept fun _ _ q => q
theorem Un.laid (k : ∀ b u, h.get? b = some u → h'.get? b = some u) (hp : h.objs.size ≤ a) (hn : H a = none) : Un fs ex H (upd H a o) h h' where
  keep := fun b u q _ _ _ => k b u q
  slot := fun b u q _ _ _ => ⟨u.slots, k b u q⟩
  free := fun b u q n _ => by rw [upd_ne (Nat.ne_of_lt (Nat.lt_of_lt_of_le (Heap.lt_size q) hp))]; exact n
  there := fun b u q _ => ⟨u, k b u q⟩
  tups := fun b xs q => by rw [upd_ne (ne_of_none q hn)]; exact q
  frzs := fun b u xs q => by rw [upd_ne (ne_of_none q hn)]; exact q
  tbls := fun b ps q => ⟨#[], by rw [upd_ne (ne_of_none q hn), q]; simp⟩
theorem Un.write (mu : Mut (H x)) (he : e = x ∨ H e = some (.own x)) (k : ∀ b u, b ≠ e → h.get? b = some u → h'.get? b = some u) (heo : ∃ u, h'.get? e = some u) : Un fs ex H (upd H x o) h h' := by
  have hx : ∀ b, H b = none → b ≠ x := fun b n z => by subst z; rw [n] at mu; exact mu
  have hb : ∀ b, H b = none → b ≠ e := fun b n z => by
    subst z
    rcases he with r | r
    · exact hx b n r
    · rw [n] at r; cases r
  have hm : ∀ b u, H b = some u → ¬ Mut (some u) → b ≠ x := fun b u q nm z => by subst z; rw [q] at mu; exact nm mu
  refine ⟨fun b u q n _ _ => k b u (hb b n) q, fun b u q n _ _ => ⟨u.slots, k b u (hb b n) q⟩, fun b u q n _ => by rw [upd_ne (hx b n)]; exact n, fun b u q _ => ?_,
    fun b xs q => by rw [upd_ne (hm b _ q fun z => z)]; exact q, fun b u xs q => by rw [upd_ne (hm b _ q fun z => z)]; exact q, fun b ps q => ⟨#[], by rw [upd_ne (hm b _ q fun z => z), q]; simp⟩⟩
  by_cases hbe : b = e
  · subst hbe; exact heo
  · exact ⟨u, k b u hbe q⟩
end

/-! ### the heap without what is tracked -/
def trk (h : Heap) (H : Hp) : List Addr := (List.range h.objs.size).filter fun a => (H a).isSome
def hidT (h : Heap) (H : Hp) : Heap := PySem.W.hideAll h (trk h H)
theorem hidT_size (h : Heap) (H : Hp) : (hidT h H).objs.size = h.objs.size := PySem.W.hideAll_size _ _
theorem hidT_get {h : Heap} {H : Hp} {b : Addr} {o : Obj} (e : h.get? b = some o) (n : H b = none) : (hidT h H).get? b = some o :=
  PySem.W.hideAll_get _ e fun hm => by
    have q : (H b).isSome = true := (List.mem_filter.mp hm).2
    rw [n] at q; simp at q
theorem of_hidT {h : Heap} {H : Hp} {b : Addr} {o : Obj} (e : (hidT h H).get? b = some o) : h.get? b = some o ∧ H b = none := by
  have e' : h.get? b = some o := PySem.W.of_hideAll (trk h H) e
  refine ⟨e', ?_⟩
  cases q : H b with
  | none => rfl
  | some x =>
    have hm : b ∈ trk h H := List.mem_filter.mpr ⟨List.mem_range.mpr (Heap.lt_size e'), by simp [q]⟩
    have z : (hidT h H).get? b = none := PySem.W.hideAll_none (trk h H) hm
    rw [z] at e; cases e

/-! ### OpenK's ledger, filled with every new object but one -/
end L2

namespace L2
open PySem PySem.Spec PyProof.Rows

structure Mod (K : PySem.W.Frag) (mg : Str → Option Value) (base : Heap) : Prop where
  kin : K.In base
  glob : base.Ns mainGlobals mg
  blt : ∃ mb, base.Ns builtinsNs mb ∧ ∀ x : Str, x ≠ "__name__" → mb x = bootBuiltins x
  nolimit : base.NoLimit

structure Cx where
  prog : Program
  w : World
  K : PySem.W.Frag
  mg : Str → Option Value
  base : Heap
  A : Around
  N : List Str
  s₀ : Shared
  H₀ : Hp
  env : Env
  outer : List Env
  stack : List Env
  ex : List Addr
  fn : Str → Bool
  calm : Bool
  pn : List (Addr × Obj)
  xe : Value → Shared → Prop
def frs (l : List Env) : List Addr := l.filterMap (·.frame)
abbrev Cx.fs (X : Cx) : List Addr := frs X.outer

def Vis (sc : Scope) (x : Str) : Prop := sc.names.lookup x = some .local ∨ sc.names.lookup x = some .cell ∨ sc.names.lookup x = some .free
def Loc (sc : Scope) (x : Str) : Prop := sc.names.lookup x = some .local ∨ sc.names.lookup x = some .cell
def Look (env : Env) (h : Heap) (m : Str → Option Value) (x : Str) (u : Value) : Prop :=
  (env.kindOf x = some .local ∧ m x = some u) ∨ ((env.kindOf x = some .cell ∨ env.kindOf x = some .free) ∧ ∃ c, env.cells.lookup x = some c ∧ h.IsCell c (some u))

structure Cx.Ok (X : Cx) : Prop where
  mod : Mod X.K X.mg X.base
  kind : X.env.scope.kind = .function
  glob : X.env.globals = mainGlobals
  blt : X.env.builtins = builtinsNs
  above : X.s₀.heap.objs.size ≤ X.env.locals
  inj : ∀ x y c, X.env.cells.lookup x = some c → X.env.cells.lookup y = some c → x = y
  has : ∀ x, (X.env.kindOf x = some .cell ∨ X.env.kindOf x = some .free) → ∃ c, X.env.cells.lookup x = some c
  cab : ∀ x c, X.fn x = true → X.env.cells.lookup x = some c → X.s₀.heap.objs.size ≤ c
  hd : X.calm = true → X.A.handled = none
  frames : X.A.frames = some X.stack
  stk : X.stack = X.outer ∨ (X.stack = X.env :: X.outer ∧ X.env.frame = some X.env.locals)
  exf : ∀ b ∈ X.ex, b ≠ X.env.locals ∧ ∀ x c, X.env.cells.lookup x = some c → c ≠ b
  bs : ∀ b o, X.base.get? b = some o → X.s₀.heap.get? b = some o ∧ X.H₀ b = none
  bsz : X.base.objs.size ≤ X.s₀.heap.objs.size
  noex : ∀ b o, X.base.get? b = some o → b ∉ X.ex
  exfs : ∀ b ∈ X.ex, b ∉ X.fs
  funs : X.s₀.heap.FunFrames X.base X.outer
  frf : ∀ b ∈ X.fs, X.H₀ b = none

structure Inv (X : Cx) (pins : List (Addr × Obj)) (σ : List (Option V)) (H : Hp) (s : Shared) : Prop where
  ok : X.Ok
  os : s.os = X.s₀.os
  bare : AllBare s.gens
  base : Un X.fs X.ex X.H₀ H X.s₀.heap s.heap
  loc : ∃ m, s.heap.Ns X.env.locals m ∧ ∀ (i : Nat) (x : Str) (v : V), X.N[i]? = some x → σ[i]? = some (some v) → Vis X.env.scope x → ∃ u, RelV v u ∧ Look X.env s.heap m x u
  cell : ∀ x c, X.env.cells.lookup x = some c → ∃ v, s.heap.IsCell c v
  free : H X.env.locals = none
  freeC : ∀ x c, X.env.cells.lookup x = some c → H c = none
  pin : ∀ p ∈ X.pn ++ pins, s.heap.get? p.1 = some p.2 ∧ H p.1 = none ∧ p.1 ≠ X.env.locals ∧ p.1 ∉ X.fs ∧ ∀ v, p.2.data ≠ .cell v
  hok : HOk X.prog X.w H s.heap
  len : σ.length = X.N.length

section
variable {X : Cx} {pins : List (Addr × Obj)} {σ : List (Option V)} {H H' : Hp} {s : Shared} {h' : Heap}

theorem Cx.Ok.nofr (ok : X.Ok) {b : Addr} {o : Obj} (e : X.base.get? b = some o) : b ∉ X.fs := fun hb => by
  have := (ok.funs.mem hb).1
  rw [e] at this; cases this
theorem Inv.bs (I : Inv X pins σ H s) : ∀ b o, X.base.get? b = some o → s.heap.get? b = some o ∧ H b = none := fun b o e =>
  ⟨I.base.keep b o (I.ok.bs b o e).1 (I.ok.bs b o e).2 (I.ok.nofr e) (I.ok.noex b o e), I.base.free b o (I.ok.bs b o e).1 (I.ok.bs b o e).2 (I.ok.noex b o e)⟩
theorem Inv.bk (I : Inv X pins σ H s) : ∀ b o, X.base.get? b = some o → s.heap.get? b = some o := fun b o e => (I.bs b o e).1
theorem Inv.mod (I : Inv X pins σ H s) : Mod X.K X.mg X.base := I.ok.mod
theorem Inv.kIn (I : Inv X pins σ H s) : X.K.In s.heap := I.ok.mod.kin.keeps I.bk
theorem Inv.lt (I : Inv X pins σ H s) : X.env.locals < s.heap.objs.size := let ⟨_, hn, _⟩ := I.loc; hn.lt
theorem Inv.sz (I : Inv X pins σ H s) : X.s₀.heap.objs.size ≤ s.heap.objs.size := Nat.le_trans I.ok.above (Nat.le_of_lt I.lt)
theorem Inv.nofs (I : Inv X pins σ H s) {a : Addr} (h : s.heap.objs.size ≤ a) : a ∉ X.fs := fun hb => by
  obtain ⟨_, o, ho, _⟩ := I.ok.funs.mem hb
  exact absurd (Nat.lt_of_lt_of_le (Heap.lt_size ho) (Nat.le_trans I.sz h)) (Nat.lt_irrefl _)
theorem Inv.cne (I : Inv X pins σ H s) : ∀ x c, X.env.cells.lookup x = some c → c ≠ X.env.locals := fun x c e z => by
  obtain ⟨v, o, ho, hd⟩ := I.cell x c e
  obtain ⟨m, ⟨o', es, ep, ho', hd', _⟩, _⟩ := I.loc
  rw [z, ho'] at ho; cases ho; rw [hd'] at hd; cases hd
theorem Inv.funs (I : Inv X pins σ H s) : s.heap.FunFrames X.base X.outer := by
  have all : ∀ (l : List Env), (∀ b ∈ frs l, b ∈ X.fs) → X.s₀.heap.FunFrames X.base l → s.heap.FunFrames X.base l := by
    intro l
    induction l with
    | nil => intro _ _; trivial
    | cons env r ih =>
      intro hs hl
      obtain ⟨hk, ⟨L, o, hf, hn, ho, hd⟩, hr⟩ := hl
      have hL : L ∈ X.fs := hs L (by unfold frs; rw [List.filterMap_cons, hf]; exact List.mem_cons_self)
      obtain ⟨sl, e⟩ := I.base.slot L o ho (I.ok.frf L hL) hL fun z => I.ok.exfs L z hL
      exact ⟨hk, ⟨L, _, hf, hn, e, hd⟩, ih (fun b hb => hs b (by unfold frs; rw [List.filterMap_cons, hf]; exact List.mem_cons_of_mem _ hb)) hr⟩
  exact all X.outer (fun _ hb => hb) I.ok.funs

theorem Inv.stack (I : Inv X pins σ H s) : s.heap.FunFrames X.base X.stack := by
  rcases I.ok.stk with e | ⟨e, hf⟩
  · rw [e]; exact I.funs
  · rw [e]
    obtain ⟨m, hn, _⟩ := I.loc
    refine .cons (by rw [I.ok.kind]; decide) hf hn ?_ I.funs
    exact Heap.get?_none_of_le (Nat.le_trans I.ok.bsz I.ok.above)
theorem Inv.stkSub (I : Inv X pins σ H s) : ∀ b ∈ frs X.stack, b ∈ X.env.locals :: X.fs := fun b hb => by
  rcases I.ok.stk with e | ⟨e, hf⟩
  · rw [e] at hb; exact List.mem_cons_of_mem _ hb
  · rw [e] at hb
    unfold frs at hb
    rw [List.filterMap_cons, hf] at hb
    exact hb
theorem Inv.stkFree (I : Inv X pins σ H s) : ∀ b ∈ frs X.stack, H b = none := fun b hb => by
  rcases List.mem_cons.mp (I.stkSub b hb) with e | hb
  · rw [e]; exact I.free
  · obtain ⟨_, o, ho, _⟩ := I.ok.funs.mem hb
    exact I.base.free b o ho (I.ok.frf b hb) fun z => I.ok.exfs b z hb

theorem Inv.step {g' : Array GenState} {t' : Nat} {d' : Drawn} {ch : List Addr} (I : Inv X pins σ H s)
    (hch : ∀ b ∈ ch, (b ∈ X.ex ∨ X.s₀.heap.objs.size ≤ b) ∧ b ≠ X.env.locals ∧ (∀ x c, X.env.cells.lookup x = some c → c ≠ b) ∧ ∀ p ∈ X.pn ++ pins, p.1 ≠ b)
    (keep : ∀ b o, b ≠ X.env.locals → b ∉ X.fs → b ∉ ch → s.heap.get? b = some o → H b = none → h'.get? b = some o)
    (slot : ∀ b o, b ≠ X.env.locals → b ∈ X.fs → b ∉ ch → s.heap.get? b = some o → H b = none → ∃ sl, h'.get? b = some { o with slots := sl }) (free : ∀ b o, b ∉ ch → s.heap.get? b = some o → H b = none → H' b = none)
    (there : ∀ b o, b ∉ ch → s.heap.get? b = some o → ∃ o', h'.get? b = some o')
    (tups : ∀ b xs, H b = some (.tup xs) → H' b = some (.tup xs)) (frzs : ∀ b o u, H b = some (.frz o u) → H' b = some (.frz o u)) (tbls : ∀ b ps, H b = some (.tbl ps) → ∃ more, H' b = some (.tbl (ps ++ more)))
    (ns : ∀ m, s.heap.Ns X.env.locals m → h'.Ns X.env.locals m) (hok : HOk X.prog X.w H' h') (hg : AllBare g') :
    Inv X pins σ H' { s with heap := h', gens := g', drawn := d', toks := t' } := by
  have neL : ∀ b o, X.s₀.heap.get? b = some o → b ≠ X.env.locals := fun b o e => Nat.ne_of_lt (Nat.lt_of_lt_of_le (Heap.lt_size e) I.ok.above)
  have neC : ∀ b o, X.s₀.heap.get? b = some o → b ∉ X.ex → b ∉ ch := fun b o e hx hb => by
    rcases (hch b hb).1 with z | z
    · exact hx z
    · exact absurd (Nat.lt_of_lt_of_le (Heap.lt_size e) z) (Nat.lt_irrefl _)
  have cellK : ∀ x c, X.env.cells.lookup x = some c → ∀ v, s.heap.IsCell c v → h'.IsCell c v := fun x c e v ⟨o, ho, hd⟩ => by
    have nch : c ∉ ch := fun z => (hch c z).2.2.1 x c e rfl
    by_cases hc : c ∈ X.fs
    · obtain ⟨sl, q⟩ := slot c o (I.cne x c e) hc nch ho (I.freeC x c e)
      exact ⟨_, q, hd⟩
    · exact ⟨o, keep c o (I.cne x c e) hc nch ho (I.freeC x c e), hd⟩
  refine ⟨I.ok, I.os, hg, ⟨fun b o e n hb hx => ?_, fun b o e n hb hx => ?_, fun b o e n hx => ?_, fun b o e hx => ?_, fun b xs e => tups b xs (I.base.tups b xs e), fun b o xs e => frzs b o xs (I.base.frzs b o xs e), fun b ps e => ?_⟩, ?_, fun x c e => ?_, ?_, fun x c e => ?_, fun p hp => ?_, hok, I.len⟩
  · exact keep b o (neL b o e) hb (neC b o e hx) (I.base.keep b o e n hb hx) (I.base.free b o e n hx)
  · obtain ⟨sl, e1⟩ := I.base.slot b o e n hb hx
    obtain ⟨sl', e2⟩ := slot b _ (neL b o e) hb (neC b o e hx) e1 (I.base.free b o e n hx)
    exact ⟨sl', e2⟩
  · obtain ⟨o', e1⟩ := I.base.there b o e hx
    exact free b o' (neC b o e hx) e1 (I.base.free b o e n hx)
  · obtain ⟨o', e1⟩ := I.base.there b o e hx
    exact there b o' (neC b o e hx) e1
  · obtain ⟨m1, e1⟩ := I.base.tbls b ps e
    obtain ⟨m2, e2⟩ := tbls b _ e1
    exact ⟨m1 ++ m2, by rw [e2, Array.append_assoc]⟩
  · obtain ⟨m, hn, hl⟩ := I.loc
    refine ⟨m, ns m hn, fun i x v e1 e2 e3 => ?_⟩
    obtain ⟨u, r, l⟩ := hl i x v e1 e2 e3
    refine ⟨u, r, ?_⟩
    rcases l with l | ⟨k, c, e, z⟩
    · exact .inl l
    · exact .inr ⟨k, c, e, cellK x c e _ z⟩
  · obtain ⟨v, z⟩ := I.cell x c e
    exact ⟨v, cellK x c e v z⟩
  · obtain ⟨m, ⟨o, _, _, ho, _⟩, _⟩ := I.loc
    exact free _ o (fun z => (hch _ z).2.1 rfl) ho I.free
  · obtain ⟨v, o, ho, hd⟩ := I.cell x c e
    exact free c o (fun z => (hch c z).2.2.1 x c e rfl) ho (I.freeC x c e)
  · obtain ⟨e, n, ne, nf, d⟩ := I.pin p hp
    have nch : p.1 ∉ ch := fun z => (hch p.1 z).2.2.2 p hp rfl
    exact ⟨keep p.1 p.2 ne nf nch e n, free p.1 p.2 nch e n, ne, nf, d⟩
theorem Inv.un {t' : Nat} (I : Inv X pins σ H s) (u : Un X.fs [] H H' s.heap h') (hok : HOk X.prog X.w H' h') : Inv X pins σ H' { s with heap := h', toks := t' } := by
  obtain ⟨m, ⟨o, es, ep, ho, r⟩, _⟩ := id I.loc
  obtain ⟨sl, hL⟩ := u.any ho I.free (by simp)
  exact I.step (g' := s.gens) (d' := s.drawn) (ch := []) (fun _ z => nomatch z) (fun b o _ hb _ e n => u.keep b o e n hb (by simp)) (fun b o _ hb _ e n => u.slot b o e n hb (by simp)) (fun b o _ e n => u.free b o e n (by simp)) (fun b o _ e => u.there b o e (by simp)) u.tups u.frzs u.tbls (fun m' hm => by
    obtain ⟨o', es', ep', ho', r'⟩ := hm
    rw [ho] at ho'; cases ho'
    exact ⟨_, es', ep', hL, r'⟩) hok I.bare
theorem Inv.call {g' : Array GenState} {t' : Nat} {d' : Drawn} {ch : List Addr} (I : Inv X pins σ H s) (u : Un (frs X.stack) ch H H' s.heap h') (hok : HOk X.prog X.w H' h') (hg : AllBare g')
    (hch : ∀ b ∈ ch, (b ∈ X.ex ∨ X.s₀.heap.objs.size ≤ b) ∧ b ≠ X.env.locals ∧ (∀ x c, X.env.cells.lookup x = some c → c ≠ b) ∧ ∀ p ∈ X.pn ++ pins, p.1 ≠ b) :
    Inv X pins σ H' { s with heap := h', gens := g', drawn := d', toks := t' } := by
  obtain ⟨m, ⟨o, es, ep, ho, r⟩, _⟩ := id I.loc
  obtain ⟨sl, hL⟩ := u.any ho I.free fun z => (hch _ z).2.1 rfl
  exact I.step (ch := ch) hch (fun b o hL hb hc e n => u.keep b o e n (fun z => (List.mem_cons.mp (I.stkSub b z)).elim hL hb) hc) (fun b o _ _ hc e n => u.any e n hc) (fun b o hc e n => u.free b o e n hc) (fun b o hc e => u.there b o e hc) u.tups u.frzs u.tbls (fun m' hm => by
    obtain ⟨o', es', ep', ho', r'⟩ := hm
    rw [ho] at ho'; cases ho'
    exact ⟨_, es', ep', hL, r'⟩) hok hg
theorem Inv.turned {t' : Nat} {it : Addr} (I : Inv X pins σ H s) (k : ∀ b o, b ≠ it → s.heap.get? b = some o → h'.get? b = some o) (hn : H it = none) (hL : it ≠ X.env.locals)
    (h1 : it ∈ X.ex ∨ X.s₀.heap.objs.size ≤ it) (h2 : ∀ x c, X.env.cells.lookup x = some c → c ≠ it) (h3 : ∀ p ∈ X.pn ++ pins, p.1 ≠ it) : Inv X pins σ H { s with heap := h', toks := t' } := by
  have nit : ∀ b u, H b = some u → b ≠ it := fun b u e z => by rw [z, hn] at e; cases e
  refine I.step (g' := s.gens) (d' := s.drawn) (ch := [it]) (fun b hb => ?_) (fun b o _ _ hc e _ => k b o (fun z => hc (by simp [z])) e) (fun b o _ _ hc e _ => ⟨o.slots, k b o (fun z => hc (by simp [z])) e⟩) (fun _ _ _ _ n => n)
    (fun b o hc e => ⟨o, k b o (fun z => hc (by simp [z])) e⟩) (fun _ _ e => e) (fun _ _ _ e => e) (fun b ps e => ⟨#[], by rw [e]; simp⟩) (fun m hm => ?_) (fun b u e => ?_) I.bare
  · have e : b = it := by simpa using hb
    subst e
    exact ⟨h1, hL, h2, h3⟩
  · obtain ⟨o, es, ep, ho, r⟩ := hm
    exact ⟨o, es, ep, k _ o (Ne.symm hL) ho, r⟩
  · refine (I.hok b u e).stay (fun c v hc q => k c v ?_ q) (fun _ q => q) fun _ _ q => q
    rcases hc with z | z
    · rw [z]; exact nit b u e
    · exact nit c _ z
theorem Inv.tok (I : Inv X pins σ H s) (t : Nat) : Inv X pins σ H { s with toks := t } := I.un (h' := s.heap) (t' := t) Un.refl I.hok
theorem Inv.kept {t' : Nat} (I : Inv X pins σ H s) (k : ∀ b u, s.heap.get? b = some u → h'.get? b = some u) : Inv X pins σ H { s with heap := h', toks := t' } := I.un (Un.kept k) (I.hok.kept k)
theorem Inv.laid {a : Addr} {o : HO} {t' : Nat} (I : Inv X pins σ H s) (k : ∀ b u, s.heap.get? b = some u → h'.get? b = some u) (hp : s.heap.objs.size ≤ a) (new : ObjOk X.prog X.w (upd H a o) h' a o) :
    Inv X pins σ (upd H a o) { s with heap := h', toks := t' } := I.un (Un.laid k hp (I.hok.fresh hp)) (I.hok.laid k hp new)
theorem Inv.write {x e : Addr} {o : HO} {t' : Nat} (I : Inv X pins σ H s) (mu : Mut (H x)) (he : e = x ∨ H e = some (.own x)) (k : ∀ b u, b ≠ e → s.heap.get? b = some u → h'.get? b = some u) (heo : ∃ u, h'.get? e = some u)
    (new : ObjOk X.prog X.w (upd H x o) h' x o) : Inv X pins σ (upd H x o) { s with heap := h', toks := t' } := I.un (Un.write mu he k heo) (I.hok.write mu he k heo new)
theorem Inv.pins_of {pins' : List (Addr × Obj)} (I : Inv X pins σ H s) (h : ∀ p ∈ pins', s.heap.get? p.1 = some p.2 ∧ H p.1 = none ∧ p.1 ≠ X.env.locals ∧ p.1 ∉ X.fs ∧ ∀ v, p.2.data ≠ .cell v) : Inv X pins' σ H s :=
  ⟨I.ok, I.os, I.bare, I.base, I.loc, I.cell, I.free, I.freeC, fun p hp => (List.mem_append.mp hp).elim (fun z => I.pin p (List.mem_append_left _ z)) (h p), I.hok, I.len⟩

theorem nodup_ix {N : List Str} (hN : N.Nodup) {i j : Nat} {x : Str} (a : N[i]? = some x) (b : N[j]? = some x) : i = j := by
  obtain ⟨h1, e1⟩ := List.getElem?_eq_some_iff.mp a
  obtain ⟨h2, e2⟩ := List.getElem?_eq_some_iff.mp b
  exact (List.getElem_inj hN).mp (e1.trans e2.symm)

theorem store_ok2 {M : Model} {A : Around} {E : Value → Shared → Prop} {i : Nat} {x : Str} {v : V} {u : Value} {Q : Unit → Shared → Prop} (I : Inv X pins σ H s) (hN : X.N.Nodup) (hi : X.N[i]? = some x) (hx : Loc X.env.scope x) (r : RelV v u)
    (h : ∀ s', Inv X pins (σ.set i (some v)) H s' → (∃ a, Heap.SameBut a s.heap s'.heap ∧ (a = X.env.locals ∨ X.env.cells.lookup x = some a)) → Q () s') (hf : X.fn x = true ∨ X.env.scope.names.lookup x = some .local := by first | exact .inl rfl | exact .inr rfl | assumption) : wpAny M A (storeName X.env x u) Q E s := by
  obtain ⟨m, hn, hl⟩ := id I.loc
  have hcls : (X.env.scope.kind == .class || (X.env.scope.kind == .module && X.env.locals != X.env.globals)) = false := by rw [I.ok.kind]; rfl
  have hiσ : i < σ.length := by rw [I.len]; exact (List.getElem?_eq_some_iff.mp hi).1
  have cne := I.cne
  have tracked : ∀ {a : Addr} {h' : Heap}, (∃ o, s.heap.get? a = some o ∧ H a = none) → Heap.SameBut a s.heap h' → HOk X.prog X.w H h' := fun {a h'} ha hs b ob e => by
    obtain ⟨_, _, hfree⟩ := ha
    refine (I.hok b ob e).stay (fun c w' hc q => (hs.2 c ?_).trans q) (fun _ q => q) fun _ _ q => q
    rintro rfl
    rcases hc with rfl | hc
    · rw [hfree] at e; cases e
    · rw [hfree] at hc; cases hc
  rcases hx with hk | hk
  · refine wpAny_storeName_local hk hn (fun h' hn' hs => ?_) hcls
    obtain ⟨oL, _, _, hoL, _⟩ := id hn
    refine h _ ⟨I.ok, I.os, I.bare, ⟨fun b o e n hb hx => ?_, fun b o e n hb hx => ?_, I.base.free, fun b o e hx => ?_, I.base.tups, I.base.frzs, I.base.tbls⟩, ⟨_, hn', fun j y v' e1 e2 e3 => ?_⟩, fun y c e => ?_, I.free, I.freeC, fun p hp => ?_, tracked ⟨oL, hoL, I.free⟩ hs, by simpa using I.len⟩ ⟨_, hs, .inl rfl⟩
    · exact (hs.2 b (Nat.ne_of_lt (Nat.lt_of_lt_of_le (Heap.lt_size e) I.ok.above))).trans (I.base.keep b o e n hb hx)
    · obtain ⟨sl, e1⟩ := I.base.slot b o e n hb hx
      exact ⟨sl, (hs.2 b (Nat.ne_of_lt (Nat.lt_of_lt_of_le (Heap.lt_size e) I.ok.above))).trans e1⟩
    · obtain ⟨o', e1⟩ := I.base.there b o e hx
      exact ⟨o', (hs.2 b (Nat.ne_of_lt (Nat.lt_of_lt_of_le (Heap.lt_size e) I.ok.above))).trans e1⟩
    · by_cases hj : j = i
      · subst hj
        rw [hi] at e1; cases e1
        rw [List.getElem?_set_self hiσ] at e2
        cases e2
        exact ⟨u, r, .inl ⟨hk, by simp⟩⟩
      · rw [List.getElem?_set_ne (Ne.symm hj)] at e2
        obtain ⟨u', r', q⟩ := hl j y v' e1 e2 e3
        refine ⟨u', r', ?_⟩
        rcases q with ⟨k, e⟩ | ⟨k, c, e, z⟩
        · refine .inl ⟨k, ?_⟩
          have : y ≠ x := fun e => hj (nodup_ix hN e1 (e ▸ hi))
          simp [this, e]
        · exact .inr ⟨k, c, e, z.sameBut hs (cne y c e)⟩
    · obtain ⟨w', z⟩ := I.cell y c e
      exact ⟨w', z.sameBut hs (cne y c e)⟩
    · obtain ⟨e, n, ne, nf, d⟩ := I.pin p hp
      exact ⟨(hs.2 p.1 ne).trans e, n, ne, nf, d⟩
  · have hfn : X.fn x = true := by
      rcases hf with z | z
      · exact z
      · rw [z] at hk; cases hk
    obtain ⟨c, hc⟩ := I.ok.has x (.inl hk)
    obtain ⟨w', z⟩ := I.cell x c hc
    refine wpAny_storeName_cell I.ok.kind hk hc z (fun h' hc' hs => ?_)
    obtain ⟨oc, hoc, hocd⟩ := id z
    refine h { s with heap := h' } ⟨I.ok, I.os, I.bare, ⟨fun b o e n hb hx => ?_, fun b o e n hb hx => ?_, I.base.free, fun b o e hx => ?_, I.base.tups, I.base.frzs, I.base.tbls⟩, ⟨m, hn.sameBut hs (Ne.symm (cne x c hc)), fun j y v' e1 e2 e3 => ?_⟩, fun y c' e => ?_, I.free, I.freeC, fun p hp => ?_, tracked ⟨oc, hoc, I.freeC x c hc⟩ hs, by simpa using I.len⟩ ⟨c, hs, .inr hc⟩
    · exact (hs.2 b (Nat.ne_of_lt (Nat.lt_of_lt_of_le (Heap.lt_size e) (I.ok.cab x c hfn hc)))).trans (I.base.keep b o e n hb hx)
    · obtain ⟨sl, e1⟩ := I.base.slot b o e n hb hx
      exact ⟨sl, (hs.2 b (Nat.ne_of_lt (Nat.lt_of_lt_of_le (Heap.lt_size e) (I.ok.cab x c hfn hc)))).trans e1⟩
    · obtain ⟨o', e1⟩ := I.base.there b o e hx
      exact ⟨o', (hs.2 b (Nat.ne_of_lt (Nat.lt_of_lt_of_le (Heap.lt_size e) (I.ok.cab x c hfn hc)))).trans e1⟩
    · by_cases hj : j = i
      · subst hj
        rw [hi] at e1; cases e1
        rw [List.getElem?_set_self hiσ] at e2
        cases e2
        exact ⟨u, r, .inr ⟨.inl hk, c, hc, hc'⟩⟩
      · rw [List.getElem?_set_ne (Ne.symm hj)] at e2
        obtain ⟨u', r', q⟩ := hl j y v' e1 e2 e3
        refine ⟨u', r', ?_⟩
        rcases q with q | ⟨k, c', e, z'⟩
        · exact .inl q
        · refine .inr ⟨k, c', e, z'.sameBut hs ?_⟩
          rintro rfl
          exact hj (nodup_ix hN e1 (I.ok.inj _ _ _ e hc ▸ hi))
    · by_cases hcc : c' = c
      · subst hcc; exact ⟨_, hc'⟩
      · obtain ⟨w2, z2⟩ := I.cell y c' e
        exact ⟨w2, z2.sameBut hs hcc⟩
    · obtain ⟨e, n, ne, nf, d⟩ := I.pin p hp
      refine ⟨(hs.2 p.1 ?_).trans e, n, ne, nf, d⟩
      intro q
      rw [q, hoc] at e
      have q' : oc = p.2 := Option.some.inj e
      exact d w' (by rw [← q']; exact hocd)
theorem store_ok {M : Model} {A : Around} {E : Value → Shared → Prop} {i : Nat} {x : Str} {v : V} {u : Value} {Q : Unit → Shared → Prop} (I : Inv X pins σ H s) (hN : X.N.Nodup) (hi : X.N[i]? = some x) (hx : Loc X.env.scope x) (r : RelV v u)
    (h : ∀ s', Inv X pins (σ.set i (some v)) H s' → Q () s') (hf : X.fn x = true ∨ X.env.scope.names.lookup x = some .local := by first | exact .inl rfl | exact .inr rfl | assumption) : wpAny M A (storeName X.env x u) Q E s :=
  store_ok2 I hN hi hx r (fun s' I' _ => h s' I') hf
theorem Inv.call' {s' : Shared} {ch : List Addr} (I : Inv X pins σ H s) (ho : s'.os = s.os) (u : Un (frs X.stack) ch H H' s.heap s'.heap) (hok : HOk X.prog X.w H' s'.heap) (hg : AllBare s'.gens)
    (hch : ∀ b ∈ ch, (b ∈ X.ex ∨ X.s₀.heap.objs.size ≤ b) ∧ b ≠ X.env.locals ∧ (∀ x c, X.env.cells.lookup x = some c → c ≠ b) ∧ ∀ p ∈ X.pn ++ pins, p.1 ≠ b) : Inv X pins σ H' s' := by
  obtain ⟨h', g', d', t', o'⟩ := s'
  have e : o' = s.os := ho
  subst e
  exact I.call (g' := g') (t' := t') (d' := d') u hok hg hch
end

/-! ### the judgements -/
abbrev XK := Value → Option Addr → Hp → Prop
abbrev St := List (Option V)
abbrev VK := V → Hp → Prop
abbrev TE := St → Hp → VK → Prop
abbrev TT := St → Hp → (Bool → Hp → Prop) → Prop
abbrev TA := St → Hp → (List V → Hp → Prop) → Prop
structure Ends where
  nx : St → Hp → Prop
  rt : VK
  bk : St → Hp → Prop := fun _ _ => False
  ct : St → Hp → Prop := fun _ _ => False
abbrev TS := Ends → St → Hp → Prop

def EP (X : Cx) (pins : List (Addr × Obj)) (σ : St) (Q : VK) (u : Value) (s' : Shared) : Prop := ∃ v H', Inv X pins σ H' s' ∧ RelV v u ∧ Q v H'
def TP (X : Cx) (pins : List (Addr × Obj)) (σ : St) (Q : Bool → Hp → Prop) (b : Bool) (s' : Shared) : Prop := ∃ H', Inv X pins σ H' s' ∧ Q b H'
def AP (X : Cx) (pins : List (Addr × Obj)) (σ : St) (Q : List V → Hp → Prop) (us : List Value) (s' : Shared) : Prop := ∃ vs H', Inv X pins σ H' s' ∧ Vals vs us ∧ Q vs H'
def SP (X : Cx) (pins : List (Addr × Obj)) (D : Ends) (f : Flow) (s' : Shared) : Prop :=
  match f with
  | .next => ∃ σ' H', Inv X pins σ' H' s' ∧ D.nx σ' H'
  | .brk => ∃ σ' H', Inv X pins σ' H' s' ∧ D.bk σ' H'
  | .cont => ∃ σ' H', Inv X pins σ' H' s' ∧ D.ct σ' H'
  | .ret u => ∃ v σ' H', Inv X pins σ' H' s' ∧ RelV v u ∧ D.rt v H'

def PE (X : Cx) (e : Expr) (t : TE) : Prop :=
  ∀ (pins : List (Addr × Obj)) (s : Shared) (σ : St) (H : Hp) (Q : VK), Inv X pins σ H s → t σ H Q → wpAny (model X.prog X.w) X.A (eval e X.env) (EP X pins σ Q) X.xe s
def PT (X : Cx) (e : Expr) (t : TT) : Prop :=
  ∀ (pins : List (Addr × Obj)) (s : Shared) (σ : St) (H : Hp) (Q : Bool → Hp → Prop), Inv X pins σ H s → t σ H Q → wpAny (model X.prog X.w) X.A (isTrue e X.env (eval e X.env)) (TP X pins σ Q) X.xe s
def PW (X : Cx) (e : Expr) (t : TT) : Prop :=
  ∀ (whole : Sem Value) (pins : List (Addr × Obj)) (s : Shared) (σ : St) (H : Hp) (Q : Bool → Hp → Prop), Inv X pins σ H s → t σ H Q → wpAny (model X.prog X.w) X.A (isTrue e X.env whole) (TP X pins σ Q) X.xe s
theorem PW.pt {X : Cx} {e : Expr} {t : TT} (h : PW X e t) : PT X e t := h _
def PA (X : Cx) (es : List Expr) (t : TA) : Prop :=
  ∀ (pos : Pos) (pins : List (Addr × Obj)) (s : Shared) (σ : St) (H : Hp) (Q : List V → Hp → Prop), Inv X pins σ H s → t σ H Q → wpAny (model X.prog X.w) X.A (spliced (backTo pos (starEach es X.env))) (AP X pins σ Q) X.xe s
def PS (X : Cx) (st : Stmt) (t : TS) : Prop :=
  ∀ (pins : List (Addr × Obj)) (s : Shared) (σ : St) (H : Hp) (D : Ends), Inv X pins σ H s → t D σ H → wpAny (model X.prog X.w) X.A (exec st X.env) (SP X pins D) X.xe s
def PSs (X : Cx) (st : List Stmt) (t : TS) : Prop :=
  ∀ (pins : List (Addr × Obj)) (s : Shared) (σ : St) (H : Hp) (D : Ends), Inv X pins σ H s → t D σ H → wpAny (model X.prog X.w) X.A (execs st X.env) (SP X pins D) X.xe s
theorem thn {α : Type} {t : Sem α} {Q Q' : α → Shared → Prop} {M : Model} {A : Around} {E : Value → Shared → Prop} {s : Shared} (h : wpAny M A t Q E s) (hQ : ∀ a s, Q a s → Q' a s) : wpAny M A t Q' E s := wpAny_mono h hQ fun _ _ x => x
end L2

namespace L2
open PySem PySem.Spec PyProof.Rows
section
variable {X : Cx}

/-! ### names and constants -/
def tVar (i : Nat) : TE := fun σ H Q => ∃ v, σ[i]? = some (some v) ∧ Q v H
def tC (v : V) : TE := fun _ H Q => Q v H
theorem pe_var {i : Nat} {x : Str} {pos : Pos} (hN : X.N[i]? = some x) (hv : Vis X.env.scope x) (hd : (x == ("__debug__" : Str)) = false := by decide) (hcd : (x == ("__classdict__" : Str)) = false := by decide) : PE X (.Name x pos) (tVar i) := by
  intro pins s σ H Q I h
  obtain ⟨v, e, h⟩ := h
  obtain ⟨m, hn, hl⟩ := I.loc
  obtain ⟨u, r, l⟩ := hl i x v hN e hv
  have fin : EP X pins σ Q u s := ⟨v, H, I, r, h⟩
  rcases l with ⟨hk, hm⟩ | ⟨hk, c, hc, hcell⟩
  · exact wpAny_Name (wpAny_loadName_local I.ok.kind hk hn hm fin) hd
  · rcases hk with hk | hk
    · exact wpAny_Name (wpAny_loadName_cell I.ok.kind hk hc hcell fin) hd
    · exact wpAny_Name (wpAny_loadName_free I.ok.kind hk hc hcell fin hcd) hd
theorem pe_int {i j pos} : PE X (.Constant (.int i) j pos) (tC (.int i)) := fun _ _ _ H _ I h => wpAny_Constant_int ⟨.int i, H, I.tok _, ⟨_, rfl⟩, h⟩
theorem pe_bl {b j pos} : PE X (.Constant (.bool b) j pos) (tC (.bl b)) := fun _ _ _ H _ I h => Constant_bool ⟨.bl b, H, I, rfl, h⟩
theorem pe_str {x j pos} : PE X (.Constant (.str x) j pos) (tC (.str x)) := fun _ _ _ H _ I h => Calls.Constant_str ⟨.str x, H, I.tok _, ⟨_, rfl⟩, h⟩

def Gl (X : Cx) (x : Str) : Prop := X.env.kindOf x = some .globalImplicit
theorem ld_glob {E : Value → Shared → Prop} {pins : List (Addr × Obj)} {s : Shared} {σ : St} {H : Hp} {x : Str} {u : Value} {pos : Pos} {Q : Value → Shared → Prop} (I : Inv X pins σ H s) (hg : Gl X x) (hm : X.mg x = some u) (h : Q u s)
    (hd : (x == ("__debug__" : Str)) = false := by decide) : wpAny (model X.prog X.w) X.A (eval (.Name x pos) X.env) Q E s :=
  Calls.Name_function_global I.ok.kind hg (Calls.loadGlobal_global (by rw [I.ok.glob]; exact I.mod.glob.keeps I.bk) hm h) hd
theorem ld_blt {E : Value → Shared → Prop} {pins : List (Addr × Obj)} {s : Shared} {σ : St} {H : Hp} {x : Str} {u : Value} {pos : Pos} {Q : Value → Shared → Prop} (I : Inv X pins σ H s) (hg : Gl X x) (hm : X.mg x = none) (hv : bootBuiltins x = some u) (h : Q u s)
    (hn : x ≠ "__name__" := by decide) (hd : (x == ("__debug__" : Str)) = false := by decide) : wpAny (model X.prog X.w) X.A (eval (.Name x pos) X.env) Q E s := by
  obtain ⟨mb, h1, h2⟩ := I.mod.blt
  exact Calls.Name_function_global I.ok.kind hg (Calls.loadGlobal_builtin (by rw [I.ok.glob]; exact I.mod.glob.keeps I.bk) hm (by rw [I.ok.blt]; exact h1.keeps I.bk) ((h2 x hn).trans hv) h) hd
theorem pe_glob {x : Str} {v : V} {u : Value} {pos : Pos} (hg : Gl X x) (hm : X.mg x = some u) (r : RelV v u) (hd : (x == ("__debug__" : Str)) = false := by decide) : PE X (.Name x pos) (tC v) :=
  fun _ _ _ H _ I h => ld_glob I hg hm ⟨v, H, I, r, h⟩ hd
theorem pe_bltn {x : Str} {v : V} {u : Value} {pos : Pos} (hg : Gl X x) (hm : X.mg x = none) (hv : bootBuiltins x = some u) (r : RelV v u) (hn : x ≠ "__name__" := by decide) (hd : (x == ("__debug__" : Str)) = false := by decide) : PE X (.Name x pos) (tC v) :=
  fun _ _ _ H _ I h => ld_blt I hg hm hv ⟨v, H, I, r, h⟩ hn hd

/-! ### arithmetic -/
variable {a b : Expr} {ta tb : TE} {pos : Pos}
/-! ### comparisons -/
def PC (X : Cx) (op : CmpOp) (a b : Expr) (t : TE) : Prop :=
  ∀ (pins : List (Addr × Obj)) (s : Shared) (σ : St) (H : Hp) (Q : VK), Inv X pins σ H s → t σ H Q →
    wpAny (model X.prog X.w) X.A (eval a X.env) (fun v s₁ => wpAny (model X.prog X.w) X.A (eval b X.env) (fun u s₂ => wpAny (model X.prog X.w) X.A (compareOp op v u) (EP X pins σ Q) X.xe s₂) X.xe s₁) X.xe s
theorem nobehind (b : Expr) {op : CmpOp} (h : op ≠ .In) (h2 : op ≠ .NotIn) : behindInMarks op b = false := by
  have e1 : (op == CmpOp.In) = false := by cases op <;> first | rfl | exact absurd rfl h
  have e2 : (op == CmpOp.NotIn) = false := by cases op <;> first | rfl | exact absurd rfl h2
  cases b <;> simp [behindInMarks, e1, e2]
def tIsN (ta : TE) : TE := fun σ H Q => ta σ H fun x H1 => Q (.bl (decide (x = .non))) H1
theorem RelV.none_iff {x : V} {v : Value} (r : RelV x v) : (v == Value.none) = decide (x = .non) := by
  cases x with
  | non => cases r; rfl
  | bl _ => cases r; rfl
  | int _ => obtain ⟨t, rfl⟩ := r; rfl
  | str _ => obtain ⟨t, rfl⟩ := r; rfl
  | byt _ => obtain ⟨t, rfl⟩ := r; rfl
  | flt _ => obtain ⟨t, rfl⟩ := r; rfl
  | ref _ => cases r; rfl
  | ty _ => cases r; rfl
theorem pc_isN {j pos'} (ha : PE X a ta) : PC X .Is a (.Constant .none j pos') (tIsN ta) := by
  intro pins s σ H Q I h
  refine thn (ha pins s σ H _ I h) fun v s1 ⟨x, H1, I1, r1, q1⟩ => ?_
  exact Constant_none (is_none_gen ⟨.bl _, H1, I1, by rw [r1.none_iff]; rfl, q1⟩)
def tB (t : TE) : TT := fun σ H Q => t σ H fun x H1 => ∃ c, x = .bl c ∧ Q c H1
theorem pt_cmp {op : CmpOp} {t : TE} (h : PC X op a b t) (h1 : behindInMarks op b = false := by first | exact nobehind _ (by decide) (by decide) | rfl) : PT X (.Compare a [op] [b] pos) (tB t) := by
  intro pins s σ H Q I hw
  refine wpAny_isTrue_Compare1 (thn (h pins s σ H _ I hw) fun v s1 h1 => thn h1 fun u s2 h2 => thn h2 fun c s3 ⟨x, H1, I1, r1, q1⟩ => ?_) h1
  obtain ⟨d, rfl, q⟩ := q1
  cases r1
  exact wpAny_truthy_bool ⟨H1, I1, q⟩
theorem pt_val {e : Expr} {t : TE} (h : PE X e t) (he : ∀ whole, isTrue e X.env whole = (do let v ← whole; standAt e.pos; holding [v] (truthy v)) := by intro _; rfl) : PT X e (tB t) := by
  intro pins s σ H Q I hw
  refine isTrue_plain (thn (h pins s σ H _ I hw) fun v s1 ⟨x, H1, I1, r1, q1⟩ => ?_) (he _)
  obtain ⟨d, rfl, q⟩ := q1
  cases r1
  exact wpAny_truthy_bool ⟨H1, I1, q⟩

/-! ### and, or, not -/
variable {tA tB' : TT} {rest : List Expr}
def tAnd (t u : TT) : TT := fun σ H Q => t σ H fun c H1 => if c = true then u σ H1 Q else Q false H1
def tOr (t u : TT) : TT := fun σ H Q => t σ H fun c H1 => if c = true then Q true H1 else u σ H1 Q
def tNot (t : TT) : TT := fun σ H Q => t σ H fun c H1 => Q (!c) H1
theorem pw_and1 (ha : PT X a tA) : PW X (.BoolOp .And [a] pos) tA := by
  intro wh pins s σ H Q I h
  refine isTrue_and (thn (ha pins s σ H Q I h) fun c s1 e => ?_)
  cases c with
  | true => exact isTrue_and_nil e
  | false => exact e
theorem pw_or1 (ha : PT X a tA) : PW X (.BoolOp .Or [a] pos) tA := by
  intro wh pins s σ H Q I h
  refine isTrue_or (thn (ha pins s σ H Q I h) fun c s1 e => ?_)
  cases c with
  | false => exact isTrue_or_nil e
  | true => exact e
theorem pw_and (ha : PT X a tA) (hb : PW X (.BoolOp .And (b :: rest) pos) tB') : PW X (.BoolOp .And (a :: b :: rest) pos) (tAnd tA tB') := by
  intro wh pins s σ H Q I h
  refine isTrue_and (thn (ha pins s σ H _ I h) fun c s1 ⟨H1, I1, q1⟩ => ?_)
  cases c with
  | true => exact hb wh pins s1 σ H1 Q I1 q1
  | false => exact ⟨H1, I1, q1⟩
theorem pw_or (ha : PT X a tA) (hb : PW X (.BoolOp .Or (b :: rest) pos) tB') : PW X (.BoolOp .Or (a :: b :: rest) pos) (tOr tA tB') := by
  intro wh pins s σ H Q I h
  refine isTrue_or (thn (ha pins s σ H _ I h) fun c s1 ⟨H1, I1, q1⟩ => ?_)
  cases c with
  | true => exact ⟨H1, I1, q1⟩
  | false => exact hb wh pins s1 σ H1 Q I1 q1
theorem pt_not (ha : PT X a tA) : PT X (.UnaryOp .Not a pos) (tNot tA) := by
  intro pins s σ H Q I h
  exact isTrue_not (ha pins s σ H (fun c H1 => Q (!c) H1) I h)
def tAndV (ta tb : TE) : TE := fun σ H Q => ta σ H fun x H1 => ∃ c, x = .bl c ∧ if c = true then tb σ H1 Q else Q (.bl false) H1
def tNotV (ta : TE) : TE := fun σ H Q => ta σ H fun x H1 => ∃ c, x = .bl c ∧ Q (.bl (!c)) H1
theorem pe_one {op} {t : TE} (h : PE X a t) : PE X (.BoolOp op [a] pos) t := fun pins s σ H Q I hw => BoolOp_one (h pins s σ H Q I hw)
theorem pe_and (ha : PE X a ta) (hb : PE X (.BoolOp .And (b :: rest) pos) tb) : PE X (.BoolOp .And (a :: b :: rest) pos) (tAndV ta tb) := by
  intro pins s σ H Q I h
  refine BoolOp_and (thn (ha pins s σ H _ I h) fun v s1 ⟨x, H1, I1, r1, q1⟩ => ?_)
  obtain ⟨c, rfl, q1⟩ := q1
  cases r1
  refine wpAny_truthy_bool ?_
  cases c with
  | true => exact hb pins s1 σ H1 Q I1 q1
  | false => exact ⟨.bl false, H1, I1, rfl, q1⟩
theorem pe_not (ha : PE X a ta) : PE X (.UnaryOp .Not a pos) (tNotV ta) := by
  intro pins s σ H Q I h
  refine UnaryOp_ (thn (ha pins s σ H _ I h) fun v s1 ⟨x, H1, I1, r1, q1⟩ => ?_)
  obtain ⟨c, rfl, q1⟩ := q1
  cases r1
  exact not_of (wpAny_truthy_bool ⟨.bl (!c), H1, I1, rfl, q1⟩)
def tIf (t : TT) (ta tb : TE) : TE := fun σ H Q => t σ H fun c H1 => if c = true then ta σ H1 Q else tb σ H1 Q
theorem pe_ifExp {c : Expr} (hc : PT X c tA) (ha : PE X a ta) (hb : PE X b tb) : PE X (.IfExp c a b pos) (tIf tA ta tb) := by
  intro pins s σ H Q I h
  refine wpAny_IfExp (thn (hc pins s σ H _ I h) fun d s1 ⟨H1, I1, q1⟩ => ?_)
  cases d with
  | true => exact ha pins s1 σ H1 Q I1 q1
  | false => exact hb pins s1 σ H1 Q I1 q1
end
end L2

namespace L2
open PySem PySem.Spec PyProof.Rows

/-! ### a list, a tuple that is read: tracked, frozen, or an object of the module -/
def SqL (K : PySem.W.Frag) (H : Hp) (a : Addr) (xs : List V) : Prop :=
  Rd H a (.lst xs) ∨
    ∃ (o : Obj) (its : Array Value) (n : Nat), K.lookup a = some o ∧ o.cls = .type "list" ∧ o.dict = none ∧ o.data = .seq its n ∧ its.size ≤ sizeLine ∧ Vals xs its.toList
def SqT (K : PySem.W.Frag) (H : Hp) (a : Addr) (xs : List V) : Prop :=
  Rd H a (.tup xs) ∨
    ∃ (o : Obj) (its : Array Value) (n : Nat), K.lookup a = some o ∧ o.cls = .type "tuple" ∧ o.data = .seq its n ∧ its.size ≤ sizeLine ∧ Vals xs its.toList
def absV : Value → Option V
  | .none => some .non
  | .bool b => some (.bl b)
  | .int i _ => some (.int i)
  | .str x _ => some (.str x)
  | .bytes b _ => some (.byt b)
  | .float b _ => some (.flt b)
  | .ref a => some (.ref a)
  | .type n => some (.ty n)
  | _ => none
theorem RelV.abs {x : V} {u : Value} (r : RelV x u) : absV u = some x := by
  cases x with
  | non => cases r; rfl
  | bl _ => cases r; rfl
  | int _ => obtain ⟨t, rfl⟩ := r; rfl
  | str _ => obtain ⟨t, rfl⟩ := r; rfl
  | byt _ => obtain ⟨t, rfl⟩ := r; rfl
  | flt _ => obtain ⟨t, rfl⟩ := r; rfl
  | ref _ => cases r; rfl
  | ty _ => cases r; rfl
theorem RelV.inj {x y : V} {u : Value} (r : RelV x u) (q : RelV y u) : x = y := Option.some.inj (r.abs.symm.trans q.abs)
theorem Vals.inj : ∀ {xs ys : List V} {us : List Value}, Vals xs us → Vals ys us → xs = ys
  | _, _, _, .nil, .nil => rfl
  | _, _, _, .cons r t, .cons r' t' => by rw [r.inj r', Vals.inj t t']
section
variable {X : Cx} {pins : List (Addr × Obj)} {σ : St} {H : Hp} {s : Shared} {a : Addr} {xs ys : List V}
theorem SqL.of {K : PySem.W.Frag} (h : H a = some (.lst xs)) : SqL K H a xs := .inl (.inl h)
theorem SqT.of {K : PySem.W.Frag} (h : H a = some (.tup xs)) : SqT K H a xs := .inl (.inl h)
theorem Inv.list (I : Inv X pins σ H s) (h : SqL X.K H a xs) : ∃ its : List Value, Vals xs its ∧ PlainL s.heap a its.toArray ∧ xs.length ≤ sizeLine := by
  rcases h with h | ⟨o, its, n, hk, hc, hd, hs, hz, r⟩
  · obtain ⟨z, its, n, r, e⟩ := h.ok I.hok
    exact ⟨its, r, ⟨_, n, e, rfl, rfl, rfl⟩, z⟩
  · refine ⟨its.toList, r, ⟨o, n, I.kIn a o hk, hc, hd, by simpa using hs⟩, ?_⟩
    have e := r.length
    simp only [Array.length_toList] at e
    omega
theorem Inv.tuple (I : Inv X pins σ H s) (h : SqT X.K H a xs) : ∃ its : List Value, Vals xs its ∧ IsTup s.heap a its.toArray ∧ xs.length ≤ sizeLine := by
  rcases h with h | ⟨o, its, n, hk, hc, hs, hz, r⟩
  · obtain ⟨z, its, r, p⟩ := h.ok I.hok
    exact ⟨its, r, p, z⟩
  · refine ⟨its.toList, r, ⟨o, I.kIn a o hk, hc, n, by simpa using hs⟩, ?_⟩
    have e := r.length
    simp only [Array.length_toList] at e
    omega
theorem Inv.list_inj (I : Inv X pins σ H s) (h : SqL X.K H a xs) (h' : SqL X.K H a ys) : xs = ys := by
  obtain ⟨its, r, ⟨o, n, e, _, _, d⟩, _⟩ := I.list h
  obtain ⟨its', r', ⟨o', n', e', _, _, d'⟩, _⟩ := I.list h'
  rw [e] at e'; cases e'
  rw [d] at d'
  injection d' with d1 _
  have : its = its' := by simpa using congrArg Array.toList d1
  subst this
  exact r.inj r'
theorem Inv.tuple_inj (I : Inv X pins σ H s) (h : SqT X.K H a xs) (h' : SqT X.K H a ys) : xs = ys := by
  obtain ⟨its, r, ⟨o, e, _, n, d⟩, _⟩ := I.tuple h
  obtain ⟨its', r', ⟨o', e', _, n', d'⟩, _⟩ := I.tuple h'
  rw [e] at e'; cases e'
  rw [d] at d'
  injection d' with d1 _
  have : its = its' := by simpa using congrArg Array.toList d1
  subst this
  exact r.inj r'
end

/-! ### another wish about exceptions -/
abbrev Cx.wish (X : Cx) (E : Value → Shared → Prop) : Cx := { X with xe := E }
abbrev Cx.nox (X : Cx) : Cx := X.wish fun _ _ => False
theorem Cx.Ok.wish {X : Cx} (ok : X.Ok) (E : Value → Shared → Prop) : (X.wish E).Ok :=
  ⟨ok.mod, ok.kind, ok.glob, ok.blt, ok.above, ok.inj, ok.has, ok.cab, ok.hd, ok.frames, ok.stk, ok.exf, ok.bs, ok.bsz, ok.noex, ok.exfs, ok.funs, ok.frf⟩
theorem Cx.Ok.unwish {X : Cx} {E : Value → Shared → Prop} (ok : (X.wish E).Ok) : X.Ok :=
  ⟨ok.mod, ok.kind, ok.glob, ok.blt, ok.above, ok.inj, ok.has, ok.cab, ok.hd, ok.frames, ok.stk, ok.exf, ok.bs, ok.bsz, ok.noex, ok.exfs, ok.funs, ok.frf⟩
section
variable {X : Cx} {pins : List (Addr × Obj)} {σ : St} {H : Hp} {s : Shared} {E : Value → Shared → Prop}
theorem Inv.wish (I : Inv X pins σ H s) (E : Value → Shared → Prop) : Inv (X.wish E) pins σ H s := ⟨I.ok.wish E, I.os, I.bare, I.base, I.loc, I.cell, I.free, I.freeC, I.pin, I.hok, I.len⟩
theorem Inv.unwish (I : Inv (X.wish E) pins σ H s) : Inv X pins σ H s := ⟨I.ok.unwish, I.os, I.bare, I.base, I.loc, I.cell, I.free, I.freeC, I.pin, I.hok, I.len⟩
theorem SP.unwish {D : Ends} {f : Flow} {s' : Shared} (h : SP (X.wish E) pins D f s') : SP X pins D f s' := by
  cases f with
  | next => obtain ⟨σ', H', I, q⟩ := h; exact ⟨σ', H', I.unwish, q⟩
  | brk => obtain ⟨σ', H', I, q⟩ := h; exact ⟨σ', H', I.unwish, q⟩
  | cont => obtain ⟨σ', H', I, q⟩ := h; exact ⟨σ', H', I.unwish, q⟩
  | ret u => obtain ⟨v, σ', H', I, r, q⟩ := h; exact ⟨v, σ', H', I.unwish, r, q⟩
theorem PSs.nox {st : List Stmt} {t : TS} (h : PSs X.nox st t) : PSs X st t := fun pins s σ H D I hw =>
  wpAny_mono (h pins s σ H D (I.wish _) hw) (fun _ _ q => q.unwish) fun _ _ z => False.elim z
end

/-! ### blocks and small statements -/
section
variable {X : Cx} {st : Stmt} {rest : List Stmt} {t u : TS} {e : Expr} {te : TE} {pos : Pos}
def tNext : TS := fun D σ H => D.nx σ H
def tSeq (t u : TS) : TS := fun D σ H => t { D with nx := u D } σ H
theorem pss_nil : PSs X [] tNext := fun _ _ σ H _ I h => wpAny_execs_nil ⟨σ, H, I, h⟩
theorem pss_cons (h1 : PS X st t) (h2 : PSs X rest u) : PSs X (st :: rest) (tSeq t u) := by
  intro pins s σ H D I h
  refine wpAny_execs_cons (thn (h1 pins s σ H { D with nx := u D } I h) fun f s1 q => ?_)
  cases f with
  | next =>
    obtain ⟨σ', H', I', q⟩ := q
    exact h2 pins s1 σ' H' D I' q
  | ret v => exact q
  | brk => exact q
  | cont => exact q
theorem pss_one (h1 : PS X st t) : PSs X [st] t := by
  intro pins s σ H D I h
  refine wpAny_execs_cons (thn (h1 pins s σ H D I h) fun f s1 q => ?_)
  cases f with
  | next => exact wpAny_execs_nil q
  | ret v => exact q
  | brk => exact q
  | cont => exact q
theorem Inv.quiet {pins : List (Addr × Obj)} {σ : St} {H : Hp} {s : Shared} (I : Inv X pins σ H s) : interactive X.env = false := by simp [interactive, I.ok.kind]
def tDrop (te : TE) : TS := fun D σ H => te σ H fun _ H1 => D.nx σ H1
theorem ps_expr (he : PE X e te) (hs : swapsWith e none pos.line X.env = pure false := by rfl) : PS X (.Expr e pos) (tDrop te) := by
  intro pins s σ H D I h
  exact wpAny_Expr_any (thn (he pins s σ H _ I h) fun v s1 ⟨x, H1, I1, r1, q1⟩ => ⟨σ, H1, I1, q1⟩) I.quiet hs
def tRet (te : TE) : TS := fun D σ H => te σ H D.rt
theorem ps_ret (he : PE X e te) : PS X (.Return (some e) pos) (tRet te) := by
  intro pins s σ H D I h
  exact wpAny_Return_some (thn (he pins s σ H _ I h) fun v s1 ⟨x, H1, I1, r1, q1⟩ => ⟨x, σ, H1, I1, r1, q1⟩)
def tIfS (c : TT) (t u : TS) : TS := fun D σ H => c σ H fun b H1 => if b = true then t D σ H1 else u D σ H1
theorem ps_if {c : Expr} {a b : List Stmt} {tc : TT} (hc : PT X c tc) (ha : PSs X a t) (hb : PSs X b u) : PS X (.If c a b pos) (tIfS tc t u) := by
  intro pins s σ H D I h
  refine wpAny_If (thn (hc pins s σ H _ I h) fun d s1 ⟨H1, I1, q1⟩ => ?_)
  cases d with
  | true => exact ha pins s1 σ H1 D I1 q1
  | false => exact hb pins s1 σ H1 D I1 q1
def tNever : TS := fun _ _ _ => False
theorem ps_never : PS X st tNever := fun _ _ _ _ _ _ h => h.elim
end

/-! ### targets -/
abbrev TG := V → St → Hp → (St → Hp → Prop) → Prop
abbrev TGs := List V → St → Hp → (St → Hp → Prop) → Prop
def PG (X : Cx) (target : Expr) (t : TG) : Prop :=
  ∀ (pins : List (Addr × Obj)) (s : Shared) (σ : St) (H : Hp) (v : V) (u : Value) (Q : St → Hp → Prop), Inv X pins σ H s → RelV v u → t v σ H Q →
    wpAny (model X.prog X.w) X.A (assign target X.env u) (fun _ s' => ∃ σ' H', Inv X pins σ' H' s' ∧ Q σ' H') X.xe s
def PGs (X : Cx) (ts : List Expr) (t : TGs) : Prop :=
  ∀ (pins : List (Addr × Obj)) (s : Shared) (σ : St) (H : Hp) (vs : List V) (us : List Value) (Q : St → Hp → Prop), Inv X pins σ H s → Vals vs us → t vs σ H Q →
    wpAny (model X.prog X.w) X.A (assignInOrder ((assignEach ts X.env).map (·.2)) us) (fun _ s' => ∃ σ' H', Inv X pins σ' H' s' ∧ Q σ' H') X.xe s
abbrev TSet := V → V → V → Hp → (Hp → Prop) → Prop
def PSet (X : Cx) (t : TSet) : Prop :=
  ∀ (pins : List (Addr × Obj)) (s : Shared) (σ : St) (H : Hp) (o i v : V) (ov iv u : Value) (Q : Hp → Prop), Inv X pins σ H s → RelV o ov → RelV i iv → RelV v u → t o i v H Q →
    wpAny (model X.prog X.w) X.A (setItem ov iv u) (fun _ s' => ∃ H', Inv X pins σ H' s' ∧ Q H') X.xe s
section
variable {X : Cx} {pos : Pos}
def gName (i : Nat) : TG := fun v σ H Q => Q (σ.set i (some v)) H
theorem pg_name {i : Nat} {x : Str} (hN : X.N.Nodup) (hi : X.N[i]? = some x) (hx : Loc X.env.scope x) (hf : X.fn x = true ∨ X.env.scope.names.lookup x = some .local := by first | exact .inl rfl | exact .inr rfl | assumption) : PG X (.Name x pos) (gName i) := by
  intro pins s σ H v u Q I r h
  exact wpAny_assign_Name (store_ok I hN hi hx r (fun s' I' => ⟨_, H, I', h⟩) hf)
def gNil : TGs := fun vs σ H Q => vs = [] ∧ Q σ H
def gCons (t : TG) (u : TGs) : TGs := fun vs σ H Q => ∃ v r, vs = v :: r ∧ t v σ H fun σ' H' => u r σ' H' Q
theorem pgs_nil : PGs X [] gNil := by
  intro pins s σ H vs us Q I r h
  obtain ⟨e, h⟩ := h
  subst e
  cases r
  exact assignInOrder_nil ⟨σ, H, I, h⟩
theorem pgs_cons {e : Expr} {es : List Expr} {t : TG} {u : TGs} (h1 : PG X e t) (h2 : PGs X es u)
    (hs : (assignEach (e :: es) X.env).map (·.2) = assign e X.env :: (assignEach es X.env).map (·.2) := by rfl) : PGs X (e :: es) (gCons t u) := by
  intro pins s σ H vs us Q I r h
  obtain ⟨v, vr, e1, h⟩ := h
  subst e1
  cases r with
  | cons r rr =>
    rw [hs]
    refine assignInOrder_cons (thn (h1 pins s σ H _ _ _ I r h) fun _ s1 ⟨σ1, H1, I1, q1⟩ => ?_)
    exact h2 pins s1 σ1 H1 _ _ Q I1 rr q1
def gTup (K : PySem.W.Frag) (n : Nat) (t : TGs) : TG := fun v σ H Q => ∃ a xs, v = .ref a ∧ SqT K H a xs ∧ xs.length = n ∧ t xs σ H Q
theorem pg_tup {es : List Expr} {k : Nat} {t : TGs} {n : Nat} (hc : X.calm = true) (h : PGs X es t)
    (hn : (assignEach es X.env).length = n := by rfl) (hst : (assignEach es X.env).findIdx? (·.1) = none := by rfl) : PG X (.Tuple es k pos) (gTup X.K n t) := by
  intro pins s σ H v u Q I r hw
  obtain ⟨a, xs, e1, hq, hl, hw⟩ := hw
  subst e1
  cases r
  obtain ⟨its, rv, ht, hz⟩ := I.tuple hq
  refine assign_Tuple_tuple (I.ok.hd hc) ht (by simp [hn, ← hl, rv.length]) hst fun h' hx => ?_
  have I1 : Inv X pins σ H { s with heap := h' } := I.kept (t' := s.toks) fun b o e => hx b o (Nat.ne_of_lt (Heap.lt_size e)) e
  exact h pins _ σ H xs _ Q I1 (by simpa using rv) hw
def gSub (to ti : TE) (t : TSet) : TG := fun v σ H Q => to σ H fun o H1 => ti σ H1 fun i H2 => t o i v H2 fun H3 => Q σ H3
theorem pg_sub {o i : Expr} {to ti : TE} {t : TSet} (ho : PE X o to) (hi : PE X i ti) (hs : PSet X t)
    (ha : ∀ v, assign (.Subscript o i pos) X.env v = (do
      let ov ← holding [v] (eval o X.env)
      let iv ← holding [v, ov] (eval i X.env)
      standAt pos
      holding [v, ov, iv] (setItem ov iv v)
      release [v, ov, iv] []) := by intro _; rfl) : PG X (.Subscript o i pos) (gSub to ti t) := by
  intro pins s σ H v u Q I r h
  rw [ha]
  refine wpAny_bind (wpAny_holding (thn (ho pins s σ H _ I h) fun ov s1 ⟨x, H1, I1, r1, q1⟩ => ?_))
  refine wpAny_bind (wpAny_holding (thn (hi pins s1 σ H1 _ I1 q1) fun iv s2 ⟨y, H2, I2, r2, q2⟩ => ?_))
  refine wpAny_bind (wpAny_standAt (wpAny_bind (wpAny_holding (thn (hs pins s2 σ H2 x y v ov iv u _ I2 r1 r2 r q2) fun _ s3 ⟨H3, I3, q3⟩ => ?_))))
  exact wpAny_release ⟨σ, H3, I3, q3⟩
def tAsg (te : TE) (g : TG) : TS := fun D σ H => te σ H fun x H1 => g x σ H1 D.nx
theorem ps_asg {tg e : Expr} {te : TE} {g : TG} (he : PE X e te) (hg : PG X tg g) (hs : swapsWithSole [tg] e pos.line X.env = pure false := by rfl) (hw : swappedStores [tg] e X.env = pure none := by rfl)
    (h1 : (assignEach [tg] X.env).map (·.2) = [assign tg X.env] := by rfl) : PS X (.Assign [tg] e pos) (tAsg te g) := by
  intro pins s σ H D I h
  refine wpAny_Assign_stores (thn (he pins s σ H _ I h) fun v s1 ⟨x, H1, I1, r1, q1⟩ => ?_) hs hw
  rw [h1]
  exact thn (hg pins s1 σ H1 x v _ I1 r1 q1) fun _ s2 q => q
theorem ps_set {i : Nat} {x : Str} {e : Expr} {te : TE} {pos' : Pos} (hN : X.N.Nodup) (hi : X.N[i]? = some x) (hx : Loc X.env.scope x) (he : PE X e te) (hs : swapsWith e (some (.Name x pos')) pos.line X.env = pure false := by rfl) (hf : X.fn x = true ∨ X.env.scope.names.lookup x = some .local := by first | exact .inl rfl | exact .inr rfl | assumption) :
    PS X (.Assign [.Name x pos'] e pos) (tAsg te (gName i)) := by
  intro pins s σ H D I h
  refine wpAny_Assign_Name (thn (he pins s σ H _ I h) fun v s1 ⟨y, H1, I1, r1, q1⟩ => ?_) hs
  exact store_ok I1 hN hi hx r1 (fun s2 I2 => ⟨_, H1, I2, q1⟩) hf
end

/-! ### while -/
section
variable {X : Cx} {pos : Pos}
def tWhile (c : TT) (tb : TS) : TS := fun D σ H => ∃ W : Nat → St → Hp → Prop, (∃ m, W m σ H) ∧ ∀ m σ H, W m σ H →
  c σ H fun b H1 => if b = true then ∃ N : St → Hp → Prop, (∀ σ' H', N σ' H' → ∃ m', m' < m ∧ W m' σ' H') ∧ tb { D with nx := N, ct := N, bk := D.nx } σ H1 else D.nx σ H1
theorem ps_while {c : Expr} {body : List Stmt} {tc : TT} {tb : TS} (hp : PassesOwn (model X.prog X.w) X.A X.env X.xe) (hc : PT X c tc) (hb : PSs X body tb) : PS X (.While c body [] pos) (tWhile tc tb) := by
  intro pins s σ H D I h
  obtain ⟨W, ⟨m0, w0⟩, turn⟩ := h
  refine wpAny_While (codeAny_whileLoop (fun n s' => ∃ σ' H', Inv X pins σ' H' s' ∧ W n σ' H') ?_ m0 ⟨σ, H, I, w0⟩)
  rintro n s1 ⟨σ1, H1, I1, w1⟩
  refine wpAny_passesOwn hp (thn (hc pins s1 σ1 H1 _ I1 (turn n σ1 H1 w1)) fun b s2 ⟨H2, I2, q2⟩ => ?_)
  cases b with
  | true =>
    obtain ⟨N, hN, q2⟩ := q2
    rw [if_pos rfl]
    refine wpAny_passesOwn hp (thn (hb pins s2 σ1 H2 _ I2 q2) fun f s3 q3 => ?_)
    cases f with
    | next =>
      obtain ⟨σ3, H3, I3, n3⟩ := q3
      obtain ⟨m', hm, w3⟩ := hN σ3 H3 n3
      exact ⟨m', hm, σ3, H3, I3, w3⟩
    | cont =>
      obtain ⟨σ3, H3, I3, n3⟩ := q3
      obtain ⟨m', hm, w3⟩ := hN σ3 H3 n3
      exact ⟨m', hm, σ3, H3, I3, w3⟩
    | brk => exact q3
    | ret v => exact q3
  | false =>
    rw [if_neg Bool.false_ne_true]
    exact wpAny_execs_nil ⟨σ1, H2, I2, q2⟩
end

/-! ### what a loop or a comprehension walks -/
structure It where
  go : Nat → Hp → Prop
  yld : Nat → Hp → V → Hp → Prop
  stop : Nat → Hp → Prop
def FpOk (X : Cx) (pins : List (Addr × Obj)) (H : Hp) (b : Addr) : Prop :=
  H b = none ∧ b ≠ X.env.locals ∧ b ∉ X.fs ∧ (b ∈ X.ex ∨ X.s₀.heap.objs.size ≤ b) ∧ (∀ x c, X.env.cells.lookup x = some c → c ≠ b) ∧ ∀ p ∈ X.pn ++ pins, p.1 ≠ b
theorem Inv.fpOk {X : Cx} {pins : List (Addr × Obj)} {σ : St} {H H' : Hp} {s : Shared} {b : Addr} (I : Inv X pins σ H s) (hb : s.heap.objs.size ≤ b) (hn : H' b = none) : FpOk X pins H' b := by
  refine ⟨hn, Nat.ne_of_gt (Nat.lt_of_lt_of_le I.lt hb), I.nofs hb, .inr (Nat.le_trans I.sz hb), fun x c e z => ?_, fun p hp z => ?_⟩
  · obtain ⟨v, q⟩ := I.cell x c e
    exact absurd (Nat.lt_of_lt_of_le q.lt (by rw [z]; exact hb)) (Nat.lt_irrefl _)
  · exact absurd (Nat.lt_of_lt_of_le (Heap.lt_size (I.pin p hp).1) (by rw [z]; exact hb)) (Nat.lt_irrefl _)
structure Turn (P : Program) (w : World) (K : PySem.W.Frag) (tg : Expr) (J : It) (fp : List Addr) (it : Addr) (tn : Nat → Heap → Prop) : Prop where
  mem : it ∈ fp
  obj : ∀ i h, tn i h → ∀ b ∈ fp, ∃ o, h.get? b = some o ∧ ∀ v, o.data ≠ .cell v
  keep : ∀ i h h', tn i h → (∀ b ∈ fp, ∀ o, h.get? b = some o → h'.get? b = some o) → tn i h'
  item : ∀ (X : Cx), X.prog = P → X.w = w → X.K = K → X.calm = true → ∀ (i : Nat) (pins : List (Addr × Obj)) (s : Shared) (σ : St) (H : Hp) (E : Value → Shared → Prop), Inv X pins σ H s → (∀ b ∈ fp, FpOk X pins H b) → tn i s.heap → J.go i H →
    wpAny (model P w) X.A (pyNext (.ref it)) (fun r s1 => ∃ u, r = some u ∧
      wpAny (model P w) X.A (letOwnedTupleGo tg (.ref it) u) (fun _ s2 => ∃ x H', Inv X pins σ H' s2 ∧ RelV x u ∧ J.yld i H x H' ∧ tn (i + 1) s2.heap ∧ ∀ b ∈ fp, H' b = none) E s1) E s
  done : ∀ (X : Cx), X.prog = P → X.w = w → X.K = K → X.calm = true → ∀ (i : Nat) (pins : List (Addr × Obj)) (s : Shared) (σ : St) (H : Hp) (E : Value → Shared → Prop), Inv X pins σ H s → (∀ b ∈ fp, FpOk X pins H b) → tn i s.heap → J.stop i H →
    wpAny (model P w) X.A (pyNext (.ref it)) (fun r s1 => r = none ∧ Inv X pins σ H s1) E s
  self : ∀ (A : Around) (i : Nat) (s : Shared) (Q : Value → Shared → Prop) (E : Value → Shared → Prop), tn i s.heap → Q (.ref it) s → wpAny (model P w) A (pyIter (.ref it)) Q E s
abbrev TI := St → Hp → (It → Hp → Prop) → Prop
def PIE (X : Cx) (pins : List (Addr × Obj)) (σ : St) (tg : Expr) (R : It → Hp → Prop) (itv : Value) (s2 : Shared) : Prop :=
  ∃ (it : Addr) (fp : List Addr) (tn : Nat → Heap → Prop) (J : It) (H' : Hp), itv = .ref it ∧ Inv X pins σ H' s2 ∧ Turn X.prog X.w X.K tg J fp it tn ∧ tn 0 s2.heap ∧ (∀ b ∈ fp, FpOk X pins H' b) ∧ R J H'
def PI (X : Cx) (tg iter : Expr) (wi : TI) : Prop :=
  ∀ (pins : List (Addr × Obj)) (s : Shared) (σ : St) (H : Hp) (R : It → Hp → Prop), Inv X pins σ H s → wi σ H R →
    wpAny (model X.prog X.w) X.A (eval iter X.env) (fun v s1 => wpAny (model X.prog X.w) X.A (pyIter v) (PIE X pins σ tg R) X.xe s1) X.xe s

theorem go_of {M : Model} {A : Around} {E : Value → Shared → Prop} {s : Shared} {tg : Expr} {it : Addr} {u : Value} {o : Obj} {n : String} {vs : Array Value} {Q : Unit → Shared → Prop} (ho : s.heap.get? it = some o) (hc : o.cls = .type n) (hd : o.data = .fields vs)
    (hn : ["enumerate", "zip", "dict_itemiterator", "dict_reverseitemiterator", "odict_iterator", "itertools.zip_longest", "itertools.pairwise"].contains n = false) (hQ : Q () s) : wpAny M A (letOwnedTupleGo tg (.ref it) u) Q E s := by
  unfold letOwnedTupleGo
  cases tg <;> first
    | exact wpAny_pure hQ
    | (cases u <;> first
        | exact wpAny_pure hQ
        | (refine wpAny_bind (wpAny_load ho ?_)
           rw [hc, hd]
           show wpAny M A (if (["enumerate", "zip", "dict_itemiterator", "dict_reverseitemiterator", "odict_iterator", "itertools.zip_longest", "itertools.pairwise"].contains n && vs[0]? == some (rawInt _)) = true then _ else _) Q E s
           rw [if_neg (by intro h; rw [hn, Bool.false_and] at h; cases h)]
           exact wpAny_pure hQ))

def Itl (K : PySem.W.Frag) (a : Addr) : It :=
  ⟨fun i H => ∃ xs x, SqL K H a xs ∧ xs[i]? = some x, fun i H x H' => H' = H ∧ ∀ xs, SqL K H a xs → xs[i]? = some x, fun i H => ∃ xs, SqL K H a xs ∧ xs.length ≤ i⟩
def Itt (K : PySem.W.Frag) (a : Addr) : It :=
  ⟨fun i H => ∃ xs x, SqT K H a xs ∧ xs[i]? = some x, fun i H x H' => H' = H ∧ ∀ xs, SqT K H a xs → xs[i]? = some x, fun i H => ∃ xs, SqT K H a xs ∧ xs.length ≤ i⟩
def Itr (lo : Int) (n : Nat) : It := ⟨fun i _ => i < n, fun i H x H' => H' = H ∧ x = .int (lo + i), fun i _ => n ≤ i⟩
theorem turn_list {P : Program} {w : World} {K : PySem.W.Frag} {tg : Expr} (a it : Addr) : Turn P w K tg (Itl K a) [it] it (fun i h => h.IsListIter it a i) where
  mem := by simp
  obj := fun i h st b hb => by
    have e : b = it := by simpa using hb
    subst e
    obtain ⟨o, e, c, d⟩ := st
    exact ⟨o, e, fun v z => by rw [d] at z; cases z⟩
  keep := fun i h h' st k => st.at fun o e => k it (by simp) o e
  item := by
    intro X hP hw hK hc i pins s σ H E I hf st hg
    subst hP hw hK
    obtain ⟨xs, x, hq, hx⟩ := hg
    obtain ⟨its, rv, p, hz⟩ := I.list hq
    obtain ⟨u, hu, ru⟩ := rv.get hx
    obtain ⟨f0, f1, f2, f3, f4, f5⟩ := hf it (by simp)
    refine wpAny_pyNext_list_item st p.isList (x := u) (by simpa using hu) fun h' st' sb => ?_
    have I1 : Inv X pins σ H { s with heap := h' } := I.turned (t' := s.toks) (fun b o hb e => (sb.2 b hb).trans e) f0 f1 f3 f4 f5
    obtain ⟨o, e, c, d⟩ := id st'
    exact ⟨u, rfl, go_of (s := { s with heap := h' }) e c d (by decide) ⟨x, H, I1, ru, ⟨rfl, fun ys hy => by rw [I.list_inj hy hq]; exact hx⟩, st', fun b hb => (hf b hb).1⟩⟩
  done := by
    intro X hP hw hK hc i pins s σ H E I hf st hg
    subst hP hw hK
    obtain ⟨xs, hq, hx⟩ := hg
    obtain ⟨its, rv, p, hz⟩ := I.list hq
    obtain ⟨f0, f1, f2, f3, f4, f5⟩ := hf it (by simp)
    have hl := rv.length
    exact wpAny_pyNext_list_end (I.ok.hd hc) st p.isList (by simp; omega) fun h' eb => ⟨rfl, I.turned (t' := s.toks) (fun b o hb e => eb b o hb e) f0 f1 f3 f4 f5⟩
  self := fun _ _ _ _ _ st h => wpAny_pyIter_listiter st h
theorem turn_tuple {P : Program} {w : World} {K : PySem.W.Frag} {tg : Expr} (a it : Addr) : Turn P w K tg (Itt K a) [it] it (fun i h => h.IsTupleIter it a i) where
  mem := by simp
  obj := fun i h st b hb => by
    have e : b = it := by simpa using hb
    subst e
    obtain ⟨o, e, c, d⟩ := st
    exact ⟨o, e, fun v z => by rw [d] at z; cases z⟩
  keep := fun i h h' st k => st.at fun o e => k it (by simp) o e
  item := by
    intro X hP hw hK hc i pins s σ H E I hf st hg
    subst hP hw hK
    obtain ⟨xs, x, hq, hx⟩ := hg
    obtain ⟨its, rv, p, hz⟩ := I.tuple hq
    obtain ⟨u, hu, ru⟩ := rv.get hx
    obtain ⟨f0, f1, f2, f3, f4, f5⟩ := hf it (by simp)
    refine wpAny_pyNext_tuple_item st (show s.heap.IsTuple a its.toArray from p) (x := u) (by simpa using hu) fun h' st' sb => ?_
    have I1 : Inv X pins σ H { s with heap := h' } := I.turned (t' := s.toks) (fun b o hb e => (sb.2 b hb).trans e) f0 f1 f3 f4 f5
    obtain ⟨o, e, c, d⟩ := id st'
    exact ⟨u, rfl, go_of (s := { s with heap := h' }) e c d (by decide) ⟨x, H, I1, ru, ⟨rfl, fun ys hy => by rw [I.tuple_inj hy hq]; exact hx⟩, st', fun b hb => (hf b hb).1⟩⟩
  done := by
    intro X hP hw hK hc i pins s σ H E I hf st hg
    subst hP hw hK
    obtain ⟨xs, hq, hx⟩ := hg
    obtain ⟨its, rv, p, hz⟩ := I.tuple hq
    obtain ⟨f0, f1, f2, f3, f4, f5⟩ := hf it (by simp)
    have hl := rv.length
    exact wpAny_pyNext_tuple_end (I.ok.hd hc) st (show s.heap.IsTuple a its.toArray from p) (by simp; omega) fun h' eb => ⟨rfl, I.turned (t' := s.toks) (fun b o hb e => eb b o hb e) f0 f1 f3 f4 f5⟩
  self := fun _ _ _ _ _ st h => wpAny_pyIter_tupleiter st h
theorem turn_range {P : Program} {w : World} {K : PySem.W.Frag} {tg : Expr} (it : Addr) (lo : Int) (n : Nat) : Turn P w K tg (Itr lo n) [it] it (fun i h => IsRangeIter h it (lo + (i : Nat) * 1) ((n : Int) - (i : Nat)) 1) where
  mem := by simp
  obj := fun i h st b hb => by
    have e : b = it := by simpa using hb
    subst e
    exact ⟨_, st, fun v z => by
      have z' : Data.fields _ = Data.cell v := z
      cases z'⟩
  keep := fun i h h' st k => k it (by simp) _ st
  item := by
    intro X hP hw hK hc i pins s σ H E I hf st hg
    subst hP hw hK
    obtain ⟨f0, f1, f2, f3, f4, f5⟩ := hf it (by simp)
    have W := Walks.range (prog := X.prog) (w := X.w) (I.ok.hd hc) it lo 1 n
    refine W.item i s _ _ hg st fun v h' tk hv st' kk => ?_
    obtain ⟨t, rfl⟩ := hv
    have I1 : Inv X pins σ H { s with heap := h', toks := tk } := I.turned (fun b o hb e => kk b o (by simpa using hb) e) f0 f1 f3 f4 f5
    refine ⟨_, rfl, go_of (s := { s with heap := h', toks := tk }) (n := "range_iterator") st' rfl rfl (by decide) ⟨.int (lo + i), H, I1, ⟨t, ?_⟩, ⟨rfl, rfl⟩, st', fun b hb => (hf b hb).1⟩⟩
    rw [Int.mul_one]
  done := by
    intro X hP hw hK hc i pins s σ H E I hf st hg
    subst hP hw hK
    obtain ⟨f0, f1, f2, f3, f4, f5⟩ := hf it (by simp)
    exact wpAny_pyNext_range_end (I.ok.hd hc) st (by have : n ≤ i := hg; omega) fun h' eb => ⟨rfl, I.turned (t' := s.toks) (fun b o hb e => eb b o hb e) f0 f1 f3 f4 f5⟩
  self := fun _ _ _ _ _ st h => wpAny_pyIter_rangeiter st h
end L2

namespace L2
open PySem PySem.Spec PyProof.Rows
section
variable {X : Cx} {tg : Expr}
def iList (K : PySem.W.Frag) (tl : TE) : TI := fun σ H R => tl σ H fun x H1 => ∃ a, x = .ref a ∧ (∃ xs, SqL K H1 a xs) ∧ R (Itl K a) H1
def iTup (K : PySem.W.Frag) (tl : TE) : TI := fun σ H R => tl σ H fun x H1 => ∃ a, x = .ref a ∧ (∃ xs, SqT K H1 a xs) ∧ R (Itt K a) H1
theorem pi_list {l : Expr} {tl : TE} (hl : PE X l tl) : PI X tg l (iList X.K tl) := by
  intro pins s σ H R I h
  refine thn (hl pins s σ H _ I h) fun v s1 ⟨x, H1, I1, r1, q1⟩ => ?_
  obtain ⟨a, e, ⟨xs, hq⟩, q⟩ := q1
  subst e
  cases r1
  obtain ⟨its, rv, p, hz⟩ := I1.list hq
  refine wpAny_pyIter_list p.isList ?_
  refine ⟨s1.heap.objs.size, [s1.heap.objs.size], _, _, H1, rfl, I1.kept (t' := s1.toks) fun b o e => Heap.get?_push_of_some _ e, turn_list a _, ⟨_, Heap.get?_push_size _ rfl, rfl, rfl⟩, fun b hb => ?_, q⟩
  have e : b = s1.heap.objs.size := by simpa using hb
  subst e
  exact I1.fpOk (Nat.le_refl _) (I1.hok.fresh (Nat.le_refl _))
theorem pi_tup {l : Expr} {tl : TE} (hl : PE X l tl) : PI X tg l (iTup X.K tl) := by
  intro pins s σ H R I h
  refine thn (hl pins s σ H _ I h) fun v s1 ⟨x, H1, I1, r1, q1⟩ => ?_
  obtain ⟨a, e, ⟨xs, hq⟩, q⟩ := q1
  subst e
  cases r1
  obtain ⟨its, rv, p, hz⟩ := I1.tuple hq
  refine wpAny_pyIter_tuple (show s1.heap.IsTuple a its.toArray from p) ?_
  refine ⟨s1.heap.objs.size, [s1.heap.objs.size], _, _, H1, rfl, I1.kept (t' := s1.toks) fun b o e => Heap.get?_push_of_some _ e, turn_tuple a _, ⟨_, Heap.get?_push_size _ rfl, rfl, rfl⟩, fun b hb => ?_, q⟩
  have e : b = s1.heap.objs.size := by simpa using hb
  subst e
  exact I1.fpOk (Nat.le_refl _) (I1.hok.fresh (Nat.le_refl _))
theorem range_it {pins : List (Addr × Obj)} {σ : St} {H : Hp} {s : Shared} {R : It → Hp → Prop} {E : Value → Shared → Prop} {lo hi : Int} {t u v : Tok} {tk : Nat} (I : Inv X pins σ H s) (h1 : -(2 ^ 62) ≤ lo) (h2 : lo < 2 ^ 62) (h3 : -(2 ^ 62) ≤ hi) (h4 : hi < 2 ^ 62)
    (q : R (Itr lo (hi - lo).toNat) H) : wpAny (model X.prog X.w) X.A (pyIter (.ref s.heap.objs.size)) (PIE X pins σ tg R) E { s with heap := s.heap.push { cls := .type "range", data := .fields #[.int lo t, .int hi u, .int 1 v] }, toks := tk } := by
  refine wpAny_pyIter_range (IsRange.new ..) (small_one h1 h2 h3 h4) ?_
  have I1 : Inv X pins σ H { s with heap := s.heap.push { cls := .type "range", data := .fields #[.int lo t, .int hi u, .int 1 v] }, toks := tk } := I.kept fun b o e => Heap.get?_push_of_some _ e
  refine ⟨(s.heap.push { cls := .type "range", data := .fields #[.int lo t, .int hi u, .int 1 v] }).objs.size, [(s.heap.push { cls := .type "range", data := .fields #[.int lo t, .int hi u, .int 1 v] }).objs.size], _, _, H, rfl,
    I1.kept (t' := tk) fun b o e => Heap.get?_push_of_some _ e, turn_range _ lo (hi - lo).toNat, ?_, fun b hb => ?_, q⟩
  · have e1 : lo + ((0 : Nat) : Int) * 1 = lo := by simp
    have e2 : (((hi - lo).toNat : Nat) : Int) - ((0 : Nat) : Int) = Builtin.Range.rangeSize lo hi 1 := by rw [rangeSize_one]; split <;> omega
    show IsRangeIter _ _ (lo + ((0 : Nat) : Int) * 1) ((((hi - lo).toNat : Nat) : Int) - ((0 : Nat) : Int)) 1
    rw [e1, e2]
    exact Heap.get?_push_size _ rfl
  · have e : b = (s.heap.push { cls := .type "range", data := .fields #[.int lo t, .int hi u, .int 1 v] }).objs.size := by simpa using hb
    subst e
    exact I1.fpOk (Nat.le_refl _) (I1.hok.fresh (Nat.le_refl _))
def iRng1 (ta : TA) : TI := fun σ H R => ta σ H fun vs H1 => ∃ j : Int, vs = [.int j] ∧ -(2 ^ 62) ≤ j ∧ j < 2 ^ 62 ∧ R (Itr 0 j.toNat) H1
theorem pi_range1 {a : Expr} {ta : TA} {p pos : Pos} (hg : Gl X "range") (hm : X.mg "range" = none) (ha : PA X [a] ta) (hs : starEach [a] X.env = [(false, eval a X.env)] := by rfl) : PI X tg (.Call (.Name "range" p) [a] [] pos) (iRng1 ta) := by
  intro pins s σ H R I h
  refine Call_ (ld_blt I hg hm boot_range (PyProof.Rows.callWith_type1 (thn (ha pos pins s σ H _ I h) fun us s1 ⟨vs, H1, I1, r1, q1⟩ => ?_) hs rfl))
  obtain ⟨j, e, q1, q2, q⟩ := q1
  subst e
  cases r1 with
  | cons r rr =>
    cases rr
    obtain ⟨t, rfl⟩ := r
    exact call_range_1 (range_it I1 (by omega) (by omega) q1 q2 (by simpa using q))
/-! ### for -/
def tFor (wi : TI) (g : TG) (tb : TS) : TS := fun D σ H => wi σ H fun J H1 => ∃ W : Nat → Nat → St → Hp → Prop, (∃ m, W 0 m σ H1) ∧ ∀ i m σ H, W i m σ H →
  (J.stop i H ∧ D.nx σ H) ∨ (J.go i H ∧ ∃ N : St → Hp → Prop, (∀ σ' H', N σ' H' → ∃ m', m' < m ∧ W (i + 1) m' σ' H') ∧ ∀ x H', J.yld i H x H' → g x σ H' fun σ2 H2 => tb { D with nx := N, ct := N, bk := D.nx } σ2 H2)
def pinsAt (fp : List Addr) (h : Heap) : List (Addr × Obj) := fp.filterMap fun b => (h.get? b).map fun o => (b, o)
theorem mem_pinsAt {fp : List Addr} {h : Heap} {b : Addr} {o : Obj} (hb : b ∈ fp) (e : h.get? b = some o) : (b, o) ∈ pinsAt fp h := List.mem_filterMap.mpr ⟨b, hb, by rw [e]; rfl⟩
theorem of_pinsAt {fp : List Addr} {h : Heap} {p : Addr × Obj} (hp : p ∈ pinsAt fp h) : p.1 ∈ fp ∧ h.get? p.1 = some p.2 := by
  obtain ⟨b, hb, e⟩ := List.mem_filterMap.mp hp
  cases q : h.get? b with
  | none => rw [q] at e; cases e
  | some o =>
    rw [q] at e
    have e' : (b, o) = p := Option.some.inj e
    subst e'
    exact ⟨hb, q⟩
theorem Inv.pinned {pins : List (Addr × Obj)} {σ : St} {H : Hp} {s : Shared} {fp : List Addr} (I : Inv X pins σ H s) (hf : ∀ b ∈ fp, FpOk X pins H b) (ho : ∀ b ∈ fp, ∃ o, s.heap.get? b = some o ∧ ∀ v, o.data ≠ .cell v) : Inv X (pins ++ pinsAt fp s.heap) σ H s :=
  I.pins_of fun p hp => (List.mem_append.mp hp).elim (fun z => I.pin p (List.mem_append_right _ z)) fun z => by
    obtain ⟨hb, e⟩ := of_pinsAt z
    obtain ⟨f0, f1, f2, _⟩ := hf p.1 hb
    obtain ⟨o, e', d⟩ := ho p.1 hb
    rw [e] at e'; cases e'
    exact ⟨e, f0, f1, f2, d⟩
theorem Inv.unpinned {pins pl : List (Addr × Obj)} {σ : St} {H : Hp} {s : Shared} (I : Inv X (pins ++ pl) σ H s) : Inv X pins σ H s := I.pins_of fun p hp => I.pin p (List.mem_append_right _ (List.mem_append_left _ hp))
theorem ps_for {iter : Expr} {body : List Stmt} {wi : TI} {g : TG} {tb : TS} {pos : Pos} (hp : PassesOwn (model X.prog X.w) X.A X.env X.xe) (hc : X.calm = true) (hi : PI X tg iter wi) (hg : PG X tg g) (hb : PSs X body tb)
    (hs : ∀ x, foldedSetIterable iter X.env x = pure x := by intro _; rfl) : PS X (.For tg iter body [] pos) (tFor wi g tb) := by
  intro pins s σ H D I h
  refine wpAny_For (thn (hi pins s σ H _ I h) fun v s1 h1 => thn h1 fun itv s2 h2 => ?_) hs
  obtain ⟨it, fp, tn, J, H2, e, I2, T, st2, f2, W, ⟨m0, w0⟩, turn⟩ := h2
  subst e
  -- what stays true of the iterator's objects through the loop
  have stat : ∀ {H' : Hp}, (∀ b ∈ fp, H' b = none) → ∀ b ∈ fp, FpOk X pins H' b := fun hn b hb => ⟨hn b hb, (f2 b hb).2⟩
  refine codeAny_forLoop_any (fun n s' => ∃ i σ' H', Inv X pins σ' H' s' ∧ tn i s'.heap ∧ (∀ b ∈ fp, H' b = none) ∧ W i n σ' H') ?_ m0 ⟨0, σ, H2, I2, st2, fun b hb => (f2 b hb).1, w0⟩
  rintro n s3 ⟨i, σ3, H3, I3, st3, fr3, w3⟩
  rcases turn i n σ3 H3 w3 with ⟨stop, qn⟩ | ⟨go, N, hN, step⟩
  · refine wpAny_passesOwn hp (thn (T.done X rfl rfl rfl hc i pins s3 σ3 H3 X.xe I3 (stat fr3) st3 stop) fun r s4 ⟨hr, I4⟩ => ?_)
    subst hr
    exact wpAny_execs_nil ⟨σ3, H3, I4, qn⟩
  · refine wpAny_passesOwn hp (thn (T.item X rfl rfl rfl hc i pins s3 σ3 H3 X.xe I3 (stat fr3) st3 go) fun r s4 ⟨u, hr, h4⟩ => ?_)
    subst hr
    refine wpAny_passesOwn hp (thn h4 fun _ s5 ⟨x, H5, I5, r5, y5, st5, fr5⟩ => ?_)
    have I5' := I5.pinned (stat fr5) (T.obj _ _ st5)
    refine wpAny_passesOwn hp (thn (hg _ s5 σ3 H5 x u _ I5' r5 (step x H5 y5)) fun _ s6 ⟨σ6, H6, I6, q6⟩ => ?_)
    refine wpAny_passesOwn hp (thn (hb _ s6 σ6 H6 _ I6 q6) fun f s7 q7 => ?_)
    have again : ∀ {σ7 : St} {H7 : Hp}, Inv X (pins ++ pinsAt fp s5.heap) σ7 H7 s7 → N σ7 H7 → ∃ m, m < n ∧ ∃ i σ' H', Inv X pins σ' H' s7 ∧ tn i s7.heap ∧ (∀ b ∈ fp, H' b = none) ∧ W i m σ' H' := fun {σ7 H7} I7 n7 => by
      obtain ⟨m', hm, w7⟩ := hN σ7 H7 n7
      refine ⟨m', hm, i + 1, σ7, H7, I7.unpinned, T.keep _ _ _ st5 fun b hb o e => (I7.pin (b, o) (List.mem_append_right _ (List.mem_append_right _ (mem_pinsAt hb e)))).1, fun b hb => ?_, w7⟩
      obtain ⟨o, e, d⟩ := T.obj _ _ st5 b hb
      exact (I7.pin (b, o) (List.mem_append_right _ (List.mem_append_right _ (mem_pinsAt hb e)))).2.1
    cases f with
    | next => obtain ⟨σ7, H7, I7, n7⟩ := q7; exact again I7 n7
    | cont => obtain ⟨σ7, H7, I7, n7⟩ := q7; exact again I7 n7
    | brk => obtain ⟨σ7, H7, I7, q7⟩ := q7; exact ⟨σ7, H7, I7.unpinned, q7⟩
    | ret v => obtain ⟨x7, σ7, H7, I7, r7, q7⟩ := q7; exact ⟨x7, σ7, H7, I7.unpinned, r7, q7⟩
end

/-! ### the forms one uses -/
theorem for_list {K : PySem.W.Frag} {a : Addr} {xs : List V} {g : TG} {tb : TS} {D : Ends} {σ : St} {H : Hp} (Pv : Nat → St → Hp → Prop) (h0 : Pv 0 σ H) (hl : ∀ i σ H, i ≤ xs.length → Pv i σ H → SqL K H a xs)
    (hs : ∀ i x σ H, xs[i]? = some x → Pv i σ H → g x σ H fun σ2 H2 => tb { D with nx := Pv (i + 1), ct := Pv (i + 1), bk := D.nx } σ2 H2) (hd : ∀ σ H, Pv xs.length σ H → D.nx σ H) :
    ∃ W : Nat → Nat → St → Hp → Prop, (∃ m, W 0 m σ H) ∧ ∀ i m σ H, W i m σ H →
      ((Itl K a).stop i H ∧ D.nx σ H) ∨ ((Itl K a).go i H ∧ ∃ N : St → Hp → Prop, (∀ σ' H', N σ' H' → ∃ m', m' < m ∧ W (i + 1) m' σ' H') ∧ ∀ x H', (Itl K a).yld i H x H' → g x σ H' fun σ2 H2 => tb { D with nx := N, ct := N, bk := D.nx } σ2 H2) := by
  refine ⟨fun i m σ H => m = xs.length - i ∧ i ≤ xs.length ∧ Pv i σ H, ⟨xs.length, by simp, Nat.zero_le _, h0⟩, ?_⟩
  rintro i m σ H ⟨rfl, hi, p⟩
  have q := hl i σ H hi p
  by_cases hlt : i < xs.length
  · refine .inr ⟨⟨xs, xs[i], q, by simp [hlt]⟩, Pv (i + 1), fun σ' H' p' => ⟨xs.length - (i + 1), by omega, rfl, hlt, p'⟩, fun x H' y => ?_⟩
    obtain ⟨e, y⟩ := y
    subst e
    exact hs i x σ _ (y xs q) p
  · have e : i = xs.length := by omega
    subst e
    exact .inl ⟨⟨xs, q, Nat.le_refl _⟩, hd σ H p⟩
theorem for_tup {K : PySem.W.Frag} {a : Addr} {xs : List V} {g : TG} {tb : TS} {D : Ends} {σ : St} {H : Hp} (Pv : Nat → St → Hp → Prop) (h0 : Pv 0 σ H) (hl : ∀ i σ H, i ≤ xs.length → Pv i σ H → SqT K H a xs)
    (hs : ∀ i x σ H, xs[i]? = some x → Pv i σ H → g x σ H fun σ2 H2 => tb { D with nx := Pv (i + 1), ct := Pv (i + 1), bk := D.nx } σ2 H2) (hd : ∀ σ H, Pv xs.length σ H → D.nx σ H) :
    ∃ W : Nat → Nat → St → Hp → Prop, (∃ m, W 0 m σ H) ∧ ∀ i m σ H, W i m σ H →
      ((Itt K a).stop i H ∧ D.nx σ H) ∨ ((Itt K a).go i H ∧ ∃ N : St → Hp → Prop, (∀ σ' H', N σ' H' → ∃ m', m' < m ∧ W (i + 1) m' σ' H') ∧ ∀ x H', (Itt K a).yld i H x H' → g x σ H' fun σ2 H2 => tb { D with nx := N, ct := N, bk := D.nx } σ2 H2) := by
  refine ⟨fun i m σ H => m = xs.length - i ∧ i ≤ xs.length ∧ Pv i σ H, ⟨xs.length, by simp, Nat.zero_le _, h0⟩, ?_⟩
  rintro i m σ H ⟨rfl, hi, p⟩
  have q := hl i σ H hi p
  by_cases hlt : i < xs.length
  · refine .inr ⟨⟨xs, xs[i], q, by simp [hlt]⟩, Pv (i + 1), fun σ' H' p' => ⟨xs.length - (i + 1), by omega, rfl, hlt, p'⟩, fun x H' y => ?_⟩
    obtain ⟨e, y⟩ := y
    subst e
    exact hs i x σ _ (y xs q) p
  · have e : i = xs.length := by omega
    subst e
    exact .inl ⟨⟨xs, q, Nat.le_refl _⟩, hd σ H p⟩
theorem for_range {lo : Int} {n : Nat} {g : TG} {tb : TS} {D : Ends} {σ : St} {H : Hp} (Pv : Nat → St → Hp → Prop) (h0 : Pv 0 σ H)
    (hs : ∀ i σ H, i < n → Pv i σ H → g (.int (lo + i)) σ H fun σ2 H2 => tb { D with nx := Pv (i + 1), ct := Pv (i + 1), bk := D.nx } σ2 H2) (hd : ∀ σ H, Pv n σ H → D.nx σ H) :
    ∃ W : Nat → Nat → St → Hp → Prop, (∃ m, W 0 m σ H) ∧ ∀ i m σ H, W i m σ H →
      ((Itr lo n).stop i H ∧ D.nx σ H) ∨ ((Itr lo n).go i H ∧ ∃ N : St → Hp → Prop, (∀ σ' H', N σ' H' → ∃ m', m' < m ∧ W (i + 1) m' σ' H') ∧ ∀ x H', (Itr lo n).yld i H x H' → g x σ H' fun σ2 H2 => tb { D with nx := N, ct := N, bk := D.nx } σ2 H2) := by
  refine ⟨fun i m σ H => m = n - i ∧ i ≤ n ∧ Pv i σ H, ⟨n, by simp, Nat.zero_le _, h0⟩, ?_⟩
  rintro i m σ H ⟨rfl, hi, p⟩
  by_cases hlt : i < n
  · refine .inr ⟨hlt, Pv (i + 1), fun σ' H' p' => ⟨n - (i + 1), by omega, rfl, hlt, p'⟩, fun x H' y => ?_⟩
    obtain ⟨e, y⟩ := y
    subst e y
    exact hs i σ _ hlt p
  · have e : i = n := by omega
    subst e
    exact .inl ⟨Nat.le_refl _, hd σ H p⟩
theorem while_by {c : TT} {tb : TS} {D : Ends} {σ : St} {H : Hp} (Pv : St → Hp → Prop) (μ : St → Hp → Nat) (h0 : Pv σ H)
    (hs : ∀ σ H, Pv σ H → c σ H fun b H1 => if b = true then tb { D with nx := fun σ' H' => Pv σ' H' ∧ μ σ' H' < μ σ H, ct := fun σ' H' => Pv σ' H' ∧ μ σ' H' < μ σ H, bk := D.nx } σ H1 else D.nx σ H1)
    (mono : ∀ σ H Q Q', (∀ b H1, Q b H1 → Q' b H1) → c σ H Q → c σ H Q') : tWhile c tb D σ H := by
  refine ⟨fun m σ H => m = μ σ H ∧ Pv σ H, ⟨_, rfl, h0⟩, ?_⟩
  rintro m σ H ⟨rfl, p⟩
  refine mono σ H _ _ (fun b H1 q => ?_) (hs σ H p)
  cases b with
  | true => exact ⟨_, fun σ' H' ⟨p', l⟩ => ⟨_, l, rfl, p'⟩, q⟩
  | false => exact q
end L2

namespace L2
open PySem PySem.Spec PyProof.Rows

abbrev R2 := V → V → Hp → VK → Prop
def OpR (X : Cx) (f : Value → Value → Sem Value) (r : R2) : Prop :=
  ∀ (pins : List (Addr × Obj)) (s : Shared) (σ : St) (H : Hp) (x y : V) (v u : Value) (Q : VK), Inv X pins σ H s → RelV x v → RelV y u → r x y H Q →
    wpAny (model X.prog X.w) X.A (f v u) (EP X pins σ Q) X.xe s
def UnR (X : Cx) (f : Value → Sem Value) (r : V → Hp → VK → Prop) : Prop :=
  ∀ (pins : List (Addr × Obj)) (s : Shared) (σ : St) (H : Hp) (x : V) (v : Value) (Q : VK), Inv X pins σ H s → RelV x v → r x H Q →
    wpAny (model X.prog X.w) X.A (f v) (EP X pins σ Q) X.xe s
def CallR (X : Cx) (f : Value) (r : List V → Hp → VK → Prop) : Prop :=
  ∀ (pins : List (Addr × Obj)) (s : Shared) (σ : St) (H : Hp) (xs : List V) (us : List Value) (Q : VK), Inv X pins σ H s → Vals xs us → r xs H Q →
    wpAny (model X.prog X.w) X.A (call f us) (EP X pins σ Q) X.xe s
def tOp (r : R2) (ta tb : TE) : TE := fun σ H Q => ta σ H fun x H1 => tb σ H1 fun y H2 => r x y H2 Q
def tUn (r : V → Hp → VK → Prop) (ta : TE) : TE := fun σ H Q => ta σ H fun x H1 => r x H1 Q
def rI (C : Int → Int → Prop) (g : Int → Int → V) : R2 := fun x y H Q => ∃ i j, x = .int i ∧ y = .int j ∧ C i j ∧ Q (g i j) H
def rI0 (g : Int → Int → V) : R2 := fun x y H Q => ∃ i j, x = .int i ∧ y = .int j ∧ Q (g i j) H
def rU (g : Int → V) : V → Hp → VK → Prop := fun x H Q => ∃ i, x = .int i ∧ Q (g i) H

section
variable {X : Cx} {a b c : Expr} {ta tb tc : TE} {pos : Pos}

theorem binT (ha : PE X a ta) (hb : PE X b tb) {pins : List (Addr × Obj)} {s : Shared} {σ : St} {H : Hp} {R : V → V → Hp → Prop} (I : Inv X pins σ H s)
    (h : ta σ H fun x H1 => tb σ H1 fun y H2 => R x y H2) {Q : Value → Shared → Prop} {f : Value → Value → Sem Value}
    (hf : ∀ v u s2 x y H2, Inv X pins σ H2 s2 → RelV x v → RelV y u → R x y H2 → wpAny (model X.prog X.w) X.A (f v u) Q X.xe s2) :
    wpAny (model X.prog X.w) X.A (eval a X.env) (fun v s₁ => wpAny (model X.prog X.w) X.A (eval b X.env) (fun u s₂ => wpAny (model X.prog X.w) X.A (f v u) Q X.xe s₂) X.xe s₁) X.xe s := by
  refine thn (ha pins s σ H _ I h) fun v s1 ⟨x, H1, I1, r1, q1⟩ => ?_
  refine thn (hb pins s1 σ H1 _ I1 q1) fun u s2 ⟨y, H2, I2, r2, q2⟩ => ?_
  exact hf v u s2 x y H2 I2 r1 r2 q2

theorem pe_op {op : Operator} {r : R2} (ho : OpR X (binaryOp op) r) (ha : PE X a ta) (hb : PE X b tb) : PE X (.BinOp a op b pos) (tOp r ta tb) := by
  intro pins s σ H Q I h
  exact wpAny_BinOp (binT ha hb I h fun v u s2 x y H2 I2 rx ry q => ho pins s2 σ H2 x y v u Q I2 rx ry q)
theorem pe_un {op : UnaryOp} {r : V → Hp → VK → Prop} (ho : UnR X (unaryOp op) r) (ha : PE X a ta) : PE X (.UnaryOp op a pos) (tUn r ta) := by
  intro pins s σ H Q I h
  exact UnaryOp_ (thn (ha pins s σ H _ I h) fun v s1 ⟨x, H1, I1, r1, q1⟩ => ho pins s1 σ H1 x v Q I1 r1 q1)
/-! ### ints -/
theorem opI {f : Value → Value → Sem Value} {C : Int → Int → Prop} {g : Int → Int → Int}
    (rule : ∀ (i j : Int) (t u : Tok) (s : Shared) (Q : Value → Shared → Prop) (E : Value → Shared → Prop), C i j → Q (.int (g i j) s.toks) { s with toks := s.toks + 1 } → wpAny (model X.prog X.w) X.A (f (.int i t) (.int j u)) Q E s) :
    OpR X f (rI C fun i j => .int (g i j)) := by
  intro pins s σ H x y v u Q I rx ry h
  obtain ⟨i, j, rfl, rfl, hc, q⟩ := h
  obtain ⟨t, rfl⟩ := rx
  obtain ⟨t', rfl⟩ := ry
  exact rule i j t t' s _ _ hc ⟨.int (g i j), H, I.tok _, ⟨_, rfl⟩, q⟩
theorem opI0 {f : Value → Value → Sem Value} {g : Int → Int → Int}
    (rule : ∀ (i j : Int) (t u : Tok) (s : Shared) (Q : Value → Shared → Prop) (E : Value → Shared → Prop), Q (.int (g i j) s.toks) { s with toks := s.toks + 1 } → wpAny (model X.prog X.w) X.A (f (.int i t) (.int j u)) Q E s) :
    OpR X f (rI0 fun i j => .int (g i j)) := by
  intro pins s σ H x y v u Q I rx ry h
  obtain ⟨i, j, rfl, rfl, q⟩ := h
  obtain ⟨t, rfl⟩ := rx
  obtain ⟨t', rfl⟩ := ry
  exact rule i j t t' s _ _ ⟨.int (g i j), H, I.tok _, ⟨_, rfl⟩, q⟩
theorem opB0 {f : Value → Value → Sem Value} {g : Int → Int → Bool}
    (rule : ∀ (i j : Int) (t u : Tok) (s : Shared) (Q : Value → Shared → Prop) (E : Value → Shared → Prop), Q (.bool (g i j)) s → wpAny (model X.prog X.w) X.A (f (.int i t) (.int j u)) Q E s) :
    OpR X f (rI0 fun i j => .bl (g i j)) := by
  intro pins s σ H x y v u Q I rx ry h
  obtain ⟨i, j, rfl, rfl, q⟩ := h
  obtain ⟨t, rfl⟩ := rx
  obtain ⟨t', rfl⟩ := ry
  exact rule i j t t' s _ _ ⟨.bl (g i j), H, I, rfl, q⟩

def CDiv (i j : Int) : Prop := 0 < j ∧ j < 1073741824
def CPow (i j : Int) : Prop := 0 ≤ j ∧ j ≤ 1000000 ∧ i.natAbs < 2 ^ 64
def CMul (i j : Int) : Prop := (-(2 ^ 64) < i ∧ i < 2 ^ 64) ∨ (-(2 ^ 64) < j ∧ j < 2 ^ 64)
theorem CMul.ok {i j : Int} (h : CMul i j) : IntMulOk i j := by
  rcases h with ⟨h1, h2⟩ | ⟨h1, h2⟩
  · exact .of_left (intBits_le_64 h1 h2)
  · exact .of_right (intBits_le_64 h1 h2)
theorem op_add : OpR X (binaryOp .Add) (rI0 fun i j => .int (i + j)) := opI0 fun _ _ _ _ _ _ _ q => add_int q
theorem op_sub : OpR X (binaryOp .Sub) (rI0 fun i j => .int (i - j)) := opI0 fun _ _ _ _ _ _ _ q => sub_int q
theorem op_mul : OpR X (binaryOp .Mult) (rI CMul fun i j => .int (i * j)) := opI fun _ _ _ _ _ _ _ hc q => mul_int q hc.ok
theorem op_fdiv : OpR X (binaryOp .FloorDiv) (rI CDiv fun i j => .int (i / j)) := opI fun i j _ _ _ _ _ hc q => by
  have h1 : (0 : Int) < j := hc.1
  have h2 : j < 1073741824 := hc.2
  exact floordiv_int (by omega) (by rw [Int.fdiv_eq_ediv_of_nonneg i (by omega)]; exact q) (.inl (PyProof.noPylong_small (by omega)))
theorem op_mod : OpR X (binaryOp .Mod) (rI (fun _ j => 0 < j) fun i j => .int (i % j)) := opI fun i j _ _ _ _ _ hc q => by
  have h1 : (0 : Int) < j := hc
  exact mod_int' (by omega) (by rw [Int.fmod_eq_emod_of_nonneg i (by omega)]; exact q)
theorem op_pow : OpR X (binaryOp .Pow) (rI CPow fun i j => .int (i ^ j.toNat)) := opI fun _ _ _ _ _ _ _ hc q => pow_int_small hc.1 hc.2.1 hc.2.2 q
theorem unI {f : Value → Sem Value} {g : Int → Int}
    (rule : ∀ (i : Int) (t : Tok) (s : Shared) (Q : Value → Shared → Prop) (E : Value → Shared → Prop), Q (.int (g i) s.toks) { s with toks := s.toks + 1 } → wpAny (model X.prog X.w) X.A (f (.int i t)) Q E s) :
    UnR X f (rU fun i => .int (g i)) := by
  intro pins s σ H x v Q I rx h
  obtain ⟨i, rfl, q⟩ := h
  obtain ⟨t, rfl⟩ := rx
  exact rule i t s _ _ ⟨.int (g i), H, I.tok _, ⟨_, rfl⟩, q⟩
theorem un_neg : UnR X (unaryOp .USub) (rU fun i => .int (-i)) := unI fun _ _ _ _ _ q => neg_int q
/-! ### bools among ints: n += (a < b) -/
end

/-! ### comparisons -/
def scal : V → V → Bool
  | .non, .non => true | .non, .int _ => true | .int _, .non => true | .non, .bl _ => true | .bl _, .non => true | .non, .str _ => true | .str _, .non => true
  | .int _, .int _ => true | .bl _, .bl _ => true | .str _, .str _ => true | .byt _, .byt _ => true
  | .int _, .str _ => true | .str _, .int _ => true | .bl _, .str _ => true | .str _, .bl _ => true
  | _, _ => false
def rEq : R2 := fun x y H Q => scal x y = true ∧ Q (.bl (decide (x = y))) H
def rNe : R2 := fun x y H Q => scal x y = true ∧ Q (.bl (!decide (x = y))) H

theorem dec_int {i j : Int} : decide (V.int i = V.int j) = (i == j) := by
  rw [Bool.eq_iff_iff]
  simp
theorem dec_bl {i j : Bool} : decide (V.bl i = V.bl j) = (i == j) := by
  rw [Bool.eq_iff_iff]
  simp
theorem dec_str {i j : Str} : decide (V.str i = V.str j) = (i == j) := by
  rw [Bool.eq_iff_iff]
  simp
theorem dec_byt {i j : Array UInt8} : decide (V.byt i = V.byt j) = (i.toList == j.toList) := by
  rw [Bool.eq_iff_iff]
  cases i
  cases j
  simp

section
variable {X : Cx} {a b c : Expr} {ta tb tc : TE} {pos : Pos}
theorem fin_bl {pins : List (Addr × Obj)} {σ : St} {H : Hp} {s : Shared} {Q : VK} {k k' : Bool} (I : Inv X pins σ H s) (q : Q (.bl k) H) (e : k = k') : EP X pins σ Q (.bool k') s := by
  subst e
  exact ⟨.bl k, H, I, rfl, q⟩
theorem op_eq : OpR X (compareOp .Eq) rEq := by
  intro pins s σ H x y v u Q I rx ry h
  obtain ⟨hs, q⟩ := h
  cases x with
  | non =>
    cases rx
    cases y with
    | non => cases ry; exact PySem.EqNone.eq_none_none (fin_bl I q (by simp))
    | bl j => cases ry; exact PySem.EqNone.eq_none_bool (fin_bl I q (by simp))
    | int j => obtain ⟨t', rfl⟩ := ry; exact PySem.EqNone.eq_none_int (fin_bl I q (by simp))
    | str j => obtain ⟨t', rfl⟩ := ry; exact PySem.EqNone.eq_none_str (fin_bl I q (by simp))
    | _ => exact absurd (show false = true from hs) Bool.false_ne_true
  | bl i =>
    cases rx
    cases y with
    | non => cases ry; exact PySem.EqNone.eq_bool_none (fin_bl I q (by simp))
    | bl j => cases ry; exact eq_bool (fin_bl I q dec_bl)
    | str j => obtain ⟨t', rfl⟩ := ry; exact PySem.EqMixed.eq_bool_str (fin_bl I q (by simp))
    | _ => exact absurd (show false = true from hs) Bool.false_ne_true
  | int i =>
    obtain ⟨t, rfl⟩ := rx
    cases y with
    | non => cases ry; exact PySem.EqNone.eq_int_none (fin_bl I q (by simp))
    | int j => obtain ⟨t', rfl⟩ := ry; exact eq_int (fin_bl I q dec_int)
    | str j => obtain ⟨t', rfl⟩ := ry; exact PySem.EqMixed.eq_int_str (fin_bl I q (by simp))
    | _ => exact absurd (show false = true from hs) Bool.false_ne_true
  | str i =>
    obtain ⟨t, rfl⟩ := rx
    cases y with
    | non => cases ry; exact PySem.EqNone.eq_str_none (fin_bl I q (by simp))
    | bl j => cases ry; exact PySem.EqMixed.eq_str_bool (fin_bl I q (by simp))
    | int j => obtain ⟨t', rfl⟩ := ry; exact PySem.EqMixed.eq_str_int (fin_bl I q (by simp))
    | str j => obtain ⟨t', rfl⟩ := ry; exact eq_str (fin_bl I q dec_str)
    | _ => exact absurd (show false = true from hs) Bool.false_ne_true
  | byt i =>
    obtain ⟨t, rfl⟩ := rx
    cases y with
    | byt j => obtain ⟨t', rfl⟩ := ry; exact PySem.W.eq_bytes (fin_bl I q dec_byt)
    | _ => exact absurd (show false = true from hs) Bool.false_ne_true
  | _ => cases y <;> exact absurd (show false = true from hs) Bool.false_ne_true
theorem op_ne : OpR X (compareOp .NotEq) rNe := by
  intro pins s σ H x y v u Q I rx ry h
  obtain ⟨hs, q⟩ := h
  cases x with
  | non =>
    cases rx
    cases y with
    | non => cases ry; exact PySem.EqNone.ne_none_none (fin_bl I q (by simp))
    | bl j => cases ry; exact PySem.EqNone.ne_none_bool (fin_bl I q (by simp))
    | int j => obtain ⟨t', rfl⟩ := ry; exact PySem.EqNone.ne_none_int (fin_bl I q (by simp))
    | str j => obtain ⟨t', rfl⟩ := ry; exact PySem.EqNone.ne_none_str (fin_bl I q (by simp))
    | _ => exact absurd (show false = true from hs) Bool.false_ne_true
  | bl i =>
    cases rx
    cases y with
    | non => cases ry; exact PySem.EqNone.ne_bool_none (fin_bl I q (by simp))
    | bl j => cases ry; exact ne_bool (fin_bl I q (congrArg not dec_bl))
    | str j => obtain ⟨t', rfl⟩ := ry; exact PySem.EqMixed.ne_bool_str (fin_bl I q (by simp))
    | _ => exact absurd (show false = true from hs) Bool.false_ne_true
  | int i =>
    obtain ⟨t, rfl⟩ := rx
    cases y with
    | non => cases ry; exact PySem.EqNone.ne_int_none (fin_bl I q (by simp))
    | int j => obtain ⟨t', rfl⟩ := ry; exact ne_int (fin_bl I q (congrArg not dec_int))
    | str j => obtain ⟨t', rfl⟩ := ry; exact PySem.EqMixed.ne_int_str (fin_bl I q (by simp))
    | _ => exact absurd (show false = true from hs) Bool.false_ne_true
  | str i =>
    obtain ⟨t, rfl⟩ := rx
    cases y with
    | non => cases ry; exact PySem.EqNone.ne_str_none (fin_bl I q (by simp))
    | bl j => cases ry; exact PySem.EqMixed.ne_str_bool (fin_bl I q (by simp))
    | int j => obtain ⟨t', rfl⟩ := ry; exact PySem.EqMixed.ne_str_int (fin_bl I q (by simp))
    | str j => obtain ⟨t', rfl⟩ := ry; exact ne_str (fin_bl I q (congrArg not dec_str))
    | _ => exact absurd (show false = true from hs) Bool.false_ne_true
  | byt i =>
    obtain ⟨t, rfl⟩ := rx
    cases y with
    | byt j => obtain ⟨t', rfl⟩ := ry; exact PySem.W.ne_bytes (fin_bl I q (congrArg not dec_byt))
    | _ => exact absurd (show false = true from hs) Bool.false_ne_true
  | _ => cases y <;> exact absurd (show false = true from hs) Bool.false_ne_true

theorem op_lt : OpR X (compareOp .Lt) (rI0 fun i j => .bl (decide (i < j))) := opB0 fun _ _ _ _ _ _ _ q => lt_int q
theorem op_gt : OpR X (compareOp .Gt) (rI0 fun i j => .bl (decide (j < i))) := opB0 fun _ _ _ _ _ _ _ q => gt_int q
theorem op_ge : OpR X (compareOp .GtE) (rI0 fun i j => .bl (decide (j ≤ i))) := opB0 fun _ _ _ _ _ _ _ q => ge_int q
theorem nomark (b : Expr) {op : CmpOp} (h : op ≠ .In := by decide) (h2 : op ≠ .NotIn := by decide) : behindInMarks op b = false := by
  have e1 : (op == CmpOp.In) = false := by cases op <;> first | rfl | exact absurd rfl h
  have e2 : (op == CmpOp.NotIn) = false := by cases op <;> first | rfl | exact absurd rfl h2
  cases b <;> simp [behindInMarks, e1, e2]
theorem pe_cmpR {op : CmpOp} {r : R2} (ho : OpR X (compareOp op) r) (ha : PE X a ta) (hb : PE X b tb) (hm : behindInMarks op b = false) : PE X (.Compare a [op] [b] pos) (tOp r ta tb) := by
  intro pins s σ H Q I h
  exact wpAny_Compare1 (binT ha hb I h fun v u s2 x y H2 I2 rx ry q => ho pins s2 σ H2 x y v u Q I2 rx ry q) hm
def tTest (t : TE) : TT := fun σ H Q => t σ H fun x H' => ∃ k, x = .bl k ∧ Q k H'
theorem pt_cmpR {op : CmpOp} {r : R2} (ho : OpR X (compareOp op) r) (ha : PE X a ta) (hb : PE X b tb) (hm : behindInMarks op b = false) : PT X (.Compare a [op] [b] pos) (tTest (tOp r ta tb)) := by
  intro pins s σ H Q I h
  refine wpAny_isTrue_Compare1 (thn (ha pins s σ H _ I h) fun v s1 ⟨x, H1, I1, r1, q1⟩ => thn (hb pins s1 σ H1 _ I1 q1) fun u s2 ⟨y, H2, I2, r2, q2⟩ =>
    thn (ho pins s2 σ H2 x y v u _ I2 r1 r2 q2) fun c s3 ⟨z, H3, I3, r3, k, e, q3⟩ => ?_) hm
  subst e
  cases r3
  exact wpAny_truthy_bool ⟨H3, I3, q3⟩
/-! ### truth -/
theorem line63 : (sizeLine : Nat) < 2 ^ 63 := by rw [sizeLine_eq]; decide
/-! ### strs and bytes -/
/-! ### scalar builtins, by CallR -/
theorem vals1 {x : V} {us : List Value} (r : Vals [x] us) : ∃ u, us = [u] ∧ RelV x u := by
  cases r with
  | cons r1 r2 => cases r2; exact ⟨_, rfl, r1⟩
theorem vals2 {x y : V} {us : List Value} (r : Vals [x, y] us) : ∃ u w', us = [u, w'] ∧ RelV x u ∧ RelV y w' := by
  cases r with
  | cons r1 r2 =>
    cases r2 with
    | cons r3 r4 => cases r4; exact ⟨_, _, rfl, r1, r3⟩
theorem call_max2 (hc : X.calm = true) : CallR X (.builtin "max") (fun xs H Q => ∃ i j, xs = [.int i, .int j] ∧ Q (.int (if j > i then j else i)) H) := by
  intro pins s σ H xs us Q I r h
  obtain ⟨i, j, rfl, q⟩ := h
  obtain ⟨u, w', rfl, ⟨t, rfl⟩, ⟨t', rfl⟩⟩ := vals2 r
  refine max_two_ints (I.ok.hd hc) fun h' tk k => ⟨_, H, I.kept k, ?_, q⟩
  by_cases hj : j > i
  · rw [if_pos hj, if_pos hj]; exact ⟨_, rfl⟩
  · rw [if_neg hj, if_neg hj]; exact ⟨_, rfl⟩
theorem call_min2 (hc : X.calm = true) : CallR X (.builtin "min") (fun xs H Q => ∃ i j, xs = [.int i, .int j] ∧ Q (.int (if j < i then j else i)) H) := by
  intro pins s σ H xs us Q I r h
  obtain ⟨i, j, rfl, q⟩ := h
  obtain ⟨u, w', rfl, ⟨t, rfl⟩, ⟨t', rfl⟩⟩ := vals2 r
  refine min_two_ints (I.ok.hd hc) fun h' tk k => ⟨_, H, I.kept k, ?_, q⟩
  by_cases hj : j < i
  · rw [if_pos hj, if_pos hj]; exact ⟨_, rfl⟩
  · rw [if_neg hj, if_neg hj]; exact ⟨_, rfl⟩
theorem call_int1 : CallR X (.type "int") (fun xs H Q => (∃ i, xs = [.int i] ∧ Q (.int i) H) ∨ ∃ k, xs = [.bl k] ∧ Q (.int (if k then 1 else 0)) H) := by
  intro pins s σ H xs us Q I r h
  rcases h with ⟨i, rfl, q⟩ | ⟨k, rfl, q⟩
  · obtain ⟨u, rfl, t, rfl⟩ := vals1 r
    exact call_int_int ⟨.int i, H, I, ⟨_, rfl⟩, q⟩
  · obtain ⟨u, rfl, r1⟩ := vals1 r
    cases r1
    exact call_int_bool ⟨.int (if k then 1 else 0), H, I.tok _, ⟨_, rfl⟩, q⟩
end
end L2

namespace L2
open PySem PySem.Spec PyProof.Rows

/-! ### an instance, its attributes a map -/
structure ObjM (h : Heap) (x dx C : Addr) (mA : Str → Option Value) : Prop where
  obj : h.get? x = some (PySem.W.instObj C dx)
  ns : h.Ns1 dx mA
  ne : dx ≠ x

theorem lookIn_ns {h : Heap} {dx : Addr} {mA : Str → Option Value} (n : h.Ns1 dx mA) : ∃ od, h.get? dx = some od ∧ ∀ name, PySem.W.lookIn name od = some (mA name) := by
  obtain ⟨o, es, ep, ho, hd, hk, _, hm⟩ := n
  refine ⟨o, ho, fun name => ?_⟩
  have e := hm name
  unfold nsFind findBy at e
  rw [← Array.find?_toList] at e
  unfold PySem.W.lookIn
  rw [hd]
  dsimp only
  split
  · rename_i y q
    rw [q] at e
    exact congrArg some e
  · rename_i q
    rw [q] at e
    have a : es.toList.any (·.refKey) = false := by
      rw [List.any_eq_false]
      intro y hy
      obtain ⟨z, t, hkey⟩ := hk y (Array.mem_toList_iff.mp hy)
      simp [DictEntry.refKey, hkey]
    have a' : ¬ es.toList.any (·.refKey) = true := by rw [a]; exact Bool.false_ne_true
    rw [if_neg a']
    exact congrArg some e

theorem ObjM.look {h : Heap} {x dx C : Addr} {mA : Str → Option Value} (I : ObjM h x dx C mA) : ∃ od, PySem.W.InstAt h x (PySem.W.instObj C dx) C (some od) ∧ ∀ name, PySem.W.lookIn name od = some (mA name) :=
  let ⟨od, ho, hl⟩ := lookIn_ns I.ns
  ⟨od, ⟨I.obj, rfl, rfl, ho⟩, hl⟩

section
variable {prog : Program} {w : World} {A : Around} {E : Value → Shared → Prop} {s : Shared} {K : PySem.W.Frag} {x dx C f : Addr} {mA : Str → Option Value} {name : Str} {v : Value}

theorem get_map {expr : Bool} {Q : Value → Shared → Prop} (X : K.In s.heap) (I : ObjM s.heap x dx C mA) (hg : PySem.W.plainGet K C name = true) (hh : PySem.W.hasDictIn K C = true)
    (ha : PySem.W.findIn K (.ref C) name = some none) (hv : mA name = some v) (hv' : PySem.W.handedIn v = true) (h : Q v { s with toks := s.toks + 1 }) :
    wpAny (model prog w) A (getAttr (.ref x) name expr) Q E s := by
  obtain ⟨od, J, hl⟩ := I.look
  exact PySem.W.get_value X J (PySem.W.plainGet_of hg).1 (PySem.W.findObj_own hh ha rfl (by rw [hl, hv])) hv' h

theorem get_meth {pl : Sem Bool} {Q : Value × List Value → Shared → Prop} (X : K.In s.heap) (I : ObjM s.heap x dx C mA) (hg : PySem.W.plainGet K C name = true)
    (hf : PySem.W.findIn K (.ref C) name = some (some (.ref f))) (ht : PySem.W.isFn K (.ref f) = true) (hv : mA name = none) (h : Q (.ref f, [.ref x]) s) :
    wpAny (model prog w) A (getMethod (.ref x) name pl) Q E s := by
  obtain ⟨od, J, hl⟩ := I.look
  exact PySem.W.method_fn X J (PySem.W.plainGet_of hg).1 (PySem.W.plainGet_of hg).2 hf (beq_iff_eq.mp ht) (by show (PySem.W.lookIn name od).map (·.isSome) = some false; rw [hl, hv]; rfl) h

theorem set_map {ns : List Str} {Q : Unit → Shared → Prop} (X : K.In s.heap) (I : ObjM s.heap x dx C mA)
    (hs : PySem.W.findIn K (.ref C) "__setattr__" = some (some (.builtin "object.__setattr__"))) (hp : PySem.W.plainOver K C = true) (ht : PySem.W.takerIn K C name = some none) (hh : PySem.W.hasDictIn K C = true)
    (hw : PySem.Within mA ns) (hsz : ns.length ≤ sizeLine)
    (h : ∀ h', ObjM h' x dx C (fun y => if y = name then some v else mA y) → Heap.SameBut dx s.heap h' → Q () { s with heap := h', toks := s.toks + 2 }) :
    wpAny (model prog w) A (setAttr (.ref x) name v) Q E s := by
  obtain ⟨od, J, hl⟩ := I.look
  refine PySem.W.set_plain X J hs (PySem.W.osa_open (s := { s with toks := s.toks + 1 }) (r := none) X J hp ht fun b => ?_)
  obtain ⟨cd, hc, hd'⟩ := PySem.W.any_some hh
  have hx : s.heap.get? x = some ⟨.ref C, some dx, .plain, #[]⟩ := I.obj
  refine wpAny_bind (wpAny_pure (wpAny_bind (wpAny_bind (wpAny_loadPart hx (wpAny_bind (PySem.W.Looks.here (s := { s with toks := s.toks + 1 }) (PySem.W.looks_clsIn X hc) ?_))))))
  rw [hd']
  refine wpAny_pure (a := some dx) (wpAny_bind (wpAny_pure (wpAny_bind ?_)))
  refine wpAny_nsSet1 (s := { s with toks := s.toks + 1 }) I.ns fun h' hn2 hs2 => ?_
  obtain ⟨oD, esD, epD, hoD, hdD, hcD⟩ := hn2.count (PySem.Within.cons name v hw)
  refine wpAny_bind (wpAny_lookBehind hoD (by rw [hdD]; exact pastItsLine_dict (Nat.le_trans hcD (by rw [List.length_cons]; omega))) ?_)
  exact wpAny_pure (h _ ⟨(hs2.2 _ (Ne.symm I.ne)).trans I.obj, hn2, I.ne⟩ hs2)

theorem make_map {R : Result → Shared → Prop} {vs : List Value} {kw : List (Str × Value)} (X : K.In s.heap) (hm : PySem.W.makesIn K C = true)
    (hi : PySem.W.findIn K (.ref C) "__init__" = some (some (.ref f))) (hf : PySem.W.typeIn K (.ref f) = some (.type "function"))
    (h : codeAny (model prog w) (A.under (.builtin "type.__call__" ⟨.ref C :: vs, kw⟩)) (.call (.ref f) ⟨.ref (s.heap.objs.size + 1) :: vs, kw⟩) (PySem.W.InitBack (s.heap.objs.size + 1) R)
      { s with heap := (s.heap.push PySem.W.emptyDict).push (PySem.W.instObj C s.heap.objs.size) }) :
    codeAny (model prog w) A (.call (.ref C) ⟨vs, kw⟩) R s := by
  obtain ⟨hh, g, d, t, os⟩ := s
  exact PySem.W.make_core (PySem.W.makes_of X hm) (PySem.W.looks_findIn X hi) (fun self => PySem.W.bind_fn X self hf) (.inl rfl) h
end

/-! ### the attributes as a list of pairs -/
def putF (f : Str) (v : V) : List (Str × V) → List (Str × V)
  | [] => [(f, v)]
  | (g, x) :: r => if g = f then (g, v) :: r else (g, x) :: putF f v r
theorem lookup_putF (f g : Str) (v : V) : ∀ fs : List (Str × V), (putF f v fs).lookup g = if g = f then some v else fs.lookup g
  | [] => by
    show List.lookup g [(f, v)] = _
    by_cases h : g = f
    · have hb : (g == f) = true := beq_iff_eq.mpr h
      simp only [List.lookup, hb, if_pos h]
    · have hb : (g == f) = false := beq_eq_false_iff_ne.mpr h
      simp only [List.lookup, hb, if_neg h]
  | (k, x) :: r => by
    have ih := lookup_putF f g v r
    rw [show putF f v ((k, x) :: r) = (if k = f then (k, v) :: r else (k, x) :: putF f v r) from rfl]
    by_cases hk : k = f
    · rw [if_pos hk]
      by_cases h : g = k
      · have hb : (g == k) = true := beq_iff_eq.mpr h
        simp only [List.lookup, hb, if_pos (h.trans hk)]
      · have hb : (g == k) = false := beq_eq_false_iff_ne.mpr h
        simp only [List.lookup, hb, if_neg (fun e : g = f => h (e.trans hk.symm))]
    · rw [if_neg hk]
      by_cases h : g = k
      · have hb : (g == k) = true := beq_iff_eq.mpr h
        simp only [List.lookup, hb, if_neg (fun e : g = f => hk (h.symm.trans e))]
      · have hb : (g == k) = false := beq_eq_false_iff_ne.mpr h
        simp only [List.lookup, hb]
        exact ih
theorem keys_putF (f : Str) (v : V) : ∀ fs : List (Str × V), f ∈ (putF f v fs).map (·.1) ∧ ∀ g, g ∈ fs.map (·.1) → g ∈ (putF f v fs).map (·.1)
  | [] => ⟨by simp [putF], fun g h => by simp at h⟩
  | (k, x) :: r => by
    obtain ⟨i1, i2⟩ := keys_putF f v r
    rw [show putF f v ((k, x) :: r) = (if k = f then (k, v) :: r else (k, x) :: putF f v r) from rfl]
    by_cases hk : k = f
    · rw [if_pos hk]
      subst hk
      exact ⟨by simp, fun g h => by simpa using h⟩
    · rw [if_neg hk]
      refine ⟨?_, fun g h => ?_⟩
      · rw [List.map_cons]
        exact List.mem_cons_of_mem _ i1
      · rw [List.map_cons] at h ⊢
        rcases List.mem_cons.mp h with e | e
        · exact List.mem_cons.mpr (.inl e)
        · exact List.mem_cons_of_mem _ (i2 g e)
theorem length_putF (f : Str) (v : V) : ∀ fs : List (Str × V), (putF f v fs).length ≤ fs.length + 1
  | [] => by simp [putF]
  | (k, x) :: r => by
    have ih := length_putF f v r
    rw [show putF f v ((k, x) :: r) = (if k = f then (k, v) :: r else (k, x) :: putF f v r) from rfl]
    by_cases hk : k = f
    · rw [if_pos hk, List.length_cons, List.length_cons]; omega
    · rw [if_neg hk, List.length_cons, List.length_cons]; omega

theorem RelO.some_of {v : V} {o : Option Value} (r : RelO (some v) o) : ∃ u, o = some u ∧ RelV v u := by
  cases o with
  | none => exact (show False from r).elim
  | some u => exact ⟨u, rfl, r⟩
theorem RelO.none_of {o : Option Value} (r : RelO none o) : o = none := by
  cases o with
  | none => rfl
  | some u => exact (show False from r).elim
theorem handed_of {v : V} {u : Value} (r : RelV v u) : PySem.W.handedIn u = true := by
  cases v with
  | non => cases (show u = Value.none from r); rfl
  | bl b => cases (show u = Value.bool b from r); rfl
  | int i => obtain ⟨t, e⟩ := (show ∃ t, u = Value.int i t from r); cases e; rfl
  | str x => obtain ⟨t, e⟩ := (show ∃ t, u = Value.str x t from r); cases e; rfl
  | byt b => obtain ⟨t, e⟩ := (show ∃ t, u = Value.bytes b t from r); cases e; rfl
  | flt b => obtain ⟨t, e⟩ := (show ∃ t, u = Value.float b t from r); cases e; rfl
  | ref a => cases (show u = Value.ref a from r); rfl
  | ty n => cases (show u = Value.type n from r); rfl

section
variable {P : Program} {w : World} {H H' : Hp} {h h' : Heap} {a C dx : Addr} {fs fs' : List (Str × V)}
theorem ins_get (hok : HOk P w H h) (e : H a = some (.ins C dx fs)) : ∃ mA, ObjM h a dx C mA ∧ (∀ f, RelO (fs.lookup f) (mA f)) ∧ PySem.Within mA (fs.map (·.1)) ∧ fs.length ≤ 1000 ∧ H dx = some (.own a) := by
  obtain ⟨d, z, ne, ob, mA, n, r, q⟩ := (show ObjOk P w H h a (.ins C dx fs) from hok a _ e)
  exact ⟨mA, ⟨ob, n, ne⟩, r, q, z, d⟩
end

/-! ### what of the text a class must have -/
structure Cls (K : PySem.W.Frag) (C : Addr) : Prop where
  pg : PySem.W.plainGet K C Str.empty = true
  hd : PySem.W.hasDictIn K C = true
  po : PySem.W.plainOver K C = true
  sa : PySem.W.findIn K (.ref C) "__setattr__" = some (some (.builtin "object.__setattr__"))
theorem Cls.get {K : PySem.W.Frag} {C : Addr} (c : Cls K C) (f : Str) : PySem.W.plainGet K C f = true := c.pg
def NoAttr (K : PySem.W.Frag) (C : Addr) (f : Str) : Prop := PySem.W.findIn K (.ref C) f = some none
theorem NoAttr.taker {K : PySem.W.Frag} {C : Addr} {f : Str} (n : NoAttr K C f) : PySem.W.takerIn K C f = some none := by
  unfold PySem.W.takerIn
  rw [show PySem.W.findIn K (.ref C) f = some none from n]
  rfl
structure Meth (K : PySem.W.Frag) (C : Addr) (m : Str) (f : Addr) : Prop where
  at_ : PySem.W.findIn K (.ref C) m = some (some (.ref f))
  fn : PySem.W.isFn K (.ref f) = true
  kp : PySem.W.keepIn K (.ref f) = true

section
variable {X : Cx} {pins : List (Addr × Obj)} {σ : St} {H : Hp} {s : Shared} {a C dx : Addr} {fs : List (Str × V)} {f : Str} {v : V} {A : Around} {E : Value → Shared → Prop}

theorem getattr_ok {b : Bool} {Q : Value → Shared → Prop} (I : Inv X pins σ H s) (e : H a = some (.ins C dx fs)) (c : Cls X.K C) (n : NoAttr X.K C f) (l : fs.lookup f = some v)
    (h : ∀ u s', Inv X pins σ H s' → RelV v u → Q u s') : wpAny (model X.prog X.w) A (getAttr (.ref a) f b) Q E s := by
  obtain ⟨mA, O, r, _, _, _⟩ := ins_get I.hok e
  obtain ⟨u, hu, ru⟩ := RelO.some_of (v := v) (o := mA f) (by rw [← l]; exact r f)
  exact get_map I.kIn O (c.get f) c.hd n hu (handed_of ru) (h u _ (I.tok _) ru)

theorem getmeth_ok {m : Str} {g : Addr} {pl : Sem Bool} {Q : Value × List Value → Shared → Prop} (I : Inv X pins σ H s) (e : H a = some (.ins C dx fs)) (c : Cls X.K C) (k : Meth X.K C m g) (l : fs.lookup m = none)
    (h : Q (.ref g, [.ref a]) s) : wpAny (model X.prog X.w) A (getMethod (.ref a) m pl) Q E s := by
  obtain ⟨mA, O, r, _, _, _⟩ := ins_get I.hok e
  have hn : mA m = none := RelO.none_of (by rw [← l]; exact r m)
  exact get_meth I.kIn O (c.get m) k.at_ k.fn hn h

theorem setattr_ok {y : V} {u : Value} {Q : Unit → Shared → Prop} (I : Inv X pins σ H s) (e : H a = some (.ins C dx fs)) (c : Cls X.K C) (n : NoAttr X.K C f) (hl : fs.length < 1000) (ry : RelV y u)
    (h : ∀ s', Inv X pins σ (upd H a (.ins C dx (putF f y fs))) s' → Q () s') : wpAny (model X.prog X.w) A (setAttr (.ref a) f u) Q E s := by
  obtain ⟨mA, O, r, wi, _, ho⟩ := ins_get I.hok e
  have hz : (fs.map (·.1)).length ≤ sizeLine := by rw [List.length_map, sizeLine_eq]; omega
  refine set_map I.kIn O c.sa c.po n.taker c.hd wi hz fun h' O' sb => h _ ?_
  have hd : ∃ o, h'.get? dx = some o := let ⟨o, _, _, e', _⟩ := O'.ns; ⟨o, e'⟩
  refine I.write (x := a) (e := dx) (by rw [e]; exact True.intro) (.inr ho) (fun b q hb z => (sb.2 b hb).trans z) hd ?_
  refine ⟨by rw [upd_ne O.ne]; exact ho, ?_, O.ne, O'.obj, _, O'.ns, fun g => ?_, fun g hg => ?_⟩
  · have := length_putF f y fs; omega
  · show RelO ((putF f y fs).lookup g) (if g = f then some u else mA g)
    rw [lookup_putF]
    by_cases q : g = f
    · rw [if_pos q, if_pos q]; exact ry
    · rw [if_neg q, if_neg q]; exact r g
  · by_cases q : g = f
    · rw [q]; exact (keys_putF f y fs).1
    · refine (keys_putF f y fs).2 g (wi g fun z => hg ?_)
      show (if g = f then some u else mA g) = none
      rw [if_neg q]; exact z

theorem Inv.made (I : Inv X pins σ H s) : Inv X pins σ (upd (upd H s.heap.objs.size (.own (s.heap.objs.size + 1))) (s.heap.objs.size + 1) (.ins C s.heap.objs.size []))
    { s with heap := (s.heap.push PySem.W.emptyDict).push (PySem.W.instObj C s.heap.objs.size) } := by
  have e1 : (s.heap.push PySem.W.emptyDict).get? s.heap.objs.size = some PySem.W.emptyDict := Heap.get?_push_size s.heap rfl
  have e2 : ((s.heap.push PySem.W.emptyDict).push (PySem.W.instObj C s.heap.objs.size)).get? (s.heap.objs.size + 1) = some (PySem.W.instObj C s.heap.objs.size) := by
    have := Heap.get?_push_size (s.heap.push PySem.W.emptyDict) (o := PySem.W.instObj C s.heap.objs.size) rfl
    rwa [Heap.size_push] at this
  have e3 : (s.heap.push PySem.W.emptyDict).Ns s.heap.objs.size (fun _ => none) := ⟨PySem.W.emptyDict, #[], _, e1, rfl, (fun e he => absurd he (by simp)), fun _ => rfl⟩
  have I1 := I.laid (a := s.heap.objs.size) (o := .own (s.heap.objs.size + 1)) (h' := s.heap.push PySem.W.emptyDict) (t' := s.toks) (fun b u q => Heap.get?_push_of_some _ q) (Nat.le_refl _) ⟨_, e1⟩
  refine I1.laid (a := s.heap.objs.size + 1) (o := .ins C s.heap.objs.size []) (t' := s.toks) (fun b u q => Heap.get?_push_of_some _ q) (Nat.le_of_eq (Heap.size_push _ _)) ?_
  have ne : s.heap.objs.size ≠ s.heap.objs.size + 1 := Nat.ne_of_lt (Nat.lt_succ_self _)
  refine ⟨by rw [upd_ne ne, upd_same], Nat.zero_le _, ne, e2, fun _ => none, (Heap.Ns1.of_empty e3).at fun o q => Heap.get?_push_of_some _ q, fun _ => True.intro, fun y hy => absurd rfl hy⟩

theorem attr_of {prog : Program} {w : World} {env : Env} {e : Expr} {f : Str} {pos : Pos} {s : Shared} {Q : Value → Shared → Prop} (hb : attributeBase e f env (eval e env) = eval e env)
    (h : wpAny (model prog w) A (eval e env) (fun o s₁ => wpAny (model prog w) A (getAttr o f true) Q E s₁) E s) : wpAny (model prog w) A (eval (.Attribute e f pos) env) Q E s :=
  Attribute_any_ h (by rw [arm_eval_Attribute, hb])
end

/-! ### readings and rules -/
def tFld (K : PySem.W.Frag) (ta : TE) (f : Str) : TE := fun σ H Q => ta σ H fun x H1 => ∃ a C dx fs v, x = .ref a ∧ H1 a = some (.ins C dx fs) ∧ Cls K C ∧ NoAttr K C f ∧ fs.lookup f = some v ∧ Q v H1
def sFld (K : PySem.W.Frag) (ta tv : TE) (f : Str) : TS := fun D σ H => tv σ H fun y H1 => ta σ H1 fun x H2 => ∃ a C dx fs, x = .ref a ∧ H2 a = some (.ins C dx fs) ∧ Cls K C ∧ NoAttr K C f ∧ fs.length < 1000 ∧
  D.nx σ (upd H2 a (.ins C dx (putF f y fs)))
section
variable {X : Cx} {o e value : Expr} {f : Str} {pos pos' tpos : Pos} {ta tv : TE}
theorem pe_fld (he : PE X e ta) (hb : attributeBase e f X.env (eval e X.env) = eval e X.env) : PE X (.Attribute e f pos) (tFld X.K ta f) := by
  intro pins s σ H Q I h
  refine attr_of hb (thn (he pins s σ H _ I h) fun u s1 ⟨x, H1, I1, rx, a, C, dx, fs, v, ex, ea, c, n, l, q⟩ => ?_)
  subst ex
  obtain rfl : u = Value.ref a := rx
  exact getattr_ok I1 ea c n l fun u' s2 I2 ru => ⟨v, H1, I2, ru, q⟩
theorem ps_fld (ha : PE X o ta) (hv : PE X value tv) (hs : swapsWith value (some (.Attribute o f pos')) pos.line X.env = pure false) : PS X (.Assign [.Attribute o f pos'] value pos) (sFld X.K ta tv f) := by
  intro pins s σ H D I h
  refine plainObj_wpAny_Assign_Attribute (thn (hv pins s σ H _ I h) fun u s1 ⟨y, H1, I1, ry, q⟩ => thn (ha pins s1 σ H1 _ I1 q) fun ov s2 ⟨x, H2, I2, rx, a, C, dx, fs, ex, ea, c, n, l, q2⟩ => ?_) hs
  subst ex
  obtain rfl : ov = Value.ref a := rx
  exact setattr_ok I2 ea c n l ry fun s3 I3 => ⟨σ, _, I3, q2⟩
end

/-! ### isinstance -/
section
variable {X : Cx} {pins : List (Addr × Obj)} {σ : St} {H : Hp} {s : Shared} {A : Around} {E : Value → Shared → Prop} {Q : Value → Shared → Prop} {c : Value} {b : Bool}
inductive TyOf (K : PySem.W.Frag) (H : Hp) : V → Value → Prop where
  | non : TyOf K H .non (.type "NoneType")
  | bl (x : Bool) : TyOf K H (.bl x) (.type "bool")
  | int (i : Int) : TyOf K H (.int i) (.type "int")
  | str (x : Str) : TyOf K H (.str x) (.type "str")
  | flt (x : UInt64) : TyOf K H (.flt x) (.type "float")
  | lst {a : Addr} {xs : List V} (e : H a = some (.lst xs)) : TyOf K H (.ref a) (.type "list")
  | frz {a : Addr} {o : Obj} {xs : List V} (e : H a = some (.frz o (.lst xs))) : TyOf K H (.ref a) (.type "list")
  | tup {a : Addr} {xs : List V} (e : H a = some (.tup xs)) : TyOf K H (.ref a) (.type "tuple")
  | dK {a : Addr} {kvs : List (Key × V)} (e : H a = some (.dK kvs)) : TyOf K H (.ref a) (.type "dict")
  | dT {a : Addr} {kvs : List (List Key × V)} (e : H a = some (.dT kvs)) : TyOf K H (.ref a) (.type "dict")
  | ins {a C dx : Addr} {fs : List (Str × V)} (e : H a = some (.ins C dx fs)) (cl : Cls K C) (ha : PySem.W.findIn K (.ref C) "__class__" = some (some (.builtin "object.__class__")))
      (hn : PySem.W.specialIn K (.builtin "object.__class__") "__get__" = some (some (.builtin "getset_descriptor.__get__"))) (htk : PySem.W.takesIn K (.builtin "object.__class__") = some true)
      (hm : PySem.W.mroIn K C (.type "object") = some true) : TyOf K H (.ref a) (.ref C)
theorem isinst_ok {x : V} {u t : Value} (I : Inv X pins σ H s) (rx : RelV x u) (ty : TyOf X.K H x t) (e : PySem.W.kitOne X.K t c = some b) (h : ∀ tk, Q (.bool b) { s with toks := tk }) :
    wpAny (model X.prog X.w) A (call (.builtin "isinstance") [u, c]) Q E s := by
  cases ty with
  | non => cases (show u = Value.none from rx); exact PySem.W.kia_one PySem.W.kitx_none I.kIn True.intro e (fun z => nomatch z) h
  | bl y => cases (show u = Value.bool y from rx); exact PySem.W.kia_one PySem.W.kitx_bool I.kIn True.intro e (fun z => nomatch z) h
  | int i => obtain ⟨t, q⟩ := (show ∃ t, u = Value.int i t from rx); cases q; exact PySem.W.kia_one PySem.W.kitx_int I.kIn True.intro e (fun z => nomatch z) h
  | str y => obtain ⟨t, q⟩ := (show ∃ t, u = Value.str y t from rx); cases q; exact PySem.W.kia_one PySem.W.kitx_str I.kIn True.intro e (fun z => nomatch z) h
  | flt y => obtain ⟨t, q⟩ := (show ∃ t, u = Value.float y t from rx); cases q; exact PySem.W.kia_one PySem.W.kitx_float I.kIn True.intro e (fun z => nomatch z) h
  | @lst a xs ea =>
    cases (show u = Value.ref a from rx)
    obtain ⟨_, _, n, _, h1⟩ := (show ObjOk X.prog X.w H s.heap a (.lst xs) from I.hok a _ ea)
    exact PySem.W.kia_one PySem.W.kitx_list I.kIn ⟨_, h1, rfl⟩ e (fun z => nomatch z) h
  | @frz a ob xs ea =>
    cases (show u = Value.ref a from rx)
    obtain ⟨_, _, _, n, _, h1⟩ := (show ObjOk X.prog X.w H s.heap a (.frz ob (.lst xs)) from I.hok a _ ea)
    exact PySem.W.kia_one PySem.W.kitx_list I.kIn ⟨_, h1, rfl⟩ e (fun z => nomatch z) h
  | @tup a xs ea =>
    cases (show u = Value.ref a from rx)
    obtain ⟨_, _, _, p⟩ := (show ObjOk X.prog X.w H s.heap a (.tup xs) from I.hok a _ ea)
    obtain ⟨o, h1, h2, _⟩ := p
    exact PySem.W.kia_one PySem.W.kitx_tuple I.kIn ⟨o, h1, h2⟩ e (fun z => nomatch z) h
  | @dK a kvs ea =>
    cases (show u = Value.ref a from rx)
    obtain ⟨_, _, vs, _, p⟩ := (show ObjOk X.prog X.w H s.heap a (.dK kvs) from I.hok a _ ea)
    obtain ⟨o, es, ep, h1, h2, _⟩ := p
    exact PySem.W.kia_one PySem.W.kitx_dict I.kIn ⟨o, h1, h2.1⟩ e (fun z => nomatch z) h
  | @dT a kvs ea =>
    cases (show u = Value.ref a from rx)
    obtain ⟨_, _, xs, _, o, es, ep, h1, h2, _⟩ := (show ObjOk X.prog X.w H s.heap a (.dT kvs) from I.hok a _ ea)
    exact PySem.W.kia_one PySem.W.kitx_dict I.kIn ⟨o, h1, h2.1⟩ e (fun z => nomatch z) h
  | @ins a C dx fs ea cl ha hn htk hm =>
    cases (show u = Value.ref a from rx)
    obtain ⟨mA, O, _⟩ := ins_get I.hok ea
    obtain ⟨od, J, _⟩ := O.look
    exact PySem.W.kia_one (PySem.W.kitx_own (cl.get _) cl.hd ha hn htk hm) I.kIn J e (fun z => nomatch z) h
end
end L2

namespace L2
open PySem PySem.Spec PyProof.Rows

/-! ### room -/
structure Room (k : Nat) (A : Around) : Prop where
  hd : A.handled = none
  dp : A.depth + 3 * k + 5 < recursionLimit
  un : A.units + 16 * k + 200 < cLine
theorem Room.mono {j k : Nat} {A : Around} (r : Room k A) (h : j ≤ k) : Room j A := ⟨r.hd, by have := r.dp; omega, by have := r.un; omega⟩
theorem Room.deeper {k : Nat} {A : Around} (r : Room (k + 1) A) (env : Env) : Room k (A.deeper env) :=
  ⟨r.hd, by have := r.dp; show A.depth + 1 + 3 * k + 5 < _; omega, by have := r.un; show A.units + 3 + 16 * k + 200 < _; omega⟩
theorem make_depth {A : Around} {C : Addr} {us : List Value} {kw : List (Str × Value)} : (A.under (.builtin "type.__call__" ⟨.ref C :: us, kw⟩)).depth = A.depth + 1 := by
  first | rfl | simp [Around.under, Code.weight, Code.isCreation, Code.isGuard, Code.isCaller, Code.frames, Code.isFrame, guardIds]
theorem make_units {A : Around} {C : Addr} {us : List Value} {kw : List (Str × Value)} : (A.under (.builtin "type.__call__" ⟨.ref C :: us, kw⟩)).units = A.units + 1 := by
  first | rfl | simp [Around.under, Code.cUnits, Code.frames, Code.isFrame]
theorem Room.make {k : Nat} {A : Around} (r : Room (k + 1) A) (C : Addr) (us : List Value) (kw : List (Str × Value)) : Room k (A.under (.builtin "type.__call__" ⟨.ref C :: us, kw⟩)) :=
  ⟨r.hd, by have := r.dp; rw [make_depth]; omega, by have := r.un; rw [make_units]; omega⟩
theorem Room.depth {k : Nat} {A : Around} (r : Room k A) : A.depth < recursionLimit := by have := r.dp; omega
theorem Room.units {k : Nat} {A : Around} (r : Room k A) : A.units + 64 < cLine := by have := r.un; omega
theorem Room.units0 {k : Nat} {A : Around} (r : Room k A) : A.units < cLine := by have := r.un; omega

/-! ### argument lists and displays -/
def tNil : TA := fun _ H Q => Q [] H
def tCons (ta : TE) (tr : TA) : TA := fun σ H Q => ta σ H fun x H1 => tr σ H1 fun xs H2 => Q (x :: xs) H2
section
variable {X : Cx} {e : Expr} {es : List Expr} {te : TE} {t : TA} {pos : Pos}
theorem pa_nil : PA X [] tNil := fun _ _ _ _ H Q I h => Calls.spliced_nil ⟨[], H, I, .nil, h⟩
theorem pa_cons (ha : PE X e te) (hr : PA X es t) (hs : starEach (e :: es) X.env = (false, eval e X.env) :: starEach es X.env := by rfl) : PA X (e :: es) (tCons te t) := by
  intro pos pins s σ H Q I h
  rw [hs]
  show wpAny _ _ (spliced ((false, eval e X.env) :: backTo pos (starEach es X.env))) _ _ s
  refine Calls.spliced_cons (thn (ha pins s σ H _ I h) fun u s1 ⟨x, H1, I1, r1, q1⟩ => ?_)
  exact thn (hr pos pins s1 σ H1 _ I1 q1) fun us s2 ⟨xs, H2, I2, r2, q2⟩ => ⟨x :: xs, H2, I2, .cons r1 r2, q2⟩

def tTup (t : TA) : TE := fun σ H Q => t σ H fun xs H1 => xs.length ≤ sizeLine ∧ ∀ p, H1 p = none → Q (.ref p) (upd H1 p (.tup xs))
def tLst (t : TA) : TE := fun σ H Q => t σ H fun xs H1 => xs.length ≤ sizeLine ∧ ∀ p, H1 p = none → Q (.ref p) (upd H1 p (.lst xs))
theorem pe_tup {x1} (h : PA X es t) : PE X (.Tuple es x1 pos) (tTup t) := by
  intro pins s σ H Q I hq
  refine wpAny_Tuple_spliced (thn (h pos pins s σ H _ I hq) fun us s1 ⟨xs, H1, I1, r, z, q⟩ => ⟨by rw [← r.length]; exact z, ?_⟩)
  have hf : H1 s1.heap.objs.size = none := I1.hok.fresh (Nat.le_refl _)
  refine ⟨.ref s1.heap.objs.size, upd H1 s1.heap.objs.size (.tup xs), I1.laid (t' := s1.toks) (fun b u e => Heap.get?_push_of_some _ e) (Nat.le_refl _) ?_, rfl, q _ hf⟩
  exact ⟨z, us, r, ⟨_, Heap.get?_push_size _ rfl, rfl, _, rfl⟩⟩
theorem pe_lst (h : PA X es t) : PE X (.List es pos) (tLst t) := by
  intro pins s σ H Q I hq
  refine wpAny_List_spliced (thn (h pos pins s σ H _ I hq) fun us s1 ⟨xs, H1, I1, r, z, q⟩ => ⟨by rw [← r.length]; exact z, ?_⟩)
  have hf : H1 s1.heap.objs.size = none := I1.hok.fresh (Nat.le_refl _)
  refine ⟨.ref s1.heap.objs.size, upd H1 s1.heap.objs.size (.lst xs), I1.laid (t' := s1.toks) (fun b u e => Heap.get?_push_of_some _ e) (Nat.le_refl _) ?_, rfl, q _ hf⟩
  exact ⟨z, us, 0, r, Heap.get?_push_size _ rfl⟩
end

/-! ### what a def promises -/
abbrev Sp := List V → Hp → VK → XK → Prop
abbrev CXT := List Env → Hp → Shared → XK → Value → Shared → Prop

structure Env0 (P : Program) (w : World) (K : PySem.W.Frag) (mg : Str → Option Value) (base : Heap) (A : Around) (outer : List Env) (s : Shared) (H : Hp) : Prop where
  frames : A.frames = some outer
  mod : Mod K mg base
  bs : ∀ b o, base.get? b = some o → s.heap.get? b = some o ∧ H b = none
  bsz : base.objs.size ≤ s.heap.objs.size
  funs : s.heap.FunFrames base outer
  frf : ∀ b ∈ frs outer, H b = none
  hok : HOk P w H s.heap
  bare : AllBare s.gens
def CE (outer : List Env) (P : Program) (w : World) (H : Hp) (s : Shared) (Q : VK) (u : Value) (s' : Shared) : Prop :=
  ∃ v H', s'.os = s.os ∧ AllBare s'.gens ∧ Un (frs outer) [] H H' s.heap s'.heap ∧ HOk P w H' s'.heap ∧ RelV v u ∧ Q v H'
def CR (CX : CXT) (outer : List Env) (P : Program) (w : World) (H : Hp) (s : Shared) (Q : VK) (E : XK) (r : Result) (s' : Shared) : Prop :=
  match r with
  | .ok (.ret u) => CE outer P w H s Q u s'
  | .ok _ => False
  | .error e => CX outer H s E e s'
structure FnOk (P : Program) (w : World) (K : PySem.W.Frag) (mg : Str → Option Value) (base : Heap) (CX : CXT) (k : Nat) (f : Addr) (fd : FuncData) (ps : List Str) (sp : Sp) : Prop where
  len : ∀ vs H Q E, sp vs H Q E → vs.length = ps.length
  run : ∀ (A : Around) (outer : List Env) (s : Shared) (H : Hp) (args : Args) (us : List Value) (vs : List V) (Q : VK) (E : XK), Room k A → Env0 P w K mg base A outer s H → BindsTo s fd args (ps.zip us) → Vals vs us → sp vs H Q E →
    codeAny (model P w) A (.call (.ref f) args) (CR CX outer P w H s Q E) s
theorem Env0.make {P : Program} {w : World} {K : PySem.W.Frag} {mg : Str → Option Value} {base : Heap} {A : Around} {outer : List Env} {s : Shared} {H : Hp} (e : Env0 P w K mg base A outer s H) (C : Addr) (us : List Value) (kw : List (Str × Value)) :
    Env0 P w K mg base (A.under (.builtin "type.__call__" ⟨.ref C :: us, kw⟩)) outer s H := ⟨by first | exact e.frames | (simpa [Around.under, Code.envs, Code.isFrame, pushEnvs] using e.frames), e.mod, e.bs, e.bsz, e.funs, e.frf, e.hok, e.bare⟩
section
variable {X : Cx} {pins : List (Addr × Obj)} {σ : St} {H : Hp} {s s' : Shared}
theorem Inv.env0 (I : Inv X pins σ H s) : Env0 X.prog X.w X.K X.mg X.base X.A X.stack s H :=
  ⟨I.ok.frames, I.ok.mod, I.bs, Nat.le_trans I.ok.bsz I.sz, I.stack, I.stkFree, I.hok, I.bare⟩
theorem Inv.after {Q : VK} {u : Value} (I : Inv X pins σ H s) (h : CE X.stack X.prog X.w H s Q u s') : EP X pins σ Q u s' := by
  obtain ⟨v, H', os, bare, un, hok, r, q⟩ := h
  obtain ⟨hh, g, d, t, os'⟩ := s'
  obtain rfl : os' = s.os := os
  exact ⟨v, H', I.call (h' := hh) (g' := g) (d' := d) (t' := t) (ch := []) un hok bare (fun b z => absurd z (by simp)), r, q⟩
end

/-! ### calls -/
def tCall (sp : Sp) (dvs : List V) (E : XK) (t : TA) : TE := fun σ H Q => t σ H fun vs H1 => sp (vs ++ dvs) H1 Q E
def tMeth (C : Addr) (m : Str) (sp : Sp) (dvs : List V) (E : XK) (ta : TE) (t : TA) : TE := fun σ H Q => ta σ H fun x H1 => ∃ a dx fs, x = .ref a ∧ H1 a = some (.ins C dx fs) ∧ fs.lookup m = none ∧
  t σ H1 fun vs H2 => sp (x :: (vs ++ dvs)) H2 Q E
def tMake (C : Addr) (sp : Sp) (dvs : List V) (E : XK) (t : TA) : TE := fun σ H Q => t σ H fun vs H1 => ∀ x dx, H1 x = none → H1 dx = none → dx ≠ x →
  sp (.ref x :: (vs ++ dvs)) (upd (upd H1 dx (.own x)) x (.ins C dx [])) (fun v H2 => v = .non ∧ Q (.ref x) H2) E

def Binds (K : PySem.W.Frag) (fd : FuncData) (ps : List Str) (ds : List Value) : Prop :=
  ∀ (s : Shared) (us : List Value), K.In s.heap → (us ++ ds).length = ps.length → BindsTo s fd ⟨us, []⟩ (ps.zip (us ++ ds))
theorem Binds.all {K : PySem.W.Frag} {fd : FuncData} {ps : List Str} (h : ∀ us : List Value, us.length = ps.length → bindArgs fd ⟨us, []⟩ = pure (ps.zip us)) : Binds K fd ps [] := fun s us _ hl => by
  rw [List.append_nil] at hl ⊢
  exact .of_eq (h us hl)

def Passes (CX : CXT) (X : Cx) (E : XK) : Prop := ∀ (pins : List (Addr × Obj)) (σ : St) (H : Hp) (s : Shared) (e : Value) (s' : Shared), Inv X pins σ H s → CX X.stack H s E e s' → X.xe e s'

section
variable {X : Cx} {CX : CXT} {k : Nat} {f C : Addr} {fd : FuncData} {ps : List Str} {sp : Sp} {dvs : List V} {ds : List Value} {E : XK} {x m : Str} {p pos apos : Pos} {e o : Expr} {es : List Expr} {ta : TE} {t : TA}

theorem run_fn {pins : List (Addr × Obj)} {σ : St} {H : Hp} {s : Shared} {Q : VK} {us : List Value} {vs : List V} (F : FnOk X.prog X.w X.K X.mg X.base CX k f fd ps sp) (hr : Room k X.A) (hb : Binds X.K fd ps ds) (hd : Vals dvs ds) (hx : Passes CX X E)
    (I : Inv X pins σ H s) (r : Vals vs us) (h : sp (vs ++ dvs) H Q E) : wpAny (model X.prog X.w) X.A (call (.ref f) us) (EP X pins σ Q) X.xe s := by
  have r2 : Vals (vs ++ dvs) (us ++ ds) := r.append hd
  have hl : (us ++ ds).length = ps.length := by rw [← r2.length]; exact F.len _ _ _ _ h
  refine wpAny_call (codeAny_mono (F.run X.A X.stack s H ⟨us, []⟩ (us ++ ds) (vs ++ dvs) Q E hr I.env0 (hb s us I.kIn hl) r2 h) fun r s' hq => ?_)
  cases r with
  | error e => exact hx pins σ H s e s' I hq
  | ok fl =>
    cases fl with
    | ret u => exact I.after hq
    | next => exact False.elim hq
    | brk => exact False.elim hq
    | cont => exact False.elim hq

theorem pe_call (F : FnOk X.prog X.w X.K X.mg X.base CX k f fd ps sp) (hr : Room k X.A) (hg : Gl X x) (hm : X.mg x = some (.ref f)) (hk : PySem.W.keepIn X.K (.ref f) = true) (hb : Binds X.K fd ps ds) (hd : Vals dvs ds) (hx : Passes CX X E)
    (ha : PA X (e :: es) t) (hdb : (x == ("__debug__" : Str)) = false := by decide) (he : starEach (e :: es) X.env = (false, eval e X.env) :: starEach es X.env := by rfl) (hpl : (backTo pos (starEach es X.env)).any (·.1) = false := by rfl) :
    PE X (.Call (.Name x p) (e :: es) [] pos) (tCall sp dvs E t) := by
  intro pins s σ H Q I h
  refine wpAny_Call_Name_kw (ld_glob I hg hm ?_ hdb)
  refine PySem.W.callWith_K (h₀ := X.base) I.ok.mod.kin hk (thn (ha pos pins s σ H _ I h) fun us s1 ⟨vs, H1, I1, r, q⟩ => ⟨I1.kIn, ?_⟩) he hpl
  exact run_fn F hr hb hd hx I1 r q
theorem pe_meth {pl : Sem Bool} (he : PE X o ta) (c : Cls X.K C) (hm : Meth X.K C m f) (F : FnOk X.prog X.w X.K X.mg X.base CX k f fd ps sp) (hr : Room k X.A) (hb : Binds X.K fd ps ds) (hd : Vals dvs ds) (hx : Passes CX X E) (ha : PA X (e :: es) t)
    (hst : starEach (e :: es) X.env = (false, eval e X.env) :: starEach es X.env := by rfl) (hpl : (backTo pos (starEach es X.env)).any (·.1) = false := by rfl)
    (ht : eval (.Call (.Attribute o m apos) (e :: es) [] pos) X.env = (do
      let ov ← eval o X.env
      standAt apos.atName
      let (f, first) ← holding [ov] (getMethod ov m pl)
      callWith pos f first (backTo pos (starEach (e :: es) X.env)) (backToKw pos (keywordEach [] X.env))) := by rfl) :
    PE X (.Call (.Attribute o m apos) (e :: es) [] pos) (tMeth C m sp dvs E ta t) := by
  intro pins s σ H Q I h
  refine PySem.W.methodCall_KW (pl := pl) (thn (he pins s σ H _ I h) fun u s1 ⟨x, H1, I1, rx, a, dx, fs, ex, ea, l, q⟩ => ?_) ht
  subst ex
  obtain rfl : u = Value.ref a := rx
  refine getmeth_ok I1 ea c hm l ?_
  refine PySem.W.callWith_K (first := [.ref a]) (h₀ := X.base) I.ok.mod.kin hm.kp (thn (ha pos pins s1 σ H1 _ I1 q) fun us s2 ⟨vs, H2, I2, r, q2⟩ => ⟨I2.kIn, ?_⟩) hst hpl
  exact run_fn (us := .ref a :: us) (vs := .ref a :: vs) F hr hb hd hx I2 (.cons rfl r) q2
theorem pe_meth0 {pl : Sem Bool} (he : PE X o ta) (c : Cls X.K C) (hm : Meth X.K C m f) (F : FnOk X.prog X.w X.K X.mg X.base CX k f fd ps sp) (hr : Room k X.A) (hb : Binds X.K fd ps ds) (hd : Vals dvs ds) (hx : Passes CX X E)
    (ht : eval (.Call (.Attribute o m apos) [] [] pos) X.env = (do
      let ov ← eval o X.env
      standAt apos.atName
      let (f, first) ← holding [ov] (getMethod ov m pl)
      callWith pos f first (backTo pos (starEach [] X.env)) (backToKw pos (keywordEach [] X.env))) := by rfl) :
    PE X (.Call (.Attribute o m apos) [] [] pos) (tMeth C m sp dvs E ta tNil) := by
  intro pins s σ H Q I h
  refine PySem.W.methodCall_KW (pl := pl) (thn (he pins s σ H _ I h) fun u s1 ⟨x, H1, I1, rx, a, dx, fs, ex, ea, l, q⟩ => ?_) ht
  subst ex
  obtain rfl : u = Value.ref a := rx
  refine getmeth_ok I1 ea c hm l ?_
  exact PySem.W.callWith_K0 (first := [.ref a]) I1.kIn hm.kp (run_fn (us := [.ref a]) (vs := [.ref a]) F hr hb hd hx I1 (.cons rfl .nil) q)

structure Mk (K : PySem.W.Frag) (C f : Addr) : Prop where
  makes : PySem.W.makesIn K C = true
  init : PySem.W.findIn K (.ref C) "__init__" = some (some (.ref f))
  fn : PySem.W.isFn K (.ref f) = true
  kp : PySem.W.keepIn K (.ref C) = true

theorem run_make {pins : List (Addr × Obj)} {σ : St} {H : Hp} {s : Shared} {Q : VK} {us : List Value} {vs : List V} (M : Mk X.K C f) (F : FnOk X.prog X.w X.K X.mg X.base CX k f fd ps sp) (hr : Room (k + 1) X.A) (hb : Binds X.K fd ps ds) (hd : Vals dvs ds)
    (hx : Passes CX X E) (I : Inv X pins σ H s) (r : Vals vs us)
    (h : ∀ x dx, H x = none → H dx = none → dx ≠ x → sp (.ref x :: (vs ++ dvs)) (upd (upd H dx (.own x)) x (.ins C dx [])) (fun v H2 => v = .non ∧ Q (.ref x) H2) E) :
    wpAny (model X.prog X.w) X.A (call (.ref C) us) (EP X pins σ Q) X.xe s := by
  have hq := h (s.heap.objs.size + 1) s.heap.objs.size (I.hok.fresh (Nat.le_succ _)) (I.hok.fresh (Nat.le_refl _)) (Nat.ne_of_lt (Nat.lt_succ_self _))
  have I2 := Inv.made (C := C) I
  have r2 : Vals (V.ref (s.heap.objs.size + 1) :: (vs ++ dvs)) (Value.ref (s.heap.objs.size + 1) :: (us ++ ds)) := .cons rfl (r.append hd)
  have hl : (Value.ref (s.heap.objs.size + 1) :: us ++ ds).length = ps.length := by
    have e := r2.length
    rw [F.len _ _ _ _ hq] at e
    exact e.symm
  refine wpAny_call (make_map (f := f) I.kIn M.makes M.init (beq_iff_eq.mp M.fn) (codeAny_mono (F.run _ X.stack _ _ ⟨Value.ref (s.heap.objs.size + 1) :: us, []⟩ (Value.ref (s.heap.objs.size + 1) :: (us ++ ds)) _ _ E (hr.make C us [])
    (I2.env0.make C us []) (hb _ (Value.ref (s.heap.objs.size + 1) :: us) I2.kIn hl) r2 hq) fun r s' hq' => ?_))
  cases r with
  | error e => exact hx pins σ _ _ e s' I2 hq'
  | ok fl =>
    cases fl with
    | ret u =>
      obtain ⟨v, H', I3, rv, ev, q3⟩ := I2.after hq'
      subst ev
      exact ⟨rv, ⟨V.ref (s.heap.objs.size + 1), H', I3, rfl, q3⟩⟩
    | next => exact False.elim hq'
    | brk => exact False.elim hq'
    | cont => exact False.elim hq'
theorem pe_make (M : Mk X.K C f) (F : FnOk X.prog X.w X.K X.mg X.base CX k f fd ps sp) (hr : Room (k + 1) X.A) (hg : Gl X x) (hm : X.mg x = some (.ref C)) (hb : Binds X.K fd ps ds) (hd : Vals dvs ds) (hx : Passes CX X E)
    (ha : PA X (e :: es) t) (hdb : (x == ("__debug__" : Str)) = false := by decide) (he : starEach (e :: es) X.env = (false, eval e X.env) :: starEach es X.env := by rfl) (hpl : (backTo pos (starEach es X.env)).any (·.1) = false := by rfl) :
    PE X (.Call (.Name x p) (e :: es) [] pos) (tMake C sp dvs E t) := by
  intro pins s σ H Q I h
  refine wpAny_Call_Name_kw (ld_glob I hg hm ?_ hdb)
  refine PySem.W.callWith_K (h₀ := X.base) I.ok.mod.kin M.kp (thn (ha pos pins s σ H _ I h) fun us s1 ⟨vs, H1, I1, r, q⟩ => ⟨I1.kIn, ?_⟩) he hpl
  exact run_make M F hr hb hd hx I1 r q
end

/-! ### keywords -/

/-! ### a def's body keeps its promise -/
structure FnScope (N P : List Str) (sc : Scope) : Prop where
  kind : sc.kind = .function
  co : sc.isCoroutine = false
  gen : sc.isGenerator = false
  nd : N.Nodup
  pre : N.take P.length = P
  par : ∀ x ∈ P, sc.names.lookup x = some .local ∨ sc.names.lookup x = some .cell
  nofree : ∀ y ∈ sc.names, y.2 ≠ .free

theorem bindL_out {kindOf : Str → Option NameKind} {x : Str} : ∀ {binds : List (Str × Value)} {m : Str → Option Value}, (∀ v, (x, v) ∉ binds) → bindL kindOf binds m x = m x
  | [], _, _ => rfl
  | (n, v) :: r, m, h => by
    unfold bindL
    rw [bindL_out fun w hw => h w (List.mem_cons_of_mem _ hw)]
    split
    · have : x ≠ n := by rintro rfl; exact h v List.mem_cons_self
      simp [this]
    · rfl
theorem bindC_out {kindOf : Str → Option NameKind} {x : Str} : ∀ {binds : List (Str × Value)} {m : Str → Option Value}, (∀ v, (x, v) ∉ binds) → bindC kindOf binds m x = m x
  | [], _, _ => rfl
  | (n, v) :: r, m, h => by
    unfold bindC
    rw [bindC_out fun w hw => h w (List.mem_cons_of_mem _ hw)]
    split
    · rfl
    · have : x ≠ n := by rintro rfl; exact h v List.mem_cons_self
      simp [this]
theorem bindL_get {kindOf : Str → Option NameKind} {x : Str} {v : Value} : ∀ {P : List Str} {vs : List Value} {i : Nat} {m : Str → Option Value}, P.Nodup → P[i]? = some x → vs[i]? = some v → kindOf x = some .local →
    bindL kindOf (P.zip vs) m x = some v
  | [], _, _, _, _, h, _, _ => by simp at h
  | _ :: _, [], _, _, _, _, h, _ => by simp at h
  | p :: P, w :: vs, 0, m, nd, h1, h2, hk => by
    simp at h1 h2; subst h1; subst h2
    show bindL kindOf ((p, w) :: P.zip vs) m p = _
    unfold bindL
    rw [bindL_out fun v hv => (List.nodup_cons.mp nd).1 (List.of_mem_zip hv).1, if_pos hk]
    simp
  | p :: P, w :: vs, i + 1, m, nd, h1, h2, hk => by
    show bindL kindOf ((p, w) :: P.zip vs) m x = _
    unfold bindL
    exact bindL_get (i := i) (List.nodup_cons.mp nd).2 (by simpa using h1) (by simpa using h2) hk
theorem bindC_get {kindOf : Str → Option NameKind} {x : Str} {v : Value} : ∀ {P : List Str} {vs : List Value} {i : Nat} {m : Str → Option Value}, P.Nodup → P[i]? = some x → vs[i]? = some v → kindOf x ≠ some .local →
    bindC kindOf (P.zip vs) m x = some v
  | [], _, _, _, _, h, _, _ => by simp at h
  | _ :: _, [], _, _, _, _, h, _ => by simp at h
  | p :: P, w :: vs, 0, m, nd, h1, h2, hk => by
    simp at h1 h2; subst h1; subst h2
    show bindC kindOf ((p, w) :: P.zip vs) m p = _
    unfold bindC
    rw [bindC_out fun v hv => (List.nodup_cons.mp nd).1 (List.of_mem_zip hv).1, if_neg hk]
    simp
  | p :: P, w :: vs, i + 1, m, nd, h1, h2, hk => by
    show bindC kindOf ((p, w) :: P.zip vs) m x = _
    unfold bindC
    exact bindC_get (i := i) (List.nodup_cons.mp nd).2 (by simpa using h1) (by simpa using h2) hk

def start (N : List Str) (vs : List V) : St := vs.map some ++ List.replicate (N.length - vs.length) none

def cxOf (CX : CXT) (P : Program) (w : World) (K : PySem.W.Frag) (mg : Str → Option Value) (base : Heap) (N : List Str) (qual : Str) (scope : Scope) (f : Addr) (cd : Value) (A : Around) (outer : List Env) (s : Shared) (H : Hp) (E : XK) : Cx where
  prog := P
  w := w
  K := K
  mg := mg
  base := base
  A := A.deeper (envOfC qual scope s.heap.objs.size f cd)
  N := N
  s₀ := s
  H₀ := H
  env := envOfC qual scope s.heap.objs.size f cd
  outer := outer
  stack := envOfC qual scope s.heap.objs.size f cd :: outer
  ex := []
  calm := true
  fn := fun _ => true
  pn := []
  xe := fun e s' => wpAny (model P w) (A.deeper (envOfC qual scope s.heap.objs.size f cd)) (leaving (envOfC qual scope s.heap.objs.size f cd) e) (fun _ s'' => CX outer H s E e s'') (fun e' s'' => CX outer H s E e' s'') s'

theorem cell_has {sc : Scope} {n : Nat} {x : Str} (h : sc.names.lookup x = some .cell) : ∃ c, (cellsFrom n sc.names []).lookup x = some c := by
  have q := PySem.W.cellsFrom_some sc.names n [] (.inl h)
  exact Option.isSome_iff_exists.mp q

theorem inv_start {CX : CXT} {P : Program} {w : World} {K : PySem.W.Frag} {mg : Str → Option Value} {base : Heap} {N ps : List Str} {qual : Str} {scope : Scope} {f : Addr} {cd : Value} {A : Around} {outer : List Env} {s s1 : Shared} {H : Hp} {E : XK} {us : List Value} {vs : List V}
    (S : FnScope N ps scope) (hd : A.handled = none) (e0 : Env0 P w K mg base A outer s H) (hl : vs.length = ps.length) (r : Vals vs us)
    (x : InCallC s s.heap.objs.size (bindL (envOfC qual scope s.heap.objs.size f cd).kindOf (ps.zip us) fun _ => none) (cellsFrom (s.heap.objs.size + 1) scope.names []) (bindC (envOfC qual scope s.heap.objs.size f cd).kindOf (ps.zip us) fun _ => none) s1) :
    Inv (cxOf CX P w K mg base N qual scope f cd A outer s H E) [] (start N vs) H s1 := by
  have hpl : ps.length ≤ N.length := by have := congrArg List.length S.pre; rw [List.length_take] at this; omega
  obtain ⟨h1, tk, rfl, hk⟩ := x.done
  have noA : ∀ b : Addr, b ∉ (cxOf CX P w K mg base N qual scope f cd A outer s H E).ex := fun b z => absurd (show b ∈ ([] : List Addr) from z) (by simp)
  refine ⟨⟨e0.mod, S.kind, rfl, rfl, Nat.le_refl _, fun y z c h1 h2 => ?_, fun y hy => ?_, fun y c _ h => ?_, fun _ => hd, Around.frames_deeper e0.frames, .inr ⟨rfl, rfl⟩, fun b z => absurd z (noA b), e0.bs, e0.bsz, fun b _ _ => noA b, fun b z => absurd z (noA b), e0.funs, e0.frf⟩,
    rfl, e0.bare, Un.kept hk, ⟨_, x.toInCall.ns, fun i y v h1 h2 h3 => ?_⟩, fun y c h => ⟨_, x.cell y c h⟩, e0.hok.fresh (Nat.le_refl _), fun y c h => ?_, fun p hp => absurd (show p ∈ ([] : List (Addr × Obj)) from hp) (by simp), e0.hok.kept hk, ?_⟩
  · exact name_of_addr x.apart (PySem.mem_of_lookup h1) (PySem.mem_of_lookup h2)
  · have hy : scope.names.lookup y = some .cell ∨ scope.names.lookup y = some .free := hy
    rcases hy with hy | hy
    · exact cell_has hy
    · exact absurd rfl (S.nofree _ (PySem.mem_of_lookup hy))
  · exact Nat.le_of_lt (x.above y c (PySem.mem_of_lookup h))
  · have hi : i < vs.length := by
      unfold start at h2
      by_cases hi : i < vs.length
      · exact hi
      · rw [List.getElem?_append_right (by simpa using hi)] at h2
        rw [List.getElem?_replicate] at h2
        split at h2 <;> cases h2
    have ha : vs[i]? = some v := by
      unfold start at h2
      rw [List.getElem?_append_left (by simpa using hi), List.getElem?_map] at h2
      cases e : vs[i]? with
      | none => rw [e] at h2; cases h2
      | some a => rw [e] at h2; cases h2; rfl
    obtain ⟨u, hu, rv⟩ := r.get ha
    have hp : ps[i]? = some y := by
      rw [← S.pre, List.getElem?_take_of_lt (by omega)]; exact h1
    have ndP : ps.Nodup := by rw [← S.pre]; exact S.nd.sublist (List.take_sublist _ _)
    refine ⟨u, rv, ?_⟩
    rcases S.par y (List.mem_of_getElem? hp) with k | k
    · exact .inl ⟨k, bindL_get ndP hp hu k⟩
    · obtain ⟨c, e⟩ := cell_has (n := s.heap.objs.size + 1) k
      refine .inr ⟨.inl k, c, e, ?_⟩
      have q := x.cell y c e
      rw [bindC_get ndP hp hu (by show scope.names.lookup y ≠ _; rw [k]; decide)] at q
      exact q
  · exact e0.hok.fresh (Nat.le_of_lt (x.above y c (PySem.mem_of_lookup h)))
  · unfold start
    show _ = N.length
    rw [List.length_append, List.length_map, List.length_replicate]
    omega

theorem fn_of {CX : CXT} {P : Program} {w : World} {K : PySem.W.Frag} {mg : Str → Option Value} {base : Heap} {k : Nat} {f : Addr} {name qual : Str} {params : Arguments} {body : List Stmt} {scope : Scope} {dV kV doc pm cdv ct oc : Value} {an od : Option Addr}
    {osl : Array (Option Value)} {N ps : List Str} {sp : Sp} (lk : K.lookup f = some ⟨oc, od, .func (PySem.W.fnOf name qual params body scope dV kV doc pm an cdv ct), osl⟩) (hcd : PySem.W.codeIn K cdv qual = true) (S : FnScope N ps scope)
    (len : ∀ vs H Q E, sp vs H Q E → vs.length = ps.length)
    (hbody : ∀ (A : Around) (outer : List Env) (s : Shared) (H : Hp) (vs : List V) (Q : VK) (E : XK), Room k (A.deeper (envOfC qual scope s.heap.objs.size f cdv)) → sp vs H Q E →
      ∃ t, PSs (cxOf CX P w K mg base N qual scope f cdv A outer s H E) body t ∧ t { nx := fun _ H' => Q .non H', rt := Q } (start N vs) H) :
    FnOk P w K mg base CX (k + 1) f (PySem.W.fnOf name qual params body scope dV kV doc pm an cdv ct) ps sp := by
  refine ⟨len, fun A outer s H args us vs Q E hr e0 hb r hsp => ?_⟩
  have hl := len _ _ _ _ hsp
  have KX : K.In s.heap := e0.mod.kin.keeps fun b o e => (e0.bs b o e).1
  have lim : s.heap.NoLimit := e0.mod.nolimit.keeps fun b o e => (e0.bs b o e).1
  have hkind : ∀ y ∈ ps.zip us, scope.names.lookup y.1 = some .local ∨ (scope.names.lookup y.1 = some .cell ∧ ((cellsFrom (s.heap.objs.size + 1) scope.names []).lookup y.1).isSome = true) := fun ⟨n, v⟩ hy => by
    rcases S.par n (List.of_mem_zip hy).1 with q | q
    · exact .inl q
    · exact .inr ⟨q, PySem.W.cellsFrom_some _ _ _ (.inl q)⟩
  refine codeAny_call_function hr.depth (KX _ _ lk) rfl S.co S.gen rfl (PySem.W.codeRec_of KX hcd) (hb _ _ _ _ ?_)
  refine wpAny_newFunctionEnv_cells S.kind hkind fun env he s1 x => ?_
  subst he
  refine ⟨lim.keeps x.toInCall.keep, codeAny_func ?_⟩
  obtain ⟨t, ht, hq⟩ := hbody A outer s H vs Q E (hr.deeper _) hsp
  have I : Inv (cxOf CX P w K mg base N qual scope f cdv A outer s H E) [] (start N vs) H s1 := inv_start S hr.hd e0 hl r x
  refine wpAny_mono (ht [] s1 (start N vs) H _ I hq) (fun fl s' hs => ?_) fun e s' hs => hs
  have fin : ∀ {σ' : St} {H' : Hp} {v : V} {u : Value}, Inv (cxOf CX P w K mg base N qual scope f cdv A outer s H E) [] σ' H' s' → RelV v u → Q v H' → CE outer P w H s Q u s' :=
    fun {σ' H' v u} J rv q => ⟨v, H', J.os, J.bare, J.base, J.hok, rv, q⟩
  cases fl with
  | ret u =>
    obtain ⟨v, σ', H', J, rv, q⟩ := hs
    exact fin J rv q
  | next =>
    obtain ⟨σ', H', J, q⟩ := hs
    exact fin (v := V.non) (u := Value.none) J rfl q
  | brk =>
    obtain ⟨_, _, _, q⟩ := hs
    exact False.elim q
  | cont =>
    obtain ⟨_, _, _, q⟩ := hs
    exact False.elim q
end L2

namespace L2
open PySem PySem.Spec PyProof.Rows
section
variable {X : Cx} {x : Str} {p pos : Pos} {e : Expr} {es : List Expr} {t : TA} {id T : String} {r : List V → Hp → VK → Prop}

def tCB (r : List V → Hp → VK → Prop) (t : TA) : TE := fun σ H Q => t σ H fun vs H1 => r vs H1 Q
theorem pe_callB (hc : CallR X (.builtin id) r) (hg : Gl X x) (hm : X.mg x = none) (hv : bootBuiltins x = some (.builtin id)) (ha : PA X (e :: es) t) (hn : x ≠ "__name__" := by decide) (hdb : (x == ("__debug__" : Str)) = false := by decide)
    (he : starEach (e :: es) X.env = (false, eval e X.env) :: starEach es X.env := by rfl) (hpl : (backTo pos (starEach es X.env)).any (·.1) = false := by rfl) : PE X (.Call (.Name x p) (e :: es) [] pos) (tCB r t) := by
  intro pins s σ H Q I h
  refine wpAny_Call_Name_kw (ld_blt I hg hm hv ?_ hn hdb)
  exact PyProof.Rows.callWith_builtin1 (thn (ha pos pins s σ H _ I h) fun us s1 ⟨vs, H1, I1, r1, q1⟩ => hc pins s1 σ H1 vs us Q I1 r1 q1) he hpl
theorem pe_callTy (hc : CallR X (.type T) r) (hg : Gl X x) (hm : X.mg x = none) (hv : bootBuiltins x = some (.type T)) (ha : PA X (e :: es) t) (hn : x ≠ "__name__" := by decide) (hdb : (x == ("__debug__" : Str)) = false := by decide)
    (he : starEach (e :: es) X.env = (false, eval e X.env) :: starEach es X.env := by rfl) (hpl : (backTo pos (starEach es X.env)).any (·.1) = false := by rfl) : PE X (.Call (.Name x p) (e :: es) [] pos) (tCB r t) := by
  intro pins s σ H Q I h
  refine wpAny_Call_Name_kw (ld_blt I hg hm hv ?_ hn hdb)
  exact PyProof.Rows.callWith_type1 (thn (ha pos pins s σ H _ I h) fun us s1 ⟨vs, H1, I1, r1, q1⟩ => hc pins s1 σ H1 vs us Q I1 r1 q1) he hpl
end
end L2

namespace HT
open PySem PyProof.Rows


section
variable {prog : Program} {w : World} {A : Around} {E : Value → Shared → Prop} {s : Shared}

/-! ### t[a:b], not the whole -/
def sIx (n d : Nat) : Option Int → Nat
  | none => d
  | some v => if v < 0 then (v + (n : Int)).toNat else min v.toNat n
theorem sIx_nat (n d k : Nat) : sIx n d (some (k : Int)) = min k n := by
  show (if (k : Int) < 0 then ((k : Int) + (n : Int)).toNat else min (k : Int).toNat n) = min k n
  rw [if_neg (by omega), Int.toNat_natCast]
end
end HT

namespace L2
open PySem PySem.Spec PyProof.Rows

/-! ### the parts of a slice -/
abbrev TO := St → Hp → (Option Int → Hp → Prop) → Prop
def PO (X : Cx) (e : Option Expr) (t : TO) : Prop :=
  ∀ (pins : List (Addr × Obj)) (s : Shared) (σ : St) (H : Hp) (Q : Option Int → Hp → Prop), Inv X pins σ H s → t σ H Q →
    wpAny (model X.prog X.w) X.A (evalPart e X.env) (fun u s' => ∃ o H', Inv X pins σ H' s' ∧ IsPart u o ∧ Q o H') X.xe s
def tNoPart : TO := fun _ H Q => Q none H
def tPart (t : TE) : TO := fun σ H Q => t σ H fun x H1 => ∃ i, x = .int i ∧ Q (some i) H1

theorem intsAre_of {ns : List Int} : ∀ {us : List Value}, Vals (ns.map V.int) us → IntsAre us ns := by
  induction ns with
  | nil => intro us r; rw [List.map_nil] at r; cases r; exact .nil
  | cons n ns ih =>
    intro us r
    rw [List.map_cons] at r
    cases r with
    | cons r1 r2 =>
      obtain ⟨t, e⟩ := r1
      subst e
      exact .cons n t (ih r2)

section
variable {X : Cx} {e : Expr} {te : TE} {lo hi : Option Expr} {tl th : TO} {pos p2 : Pos}

theorem po_none : PO X none tNoPart := by
  intro pins s σ H Q I h
  rw [evalPart_none]
  exact wpAny_pure ⟨none, H, I, .none, h⟩
theorem po_some (h : PE X e te) : PO X (some e) (tPart te) := by
  intro pins s σ H Q I hw
  rw [evalPart_some]
  refine thn (h pins s σ H _ I hw) fun u s1 ⟨x, H1, I1, r1, q1⟩ => ?_
  obtain ⟨i, rfl, q⟩ := q1
  obtain ⟨t, rfl⟩ := r1
  exact ⟨some i, H1, I1, .int i t, q⟩

def SlR (X : Cx) (r : V → Option Int → Option Int → Hp → VK → Prop) : Prop :=
  ∀ (pins : List (Addr × Obj)) (s : Shared) (σ : St) (H : Hp) (x : V) (v vl vu : Value) (lo hi : Option Int) (sl : Addr) (Q : VK), Inv X pins σ H s → RelV x v → s.heap.IsSliceOf sl vl vu .none → IsPart vl lo → IsPart vu hi → r x lo hi H Q →
    ∃ T id, typeLookup (.type T) "__getitem__" = pure (some (.builtin id)) ∧ s.TypeIs v T ∧ wpAny (model X.prog X.w) X.A (getItem v (.ref sl)) (EP X pins σ Q) X.xe s
def tSl (r : V → Option Int → Option Int → Hp → VK → Prop) (te : TE) (tl th : TO) : TE := fun σ H Q => te σ H fun x H1 => tl σ H1 fun l H2 => th σ H2 fun u H3 => r x l u H3 Q
theorem pe_slice {r : V → Option Int → Option Int → Hp → VK → Prop} (hr : SlR X r) (he : PE X e te) (hl : PO X lo tl) (hu : PO X hi th) : PE X (.Subscript e (.Slice lo hi none p2) pos) (tSl r te tl th) := by
  intro pins s σ H Q I h
  refine Subscript_ (thn (he pins s σ H _ I h) fun v s1 ⟨x, H1, I1, r1, q1⟩ => ?_)
  refine wpAny_Slice (thn (hl pins s1 σ H1 _ I1 q1) fun vl s2 ⟨l, H2, I2, pl, q2⟩ => thn (hu pins s2 σ H2 _ I2 q2) fun vu s3 ⟨u, H3, I3, pu, q3⟩ => ?_)
  rw [evalPart_none]
  refine wpAny_pure ?_
  have I4 : Inv X pins σ H3 { s3 with heap := s3.heap.push { cls := .type "slice", data := .fields #[vl, vu, .none] } } := I3.kept (t' := s3.toks) fun b ob q => Heap.get?_push_of_some _ q
  obtain ⟨T, id, hT, ht, hg⟩ := hr pins { s3 with heap := s3.heap.push { cls := .type "slice", data := .fields #[vl, vu, .none] } } σ H3 x v vl vu l u s3.heap.objs.size Q I4 r1 (Heap.IsSliceOf.new ..) pl pu q3
  show wpAny (model X.prog X.w) X.A (subscriptTail e (.Slice lo hi none p2) v (.ref s3.heap.objs.size)) (EP X pins σ Q) X.xe { s3 with heap := s3.heap.push { cls := .type "slice", data := .fields #[vl, vu, .none] } }
  exact tail_any (ops := [.ref s3.heap.objs.size, v]) ht hT hg (by with_unfolding_all rfl)

def cutV (xs : List V) (lo hi : Option Int) : List V := (xs.drop (HT.sIx xs.length 0 lo)).take (HT.sIx xs.length xs.length hi - HT.sIx xs.length 0 lo)
theorem cutV_length (xs : List V) (lo hi : Option Int) : (cutV xs lo hi).length ≤ xs.length := by
  unfold cutV
  rw [List.length_take, List.length_drop]
  omega
/-! ### t < u, t + u -/
end
end L2

namespace L2
open PySem PySem.Spec PyProof.Rows

/-! ### places -/
def ixN (n : Nat) (i : Int) : Option Nat := if 0 ≤ i then (if i < n then some i.toNat else none) else if -(n : Int) ≤ i then some (i + n).toNat else none
def atI {α : Type} (xs : List α) (i : Int) : Option α := (ixN xs.length i).bind fun j => xs[j]?
theorem ixN_seq {n : Nat} {i : Int} {j : Nat} (h : ixN n i = some j) : seqIndex? i n = some j ∧ j < n ∧ -(n : Int) ≤ i ∧ i < n := by
  unfold ixN at h
  by_cases h0 : 0 ≤ i
  · rw [if_pos h0] at h
    by_cases h1 : i < n
    · rw [if_pos h1] at h
      have e : i.toNat = j := Option.some.inj h
      exact ⟨by rw [seqIndex_of h0 h1, e], by omega, by omega, h1⟩
    · rw [if_neg h1] at h; cases h
  · rw [if_neg h0] at h
    by_cases h1 : -(n : Int) ≤ i
    · rw [if_pos h1] at h
      have e : (i + n).toNat = j := Option.some.inj h
      exact ⟨by rw [seqIndex_neg (by omega) h1, e], by omega, h1, by omega⟩
    · rw [if_neg h1] at h; cases h
theorem atI_get {α : Type} {xs : List α} {i : Int} {v : α} (h : atI xs i = some v) : ∃ j, seqIndex? i xs.length = some j ∧ xs[j]? = some v ∧ j < xs.length ∧ -(xs.length : Int) ≤ i ∧ i < xs.length := by
  unfold atI at h
  cases e : ixN xs.length i with
  | none => rw [e] at h; cases h
  | some j =>
    rw [e] at h
    obtain ⟨h1, h2, h3, h4⟩ := ixN_seq e
    exact ⟨j, h1, h, h2, h3, h4⟩
theorem atI_nat {α : Type} {xs : List α} {j : Nat} {v : α} (h : xs[j]? = some v) : atI xs (j : Int) = some v := by
  have hj : j < xs.length := (List.getElem?_eq_some_iff.mp h).1
  have e : ixN xs.length (j : Int) = some j := by
    unfold ixN
    rw [if_pos (by omega), if_pos (by omega)]; simp
  unfold atI; rw [e]; exact h
/-! ### what may be subscripted -/
def PlainIx (b : Expr) : Prop := ∀ o i, subscripted b false o i = operate [o, i] (getItem o i)
def IxR (X : Cx) (r : R2) : Prop :=
  ∀ (value slice : Expr) (pins : List (Addr × Obj)) (s : Shared) (σ : St) (H : Hp) (x y : V) (v u : Value) (Q : VK), Inv X pins σ H s → RelV x v → RelV y u → r x y H Q →
    subscripted slice false v u = operate [v, u] (getItem v u) → wpAny (model X.prog X.w) X.A (subscriptTail value slice v u) (EP X pins σ Q) X.xe s
def MtR (X : Cx) (id : String) (r : V → List V → Hp → VK → Prop) : Prop :=
  ∀ (pins : List (Addr × Obj)) (s : Shared) (σ : St) (H : Hp) (x : V) (xs : List V) (v : Value) (us : List Value) (Q : VK), Inv X pins σ H s → RelV x v → Vals xs us → r x xs H Q →
    wpAny (model X.prog X.w) X.A (call (.builtin id) (v :: us)) (EP X pins σ Q) X.xe s
section
variable {X : Cx} {a b : Expr} {ta tb : TE} {pos : Pos}
theorem IxR.or {r r' : R2} (h : IxR X r) (h' : IxR X r') : IxR X (fun x y H Q => r x y H Q ∨ r' x y H Q) := by
  intro value slice pins s σ H x y v u Q I rx ry q hs
  rcases q with q | q
  · exact h value slice pins s σ H x y v u Q I rx ry q hs
  · exact h' value slice pins s σ H x y v u Q I rx ry q hs
theorem pe_ix {r : R2} (hr : IxR X r) (ha : PE X a ta) (hb : PE X b tb) (hs : PlainIx b) : PE X (.Subscript a b pos) (tOp r ta tb) := by
  intro pins s σ H Q I h
  exact Subscript_ (binT ha hb I h fun v u s2 x y H2 I2 rx ry q => hr a b pins s2 σ H2 x y v u Q I2 rx ry q (hs _ _))

def rIxL (K : PySem.W.Frag) : R2 := fun x y H Q => ∃ p xs i v, x = .ref p ∧ y = .int i ∧ SqL K H p xs ∧ atI xs i = some v ∧ Q v H
def rIxT (K : PySem.W.Frag) : R2 := fun x y H Q => ∃ p xs i v, x = .ref p ∧ y = .int i ∧ SqT K H p xs ∧ atI xs i = some v ∧ Q v H
def rIxS : R2 := fun x y H Q => ∃ z i c, x = .str z ∧ y = .int i ∧ z.length ≤ sizeLine ∧ atI z.cps.toList i = some c ∧ Q (.str ⟨#[c]⟩) H
theorem ix_list : IxR X (rIxL X.K) := by
  intro value slice pins s σ H x y v u Q I rx ry h hs
  obtain ⟨p, xs, i, z, rfl, rfl, hq, he, q⟩ := h
  cases rx
  obtain ⟨t, rfl⟩ := ry
  obtain ⟨its, r, pl, hz⟩ := I.list hq
  obtain ⟨j, h1, h2, h3, h4, h5⟩ := atI_get he
  obtain ⟨w, ew, rw'⟩ := r.get h2
  have hl := r.length
  have hn := line63
  have fin : EP X pins σ Q w s := ⟨z, H, I, rw', q⟩
  by_cases h0 : 0 ≤ i
  · have hj : i.toNat = j := by
      rw [seqIndex_of h0 h5] at h1
      exact Option.some.inj h1
    exact item_listR pl.isList h0 (by omega) (by rw [hj]; simpa using ew) fin hs
  · have hj : (i + (its.toArray.size : Int)).toNat = j := by
      rw [seqIndex_neg (by omega) h4] at h1
      rw [List.size_toArray, ← hl]
      exact Option.some.inj h1
    exact subscriptTail_builtinR (x := w) pl.isList.typeIs slot_list_getitem.lookup
      (wpAny_getItem_list_neg (Q := fun r s' => r = w ∧ EP X pins σ Q r s') pl.isList (by omega) (by rw [List.size_toArray] <;> omega) (by omega) (by rw [hj]; simpa using ew) ⟨rfl, fin⟩) hs
theorem ix_tup : IxR X (rIxT X.K) := by
  intro value slice pins s σ H x y v u Q I rx ry h hs
  obtain ⟨p, xs, i, z, rfl, rfl, hq, he, q⟩ := h
  cases rx
  obtain ⟨t, rfl⟩ := ry
  obtain ⟨its, r, pl, hz⟩ := I.tuple hq
  obtain ⟨j, h1, h2, h3, h4, h5⟩ := atI_get he
  obtain ⟨w, ew, rw'⟩ := r.get h2
  have hl := r.length
  have hn := line63
  have fin : EP X pins σ Q w s := ⟨z, H, I, rw', q⟩
  exact subscriptTail_builtinR (x := w) pl.typeIs slot_tuple_getitem.lookup
    (getItem_tuple (j := j) (Q := fun r s' => r = w ∧ EP X pins σ Q r s') pl (by omega) (by omega) (by rw [List.size_toArray, ← hl]; exact h1) (by simpa using ew) ⟨rfl, fin⟩) hs
theorem ix_str : IxR X rIxS := by
  intro value slice pins s σ H x y v u Q I rx ry h hs
  obtain ⟨z, i, c, rfl, rfl, hz, he, q⟩ := h
  obtain ⟨t, rfl⟩ := rx
  obtain ⟨t', rfl⟩ := ry
  obtain ⟨j, h1, h2, h3, h4, h5⟩ := atI_get he
  have hl : z.cps.toList.length = z.length := by simp [Str.length]
  rw [hl] at h1 h4 h5
  have hn := line63
  exact tail_any (typeIs_str s z t) slot_str_getitem.lookup (getItem_str (c := c) (by
    have e1 : decide (i < -(2 ^ 63 : Int)) = false := decide_eq_false (by omega)
    have e2 : decide (i ≥ 2 ^ 63) = false := decide_eq_false (by omega)
    rw [e1, e2, Bool.or_false]) (by rw [h1]; simpa using h2) ⟨.str ⟨#[c]⟩, H, I.tok _, ⟨_, rfl⟩, q⟩) hs
def rIx (K : PySem.W.Frag) : R2 := fun x y H Q => rIxL K x y H Q ∨ rIxT K x y H Q ∨ rIxS x y H Q
theorem ix_seq : IxR X (rIx X.K) := ix_list.or (ix_tup.or ix_str)

/-! ### xs[i] = v, any sign -/
theorem mapSeq_set (its : List Value) (n j : Nat) (u : Value) : Obj.mapSeq (·.setIfInBounds j u) { cls := .type "list", data := .seq its.toArray n } = { cls := .type "list", data := .seq (its.set j u).toArray n } := by
  simp [Obj.mapSeq]
theorem Inv.lst {pins : List (Addr × Obj)} {σ : St} {H : Hp} {s : Shared} {p : Addr} {xs : List V} (I : Inv X pins σ H s) (h : H p = some (.lst xs)) :
    ∃ (its : List Value) (n : Nat), Vals xs its ∧ s.heap.get? p = some { cls := .type "list", data := .seq its.toArray n } ∧ xs.length ≤ sizeLine := by
  obtain ⟨z, its, n, r, e⟩ := I.hok p _ h
  exact ⟨its, n, r, e, z⟩
theorem Inv.lstUpd {pins : List (Addr × Obj)} {σ : St} {H : Hp} {s : Shared} {p : Addr} {xs ys : List V} {its its' : List Value} {n n' : Nat} {f : Obj → Obj} (I : Inv X pins σ H s) (h : H p = some (.lst xs))
    (ho : s.heap.get? p = some { cls := .type "list", data := .seq its.toArray n }) (hf : f { cls := .type "list", data := .seq its.toArray n } = { cls := .type "list", data := .seq its'.toArray n' }) (r : Vals ys its') (hz : ys.length ≤ sizeLine) (t : Nat) :
    Inv X pins σ (upd H p (.lst ys)) { s with heap := s.heap.update p f, toks := t } := by
  have e : (s.heap.update p f).get? p = some { cls := .type "list", data := .seq its'.toArray n' } := by
    rw [Heap.get?_update_self f ho (by rw [hf] <;> rfl), hf]
  refine I.write (x := p) (e := p) (by rw [h]; trivial) (.inl rfl) (fun b u hb q => (Heap.get?_update_other _ _ (Ne.symm hb)).trans q) ⟨_, e⟩ ?_
  exact ⟨hz, its', n', r, e⟩
def rSetL : V → V → V → Hp → (Hp → Prop) → Prop := fun o i v H Q => ∃ p xs k j, o = .ref p ∧ i = .int k ∧ H p = some (.lst xs) ∧ ixN xs.length k = some j ∧ Q (upd H p (.lst (xs.set j v)))
theorem set_list : PSet X rSetL := by
  intro pins s σ H o i v ov iv u Q I ro ri rv h
  obtain ⟨p, xs, k, j, rfl, rfl, hp, hj, q⟩ := h
  cases ro
  obtain ⟨t, rfl⟩ := ri
  obtain ⟨its, n, r, ho, hz⟩ := I.lst hp
  obtain ⟨h1, h2, h3, h4⟩ := ixN_seq hj
  have hl := r.length
  have hn := line63
  have I' : Inv X pins σ (upd H p (.lst (xs.set j v))) { s with heap := s.heap.update p (Obj.mapSeq (·.setIfInBounds j u)) } :=
    I.lstUpd hp ho (mapSeq_set its n j u) (r.set rv j) (by rw [List.length_set]; exact hz) s.toks
  by_cases h0 : 0 ≤ k
  · have hk : k.toNat = j := by
      rw [seqIndex_of h0 h4] at h1
      exact Option.some.inj h1
    exact PySem.W.ki_setAt ho h0 (by omega) (by rw [List.size_toArray, ← hl]; exact h4) (by rw [hk]; exact ⟨_, I', q⟩)
  · have hk : (k + (its.toArray.size : Int)).toNat = j := by
      rw [seqIndex_neg (by omega) h3] at h1
      rw [List.size_toArray, ← hl]
      exact Option.some.inj h1
    exact PySem.W.ki_setBack ho (by omega) (by rw [List.size_toArray, ← hl]; exact h3) (by omega) (by rw [hk]; exact ⟨_, I', q⟩)

/-! ### slices -/
theorem slice_bounds (lo hi : Option Int) (n : Nat) : (sliceBounds lo hi none n).1 = ((HT.sIx n 0 lo : Nat) : Int) ∧ (sliceBounds lo hi none n).2.1 = ((HT.sIx n n hi : Nat) : Int) ∧ (sliceBounds lo hi none n).2.2 = 1 := by
  refine ⟨?_, ?_, rfl⟩
  · cases lo with
    | none => simp [sliceBounds, HT.sIx]
    | some i =>
      simp only [sliceBounds, HT.sIx, Option.getD_none, show (1 : Int) > 0 by decide, if_true]
      by_cases h : i < 0
      · simp only [h, if_true] <;> omega
      · simp only [h, if_false] <;> omega
  · cases hi with
    | none => simp [sliceBounds, HT.sIx]
    | some i =>
      simp only [sliceBounds, HT.sIx, Option.getD_none, show (1 : Int) > 0 by decide, if_true]
      by_cases h : i < 0
      · simp only [h, if_true] <;> omega
      · simp only [h, if_false] <;> omega
theorem slicePick_cut (its : List Value) (lo hi : Option Int) : slicePick its.toArray lo hi none = ((its.drop (HT.sIx its.length 0 lo)).take (HT.sIx its.length its.length hi - HT.sIx its.length 0 lo)).toArray := by
  obtain ⟨h1, h2, h3⟩ := slice_bounds lo hi its.toArray.size
  unfold slicePick
  rw [h1, h2, h3]
  simp only [sliceRange_one, pick_run, List.size_toArray] <;> rfl
def rSlL (K : PySem.W.Frag) : V → Option Int → Option Int → Hp → VK → Prop := fun x lo hi H Q => ∃ a xs, x = .ref a ∧ SqL K H a xs ∧ ∀ p, H p = none → Q (.ref p) (upd H p (.lst (cutV xs lo hi)))
theorem sl_list : SlR X (rSlL X.K) := by
  intro pins s σ H x v vl vu lo hi sl Q I rx hs pl pu h
  obtain ⟨a, xs, rfl, hx, q⟩ := h
  cases rx
  obtain ⟨its, r, ht, hz⟩ := I.list hx
  have hlen := r.length
  refine ⟨"list", _, slot_list_getitem.lookup, ht.isList.typeIs, ?_⟩
  refine wpAny_getItem_list_slice ht.isList hs pl pu .none (by simp) ?_ (by rw [List.size_toArray] <;> omega)
  rw [slicePick_cut, ← hlen]
  refine ⟨.ref s.heap.objs.size, _, I.laid (t' := s.toks) (o := .lst (cutV xs lo hi)) (fun b ob q => Heap.get?_push_of_some _ q) (Nat.le_refl _) ?_, rfl, q _ (I.hok.fresh (Nat.le_refl _))⟩
  exact ⟨Nat.le_trans (cutV_length xs lo hi) hz, _, 0, (r.drop (HT.sIx xs.length 0 lo)).take (HT.sIx xs.length xs.length hi - HT.sIx xs.length 0 lo), Heap.get?_push_size _ rfl⟩

/-! ### in, not in: flat items -/
/-! ### len, list(x), tuple(x) of any list or tuple that is read -/
theorem call_len_seq : CallR X (.builtin "len") (fun xs H Q => ∃ p ys, xs = [.ref p] ∧ (SqL X.K H p ys ∨ SqT X.K H p ys) ∧ Q (.int ys.length) H) := by
  intro pins s σ H xs us Q I r h
  obtain ⟨p, ys, rfl, hq, q⟩ := h
  obtain ⟨u, rfl, rx⟩ := vals1 r
  cases rx
  have hn := line63
  rcases hq with hq | hq
  · obtain ⟨its, r', pl, hz⟩ := I.list hq
    have hlen := r'.length
    exact Calls.call_len_list pl.isList (by simp only [List.size_toArray] <;> omega) ⟨.int ys.length, H, I.tok _, ⟨s.toks + 1, by rw [List.size_toArray, hlen]⟩, q⟩
  · obtain ⟨its, r', pl, hz⟩ := I.tuple hq
    have hlen := r'.length
    exact len_tuple pl (by simp only [List.size_toArray] <;> omega) ⟨.int ys.length, H, I.tok _, ⟨s.toks + 1, by rw [List.size_toArray, hlen]⟩, q⟩
theorem call_list_of : CallR X (.type "list") (fun xs H Q => ∃ p ys, xs = [.ref p] ∧ (SqL X.K H p ys ∨ SqT X.K H p ys) ∧ ∀ l, H l = none → Q (.ref l) (upd H l (.lst ys))) := by
  intro pins s σ H xs us Q I r h
  obtain ⟨p, ys, rfl, hq, q⟩ := h
  obtain ⟨u, rfl, rx⟩ := vals1 r
  cases rx
  have fin : ∀ (its : List Value), Vals ys its → ys.length ≤ sizeLine → ∀ (h' : Heap) (c' : Nat), (∀ b o', s.heap.get? b = some o' → h'.get? b = some o') →
      h'.get? s.heap.objs.size = some { cls := .type "list", dict := none, data := .seq its.toArray c', slots := #[] } → EP X pins σ Q (.ref s.heap.objs.size) { s with heap := h' } := fun its r' hz h' c' kp e =>
    ⟨.ref s.heap.objs.size, _, I.laid (t' := s.toks) kp (Nat.le_refl _) (show ObjOk X.prog X.w _ h' _ (.lst ys) from ⟨hz, its, c', r', e⟩), rfl, q _ (I.hok.fresh (Nat.le_refl _))⟩
  rcases hq with hq | hq
  · obtain ⟨its, r', pl, hz⟩ := I.list hq
    have hlen := r'.length
    obtain ⟨o, ho, hc, n, hd⟩ := pl.isList
    exact call_list_seq p (.inl rfl) ho hc hd (fun h' c' kp e => fin its r' hz h' c' kp e) (by simp only [List.size_toArray] <;> omega)
  · obtain ⟨its, r', pl, hz⟩ := I.tuple hq
    have hlen := r'.length
    obtain ⟨o, ho, hc, n, hd⟩ := pl
    exact call_list_seq p (.inr rfl) ho hc hd (fun h' c' kp e => fin its r' hz h' c' kp e) (by simp only [List.size_toArray] <;> omega)
theorem call_tuple_of : CallR X (.type "tuple") (fun xs H Q => ∃ p ys, xs = [.ref p] ∧ ((SqL X.K H p ys ∧ ∀ l, H l = none → Q (.ref l) (upd H l (.tup ys))) ∨ (SqT X.K H p ys ∧ Q (.ref p) H))) := by
  intro pins s σ H xs us Q I r h
  obtain ⟨p, ys, rfl, h⟩ := h
  obtain ⟨u, rfl, rx⟩ := vals1 r
  cases rx
  rcases h with ⟨hq, q⟩ | ⟨hq, q⟩
  · obtain ⟨its, r', pl, hz⟩ := I.list hq
    have hlen := r'.length
    refine call_tuple_list pl.isList (fun h' kp => ?_) (by simp only [List.size_toArray] <;> omega)
    have I1 : Inv X pins σ H { s with heap := h' } := I.kept (t' := s.toks) kp
    have I2 : Inv X pins σ (upd H h'.objs.size (.tup ys)) { s with heap := h'.push { cls := .type "tuple", data := .seq its.toArray } } :=
      I1.laid (t' := s.toks) (fun b o e => Heap.get?_push_of_some _ e) (Nat.le_refl _) (show ObjOk X.prog X.w _ _ _ (.tup ys) from ⟨hz, its, r', IsTup.new _ _⟩)
    exact ⟨.ref h'.objs.size, _, I2, rfl, q _ (I1.hok.fresh (Nat.le_refl _))⟩
  · obtain ⟨its, r', pl, hz⟩ := I.tuple hq
    exact call_tuple_same pl ⟨.ref p, H, I, rfl, q⟩

/-! ### the call of a builtin's method: o.m(..) -/
def tyV (K : PySem.W.Frag) (T : String) (x : V) (H : Hp) : Prop := match x with
  | .str _ => T = "str"
  | .int _ => T = "int"
  | .ref p => (T = "list" ∧ ∃ xs, SqL K H p xs) ∨ (T = "tuple" ∧ ∃ o, K.lookup p = some o ∧ o.cls = .type "tuple" ∧ o.dict = none) ∨
      (T = "dict" ∧ ((∃ kvs, H p = some (.dK kvs)) ∨ ∃ kvs, H p = some (.dT kvs))) ∨ (T = "set" ∧ ∃ S n, H p = some (.set S n))
  | _ => False
theorem tyV_is {pins : List (Addr × Obj)} {σ : St} {H : Hp} {s : Shared} {T : String} {x : V} {v : Value} (I : Inv X pins σ H s) (r : RelV x v) (ty : tyV X.K T x H) :
    s.TypeIs v T ∧ ∀ a, v = .ref a → ∃ ob, s.heap.get? a = some ob ∧ ob.dict = none := by
  cases x with
  | str z =>
    obtain ⟨t, rfl⟩ := r
    cases (show T = "str" from ty)
    exact ⟨typeIs_str s z t, fun _ e => nomatch e⟩
  | int i =>
    obtain ⟨t, rfl⟩ := r
    cases (show T = "int" from ty)
    exact ⟨typeIs_int s i t, fun _ e => nomatch e⟩
  | ref p =>
    cases r
    rcases ty with ⟨rfl, xs, hq⟩ | ⟨rfl, o, hk, hc, hd⟩ | ⟨rfl, hk⟩ | ⟨rfl, S, n, hk⟩
    · obtain ⟨its, _, pl, _⟩ := I.list hq
      refine ⟨pl.isList.typeIs, fun a e => ?_⟩
      cases e
      obtain ⟨o, n, e, c, hd, _⟩ := pl
      exact ⟨o, e, hd⟩
    · refine ⟨⟨o, I.kIn p o hk, hc⟩, fun a e => ?_⟩
      cases e
      exact ⟨o, I.kIn _ o hk, hd⟩
    · have z : ∃ o, s.heap.get? p = some o ∧ o.ExactDict := by
        rcases hk with ⟨kvs, hk⟩ | ⟨kvs, hk⟩
        · obtain ⟨_, _, _, _, o, _, _, e, ex, _⟩ := I.hok p _ hk
          exact ⟨o, e, ex⟩
        · obtain ⟨_, _, _, _, o, _, _, e, ex, _⟩ := I.hok p _ hk
          exact ⟨o, e, ex⟩
      obtain ⟨o, e, ex⟩ := z
      refine ⟨⟨o, e, ex.1⟩, fun a e2 => ?_⟩
      cases e2
      exact ⟨o, e, ex.2.1⟩
    · obtain ⟨o, _, _, _, e, ex, _⟩ := I.hok p _ hk
      refine ⟨⟨o, e, ex.1⟩, fun a e2 => ?_⟩
      cases e2
      exact ⟨o, e, ex.2.1⟩
  | _ => exact False.elim ty
def tBM (K : PySem.W.Frag) (T : String) (r : V → List V → Hp → VK → Prop) (to : TE) (t : TA) : TE := fun σ H Q => to σ H fun x H1 => tyV K T x H1 ∧ t σ H1 fun xs H2 => r x xs H2 Q
variable {o e : Expr} {es : List Expr} {to : TE} {t : TA} {name : Str} {apos cpos : Pos} {T id : String} {r : V → List V → Hp → VK → Prop}
theorem pe_bm (pa : PlainAttrs T) (slot : Slot T name id) (hty : typeOf (.builtin id) = pure (.type "method_descriptor")) (hm : MtR X id r) (ho : PE X o to) (ha : PA X (e :: es) t)
    (hbase : attributeBase o name X.env (eval o X.env) = eval o X.env := by rfl)
    (hfew : ((backTo cpos (starEach (e :: es) X.env)).all (fun x => !x.1) && (backToKw cpos (keywordEach [] X.env)).all (fun x => x.1.isSome)
      && decide ((e :: es).length + ([] : List Keyword).length + (if ([] : List Keyword).isEmpty then 0 else 1) < 30)) = true := by rfl)
    (hline : (apos.endLine == cpos.line) = true := by rfl) (hs : starEach (e :: es) X.env = (false, eval e X.env) :: starEach es X.env := by rfl) (hplain : (backTo cpos (starEach es X.env)).any (·.1) = false := by rfl) :
    PE X (.Call (.Attribute o name apos) (e :: es) [] cpos) (tBM X.K T r to t) := by
  intro pins s σ H Q I h
  refine wpAny_Call_method_late hbase hfew hline rfl (thn (ho pins s σ H _ I h) fun v s1 ⟨x, H1, I1, r1, ty, q1⟩ => ?_)
  obtain ⟨h1, h2⟩ := tyV_is I1 r1 ty
  refine ⟨T, id, pa, slot, hty, h1, h2, ?_⟩
  have hA := ha cpos pins s1 σ H1 _ I1 q1
  rw [hs] at hA ⊢
  refine Calls.callWith_builtin (by show (false || (backTo cpos (starEach es X.env)).any (·.1)) = false; rw [hplain] <;> rfl) (Calls.evalArgs_plain ?_)
  exact thn hA fun us s2 ⟨vs, H2, I2, r2, q2⟩ => hm pins s2 σ H2 x vs v us Q I2 r1 r2 q2
/- xs.append(e), list.index on a module's tuple .. are MtR facts of 06m -/
end
end L2

namespace L2
open PySem PySem.Spec PyProof.Rows

def MtM (X : Cx) (id : String) (r : V → List V → Hp → VK → Prop) : Prop :=
  ∀ (pins : List (Addr × Obj)) (s : Shared) (σ : St) (H : Hp) (x : V) (xs : List V) (v : Value) (us : List Value) (Q : VK), Inv X pins σ H s → RelV x v → Vals xs us → r x xs H Q →
    wpAny (model X.prog X.w) X.A (call (.builtin id) (v :: us)) (EP X pins σ Q) X.xe s

/-! ### lists of values -/
theorem Vals.one : ∀ {x : V} {us : List Value}, Vals [x] us → ∃ u, us = [u] ∧ RelV x u
  | _, _, .cons r .nil => ⟨_, rfl, r⟩
theorem Vals.two : ∀ {x y : V} {us : List Value}, Vals [x, y] us → ∃ u v, us = [u, v] ∧ RelV x u ∧ RelV y v
  | _, _, _, .cons r (.cons q .nil) => ⟨_, _, rfl, r, q⟩
theorem Vals.reverse {xs : List V} {us : List Value} (h : Vals xs us) : Vals xs.reverse us.reverse := by
  induction h with
  | nil => exact .nil
  | cons r t ih => rw [List.reverse_cons, List.reverse_cons]; exact Vals.append ih (.cons r .nil)
theorem Vals.rep {xs : List V} {us : List Value} (h : Vals xs us) : ∀ k : Nat, Vals (List.replicate k xs).flatten (List.replicate k us).flatten
  | 0 => .nil
  | k + 1 => by
    rw [List.replicate_succ, List.replicate_succ, List.flatten_cons, List.flatten_cons]
    exact Vals.append h (Vals.rep h k)
theorem foldl_rep (its : List Value) : ∀ (k : Nat) (acc : List Value),
    List.foldl (fun x1 x2 => x1 ++ x2) acc.toArray (List.replicate k its.toArray) = (acc ++ (List.replicate k its).flatten).toArray
  | 0, acc => by simp
  | k + 1, acc => by
    have e : acc.toArray ++ its.toArray = (acc ++ its).toArray := by simp
    have e2 : (acc ++ its) ++ (List.replicate k its).flatten = acc ++ (List.replicate (k + 1) its).flatten := by
      rw [List.replicate_succ, List.flatten_cons, List.append_assoc]
    rw [← e2, ← foldl_rep its k (acc ++ its), ← e, List.replicate_succ, List.foldl_cons]

section
variable {X : Cx} {pins : List (Addr × Obj)} {σ : St} {H : Hp} {s : Shared} {l b : Addr} {xs ys zs : List V}

/-! ### the two steps: a tracked list is rewritten, a new list is laid -/
theorem Inv.lset {its its' : List Value} {n : Nat} {f : Array Value → Array Value} {t' : Nat} (I : Inv X pins σ H s) (hH : H l = some (.lst xs))
    (e : s.heap.get? l = some { cls := .type "list", data := .seq its.toArray n }) (hf : f its.toArray = its'.toArray) (hv : Vals ys its') (hz : ys.length ≤ sizeLine) :
    Inv X pins σ (upd H l (.lst ys)) { s with heap := s.heap.update l (Obj.mapSeq f), toks := t' } := by
  have q := PySem.IsL.update e f
  rw [hf] at q
  refine I.write (x := l) (e := l) (by rw [hH]; exact trivial) (.inl rfl) (fun b' u hb hu => (Heap.get?_update_other s.heap (Obj.mapSeq f) (Ne.symm hb)).trans hu) ⟨_, q⟩ ?_
  exact ⟨hz, its', _, hv, q⟩
theorem Inv.lnew {its : List Value} {t' : Nat} (I : Inv X pins σ H s) (hv : Vals ys its) (hz : ys.length ≤ sizeLine) :
    Inv X pins σ (upd H s.heap.objs.size (.lst ys)) { s with heap := s.heap.push { cls := .type "list", data := .seq its.toArray }, toks := t' } :=
  I.laid (fun _ _ q => Heap.get?_push_of_some _ q) (Nat.le_refl _) ⟨hz, its, 0, hv, Heap.get?_push_size _ rfl⟩
theorem Inv.fresh (I : Inv X pins σ H s) : H s.heap.objs.size = none := I.hok.fresh (Nat.le_refl _)
theorem Inv.lstM (I : Inv X pins σ H s) (hH : H l = some (.lst xs)) : xs.length ≤ sizeLine ∧ ∃ (its : List Value) (n : Nat), Vals xs its ∧ xs.length = its.length ∧ s.heap.get? l = some { cls := .type "list", data := .seq its.toArray n } := by
  obtain ⟨z, its, n, r, e⟩ := I.hok l _ hH
  exact ⟨z, its, n, r, r.length, e⟩

theorem notLongL {n : Nat} (h : n ≤ sizeLine) : Builtin.List.listTooLong n = false := by
  unfold Builtin.List.listTooLong
  exact decide_eq_false (by omega)
end

section
variable {X : Cx}

/-! ### methods -/
def rAppend : V → List V → Hp → VK → Prop := fun x vs H Q => ∃ l xs y, x = .ref l ∧ vs = [y] ∧ H l = some (.lst xs) ∧ xs.length < sizeLine ∧ Q .non (upd H l (.lst (xs ++ [y])))
theorem mt_append : MtM X "list.append" rAppend := by
  intro pins s σ H x vs v us Q I rx rv h
  obtain ⟨l, xs, y, rfl, rfl, hH, hz, q⟩ := h
  cases rx
  obtain ⟨u, rfl, ru⟩ := rv.one
  obtain ⟨z, its, n, r, hl, e⟩ := I.lstM hH
  refine call_meets F.slot_list_append ⟨_, e, rfl⟩ F.entry_list_append (F.args_list_append_2 _ _) (PySem.list_append l its.toArray n u (by rw [List.size_toArray]; omega)) ⟨e, ?_⟩
  refine ⟨.non, _, I.lset (its' := its ++ [u]) hH e (by simp) (r.append (.cons ru .nil)) ?_, rfl, q⟩
  rw [List.length_append, List.length_singleton]
  omega

/-! ### list + list, list += list, list * int -/
def rCat : R2 := fun x y H Q => ∃ l b xs zs, x = .ref l ∧ y = .ref b ∧ H l = some (.lst xs) ∧ H b = some (.lst zs) ∧ xs.length + zs.length ≤ sizeLine ∧ ∀ p, H p = none → Q (.ref p) (upd H p (.lst (xs ++ zs)))
theorem op_cat : OpR X (binaryOp .Add) rCat := by
  intro pins s σ H x y v u Q I rx ry h
  obtain ⟨l, b, xs, zs, rfl, rfl, hH, hB, hz, q⟩ := h
  cases rx
  cases ry
  obtain ⟨z, its, n, r, hl, e⟩ := I.lstM hH
  obtain ⟨z2, its2, n2, r2, hl2, e2⟩ := I.lstM hB
  refine PySem.P.add_list e e2 ?_ (by rw [List.size_toArray, List.size_toArray]; omega)
  have ea : its.toArray ++ its2.toArray = (its ++ its2).toArray := by simp
  rw [ea]
  exact ⟨.ref _, _, I.lnew (t' := s.toks) (r.append r2) (by rw [List.length_append]; omega), rfl, q _ I.fresh⟩
def rRep : R2 := fun x y H Q => ∃ l k xs, x = .ref l ∧ y = .int k ∧ H l = some (.lst xs) ∧ -(2 ^ 63) ≤ k ∧ k < 2 ^ 63 ∧ xs.length * k.toNat ≤ sizeLine ∧
  ∀ p, H p = none → Q (.ref p) (upd H p (.lst (List.replicate k.toNat xs).flatten))
theorem len_rep {α : Type} (xs : List α) (k : Nat) : (List.replicate k xs).flatten.length = k * xs.length := by
  induction k with
  | zero => simp
  | succ k ih => rw [List.replicate_succ, List.flatten_cons, List.length_append, ih, Nat.succ_mul, Nat.add_comm]
theorem op_rep : OpR X (binaryOp .Mult) rRep := by
  intro pins s σ H x y v u Q I rx ry h
  obtain ⟨l, k, xs, rfl, rfl, hH, h1, h2, hz, q⟩ := h
  cases rx
  obtain ⟨t, rfl⟩ := ry
  obtain ⟨z, its, n, r, hl, e⟩ := I.lstM hH
  have hlen : its.toArray.size * k.toNat ≤ sizeLine := by rw [List.size_toArray, ← hl]; exact hz
  have hcap : ¬ its.toArray.size * k.toNat > (2 ^ 63 - 1) / 8 := by
    have : (sizeLine : Nat) ≤ (2 ^ 63 - 1) / 8 := by decide
    omega
  have hfit : ¬ (!Builtin.List.listFitsIndex k) = true := by
    rw [fitsIndex_both h1 h2]
    exact Bool.false_ne_true
  have hlong : ¬ Builtin.List.listTooLong (its.toArray.size * k.toNat) = true := by
    rw [notLongL hlen]
    exact Bool.false_ne_true
  have hnew : List.foldl (fun x1 x2 => x1 ++ x2) #[] (List.replicate (if its.toArray.isEmpty = true then 0 else k.toNat) its.toArray) = (List.replicate k.toNat its).flatten.toArray := by
    have f0 : ∀ m : Nat, List.foldl (fun x1 x2 => x1 ++ x2) #[] (List.replicate m its.toArray) = (List.replicate m its).flatten.toArray := fun m => by
      have := foldl_rep its m []
      rw [List.nil_append] at this
      exact this
    rw [f0]
    cases its with
    | nil => simp
    | cons a r' => rw [if_neg (by simp)]
  refine wpAny_binaryOp_repeat_ref (T := "list") (U := "int") (by decide) ⟨_, e, rfl⟩ (fun s' => typeIs_int s' k t) noFill_list_mul F.fills_int_mul F.slot_int_rmul repeat_list F.slot_int_index.lookup
    (call_meets F.slot_int_rmul (typeIs_int s k t) F.entry_int_rmul (F.args_int_rmul_2 _ _) (int___rmul___int_list k t l its.toArray n)
      ⟨e, rfl, ⟨_, e, rfl⟩, call_meets F.slot_list_mul ⟨_, e, rfl⟩ F.entry_list_mul (F.args_list_mul_2 _ _) (AutoListH.list___mul___list_int_3 l its.toArray n k t hfit hcap hlong) ⟨e, ?_⟩⟩)
  rw [hnew]
  exact ⟨.ref _, _, I.lnew (t' := s.toks) (r.rep k.toNat) (by rw [len_rep, Nat.mul_comm]; exact hz), rfl, q _ I.fresh⟩

/-! ### del xs[i] -/
end

/-! ### xs[a:b] = ys -/
section
variable {prog : Program} {w : World} {A : Around} {E : Value → Shared → Prop} {s : Shared}
set_option maxRecDepth 100000 in
end

end L2

namespace Att
open PySem PySem.W PySem.Calls PyProof.Rows

/-! ### the script -/
theorem ints_of_wellAll {P : Params} {h : Heap} : ∀ (ns : List Int) (vs : List Value), WellAll P h vs (ns.map WData.int) → IntsAre vs ns := by
  intro ns
  induction ns with
  | nil =>
    intro vs w
    rw [List.map_nil] at w
    cases w
    exact .nil
  | cons n ns ih =>
    intro vs w
    rw [List.map_cons] at w
    cases w with
    | cons a b =>
      cases a
      exact .cons _ _ (ih _ b)

theorem script_of {l : OpenLaw} {n : Nat} (hn : l.most = some n) {P : Params} {h : Heap} {args : List WData} {vals : List Value}
    (hpre : l.row.toRowW.claim.pre args = true) (hwl : WellAll P h vals args) :
    ∃ a vs ns, vals = [Value.ref a] ∧ args = [WData.list (ns.map WData.int)] ∧ h.get? a = some { cls := .type "list", data := .seq vs.toArray } ∧ IntsAre vs ns ∧ ns.length ≤ n := by
  have hsh : WShape.hasAll [] args [.list .int] = true := (pre_splitW hpre).1
  have hc : l.pre.holds [] { args := args } = true := (pre_splitW hpre).2
  obtain ⟨d, r, rfl, h1, h2⟩ := hasAllW_cons hsh
  obtain rfl := hasAllW_nil h2
  obtain ⟨xs, rfl, h3⟩ := hasW_list h1
  obtain ⟨ns, rfl⟩ := items_int h3
  have hlen : ns.length ≤ n := by
    unfold OpenLaw.pre at hc
    have h4 : (WTm.not (.lt (.lit (.int (n : Int))) (.len (.arg 0)))).holds [] { args := [.list (ns.map .int)] } = true := by
      have h4 := (holds_andW hc).1
      rw [hn] at h4
      exact h4
    have h5 := condW_of h4 (w_not (w_lt w_lit (w_len_list (w_arg rfl))))
    rw [List.length_map] at h5
    refine Nat.le_of_not_lt fun q => ?_
    have q' : (n : Int) < ((ns.length : Nat) : Int) := by omega
    first
      | (rw [decide_eq_true q'] at h5; exact absurd h5 (by decide))
      | (simp at h5; omega)
  cases hwl with
  | cons w1 w2 =>
    cases w2
    cases w1 with
    | list ho hall => exact ⟨_, _, ns, rfl, rfl, ho, ints_of_wellAll ns _ hall, hlen⟩

theorem post_true (l : OpenLaw) (args : List WData) : l.row.toRowW.claim.post args (.bool true) args = true :=
  postW_of (r := l.row.toRowW) (X := (true == true))
    (show WShape.has [] (.bool true) .bool = true by first | rfl | decide | simp [WShape.has, WShape.arms, WShape.armsAll])
    (show (WTm.eq .res (.lit (.bool true))).value [] { args := args, res := some (.bool true), after := args } = some (.bool (true == true)) from w_eq_bool (w_res rfl) w_lit) rfl

/-! ### the attachment: holds_open's last premise (the goal 'hc' behind k_head) from a wpAny of the law's body -/
theorem attach_call {l : OpenLaw} {n : Nat} {q : Program} {loose : List Str} {XP : (Str → Option Value) → Heap → Prop} {YP : World → Heap → Prop} {d : DefRec}
    (hn : l.most = some n) (hdf : d.params.defaults = [])
    (call : ∀ (w : World) (s₀ s₁ : Shared) (mg mb : Str → Option Value) (fa : Addr) (o : Obj) (pm cd doc : Value) (a : Addr) (vs : List Value) (ns : List Int),
      Ground q loose [] XP w s₀ mg mb s₁.heap → YP w s₁.heap →
      s₁.heap.get? fa = some o → o.data = .func (docDef d.name d.params d.body d.scope pm cd doc) → s₁.heap.CodeRec cd d.name → mg d.name = some (.ref fa) →
      s₁.heap.get? a = some { cls := .type "list", data := .seq vs.toArray } → IntsAre vs ns → ns.length ≤ n → s₁.gens = #[] →
      codeAny (model l.prog w) callerA (.call (.ref fa) ⟨[.ref a], []⟩) (fun r s' => r = .ok (.ret (.bool true)) ∧ OldK s₁.heap s'.heap ∧ s'.os = s₁.os ∧ AllBare s'.gens) s₁) :
    WalkO q loose XP YP l.row.toRowW d [] (fun f vs => PySem.call f vs) := by
  intro w s₀ s₁ mg mb G Y fa o pm cd doc dV kV ho hd hcd hD hmg hg args vals as hpre hlay hrd hwl hlo
  obtain rfl : dV = .none := Dflts.none hD hdf
  obtain rfl : kV = .none := Dflts.noKw hD
  obtain ⟨a, vs, ns, rfl, rfl, hobj, hints, hlen⟩ := script_of hn hpre hwl
  refine enter_call (codeAny_mono (call w s₀ s₁ mg mb fa o pm cd doc a vs ns G Y ho (fd_plain hd) hcd hmg hobj hints hlen hg) fun r s' hq => ?_)
  obtain ⟨rfl, h2, h3, h4⟩ := hq
  exact ⟨.inl ⟨.bool true, .bool true, [], rfl, fun _ => rfl, .bool true, post_true l _, fun _ => ⟨List.Pairwise.nil, fun _ hm => (nomatch hm)⟩⟩, h2, h3, h4⟩

/-! ### rules over ANY heap (no ledger) from facts about the written part K: the library's own take a ledger (News) for what they write -/
section
variable {prog : Program} {w : World} {A : Around} {E : Value → Shared → Prop} {s : Shared} {K : Frag}

/-! the whole heap as the ledger: makes every rule that writes through a ledger a rule over any heap -/
end
end Att

namespace L2
open PySem PySem.Spec PyProof.Rows

theorem vals_ints : ∀ {vs : List Value} {ns : List Int}, IntsAre vs ns → Vals (ns.map V.int) vs
  | _, _, .nil => .nil
  | _, _, .cons n t h => .cons ⟨t, rfl⟩ (vals_ints h)

def Only (H : Hp) : Prop := ∀ b, H b = none ∨ ∃ o xs, H b = some (.frz o (.lst xs))

theorem law_call {P : Program} {w : World} {K : PySem.W.Frag} {mg mb : Str → Option Value} {CX : CXT} {k : Nat} {fa a : Addr} {fd : FuncData} {x : Str} {sp : Sp} {s₁ : Shared} {vs : List Value} {ns : List Int}
    (KX : K.In s₁.heap) (hns : s₁.heap.Ns mainGlobals mg) (hb : s₁.heap.Ns builtinsNs mb) (hbb : ∀ x : Str, x ≠ "__name__" → mb x = bootBuiltins x) (hlim : s₁.heap.NoLimit) (hg : s₁.gens = #[])
    (ha : s₁.heap.get? a = some { cls := .type "list", data := .seq vs.toArray }) (hi : IntsAre vs ns) (hl : ns.length ≤ sizeLine) (hr : Room k callerA)
    (F : ∀ base : Heap, K.In base → base.Ns mainGlobals mg → FnOk P w K mg base CX k fa fd [x] sp) (hbind : ∀ (s : Shared) (u : Value), BindsTo s fd ⟨[u], []⟩ [(x, u)])
    (hsp : ∀ H : Hp, Only H → SqL K H a (ns.map V.int) → sp [.ref a] H (fun v _ => v = .bl true) fun _ _ _ => False)
    (hCX : ∀ H e s', CX [] H s₁ (fun _ _ _ => False) e s' → False) :
    codeAny (model P w) callerA (.call (.ref fa) ⟨[.ref a], []⟩) (fun r s' => r = .ok (.ret (.bool true)) ∧ OldK s₁.heap s'.heap ∧ s'.os = s₁.os ∧ AllBare s'.gens) s₁ := by
  have rv := vals_ints hi
  have lenV := hi.length
  -- from an abstract heap in which nothing but the script may be tracked
  have core : ∀ H : Hp, Only H → SqL K H a (ns.map V.int) → HOk P w H s₁.heap → (∀ b, H b ≠ none → b = a) → (H a ≠ none → K.lookup a = none) →
      codeAny (model P w) callerA (.call (.ref fa) ⟨[.ref a], []⟩) (fun r s' => r = .ok (.ret (.bool true)) ∧ OldK s₁.heap s'.heap ∧ s'.os = s₁.os ∧ AllBare s'.gens) s₁ := by
    intro H hO hS hok hA hK
    have base_of : ∀ {b : Addr} {o : Obj}, s₁.heap.get? b = some o → H b = none → (hidT s₁.heap H).get? b = some o := fun e n => hidT_get e n
    have noA : ∀ {b : Addr} {o : Obj} {es : Array DictEntry} {ep : Nat}, s₁.heap.get? b = some o → o.data = .dict es ep → H b = none := fun {b o es ep} e d => by
      cases q : H b with
      | none => rfl
      | some u =>
        have e' : b = a := hA b (by rw [q]; simp)
        subst e'
        rw [ha] at e; cases e
        have d' : Data.seq vs.toArray _ = Data.dict es ep := d
        cases d'
    have nsK : ∀ {b : Addr} {m : Str → Option Value}, s₁.heap.Ns b m → (hidT s₁.heap H).Ns b m := fun {b m} ⟨o, es, ep, e, d, r⟩ => ⟨o, es, ep, base_of e (noA e d), d, r⟩
    have hKb : K.In (hidT s₁.heap H) := fun b o e => base_of (KX b o e) (by
      cases q : H b with
      | none => rfl
      | some u =>
        have e' : b = a := hA b (by rw [q]; simp)
        subst e'
        rw [hK (by rw [q]; simp)] at e; cases e)
    have hM : Mod K mg (hidT s₁.heap H) := ⟨hKb, nsK hns, ⟨mb, nsK hb, hbb⟩, let ⟨mc, h1, h2⟩ := hlim; ⟨mc, nsK h1, h2⟩⟩
    have e0 : Env0 P w K mg (hidT s₁.heap H) callerA [] s₁ H := ⟨rfl, hM, fun b o e => of_hidT e, Nat.le_of_eq (hidT_size _ _), trivial, fun b hb => absurd (show b ∈ ([] : List Addr) from hb) (by simp), hok, .of_eq hg⟩
    refine codeAny_mono ((F _ hKb (nsK hns)).run callerA [] s₁ H ⟨[.ref a], []⟩ [.ref a] [.ref a] _ _ hr e0 (hbind s₁ (.ref a)) (.cons rfl .nil) (hsp H hO hS)) fun r s' h => ?_
    cases r with
    | error e => exact (hCX H e s' h).elim
    | ok fl =>
      cases fl with
      | next => exact False.elim h
      | brk => exact False.elim h
      | cont => exact False.elim h
      | ret u =>
        obtain ⟨v, H', os, bare, un, hok', r', q⟩ := h
        have q' : v = .bl true := q
        subst q'
        obtain rfl : u = Value.bool true := r'
        refine ⟨rfl, OldK.of_keep fun b o e => ?_, os, bare⟩
        cases q : H b with
        | none => exact un.keep b o e q (by intro z; exact absurd (show b ∈ ([] : List Addr) from z) (by simp)) (by simp)
        | some u =>
          rcases hO b with z | ⟨ob, xs, z⟩
          · rw [q] at z; cases z
          · have z2 := un.frzs b ob _ z
            obtain ⟨e1, _⟩ := hok b _ z
            obtain ⟨e2, _⟩ := hok' b _ z2
            rw [e] at e1; cases e1
            exact e2
  cases hk : K.lookup a with
  | some o =>
    -- the script is one of the module's own objects
    have e := KX a o hk
    rw [ha] at e
    cases e
    refine core (fun _ => none) (fun _ => .inl rfl) (.inr ⟨_, vs.toArray, _, hk, rfl, rfl, rfl, by rw [List.size_toArray, lenV]; exact hl, by simpa using rv⟩) (fun b u z => by have z' : (none : Option HO) = some u := z; cases z') (fun b z => absurd rfl z) fun z => absurd rfl z
  | none =>
    refine core (fun b => if b = a then some (.frz { cls := .type "list", data := .seq vs.toArray } (.lst (ns.map V.int))) else none) (fun b => ?_) (.inl (.inr ⟨{ cls := .type "list", data := .seq vs.toArray }, if_pos rfl⟩)) (fun b u z => ?_) (fun b z => ?_) fun _ => hk
    · by_cases hb : b = a
      · exact .inr ⟨_, _, if_pos hb⟩
      · exact .inl (if_neg hb)
    · by_cases hb : b = a
      · have z' := (if_pos hb).symm.trans z
        cases z'
        subst hb
        exact ⟨ha, by rw [List.length_map]; exact hl, vs, _, rv, ha⟩
      · have z' := (if_neg hb).symm.trans z
        cases z'
    · by_cases hb : b = a
      · exact hb
      · exact absurd (if_neg hb) z
end L2

namespace L2
open PySem PySem.Spec PyProof.Rows

theorem walk_of {l : PySem.W.OpenLaw} {n k : Nat} {q : Program} {loose : List Str} {XP : (Str → Option Value) → Heap → Prop} {YP : World → Heap → Prop} {d : DefRec} {K : Params → PySem.W.Frag} {CX : World → CXT} {sp : World → Sp} {x : Str}
    (hn : l.most = some n) (hn2 : n ≤ sizeLine) (hdf : d.params.defaults = []) (hr : Room k callerA)
    (hY : ∀ (w : World) (h : Heap), YP w h → (K w.params).In h)
    (F : ∀ (w : World) (mg : Str → Option Value) (fa : Addr) (h : Heap), (K w.params).In h → h.Ns mainGlobals mg → mg d.name = some (.ref fa) →
      ∃ fd : FuncData, (∀ (s : Shared) (u : Value), BindsTo s fd ⟨[u], []⟩ [(x, u)]) ∧
        ∀ base : Heap, (K w.params).In base → base.Ns mainGlobals mg → FnOk l.prog w (K w.params) mg base (CX w) k fa fd [x] (sp w))
    (hsp : ∀ (w : World) (H : Hp) (a : Addr) (ns : List Int), ns.length ≤ n → Only H → SqL (K w.params) H a (ns.map V.int) → sp w [.ref a] H (fun v _ => v = .bl true) fun _ _ _ => False)
    (hCX : ∀ (w : World) (H : Hp) (s : Shared) (e : Value) (s' : Shared), CX w [] H s (fun _ _ _ => False) e s' → False) :
    PySem.W.WalkO q loose XP YP l.row.toRowW d [] (fun f vs => PySem.call f vs) := by
  refine Att.attach_call hn hdf fun w s₀ s₁ mg mb fa o pm cd doc a vs ns G Y ho hd hcd hmg hobj hints hlen hg => ?_
  have KX := hY w _ Y
  obtain ⟨fd, hb, hF⟩ := F w mg fa _ KX G.T.g hmg
  exact law_call KX G.T.g G.T.b G.T.builtins G.T.nolimit hg hobj hints (Nat.le_trans hlen hn2) hr hF hb (fun H hO hS => hsp w H a ns hlen hO hS) fun H e s' => hCX w H s₁ e s'
end L2

/- THE LAST THEOREM (shape; LID, My.* are yours):
   My.Adr: a structure of the addresses that your layer names (classes, functions); My.Txt K t: a structure (Prop) of the equations over K;
   My.txt_mk : {K} {implicit addresses ..} (e1 : nsIn K mainGlobals "law" = some (some (.ref f))) (e2 : K.lookup f = some ⟨oc, od, .func (fnOf "law" "law" params body scope dV kV doc pm an cdv ct), sl⟩) (e3 : codeIn K cdv "law" = true) .. : ∃ t, My.Txt K t

set_option maxRecDepth 100000 in
set_option maxHeartbeats 0 in
theorem PySem.Challenge.cw_LID_holds : PySem.Challenge.rw_LID.Holds := by
  w_on; o_law; k_head; (case hw => w_witness2)
  k_fill
  refine L2.walk_of (l := PySem.Challenge.rw_LID) (n := 63) (k := 40) (x := "script") (CX := fun w => ..) (sp := fun _ => My.sp_law) rfl (by decide) rfl ⟨rfl, by decide, by decide⟩ (fun w h Y => PySem.W.kIn_of Y) ?F ?S ?C
  case F =>
    intro w mg fa h KX G hmg
    have T : ∃ t, My.Txt (L2.KOf KX) t := by
      dsimp only [L2.KOf]                          -- K must stand as «<heap const> w.params» for k_is
      refine' My.txt_mk ?e1 ?e2 ?e3 ..
      (case e1 => PySem.W.k_is)                    -- in the order: a name -> its address -> its object -> its parts
      (case e2 => PySem.W.k_is)
      ..
    obtain ⟨t, T⟩ := T
    have e0 := hmg.symm.trans (PySem.W.mg_of KX G T.law)
    cases e0                                       -- fa is the law's own address
    exact ⟨_, fun s u => .of_eq rfl, fun base kb nb => My.law_fn T kb nb⟩     -- if «.of_eq rfl» comes too early: refine' ⟨_, ?b, fun base kb nb => My.law_fn T kb nb⟩; exact fun s u => .of_eq rfl
  case S => exact fun w H a ns hl hO hS => ..
  case C => exact ..
(the tactic k_is has no namespace: write k_is) -/

/-! SHORT WORDS over the layer: a def of the text, its body, what a loop and a test want. -/
namespace L2
open PySem PySem.Spec PyProof.Rows

/-! ### the text by places -/
def inClass (s : Stmt) (j : Nat) : Stmt := match s with
  | .ClassDef _ _ _ body _ _ _ _ _ _ _ => body.getD j (.Pass ⟨0, 0, 0, 0⟩)
  | _ => .Pass ⟨0, 0, 0, 0⟩
def defArgs (s : Stmt) : Arguments := match s with
  | .FunctionDef _ a _ _ _ _ _ _ _ _ => a
  | _ => { posonlyargs := [], args := [], vararg := none, kwonlyargs := [], kw_defaults := [], kwarg := none, defaults := [] }
def defBody (s : Stmt) : List Stmt := match s with
  | .FunctionDef _ _ b _ _ _ _ _ _ _ => b
  | _ => []
def defScope (s : Stmt) : Scope := match s with
  | .FunctionDef _ _ _ _ _ _ sc _ _ _ => sc
  | _ => { kind := .function, names := [], isGenerator := false, isCoroutine := false }

/-! ### no exception leaves a def -/
abbrev CX0 : CXT := fun _ _ _ _ _ _ => False
abbrev E0 : XK := fun _ _ _ => False
theorem pass0 {X : Cx} : Passes CX0 X E0 := fun _ _ _ _ _ _ _ h => h.elim

/-! ### a def (or method) of the text as it stands behind the top -/
structure Fun (K : PySem.W.Frag) (x qual : Str) (st : Stmt) (f : Addr) (fd : FuncData) : Prop where
  ex : ∃ (oc : Value) (od : Option Addr) (kV doc pm : Value) (an : Option Addr) (cdv ct : Value) (osl : Array (Option Value)),
    fd = PySem.W.fnOf x qual (defArgs st) (defBody st) (defScope st) .none kV doc pm an cdv ct ∧ K.lookup f = some ⟨oc, od, .func fd, osl⟩ ∧ PySem.W.codeIn K cdv qual = true
  kp : PySem.W.keepIn K (.ref f) = true
section
variable {P : Program} {w : World} {K : PySem.W.Frag} {mg : Str → Option Value} {base : Heap}
theorem Fun.ok {x qual : Str} {st : Stmt} {f : Addr} {fd : FuncData} {N ps : List Str} {k : Nat} {sp : Sp} (F : Fun K x qual st f fd) (S : FnScope N ps (defScope st)) (len : ∀ vs H Q E, sp vs H Q E → vs.length = ps.length)
    (hbody : ∀ (cdv : Value) (A : Around) (outer : List Env) (s : Shared) (H : Hp) (vs : List V) (Q : VK) (E : XK), Room k (A.deeper (envOfC qual (defScope st) s.heap.objs.size f cdv)) → sp vs H Q E →
      ∃ t, PSs (cxOf CX0 P w K mg base N qual (defScope st) f cdv A outer s H E).nox (defBody st) t ∧ t { nx := fun _ H' => Q .non H', rt := Q } (start N vs) H) : FnOk P w K mg base CX0 (k + 1) f fd ps sp := by
  obtain ⟨oc, od, kV, doc, pm, an, cdv, ct, osl, rfl, lk, hcd⟩ := F.ex
  refine fn_of lk hcd S len fun A outer s H vs Q E hr hsp => ?_
  obtain ⟨t, h, q⟩ := hbody cdv A outer s H vs Q E hr hsp
  exact ⟨t, h.nox, q⟩
theorem Fun.binds {x qual : Str} {st : Stmt} {f : Addr} {fd : FuncData} {ps : List Str} (F : Fun K x qual st f fd)
    (h : ∀ (kV doc pm : Value) (an : Option Addr) (cdv ct : Value) (us : List Value), us.length = ps.length → bindArgs (PySem.W.fnOf x qual (defArgs st) (defBody st) (defScope st) .none kV doc pm an cdv ct) ⟨us, []⟩ = pure (ps.zip us)) : Binds K fd ps [] := by
  obtain ⟨oc, od, kV, doc, pm, an, cdv, ct, osl, rfl, lk, hcd⟩ := F.ex
  exact .all (h kV doc pm an cdv ct)
theorem fun_mk {x qual : Str} {st : Stmt} {f : Addr} {oc : Value} {od an : Option Addr} {osl : Array (Option Value)} {kV doc pm cdv ct : Value} (l : K.lookup f = some ⟨oc, od, .func (PySem.W.fnOf x qual (defArgs st) (defBody st) (defScope st) .none kV doc pm an cdv ct), osl⟩)
    (c : PySem.W.codeIn K cdv qual = true) (k : PySem.W.keepIn K (.ref f) = true) : Fun K x qual st f (PySem.W.fnOf x qual (defArgs st) (defBody st) (defScope st) .none kV doc pm an cdv ct) := ⟨⟨oc, od, kV, doc, pm, an, cdv, ct, osl, rfl, l, c⟩, k⟩
end
theorem hu_of {A : Around} {k : Nat} (hr : Room k A) : A.units + 1 < cLine := Nat.lt_of_le_of_lt (Nat.add_le_add_left (by decide : 1 ≤ 64) _) hr.units
/-! ### expressions in short: the name that stands in the i-th slot -/
section
variable {X : Cx}
theorem pv (i : Nat) {x : Str} {pos : Pos} (hN : X.N[i]? = some x := by rfl) (hv : Vis X.env.scope x := by first | exact Or.inl rfl | exact Or.inr (Or.inl rfl) | exact Or.inr (Or.inr rfl)) (hd : (x == ("__debug__" : Str)) = false := by decide)
    (hcd : (x == ("__classdict__" : Str)) = false := by decide) : PE X (.Name x pos) (tVar i) := pe_var hN hv hd hcd
end

/-! ### tests -/
theorem iteF {A B : Prop} (h : B) : if false = true then A else B := by
  rw [if_neg Bool.false_ne_true]
  exact h
theorem iteT {A B : Prop} (h : A) : if true = true then A else B := by
  rw [if_pos rfl]
  exact h
theorem ite2 {c A B : Prop} [Decidable c] (h1 : c → A) (h2 : ¬ c → B) : if c then A else B := by
  by_cases h : c
  · rw [if_pos h]
    exact h1 h
  · rw [if_neg h]
    exact h2 h
theorem iteNS {c A B : Prop} [Decidable c] (hc : c) (h : B) : if (!decide c) = true then A else B := by
  rw [decide_eq_true hc]
  exact iteF h

/-! ### heaps -/
def Same (H H' : Hp) : Prop := ∀ b o, H b = some o → H' b = some o
theorem Same.refl (H : Hp) : Same H H := fun _ _ h => h
theorem Same.trans {H H1 H2 : Hp} (a : Same H H1) (b : Same H1 H2) : Same H H2 := fun c o h => b c o (a c o h)
theorem Same.free {H H' : Hp} (e : Same H H') {l : Addr} (h : H' l = Option.none) : H l = Option.none := by
  cases q : H l with
  | none => rfl
  | some o =>
    rw [e l o q] at h
    cases h
theorem Same.seq {K : PySem.W.Frag} {H H' : Hp} {a : Addr} {xs : List V} (e : Same H H') (h : SqL K H a xs) : SqL K H' a xs := by
  rcases h with (h | ⟨o, h⟩) | h
  · exact .inl (.inl (e _ _ h))
  · exact .inl (.inr ⟨o, e _ _ h⟩)
  · exact .inr h

end L2

/-! COMPREHENSIONS over the hand layer: one clause, any target, at most one test; no exception leaves the block. -/
namespace L2
open PySem PySem.Spec PyProof.Rows

abbrev NoX : Value → Shared → Prop := fun _ _ => False
abbrev ifsRun (ifs : List Expr) (env : Env) : Sem Bool :=
  forIn ifs true fun c r => if r = true then do let ok ← isTrue c env (eval c env); pure (ForInStep.yield ok) else pure (ForInStep.yield r)

theorem compLoop_any {prog : Program} {w : World} {A : Around} {R : Result → Shared → Prop} {s : Shared} {elt target iter : Expr} {ifs : List Expr} {scope : Scope} {pos : Pos} {it acc : Value} {env : Env} (I : Nat → Shared → Prop)
    (turn : ∀ n s, I n s → wpAny (model prog w) A (pyNext it) (fun r s₁ => match r with
      | none => R (.ok .next) s₁
      | some v => wpAny (model prog w) A (letOwnedTupleGo target it v) (fun _ s₁' => wpAny (model prog w) A (assign target env v) (fun _ s₂ =>
          wpAny (model prog w) A (ifsRun ifs env) (fun ok s₃ =>
            if ok = true then wpAny (model prog w) A (eval elt env) (fun x s₄ =>
              wpAny (model prog w) A (call (.builtin "list.append") [acc, x]) (fun _ s₅ => ∃ m, m < n ∧ I m s₅) NoX s₄) NoX s₃
            else ∃ m, m < n ∧ I m s₃) NoX s₂) NoX s₁') NoX s₁) NoX s)
    (n : Nat) (h : I n s) : codeAny (model prog w) A (.compLoop (.ListComp elt [⟨target, iter, ifs, 0⟩] scope pos) 0 it acc env) R s := by
  refine codeAny_loop rfl I (fun n s hI => ?_) n h
  show wpAny _ A ((compTurn (.ListComp elt [⟨target, iter, ifs, 0⟩] scope pos) 0 it acc env).onRaise (fun x => do noteFrame x env; theTreesLotGoes x)) _ _ s
  refine wpAny_noted ?_
  rw [compTurn_list]
  refine wpAny_bind (wpAny_standAt (wpAny_bind (wpAny_mono (turn n s hI) (fun r s₁ h₁ => ?_) fun _ _ h' => h'.elim)))
  cases r with
  | none => exact wpAny_pure h₁
  | some v =>
    refine wpAny_bind (wpAny_mono h₁ (fun _ s₁' h₁' => ?_) fun _ _ h' => h'.elim)
    refine wpAny_bind (wpAny_mono h₁' (fun _ s₂ h₂ => wpAny_bind (wpAny_mono h₂ (fun ok s₃ h₃ => ?_) fun _ _ h' => h'.elim)) fun _ _ h' => h'.elim)
    cases ok with
    | false => exact wpAny_pure ⟨rfl, h₃⟩
    | true =>
      exact wpAny_bind (wpAny_bind (wpAny_mono h₃ (fun x s₄ h₄ => wpAny_bind (wpAny_mono h₄ (fun _ s₅ h₅ => wpAny_pure (wpAny_pure ⟨rfl, h₅⟩)) fun _ _ h' => h'.elim)) fun _ _ h' => h'.elim))

def clos (names : List (Str × NameKind)) (cells : List (Str × Addr)) : List (Str × Addr) :=
  names.foldl (fun cs y => if y.2 == .free then (y.1, (cells.lookup y.1).getD 0) :: cs else cs) []
theorem closureFor_of {scope : Scope} {env : Env} (h : ∀ y ∈ scope.names, y.2 = .free → ∃ c, env.cells.lookup y.1 = some c) : closureFor scope env = pure (clos scope.names env.cells) := by
  have all : ∀ (names : List (Str × NameKind)) (cs : List (Str × Addr)), (∀ y ∈ names, y.2 = .free → ∃ c, env.cells.lookup y.1 = some c) →
      (forIn (m := Sem) names cs fun (y : Str × NameKind) (r : List (Str × Addr)) => if (y.2 == NameKind.free) = true then do let c ← cellOf env y.1; pure (ForInStep.yield ((y.1, c) :: r)) else pure (ForInStep.yield r)) =
        pure (names.foldl (fun cs y => if y.2 == .free then (y.1, (env.cells.lookup y.1).getD 0) :: cs else cs) cs) := by
    intro names
    induction names with
    | nil => intro cs _; rfl
    | cons y r ih =>
      intro cs hy
      rw [List.forIn_cons]
      by_cases hk : y.2 = .free
      · obtain ⟨c, hc⟩ := hy y List.mem_cons_self hk
        have hb : (y.2 == NameKind.free) = true := by simp [hk]
        rw [if_pos hb, List.foldl_cons, if_pos hb, hc]
        have e : cellOf env y.1 = pure c := by unfold cellOf; rw [hc]
        rw [e]
        exact ih _ fun z hz => hy z (List.mem_cons_of_mem _ hz)
      · have hb : ¬ (y.2 == NameKind.free) = true := by simpa using hk
        rw [if_neg hb, List.foldl_cons, if_neg hb]
        exact ih _ fun z hz => hy z (List.mem_cons_of_mem _ hz)
  unfold closureFor
  have e := all scope.names [] h
  exact (congrArg (fun z => z >>= fun cs => pure cs) e).trans rfl
theorem clos_mem {cells : List (Str × Addr)} : ∀ (names : List (Str × NameKind)) (cs : List (Str × Addr)) {p : Str × Addr},
    p ∈ names.foldl (fun cs y => if y.2 == .free then (y.1, (cells.lookup y.1).getD 0) :: cs else cs) cs → p ∈ cs ∨ (p.2 = (cells.lookup p.1).getD 0 ∧ (p.1, NameKind.free) ∈ names)
  | [], cs, p, h => .inl h
  | (n, k) :: r, cs, p, h => by
    rw [List.foldl_cons] at h
    rcases clos_mem r _ h with h | ⟨h1, h2⟩
    · by_cases hk : k = .free
      · subst hk
        rw [if_pos (by rfl)] at h
        rcases List.mem_cons.mp h with e | h
        · subst e
          exact .inr ⟨rfl, List.mem_cons_self⟩
        · exact .inl h
      · rw [if_neg (by simpa using hk)] at h
        exact .inl h
    · exact .inr ⟨h1, List.mem_cons_of_mem _ h2⟩
theorem clos_keep {cells : List (Str × Addr)} {x : Str} : ∀ (names : List (Str × NameKind)) (cs : List (Str × Addr)), ((∃ p ∈ cs, p.1 = x) ∨ (x, NameKind.free) ∈ names) →
    ∃ p ∈ names.foldl (fun cs y => if y.2 == .free then (y.1, (cells.lookup y.1).getD 0) :: cs else cs) cs, p.1 = x
  | [], cs, h => by
    rcases h with h | h
    · exact h
    · simp at h
  | (n, k) :: r, cs, h => by
    rw [List.foldl_cons]
    refine clos_keep r _ ?_
    rcases h with ⟨p, hp, e⟩ | h
    · refine .inl ⟨p, ?_, e⟩
      split
      · exact List.mem_cons_of_mem _ hp
      · exact hp
    · rcases List.mem_cons.mp h with e | h
      · cases e
        exact .inl ⟨_, by rw [if_pos (by rfl)]; exact List.mem_cons_self, rfl⟩
      · exact .inr h
theorem lookup_some_of {β : Type} {x : Str} : ∀ {l : List (Str × β)}, (∃ p ∈ l, p.1 = x) → ∃ c, l.lookup x = some c
  | [], h => by obtain ⟨p, hp, _⟩ := h; simp at hp
  | (n, b) :: r, h => by
    rw [List.lookup_cons]
    by_cases hx : x = n
    · subst hx
      exact ⟨b, by simp⟩
    · have hb : (x == n) = false := by simpa using hx
      rw [hb]
      refine lookup_some_of ?_
      obtain ⟨p, hp, e⟩ := h
      rcases List.mem_cons.mp hp with z | z
      · subst z; exact absurd e.symm hx
      · exact ⟨p, z, e⟩
theorem clos_lookup {names : List (Str × NameKind)} {cells : List (Str × Addr)} {x : Str} {c : Addr} (h : (clos names cells).lookup x = some c) : c = (cells.lookup x).getD 0 ∧ (x, NameKind.free) ∈ names := by
  have hm := PySem.mem_of_lookup h
  rcases clos_mem names [] hm with z | z
  · simp at z
  · exact z
theorem clos_has {names : List (Str × NameKind)} {cells : List (Str × Addr)} {x : Str} (h : (x, NameKind.free) ∈ names) : ∃ c, (clos names cells).lookup x = some c :=
  lookup_some_of (clos_keep names [] (.inr h))
theorem relabel_lookup {env : Env} {x : Str} {k : NameKind} : ∀ {names : List (Str × NameKind)},
    (names.map fun (n, k) => if (k == NameKind.free && env.scope.kind == .function && env.kindOf n == some .cell) then (n, NameKind.cell) else (n, k)).lookup x = some k → ∃ k', (x, k') ∈ names ∧ (k' = k ∨ k' = .free)
  | [], h => by simp at h
  | (n, k0) :: r, h => by
    have h : List.lookup x ((if (k0 == NameKind.free && env.scope.kind == .function && env.kindOf n == some .cell) = true then (n, NameKind.cell) else (n, k0)) :: _) = _ := h
    by_cases hx : x = n
    · subst hx
      by_cases hc : (k0 == NameKind.free && env.scope.kind == .function && env.kindOf x == some .cell) = true
      · have : k0 = .free := by
          simp only [Bool.and_eq_true, beq_iff_eq] at hc
          exact hc.1.1
        exact ⟨k0, List.mem_cons_self, .inr this⟩
      · rw [if_neg hc] at h
        simp only [List.lookup_cons, beq_self_eq_true] at h
        exact ⟨k0, List.mem_cons_self, .inl (Option.some.inj h)⟩
    · have hb : (x == n) = false := by simpa using hx
      have ih := @relabel_lookup env x k r
      by_cases hc : (k0 == NameKind.free && env.scope.kind == .function && env.kindOf n == some .cell) = true
      · rw [if_pos hc] at h
        simp only [List.lookup_cons, hb] at h
        obtain ⟨k', h1, h2⟩ := ih h
        exact ⟨k', List.mem_cons_of_mem _ h1, h2⟩
      · rw [if_neg hc] at h
        simp only [List.lookup_cons, hb] at h
        obtain ⟨k', h1, h2⟩ := ih h
        exact ⟨k', List.mem_cons_of_mem _ h1, h2⟩

abbrev compN (X : Cx) (T : List Str) (js : List Nat) : List Str := T ++ js.map fun j => X.N.getD j ""
abbrev compSt (T : List Str) (js : List Nat) (σ : St) : St := T.map (fun _ => none) ++ js.map fun j => σ.getD j none
abbrev cxComp (X : Cx) (T : List Str) (js : List Nat) (scope : Scope) (fp : List Addr) (pl : List (Addr × Obj)) (s : Shared) (H : Hp) : Cx :=
  { X with N := compN X T js, s₀ := s, H₀ := H, env := compEnvC scope (clos scope.names X.env.cells) s.heap.objs.size X.env, outer := X.stack, stack := X.stack, ex := fp, fn := fun _ => false, pn := X.pn ++ pl, xe := NoX }
structure CompScope (X : Cx) (T : List Str) (js : List Nat) (scope : Scope) : Prop where
  kind : scope.kind = .function
  nocell : ∀ y ∈ scope.names, y.2 ≠ .cell
  loc : ∀ y ∈ scope.names, y.2 = .local → scope.names.lookup y.1 = some .local
  free : ∀ y ∈ scope.names, y.2 = .free → X.env.kindOf y.1 = some .cell ∨ X.env.kindOf y.1 = some .free
  caps : ∀ j ∈ js, (X.N.getD j "", NameKind.free) ∈ scope.names
  capk : ∀ j ∈ js, (compEnvC scope (clos scope.names X.env.cells) 0 X.env).kindOf (X.N.getD j "") = some .cell ∨ (compEnvC scope (clos scope.names X.env.cells) 0 X.env).kindOf (X.N.getD j "") = some .free

section
variable {X : Cx} {T : List Str} {js : List Nat} {scope : Scope}
theorem CompScope.cells (S : CompScope X T js scope) (ok : X.Ok) {x : Str} {c : Addr} (h : (clos scope.names X.env.cells).lookup x = some c) : X.env.cells.lookup x = some c := by
  obtain ⟨h1, h2⟩ := clos_lookup h
  obtain ⟨c', hc⟩ := ok.has x (S.free _ h2 rfl)
  rw [hc] at h1
  rw [hc, h1]; rfl
theorem CompScope.ok (S : CompScope X T js scope) {pins : List (Addr × Obj)} {σ : St} {H : Hp} {s : Shared} {fp : List Addr} (I : Inv X pins σ H s) (hf : ∀ b ∈ fp, FpOk X pins H b) (ho : ∀ b ∈ fp, b < s.heap.objs.size) :
    (cxComp X T js scope fp pins s H).Ok := by
  have ok := I.ok
  refine ⟨ok.mod, S.kind, ok.glob, ok.blt, Nat.le_refl _, fun x y c h1 h2 => ok.inj x y c (S.cells ok h1) (S.cells ok h2), fun x hx => ?_, fun x c h => (nomatch h), ok.hd, ok.frames, .inl rfl, fun b hb => ⟨Nat.ne_of_lt (ho b hb), fun x c h => (hf b hb).2.2.2.2.1 x c (S.cells ok h)⟩,
    I.bs, Nat.le_trans ok.bsz I.sz, fun b o e hb => ?_, fun b hb hs => ?_, I.stack, I.stkFree⟩
  · have hx' : (relabel scope X.env).names.lookup x = some .cell ∨ (relabel scope X.env).names.lookup x = some .free := hx
    have go : ∀ k, (relabel scope X.env).names.lookup x = some k → (k = .cell ∨ k = .free) → ∃ c, (clos scope.names X.env.cells).lookup x = some c := fun k e hk => by
      obtain ⟨k', h1, h2⟩ := relabel_lookup e
      refine clos_has ?_
      rcases h2 with z | z
      · rcases hk with q | q
        · exact absurd (z.trans q) (S.nocell _ h1)
        · rw [z, q] at h1; exact h1
      · rw [z] at h1; exact h1
    rcases hx' with e | e
    · exact go _ e (.inl rfl)
    · exact go _ e (.inr rfl)
  · rcases (hf b hb).2.2.2.1 with z | z
    · exact ok.noex b o e z
    · exact absurd (Nat.lt_of_lt_of_le (Heap.lt_size e) (Nat.le_trans ok.bsz z)) (Nat.lt_irrefl _)
  · have f := hf b hb
    rcases List.mem_cons.mp (I.stkSub b hs) with z | z
    · exact f.2.1 z
    · exact f.2.2.1 z
theorem CompScope.inv (S : CompScope X T js scope) {pins : List (Addr × Obj)} {σ : St} {H : Hp} {s : Shared} {fp : List Addr} {h' : Heap} {m : Str → Option Value} {tk : Nat} (I : Inv X pins σ H s) (hf : ∀ b ∈ fp, FpOk X pins H b) (ho : ∀ b ∈ fp, b < s.heap.objs.size)
    (hn : h'.Ns s.heap.objs.size m) (hk : ∀ b o, s.heap.get? b = some o → h'.get? b = some o) :
    Inv (cxComp X T js scope fp pins s H) [] (compSt T js σ) H { s with heap := h', toks := tk } := by
  have ok := I.ok
  refine ⟨S.ok I hf ho, rfl, I.bare, Un.kept hk, ⟨m, hn, fun i x v h1 h2 h3 => ?_⟩, fun x c h => ?_, I.hok.fresh (Nat.le_refl _), fun x c h => I.freeC x c (S.cells ok h), fun p hp => ?_, I.hok.kept hk, ?_⟩
  · have hi : T.length ≤ i := by
      by_cases hi : i < T.length
      · have h2 : (T.map (fun _ => (none : Option V)) ++ js.map fun j => σ.getD j none)[i]? = some (some v) := h2
        rw [List.getElem?_append_left (by simpa using hi), List.getElem?_map] at h2
        cases e : T[i]? with
        | none => rw [e] at h2; cases h2
        | some z => rw [e] at h2; cases h2
      · omega
    have h2 : (T.map (fun _ => (none : Option V)) ++ js.map fun j => σ.getD j none)[i]? = some (some v) := h2
    rw [List.getElem?_append_right (by simpa using hi), List.getElem?_map] at h2
    have h1 : (T ++ js.map fun j => X.N.getD j "")[i]? = some x := h1
    rw [List.getElem?_append_right hi, List.getElem?_map] at h1
    rw [List.length_map] at h2
    cases e : js[i - T.length]? with
    | none => rw [e] at h2; cases h2
    | some j =>
      rw [e] at h1 h2
      have h1 : X.N.getD j "" = x := Option.some.inj h1
      have h2 : σ.getD j none = some v := Option.some.inj h2
      have hj : j ∈ js := List.mem_of_getElem? e
      have hσ : σ[j]? = some (some v) := by
        rw [List.getD_eq_getElem?_getD] at h2
        cases q : σ[j]? with
        | none => rw [q] at h2; cases h2
        | some z => rw [q] at h2; exact congrArg some h2
      have hjN : j < X.N.length := by
        rw [← I.len]
        exact (List.getElem?_eq_some_iff.mp hσ).1
      have hN : X.N[j]? = some x := by
        rw [← h1, List.getD_eq_getElem?_getD, List.getElem?_eq_getElem hjN]; rfl
      have hkx : X.env.kindOf x = some .cell ∨ X.env.kindOf x = some .free := by
        have := S.free _ (S.caps j hj) rfl
        rw [h1] at this
        exact this
      obtain ⟨m0, _, hl⟩ := I.loc
      have vis : Vis X.env.scope x := by
        rcases hkx with q | q
        · exact .inr (.inl q)
        · exact .inr (.inr q)
      obtain ⟨u, r, l⟩ := hl j x v hN hσ vis
      refine ⟨u, r, .inr ⟨?_, ?_⟩⟩
      · have := S.capk j hj
        rw [h1] at this
        exact this
      · rcases l with ⟨q, _⟩ | ⟨_, c, hc, z⟩
        · rcases hkx with z | z
          · rw [z] at q; cases q
          · rw [z] at q; cases q
        · obtain ⟨c', hc'⟩ := clos_has (cells := X.env.cells) (S.caps j hj)
          rw [h1] at hc'
          have e1 := S.cells ok hc'
          rw [hc] at e1
          cases e1
          obtain ⟨oc, hoc, hd⟩ := z
          exact ⟨c, hc', oc, hk _ _ hoc, hd⟩
  · obtain ⟨v, oc, hoc, hd⟩ := I.cell x c (S.cells ok h)
    exact ⟨v, oc, hk _ _ hoc, hd⟩
  · have hp : p ∈ (X.pn ++ pins) ++ [] := hp
    rw [List.append_nil] at hp
    obtain ⟨e, n, ne, nf, d⟩ := I.pin p hp
    refine ⟨hk _ _ e, n, Nat.ne_of_lt (Heap.lt_size e), fun hs => ?_, d⟩
    rcases List.mem_cons.mp (I.stkSub _ hs) with z | z
    · exact ne z
    · exact nf z
  · simp
end

/-! ### the tests of a clause -/
def PIf (X : Cx) (ifs : List Expr) (t : TT) : Prop :=
  ∀ (pins : List (Addr × Obj)) (s : Shared) (σ : St) (H : Hp) (Q : Bool → Hp → Prop), Inv X pins σ H s → t σ H Q → wpAny (model X.prog X.w) X.A (ifsRun ifs X.env) (TP X pins σ Q) X.xe s
def tNoIf : TT := fun _ H Q => Q true H
theorem pif_nil {X : Cx} : PIf X [] tNoIf := fun pins s σ H Q I h => wpAny_tests_nil ⟨H, I, h⟩
theorem pif_one {X : Cx} {c : Expr} {t : TT} (hc : PT X c t) : PIf X [c] t := fun pins s σ H Q I h => wpAny_tests_one (hc pins s σ H Q I h)

/-! ### the reading: W by the turn and a measure over the block's own names and the heap; the list grows at p -/
def CompR (J : It) (p : Addr) (Q : VK) (g : TG) (ti : TT) (te : TE) (σ0 : St) (H0 : Hp) : Prop :=
  ∃ W : Nat → Nat → St → Hp → Prop, (∃ m, W 0 m σ0 H0) ∧
  ∀ i m σ H, W i m σ H → (J.stop i H ∧ Q (.ref p) H) ∨ (J.go i H ∧ ∃ N : St → Hp → Prop, (∀ σ' H', N σ' H' → ∃ m', m' < m ∧ W (i + 1) m' σ' H') ∧ ∀ x H', J.yld i H x H' → g x σ H' fun σ2 H2 =>
    ti σ2 H2 fun b H3 => if b = true then te σ2 H3 fun v H4 => ∃ xs, H4 p = some (.lst xs) ∧ xs.length < sizeLine ∧ N σ2 (upd H4 p (.lst (xs ++ [v]))) else N σ2 H3)
def tComp (T : List Str) (js : List Nat) (wi : TI) (g : TG) (ti : TT) (te : TE) : TE := fun σ H Q => wi σ H fun J H1 => ∀ p, H1 p = none → CompR J p Q g ti te (compSt T js σ) (upd H1 p (.lst []))

section
variable {X : Cx} {T : List Str} {js : List Nat} {scope : Scope} {elt tg iter : Expr} {ifs : List Expr} {wi : TI} {g : TG} {ti : TT} {te : TE} {pos : Pos}
theorem comp_core {pins : List (Addr × Obj)} {σ : St} {H1 : Hp} {s2 : Shared} {Q : VK} {it : Addr} {fp : List Addr} {tn : Nat → Heap → Prop} {J : It} {E : Value → Shared → Prop} {RR : Value → Addr → Result → Shared → Prop}
    (hc : X.calm = true) (S : CompScope X T js scope)
    (hb : ∀ fp pl s H, PG (cxComp X T js scope fp pl s H) tg g ∧ PIf (cxComp X T js scope fp pl s H) ifs ti ∧ PE (cxComp X T js scope fp pl s H) elt te)
    (I : Inv X pins σ H1 s2) (Tn : Turn X.prog X.w X.K tg J fp it tn) (st0 : tn 0 s2.heap) (hf : ∀ b ∈ fp, FpOk X pins H1 b)
    (hq : ∀ p, H1 p = none → CompR J p Q g ti te (compSt T js σ) (upd H1 p (.lst [])))
    (hR : ∀ (D C : Addr) (s' : Shared) (H' : Hp) (m : Str → Option Value), Inv X pins σ H' s' → Q (.ref D) H' → s'.heap.Ns C m → H' C = none → C ≠ X.env.locals → X.s₀.heap.objs.size ≤ C → (∀ x c, X.env.cells.lookup x = some c → c ≠ C) → (∀ p ∈ X.pn ++ pins, p.1 ≠ C) →
      RR (.ref D) C (.ok .next) s') :
    wpAny (model X.prog X.w) X.A (newList []) (fun acc s₃ => wpAny (model X.prog X.w) X.A (newFunctionEnv scope X.env.globals (clos scope.names X.env.cells) [] X.env.qual none .none (some X.env)) (fun cenv s₄ =>
      codeAny (model X.prog X.w) X.A (.compStart (.ListComp elt [⟨tg, iter, ifs, 0⟩] scope pos) 0 (.ref it) acc { cenv with scope := relabel scope X.env }) (RR acc cenv.locals) s₄) E s₃) E s2 := by
  refine wpAny_newObj_type (wpAny_newFunctionEnv S.nocell (by intro y hy; simp at hy) (fun h₁ hns₁ hsb₁ => ?_) S.kind)
  dsimp only at hns₁ hsb₁ ⊢
  have I2 := I.lnew (its := []) (ys := []) (t' := s2.toks) .nil (Nat.zero_le _)
  have hD : H1 s2.heap.objs.size = none := I.fresh
  obtain ⟨W, ⟨m0, w0⟩, turn⟩ := hq s2.heap.objs.size hD
  generalize hs3 : ({ s2 with heap := s2.heap.push { cls := .type "list", data := .seq ([] : List Value).toArray }, toks := s2.toks } : Shared) = s3 at I2
  have hh3 : s3.heap = s2.heap.push { cls := .type "list", data := .seq ([] : List Value).toArray } := by rw [← hs3]
  generalize hDD : s2.heap.objs.size = D at *
  have hC : s3.heap.objs.size = D + 1 := by rw [hh3, Heap.size_push, hDD]
  have ho : ∀ b ∈ fp, b < D := fun b hb => by
    obtain ⟨o, e, _⟩ := Tn.obj _ _ st0 b hb
    rw [← hDD]
    exact Heap.lt_size e
  have hf3 : ∀ b ∈ fp, FpOk X pins (upd H1 D (.lst [])) b := fun b hb => ⟨by rw [upd_ne (Nat.ne_of_lt (ho b hb))]; exact (hf b hb).1, (hf b hb).2⟩
  have ho3 : ∀ b ∈ fp, b < s3.heap.objs.size := fun b hb => by rw [hC]; exact Nat.lt_succ_of_lt (ho b hb)
  have kk : ∀ b o, s3.heap.get? b = some o → h₁.get? b = some o := fun b o e => hsb₁.extBut b o (by rw [← hh3]; exact Nat.ne_of_lt (Heap.lt_size e)) (Heap.get?_push_of_some _ (by rw [← hh3]; exact e))
  obtain ⟨mC, hns⟩ : ∃ m, h₁.Ns s3.heap.objs.size m := ⟨_, by rw [hh3]; exact hns₁⟩
  have I3 := S.inv (tk := s2.toks + ([] : List (Str × Value)).length) I2 hf3 ho3 hns kk
  have Xc : ∀ fp pl s H, (cxComp X T js scope fp pl s H).calm = true := fun _ _ _ _ => hc
  obtain ⟨bG, bI, bE⟩ := hb fp pins s3 (upd H1 D (.lst []))
  have fpOk : ∀ {H' : Hp}, (∀ b ∈ fp, H' b = none) → ∀ b ∈ fp, FpOk (cxComp X T js scope fp pins s3 (upd H1 D (.lst []))) [] H' b := fun hn b hb => by
    obtain ⟨f0, f1, f2, f3, f4, f5⟩ := hf3 b hb
    refine ⟨hn b hb, Nat.ne_of_lt (ho3 b hb), fun hs => ?_, .inl hb, fun x c h => f4 x c (S.cells I.ok h), fun p hp => ?_⟩
    · rcases List.mem_cons.mp (I2.stkSub _ hs) with z | z
      · exact f1 z
      · exact f2 z
    · have hp : p ∈ (X.pn ++ pins) ++ [] := hp
      rw [List.append_nil] at hp
      exact f5 p hp
  have st3 : tn 0 h₁ := Tn.keep _ _ _ st0 fun b hb o e => kk b o (by rw [hh3]; exact Heap.get?_push_of_some _ e)
  have eEnv : ({ newEnv scope (s2.heap.push { cls := .type "list", data := .seq ([] : List Value).toArray }).objs.size X.env.globals (clos scope.names X.env.cells) X.env.qual none .none (some X.env) builtinsNs with scope := relabel scope X.env } : Env) = compEnvC scope (clos scope.names X.env.cells) s3.heap.objs.size X.env := by
    rw [hh3]; rfl
  have eC : (newEnv scope (s2.heap.push { cls := .type "list", data := .seq ([] : List Value).toArray }).objs.size X.env.globals (clos scope.names X.env.cells) X.env.qual none .none (some X.env) builtinsNs).locals = s3.heap.objs.size := by
    rw [hh3]; rfl
  have nfin : ∀ {s' : Shared} {σ' : St} {H' : Hp}, Inv (cxComp X T js scope fp pins s3 (upd H1 D (.lst []))) [] σ' H' s' → Q (.ref D) H' → RR (.ref D) s3.heap.objs.size (.ok .next) s' := fun {s' σ' H'} J' q => by
    have I4 : Inv X pins σ H' s' := I2.call' (ch := fp) J'.os J'.base J'.hok J'.bare fun b hb => ⟨(hf3 b hb).2.2.2.1, (hf3 b hb).2.1, (hf3 b hb).2.2.2.2.1, (hf3 b hb).2.2.2.2.2⟩
    obtain ⟨m', hn', _⟩ := J'.loc
    refine hR D s3.heap.objs.size s' H' m' I4 q hn' J'.free (Nat.ne_of_gt I2.lt) I2.sz (fun x c h => ?_) (fun p hp => ?_)
    · obtain ⟨v, z⟩ := I2.cell x c h
      exact Nat.ne_of_lt z.lt
    · exact Nat.ne_of_lt (Heap.lt_size (I2.pin p hp).1)
  have loop : codeAny (model X.prog X.w) X.A (.compLoop (.ListComp elt [⟨tg, iter, ifs, 0⟩] scope pos) 0 (.ref it) (.ref D) (compEnvC scope (clos scope.names X.env.cells) s3.heap.objs.size X.env)) (RR (.ref D) s3.heap.objs.size)
      { s3 with heap := h₁, toks := s2.toks + ([] : List (Str × Value)).length } := by
    refine compLoop_any (fun n s' => ∃ i σ' H', Inv (cxComp X T js scope fp pins s3 (upd H1 D (.lst []))) [] σ' H' s' ∧ tn i s'.heap ∧ (∀ b ∈ fp, H' b = none) ∧ W i n σ' H') ?_ m0 ⟨0, _, _, I3, st3, fun b hb => (hf3 b hb).1, w0⟩
    rintro n s4 ⟨i, σ4, H4, I4, st4, fr4, w4⟩
    rcases turn i n σ4 H4 w4 with ⟨stop, qn⟩ | ⟨go, N, hN, step⟩
    · refine thn (Tn.done (cxComp X T js scope fp pins s3 (upd H1 D (.lst []))) rfl rfl rfl hc i [] s4 σ4 H4 NoX I4 (fpOk fr4) st4 stop) fun r s5 ⟨hr, I5⟩ => ?_
      subst hr
      exact nfin I5 qn
    · refine thn (Tn.item (cxComp X T js scope fp pins s3 (upd H1 D (.lst []))) rfl rfl rfl hc i [] s4 σ4 H4 NoX I4 (fpOk fr4) st4 go) fun r s5 ⟨u, hr, h5⟩ => ?_
      subst hr
      refine thn h5 fun _ s6 ⟨x, H6, I6, r6, y6, st6, fr6⟩ => ?_
      have I6' := I6.pinned (fpOk fr6) (Tn.obj _ _ st6)
      refine thn (bG _ s6 σ4 H6 x u _ I6' r6 (step x H6 y6)) fun _ s7 ⟨σ7, H7, I7, q7⟩ => ?_
      refine thn (bI _ s7 σ7 H7 _ I7 q7) fun ok s8 ⟨H8, I8, q8⟩ => ?_
      have again : ∀ {s9 : Shared} {σ9 : St} {H9 : Hp}, Inv (cxComp X T js scope fp pins s3 (upd H1 D (.lst []))) ([] ++ pinsAt fp s6.heap) σ9 H9 s9 → N σ9 H9 →
          ∃ m, m < n ∧ ∃ i σ' H', Inv (cxComp X T js scope fp pins s3 (upd H1 D (.lst []))) [] σ' H' s9 ∧ tn i s9.heap ∧ (∀ b ∈ fp, H' b = none) ∧ W i m σ' H' := fun {s9 σ9 H9} I9 n9 => by
        obtain ⟨m', hm, w9⟩ := hN σ9 H9 n9
        refine ⟨m', hm, i + 1, σ9, H9, I9.unpinned, Tn.keep _ _ _ st6 fun b hb o e => (I9.pin (b, o) (List.mem_append_right _ (List.mem_append_right _ (mem_pinsAt hb e)))).1, fun b hb => ?_, w9⟩
        obtain ⟨o, e, d⟩ := Tn.obj _ _ st6 b hb
        exact (I9.pin (b, o) (List.mem_append_right _ (List.mem_append_right _ (mem_pinsAt hb e)))).2.1
      cases ok with
      | false =>
        rw [if_neg Bool.false_ne_true] at q8 ⊢
        exact again I8 q8
      | true =>
        rw [if_pos rfl] at q8 ⊢
        refine thn (bE _ s8 σ7 H8 _ I8 q8) fun v s9 ⟨y, H9, I9, r9, q9⟩ => ?_
        obtain ⟨xs, hx, hz, q9⟩ := q9
        refine thn (mt_append _ s9 σ7 H9 (.ref D) [y] (.ref D) [v] (fun _ H10 => N σ7 H10) I9 rfl (.cons r9 .nil) ⟨D, xs, y, rfl, rfl, hx, hz, q9⟩) fun _ s10 ⟨_, H10, I10, _, n10⟩ => ?_
        exact again I10 n10
  have es : ({ s2 with heap := h₁, toks := s2.toks + ([] : List (Str × Value)).length } : Shared) = { s3 with heap := h₁, toks := s2.toks + ([] : List (Str × Value)).length } := by rw [← hs3]
  rw [eEnv, eC, es]
  exact codeAny_compStart_list loop (Tn.self X.A 0 _ _ _ st3 loop)

theorem pe_comp (hc : X.calm = true) (S : CompScope X T js scope) (hi : PI X tg iter wi)
    (hb : ∀ fp pl s H, PG (cxComp X T js scope fp pl s H) tg g ∧ PIf (cxComp X T js scope fp pl s H) ifs ti ∧ PE (cxComp X T js scope fp pl s H) elt te)
    (hs : ∀ x, foldedSetIterable iter X.env x = pure x := by intro _; rfl) : PE X (.ListComp elt [⟨tg, iter, ifs, 0⟩] scope pos) (tComp T js wi g ti te) := by
  intro pins s σ H Q I h
  rw [eval_ListComp]
  refine wpAny_comprehension_free (use := none) (cl := clos scope.names X.env.cells) rfl hs (closureFor_of fun y hy hk => I.ok.has y.1 (S.free y hy hk)) S.kind S.loc ?_
  show wpAny (model X.prog X.w) X.A (eval iter X.env) _ _ s
  refine thn (hi pins s σ H _ I h) fun v s1 h1 => thn h1 fun itv s2 h2 => ?_
  obtain ⟨it, fp, tn, J, H2, e, I2, Tn, st2, f2, hq⟩ := h2
  subst e
  refine comp_core (E := X.xe) (RR := fun acc C => compPost (model X.prog X.w) X.A X.xe none (EP X pins σ Q) acc C) hc S hb I2 Tn st2 f2 hq ?_
  intro D C s' H' m I' q hn hC hCL hCs hCc hCp
  refine ⟨m, hn, fun h' hs' => ?_⟩
  exact ⟨.ref D, H', I'.turned (t' := s'.toks) (fun b o hb e => hs'.extBut b o hb e) hC hCL (.inr hCs) hCc hCp, rfl, q⟩
theorem ps_setC {i : Nat} {y : Str} {py spos : Pos} (hc : X.calm = true) (hN : X.N.Nodup) (hyi : X.N[i]? = some y) (hy : X.env.scope.names.lookup y = some .local) (S : CompScope X T js scope) (hi : PI X tg iter wi)
    (hb : ∀ fp pl s H, PG (cxComp X T js scope fp pl s H) tg g ∧ PIf (cxComp X T js scope fp pl s H) ifs ti ∧ PE (cxComp X T js scope fp pl s H) elt te)
    (hsw : swapsWith (.ListComp elt [⟨tg, iter, ifs, 0⟩] scope pos) (some (.Name y py)) spos.line X.env = pure true := by rfl)
    (hs : ∀ x, foldedSetIterable iter X.env x = pure x := by intro _; rfl) : PS X (.Assign [.Name y py] (.ListComp elt [⟨tg, iter, ifs, 0⟩] scope pos) spos) (tAsg (tComp T js wi g ti te) (gName i)) := by
  intro pins s σ H D I h
  rw [exec_Assign_Name_used _ _ _ _ hsw]
  refine wpAny_bind (wpAny_standAt (wpAny_bind ?_))
  show wpAny _ X.A (do let _ ← comprehension (.ListComp elt [⟨tg, iter, ifs, 0⟩] scope pos) scope X.env _ (newList []) false (eval iter X.env) (some (assign (.Name y py) X.env))) _ _ s
  refine wpAny_bind (wpAny_mono (wpAny_comprehension_free (use := some (assign (.Name y py) X.env)) (cl := clos scope.names X.env.cells) (Q := fun _ s' => SP X pins D .next s') (E := X.xe) rfl hs (closureFor_of fun y hy hk => I.ok.has y.1 (S.free y hy hk)) S.kind S.loc
    ?_) (fun _ s' hq => wpAny_pure (wpAny_pure hq)) fun _ _ e => e)
  refine thn (hi pins s σ H _ I h) fun v s1 h1 => thn h1 fun itv s2 h2 => ?_
  obtain ⟨it, fp, tn, J, H2, e, I2, Tn, st2, f2, hq⟩ := h2
  subst e
  refine comp_core (E := X.xe) (Q := fun x H1 => gName i x σ H1 D.nx) (RR := fun acc C => compPost (model X.prog X.w) X.A X.xe (some (assign (.Name y py) X.env)) (fun _ s' => SP X pins D .next s') acc C) hc S hb I2 Tn st2 f2 hq ?_
  intro Da C s' H' m I' q hn hC hCL hCs hCc hCp
  show wpAny _ X.A (assign (.Name y py) X.env (.ref Da)) _ _ _
  refine wpAny_assign_Name (store_ok2 I' hN hyi (.inl hy) (v := .ref Da) rfl (fun s3 I3 hsb => ?_) (.inr hy))
  obtain ⟨a, hsb, ha⟩ := hsb
  have haC : a ≠ C := by
    rcases ha with z | z
    · rw [z]; exact Ne.symm hCL
    · exact hCc _ _ z
  refine ⟨m, hn.sameBut hsb (Ne.symm haC), fun h' hs' => ?_⟩
  exact ⟨_, H', I3.turned (t' := s3.toks) (fun b o hb e => hs'.extBut b o hb e) hC hCL (.inr hCs) hCc hCp, q⟩
end
end L2

namespace L2
open PySem PySem.Spec PyProof.Rows
/-! ### a range that goes down by ones -/
def Itd (hi : Int) (n : Nat) : It := ⟨fun i _ => i < n, fun i H x H' => H' = H ∧ x = .int (hi - i), fun i _ => n ≤ i⟩
theorem turn_rangeD {P : Program} {w : World} {K : PySem.W.Frag} {tg : Expr} (it : Addr) (hi : Int) (n : Nat) : Turn P w K tg (Itd hi n) [it] it (fun i h => IsRangeIter h it (hi + (i : Nat) * (-1)) ((n : Int) - (i : Nat)) (-1)) where
  mem := by simp
  obj := fun i h st b hb => by
    have e : b = it := by simpa using hb
    subst e
    exact ⟨_, st, fun v z => by
      have z' : Data.fields _ = Data.cell v := z
      cases z'⟩
  keep := fun i h h' st k => k it (by simp) _ st
  item := by
    intro X hP hw hK hc i pins s σ H E I hf st hg
    subst hP hw hK
    obtain ⟨f0, f1, f2, f3, f4, f5⟩ := hf it (by simp)
    have W := Walks.range (prog := X.prog) (w := X.w) (I.ok.hd hc) it hi (-1) n
    refine W.item i s _ _ hg st fun v h' tk hv st' kk => ?_
    obtain ⟨t, rfl⟩ := hv
    have I1 : Inv X pins σ H { s with heap := h', toks := tk } := I.turned (fun b o hb e => kk b o (by simpa using hb) e) f0 f1 f3 f4 f5
    refine ⟨_, rfl, go_of (s := { s with heap := h', toks := tk }) (n := "range_iterator") st' rfl rfl (by decide) ⟨.int (hi - i), H, I1, ⟨t, ?_⟩, ⟨rfl, rfl⟩, st', fun b hb => (hf b hb).1⟩⟩
    rw [show hi + (i : Int) * (-1) = hi - i by omega]
  done := by
    intro X hP hw hK hc i pins s σ H E I hf st hg
    subst hP hw hK
    obtain ⟨f0, f1, f2, f3, f4, f5⟩ := hf it (by simp)
    exact wpAny_pyNext_range_end (I.ok.hd hc) st (by have : n ≤ i := hg; omega) fun h' eb => ⟨rfl, I.turned (t' := s.toks) (fun b o hb e => eb b o hb e) f0 f1 f3 f4 f5⟩
  self := fun _ _ _ _ _ st h => wpAny_pyIter_rangeiter st h
theorem rangeSize_down (a b : Int) : Builtin.Range.rangeSize a b (-1) = (((a - b).toNat : Nat) : Int) := by
  unfold Builtin.Range.rangeSize
  rw [if_neg (by decide)]
  split
  · rw [show -(-1 : Int) = 1 by decide, Int.ediv_one]; omega
  · omega
theorem small_down {a b : Int} (ha : -(2 ^ 62) ≤ a) (ha' : a < 2 ^ 62) (hb : -(2 ^ 62) ≤ b) (hb' : b < 2 ^ 62) : Builtin.Range.small a b (-1) = true := by
  unfold Builtin.Range.small
  rw [rangeSize_down]
  simp only [Builtin.Range.rangeFitsLong, Bool.and_eq_true, Bool.or_eq_true, decide_eq_true_eq, beq_iff_eq, show ¬ ((-1 : Int) > 0) by decide, if_false]
  omega
section
variable {X : Cx} {tg : Expr}
theorem range_itD {pins : List (Addr × Obj)} {σ : St} {H : Hp} {s : Shared} {R : It → Hp → Prop} {E : Value → Shared → Prop} {lo hi : Int} {t u v : Tok} {tk : Nat} (I : Inv X pins σ H s) (h1 : -(2 ^ 62) ≤ lo) (h2 : lo < 2 ^ 62) (h3 : -(2 ^ 62) ≤ hi) (h4 : hi < 2 ^ 62)
    (q : R (Itd lo (lo - hi).toNat) H) : wpAny (model X.prog X.w) X.A (pyIter (.ref s.heap.objs.size)) (PIE X pins σ tg R) E { s with heap := s.heap.push { cls := .type "range", data := .fields #[.int lo t, .int hi u, .int (-1) v] }, toks := tk } := by
  refine wpAny_pyIter_range (IsRange.new ..) (small_down h1 h2 h3 h4) ?_
  have I1 : Inv X pins σ H { s with heap := s.heap.push { cls := .type "range", data := .fields #[.int lo t, .int hi u, .int (-1) v] }, toks := tk } := I.kept fun b o e => Heap.get?_push_of_some _ e
  refine ⟨(s.heap.push { cls := .type "range", data := .fields #[.int lo t, .int hi u, .int (-1) v] }).objs.size, [(s.heap.push { cls := .type "range", data := .fields #[.int lo t, .int hi u, .int (-1) v] }).objs.size], _, _, H, rfl,
    I1.kept (t' := tk) fun b o e => Heap.get?_push_of_some _ e, turn_rangeD _ lo (lo - hi).toNat, ?_, fun b hb => ?_, q⟩
  · have e1 : lo + ((0 : Nat) : Int) * (-1) = lo := by simp
    have e2 : (((lo - hi).toNat : Nat) : Int) - ((0 : Nat) : Int) = Builtin.Range.rangeSize lo hi (-1) := by rw [rangeSize_down]; simp
    show IsRangeIter _ _ (lo + ((0 : Nat) : Int) * (-1)) ((((lo - hi).toNat : Nat) : Int) - ((0 : Nat) : Int)) (-1)
    rw [e1, e2]
    exact Heap.get?_push_size _ rfl
  · have e : b = (s.heap.push { cls := .type "range", data := .fields #[.int lo t, .int hi u, .int (-1) v] }).objs.size := by simpa using hb
    subst e
    exact I1.fpOk (Nat.le_refl _) (I1.hok.fresh (Nat.le_refl _))
def iRngD (ta : TA) : TI := fun σ H R => ta σ H fun vs H1 => ∃ i j : Int, vs = [.int i, .int j, .int (-1)] ∧ (-(2 ^ 62) ≤ i ∧ i < 2 ^ 62 ∧ -(2 ^ 62) ≤ j ∧ j < 2 ^ 62) ∧ R (Itd i (i - j).toNat) H1
theorem pi_rangeD {a b c : Expr} {ta : TA} {p pos : Pos} (hg : Gl X "range") (hm : X.mg "range" = none) (ha : PA X [a, b, c] ta) (hs : starEach [a, b, c] X.env = [(false, eval a X.env), (false, eval b X.env), (false, eval c X.env)] := by rfl)
    (hs2 : starEach [b, c] X.env = [(false, eval b X.env), (false, eval c X.env)] := by rfl) :
    PI X tg (.Call (.Name "range" p) [a, b, c] [] pos) (iRngD ta) := by
  intro pins s σ H R I h
  refine Call_ (ld_blt I hg hm boot_range (PyProof.Rows.callWith_type1 (thn (ha pos pins s σ H _ I h) fun us s1 ⟨vs, H1, I1, r1, q1⟩ => ?_) (by rw [hs, hs2]) (by rw [hs2]; rfl)))
  obtain ⟨i, j, e, ⟨q1, q2, q3, q4⟩, q⟩ := q1
  subst e
  cases r1 with
  | cons r rr =>
    cases rr with
    | cons r' rr =>
      cases rr with
      | cons r'' rr =>
        cases rr
        obtain ⟨t, rfl⟩ := r
        obtain ⟨t', rfl⟩ := r'
        obtain ⟨t'', rfl⟩ := r''
        exact call_range_3 (by decide) (range_itD I1 q1 q2 q3 q4 q) (.inl (PyProof.noPylong_small (by decide)))
end
theorem for_rangeD {hi : Int} {n : Nat} {g : TG} {tb : TS} {D : Ends} {σ : St} {H : Hp} (Pv : Nat → St → Hp → Prop) (h0 : Pv 0 σ H)
    (hs : ∀ i σ H, i < n → Pv i σ H → g (.int (hi - i)) σ H fun σ2 H2 => tb { D with nx := Pv (i + 1), ct := Pv (i + 1), bk := D.nx } σ2 H2) (hd : ∀ σ H, Pv n σ H → D.nx σ H) :
    ∃ W : Nat → Nat → St → Hp → Prop, (∃ m, W 0 m σ H) ∧ ∀ i m σ H, W i m σ H →
      ((Itd hi n).stop i H ∧ D.nx σ H) ∨ ((Itd hi n).go i H ∧ ∃ N : St → Hp → Prop, (∀ σ' H', N σ' H' → ∃ m', m' < m ∧ W (i + 1) m' σ' H') ∧ ∀ x H', (Itd hi n).yld i H x H' → g x σ H' fun σ2 H2 => tb { D with nx := N, ct := N, bk := D.nx } σ2 H2) := by
  refine ⟨fun i m σ H => m = n - i ∧ i ≤ n ∧ Pv i σ H, ⟨n, by simp, Nat.zero_le _, h0⟩, ?_⟩
  rintro i m σ H ⟨rfl, hi', p⟩
  by_cases hlt : i < n
  · refine .inr ⟨hlt, Pv (i + 1), fun σ' H' p' => ⟨n - (i + 1), by omega, rfl, hlt, p'⟩, fun x H' y => ?_⟩
    obtain ⟨e, y⟩ := y
    subst e y
    exact hs i σ _ hlt p
  · have e : i = n := by omega
    subst e
    exact .inl ⟨Nat.le_refl _, hd σ H p⟩

/-! ### zip of two lists, unpacked -/
def Itz (K : PySem.W.Frag) (a b : Addr) : It :=
  ⟨fun i H => ∃ xs ys x y, SqL K H a xs ∧ SqL K H b ys ∧ xs[i]? = some x ∧ ys[i]? = some y,
   fun i H v H' => ∃ t x y, v = .ref t ∧ H t = none ∧ H' = upd H t (.tup [x, y]) ∧ (∀ xs, SqL K H a xs → xs[i]? = some x) ∧ ∀ ys, SqL K H b ys → ys[i]? = some y,
   fun i H => ∃ xs ys, SqL K H a xs ∧ SqL K H b ys ∧ (xs.length ≤ i ∨ ys.length ≤ i)⟩
theorem Inv.turnedL {X : Cx} {pins : List (Addr × Obj)} {σ : St} {H : Hp} {s : Shared} {h' : Heap} {t' : Nat} {ch : List Addr} (I : Inv X pins σ H s) (hch : ∀ b ∈ ch, FpOk X pins H b)
    (k : ∀ b o, b ∉ ch → s.heap.get? b = some o → h'.get? b = some o) : Inv X pins σ H { s with heap := h', toks := t' } := by
  have nit : ∀ b u, H b = some u → b ∉ ch := fun b u e z => by rw [(hch b z).1] at e; cases e
  refine I.step (g' := s.gens) (d' := s.drawn) (ch := ch) (fun b hb => ?_) (fun b o _ _ hc e _ => k b o hc e) (fun b o _ _ hc e _ => ⟨o.slots, k b o hc e⟩) (fun _ _ _ _ n => n)
    (fun b o hc e => ⟨o, k b o hc e⟩) (fun _ _ e => e) (fun _ _ _ e => e) (fun b ps e => ⟨#[], by rw [e]; simp⟩) (fun m hm => ?_) (fun b u e => ?_) I.bare
  · obtain ⟨f0, f1, f2, f3, f4, f5⟩ := hch b hb
    exact ⟨f3, f1, f4, f5⟩
  · obtain ⟨o, es, ep, ho, r⟩ := hm
    exact ⟨o, es, ep, k _ o (fun z => (hch _ z).2.1 rfl) ho, r⟩
  · refine (I.hok b u e).stay (fun c v hc q => k c v ?_ q) (fun _ q => q) fun _ _ q => q
    rcases hc with z | z
    · rw [z]; exact nit b u e
    · exact nit c _ z
theorem SqL.ne {X : Cx} {pins : List (Addr × Obj)} {σ : St} {H : Hp} {s : Shared} {a b : Addr} {xs : List V} {o : Obj} {n : String} (I : Inv X pins σ H s) (h : SqL X.K H a xs) (e : s.heap.get? b = some o) (hc : o.cls = .type n) (hn : n ≠ "list") : a ≠ b := by
  rintro rfl
  obtain ⟨its, r, ⟨o', n', e', c', _, _⟩, _⟩ := I.list h
  rw [e] at e'
  cases e'
  rw [hc] at c'
  cases c'
  exact hn rfl
structure ZipSt (z TI TO i1 i2 a b : Addr) (i : Nat) (h : Heap) : Prop where
  hz : IsZip h z TI TO .none
  hTI : IsPair h TI (.ref i1) (.ref i2)
  hTO : ∃ x y, IsPair h TO x y
  h1 : h.IsListIter i1 a i
  h2 : h.IsListIter i2 b i
structure ZipNe (z TI TO i1 i2 : Addr) : Prop where
  TIz : TI ≠ z
  TOz : TO ≠ z
  i1z : i1 ≠ z
  i2z : i2 ≠ z
  TITO : TI ≠ TO
  TIi1 : TI ≠ i1
  TIi2 : TI ≠ i2
  TOi1 : TO ≠ i1
  TOi2 : TO ≠ i2
  i12 : i1 ≠ i2
theorem turn_zip {P : Program} {w : World} {K : PySem.W.Frag} {es : List Expr} {k : Nat} {tp : Pos} (z TI TO i1 i2 a b : Addr) (N : ZipNe z TI TO i1 i2) :
    Turn P w K (.Tuple es k tp) (Itz K a b) [z, TI, TO, i1, i2] z (ZipSt z TI TO i1 i2 a b) where
  mem := by simp
  obj := fun i h st c hc => by
    obtain ⟨x, y, hTO⟩ := st.hTO
    obtain ⟨o1, e1, c1, d1⟩ := st.h1
    obtain ⟨o2, e2, c2, d2⟩ := st.h2
    have hc : c = z ∨ c = TI ∨ c = TO ∨ c = i1 ∨ c = i2 := by simpa using hc
    rcases hc with rfl | rfl | rfl | rfl | rfl
    · exact ⟨_, st.hz, fun v q => by have q' : Data.fields _ = Data.cell v := q; cases q'⟩
    · exact ⟨_, st.hTI, fun v q => by have q' : Data.seq _ _ = Data.cell v := q; cases q'⟩
    · exact ⟨_, hTO, fun v q => by have q' : Data.seq _ _ = Data.cell v := q; cases q'⟩
    · exact ⟨_, e1, fun v q => by rw [d1] at q; cases q⟩
    · exact ⟨_, e2, fun v q => by rw [d2] at q; cases q⟩
  keep := fun i h h' st k => by
    obtain ⟨x, y, hTO⟩ := st.hTO
    exact ⟨k z (by simp) _ st.hz, k TI (by simp) _ st.hTI, ⟨x, y, k TO (by simp) _ hTO⟩, st.h1.at fun o e => k i1 (by simp) o e, st.h2.at fun o e => k i2 (by simp) o e⟩
  item := by
    intro X hP hw hK hc i pins s σ H E I hf st hg
    subst hP hw hK
    obtain ⟨xs, ys, x, y, hqa, hqb, hx, hy⟩ := hg
    obtain ⟨its, rv, p, hz⟩ := I.list hqa
    obtain ⟨jts, rw', q, hz'⟩ := I.list hqb
    obtain ⟨u, hu, ru⟩ := rv.get hx
    obtain ⟨v, hv, rv'⟩ := rw'.get hy
    obtain ⟨x0, y0, hTO⟩ := st.hTO
    obtain ⟨o1, e1, c1, d1⟩ := id st.h1
    obtain ⟨o2, e2, c2, d2⟩ := id st.h2
    have D : ZipApart z TI TO i1 i2 a b := ⟨N.TIz, N.TOz, N.i1z, N.i2z, N.TITO, N.TIi1, N.TIi2, N.TOi1, N.TOi2, N.i12, SqL.ne I hqa st.hz rfl (by decide), SqL.ne I hqa hTO rfl (by decide), SqL.ne I hqa e1 c1 (by decide), SqL.ne I hqa e2 c2 (by decide),
      SqL.ne I hqb st.hz rfl (by decide), SqL.ne I hqb hTO rfl (by decide), SqL.ne I hqb e1 c1 (by decide), SqL.ne I hqb e2 c2 (by decide)⟩
    refine wpAny_pyNext_zip_item D st.hz st.hTI hTO st.h1 st.h2 p.isList q.isList (x := u) (y := v) (by simpa using hu) (by simpa using hv) fun h' a1 a2 a3 a4 a5 a6 kk => ?_
    have lt : ∀ {c : Addr} {o : Obj}, s.heap.get? c = some o → c ≠ s.heap.objs.size := fun e => Nat.ne_of_lt (Heap.lt_size e)
    refine ⟨_, rfl, wpAny_letOwnedTupleGo_zip a1 fun h'' hz'' hs'' => ?_⟩
    have hfr : H s.heap.objs.size = none := I.fresh
    have I1 : Inv X pins σ H { s with heap := h'', toks := s.toks } := I.turnedL (t' := s.toks) (ch := [z, TI, TO, i1, i2]) hf fun c o hc e => by
      simp only [List.mem_cons, List.not_mem_nil, or_false, not_or] at hc
      exact hs''.extBut c o hc.1 (kk c o hc.1 hc.2.2.1 hc.2.2.2.1 hc.2.2.2.2 e)
    have hT : h''.get? s.heap.objs.size = some { cls := .type "tuple", data := .seq #[u, v] } := hs''.extBut _ _ (Ne.symm (lt st.hz)) a5
    have hsz : h''.objs.size = s.heap.objs.size + 1 := by rw [hs''.1, a6]
    -- the pair is tracked
    have I2 : Inv X pins σ (upd H s.heap.objs.size (.tup [x, y])) { s with heap := h'', toks := s.toks } := by
      refine I.step (g' := s.gens) (d' := s.drawn) (ch := [z, TI, TO, i1, i2]) (fun c hc => ⟨(hf c hc).2.2.2.1, (hf c hc).2.1, (hf c hc).2.2.2.2.1, (hf c hc).2.2.2.2.2⟩) (fun c o _ _ hc e _ => ?_) (fun c o _ _ hc e _ => ⟨o.slots, ?_⟩) (fun c o _ e n => by rw [upd_ne (lt e)]; exact n)
        (fun c o hc e => ⟨o, ?_⟩) (fun c ts e => by rw [upd_ne (ne_of_none e hfr)]; exact e) (fun c o ts e => by rw [upd_ne (ne_of_none e hfr)]; exact e) (fun c ps e => ⟨#[], by rw [upd_ne (ne_of_none e hfr), e]; simp⟩) (fun m hm => ?_) (fun c o e => ?_) I.bare
      · simp only [List.mem_cons, List.not_mem_nil, or_false, not_or] at hc
        exact hs''.extBut c o hc.1 (kk c o hc.1 hc.2.2.1 hc.2.2.2.1 hc.2.2.2.2 e)
      · simp only [List.mem_cons, List.not_mem_nil, or_false, not_or] at hc
        exact hs''.extBut c o hc.1 (kk c o hc.1 hc.2.2.1 hc.2.2.2.1 hc.2.2.2.2 e)
      · simp only [List.mem_cons, List.not_mem_nil, or_false, not_or] at hc
        exact hs''.extBut c o hc.1 (kk c o hc.1 hc.2.2.1 hc.2.2.2.1 hc.2.2.2.2 e)
      · obtain ⟨o, es', ep, ho, r⟩ := hm
        have nl := fun c (hc : c ∈ [z, TI, TO, i1, i2]) => (hf c hc).2.1
        exact ⟨o, es', ep, hs''.extBut _ _ (Ne.symm (nl z (by simp))) (kk _ o (Ne.symm (nl z (by simp))) (Ne.symm (nl TO (by simp))) (Ne.symm (nl i1 (by simp))) (Ne.symm (nl i2 (by simp))) ho), r⟩
      · by_cases hc : c = s.heap.objs.size
        · subst hc
          rw [upd_same] at e
          cases e
          exact ⟨by show 2 ≤ sizeLine; decide, [u, v], .cons ru (.cons rv' .nil), ⟨_, hT, rfl, _, rfl⟩⟩
        · rw [upd_ne hc] at e
          have := I1.hok c o e
          exact this.stay (fun d o' _ q => q) (fun d q => by rw [upd_ne (ne_of_none q hfr)]; exact q) fun d ts q => by rw [upd_ne (ne_of_none q hfr)]; exact q
    refine ⟨.ref s.heap.objs.size, upd H s.heap.objs.size (.tup [x, y]), I2, rfl, ⟨_, x, y, rfl, hfr, rfl, fun xs' hx' => ?_, fun ys' hy' => ?_⟩, ?_, fun c hc => ?_⟩
    · rw [I.list_inj hx' hqa]; exact hx
    · rw [I.list_inj hy' hqb]; exact hy
    · exact ⟨hz'', hs''.extBut _ _ N.TIz (kk _ _ N.TIz N.TITO N.TIi1 N.TIi2 st.hTI), ⟨_, _, hs''.extBut _ _ N.TOz a2⟩, a3.extBut hs''.extBut N.i1z, a4.extBut hs''.extBut N.i2z⟩
    · have hne : c ≠ s.heap.objs.size := by
        have hc : c = z ∨ c = TI ∨ c = TO ∨ c = i1 ∨ c = i2 := by simpa using hc
        rcases hc with rfl | rfl | rfl | rfl | rfl
        · exact lt st.hz
        · exact lt st.hTI
        · exact lt hTO
        · exact lt e1
        · exact lt e2
      rw [upd_ne hne]
      exact (hf c hc).1
  done := by
    intro X hP hw hK hc i pins s σ H E I hf st hg
    subst hP hw hK
    obtain ⟨xs, ys, hqa, hqb, hx⟩ := hg
    obtain ⟨its, rv, p, hz⟩ := I.list hqa
    obtain ⟨jts, rw', q, hz'⟩ := I.list hqb
    obtain ⟨x0, y0, hTO⟩ := st.hTO
    obtain ⟨o1, e1, c1, d1⟩ := id st.h1
    obtain ⟨o2, e2, c2, d2⟩ := id st.h2
    have D : ZipApart z TI TO i1 i2 a b := ⟨N.TIz, N.TOz, N.i1z, N.i2z, N.TITO, N.TIi1, N.TIi2, N.TOi1, N.TOi2, N.i12, SqL.ne I hqa st.hz rfl (by decide), SqL.ne I hqa hTO rfl (by decide), SqL.ne I hqa e1 c1 (by decide), SqL.ne I hqa e2 c2 (by decide),
      SqL.ne I hqb st.hz rfl (by decide), SqL.ne I hqb hTO rfl (by decide), SqL.ne I hqb e1 c1 (by decide), SqL.ne I hqb e2 c2 (by decide)⟩
    have l1 := rv.length
    have l2 := rw'.length
    refine wpAny_pyNext_zip_end (I.ok.hd hc) D st.hz st.hTI hTO st.h1 st.h2 p.isList q.isList (by
      rcases hx with hx | hx
      · exact .inl (by simp; omega)
      · exact .inr (by simp; omega)) fun h' kk => ⟨rfl, I.turnedL (t' := s.toks) (ch := [z, TI, TO, i1, i2]) hf fun c o hc e => ?_⟩
    simp only [List.mem_cons, List.not_mem_nil, or_false, not_or] at hc
    exact kk c o hc.1 hc.2.2.1 hc.2.2.2.1 hc.2.2.2.2 e
  self := fun _ _ _ _ _ st h => wpAny_pyIter_zip st.hz h
section
variable {X : Cx} {es : List Expr} {k : Nat} {tp : Pos}
def iZip (K : PySem.W.Frag) (ta : TA) : TI := fun σ H R => ta σ H fun vs H1 => ∃ a b, vs = [.ref a, .ref b] ∧ (∃ xs, SqL K H1 a xs) ∧ (∃ ys, SqL K H1 b ys) ∧ R (Itz K a b) H1
theorem pi_zip {a b : Expr} {ta : TA} {p pos : Pos} (hg : Gl X "zip") (hm : X.mg "zip" = none) (ha : PA X [a, b] ta) (hs : starEach [a, b] X.env = [(false, eval a X.env), (false, eval b X.env)] := by rfl) (hs2 : starEach [b] X.env = [(false, eval b X.env)] := by rfl)
    (hv : bootBuiltins "zip" = some (.type "zip") := by first | rfl | decide +kernel) :
    PI X (.Tuple es k tp) (.Call (.Name "zip" p) [a, b] [] pos) (iZip X.K ta) := by
  intro pins s σ H R I h
  refine Call_ (ld_blt I hg hm hv (PyProof.Rows.callWith_type1 (thn (ha pos pins s σ H _ I h) fun us s1 ⟨vs, H1, I1, r1, q1⟩ => ?_) (by rw [hs, hs2]) (by rw [hs2]; rfl)))
  obtain ⟨a, b, e, ⟨xs, hqa⟩, ⟨ys, hqb⟩, q⟩ := q1
  subst e
  obtain ⟨u, v, rfl, ru, rv⟩ := r1.two
  obtain rfl : u = Value.ref a := ru
  obtain rfl : v = Value.ref b := rv
  obtain ⟨its, rvx, p1, hz⟩ := I1.list hqa
  obtain ⟨jts, rwx, p2, hz'⟩ := I1.list hqb
  refine call_zip_2 p1.isList p2.isList fun h' a1 a2 a3 a4 a5 a6 kk => ?_
  refine wpAny_pyIter_zip (s := { s1 with heap := h' }) a1 ?_
  have I2 : Inv X pins σ H1 { s1 with heap := h' } := I1.kept (t' := s1.toks) kk
  refine ⟨s1.heap.objs.size + 4, [s1.heap.objs.size + 4, s1.heap.objs.size + 2, s1.heap.objs.size + 3, s1.heap.objs.size, s1.heap.objs.size + 1], _, _, H1, rfl, I2, turn_zip (s1.heap.objs.size + 4) (s1.heap.objs.size + 2) (s1.heap.objs.size + 3) s1.heap.objs.size (s1.heap.objs.size + 1) a b ?_, ⟨a1, a2, ⟨_, _, a3⟩, a4, a5⟩, fun c hc => ?_, q⟩
  · refine ⟨?_, ?_, ?_, ?_, ?_, ?_, ?_, ?_, ?_, ?_⟩ <;> (show (_ : Nat) ≠ _; omega)
  · have hge : s1.heap.objs.size ≤ c := by
      simp only [List.mem_cons, List.not_mem_nil, or_false] at hc
      rcases hc with rfl | rfl | rfl | rfl | rfl
      · exact Nat.le_add_right _ _
      · exact Nat.le_add_right _ _
      · exact Nat.le_add_right _ _
      · exact Nat.le_refl _
      · exact Nat.le_add_right _ _
    exact I1.fpOk hge (I1.hok.fresh hge)
end
end L2

namespace L2
open PySem PySem.Spec PyProof.Rows
/-! ### a, b = a list -/
section
variable {prog : Program} {w : World} {A : Around} {E : Value → Shared → Prop}
theorem draw_list {it l : Addr} {items : Array Value} (hne : l ≠ it) : ∀ (n i : Nat) (s : Shared) (Q : List Value → Shared → Prop), s.heap.IsListIter it l i → s.heap.IsList l items → i + n ≤ items.size →
    (∀ h', h'.IsListIter it l (i + n) → Heap.SameBut it s.heap h' → Q ((items.toList.drop i).take n) { s with heap := h' }) → wpAny (model prog w) A (draw (.ref it) n) Q E s
  | 0, i, s, Q, hit, _, _, hQ => by
    show wpAny _ _ (pure []) Q E s
    exact wpAny_pure (by simpa using hQ s.heap hit (Heap.SameBut.refl ..))
  | n + 1, i, s, Q, hit, ht, hle, hQ => by
    have hlt : i < items.size := by omega
    show wpAny _ _ (pyNext (.ref it) >>= _) Q E s
    refine wpAny_bind (wpAny_pyNext_list_item hit ht (x := items[i]) (by simp [hlt]) fun h₁ hit₁ hs₁ => ?_)
    refine wpAny_bind (wpAny_holding (draw_list hne n (i + 1) _ _ hit₁ (ht.extBut hs₁.extBut hne) (by omega) fun h₂ hit₂ hs₂ => wpAny_pure ?_))
    have hd : items.toList.drop i = items[i] :: items.toList.drop (i + 1) := by simp [List.drop_eq_getElem_cons, hlt]
    have := hQ h₂ (by rw [show i + (n + 1) = i + 1 + n by omega]; exact hit₂) (hs₁.trans hs₂)
    rw [hd, List.take_succ_cons] at this
    exact this
theorem unpackItems_list {s : Shared} {l : Addr} {items : Array Value} {Q : List Value → Shared → Prop} (hh : A.handled = none) (ht : s.heap.IsList l items)
    (hQ : ∀ h', Heap.ExtBut s.heap.objs.size s.heap h' → Q items.toList { s with heap := h' }) : wpAny (model prog w) A (unpackItems (.ref l) items.size none) Q E s := by
  have hlt : l ≠ s.heap.objs.size := by obtain ⟨o, ho, _⟩ := ht; exact Nat.ne_of_lt (Heap.lt_size ho)
  unfold unpackItems
  refine wpAny_bind ?_
  unfold notIterableAtAll
  refine wpAny_bind (wpAny_specialOf ht.typeIs slot_list_iter.lookup ?_)
  refine wpAny_pure ?_
  simp only [Bool.false_eq_true, if_false]
  refine wpAny_bind (wpAny_holding (wpAny_pyIter_list ht ?_))
  refine wpAny_bind (wpAny_holding (draw_list hlt items.size 0 _ _ ⟨_, Heap.get?_push_size _ rfl, rfl, rfl⟩ (ht.push _) (by omega) fun h₁ hit₁ hs₁ => ?_))
  have hall : List.take items.size (List.drop 0 items.toList) = items.toList := by
    rw [List.drop_zero]; exact List.take_of_length_le (by simp)
  rw [hall]
  rw [if_neg (by simp)]
  have ht₁ : h₁.IsList l items := (ht.push _).extBut hs₁.extBut hlt
  refine wpAny_bind (wpAny_holding (wpAny_pyNext_list_end hh hit₁ ht₁ (by simp) fun h₂ he₂ => ?_))
  simp only [Option.isSome_none, Bool.false_eq_true, if_false]
  refine wpAny_pure (hQ h₂ fun b o hb e => he₂ b o hb (hs₁.extBut b o hb (Heap.get?_push_of_some _ e)))
end
section
variable {X : Cx} {pos : Pos}
def gTupL (K : PySem.W.Frag) (n : Nat) (t : TGs) : TG := fun v σ H Q => ∃ a xs, v = .ref a ∧ SqL K H a xs ∧ xs.length = n ∧ t xs σ H Q
theorem pg_tupL {es : List Expr} {k : Nat} {t : TGs} {n : Nat} (hc : X.calm = true) (h : PGs X es t)
    (hn : (assignEach es X.env).length = n := by rfl) (hst : (assignEach es X.env).findIdx? (·.1) = none := by rfl) : PG X (.Tuple es k pos) (gTupL X.K n t) := by
  intro pins s σ H v u Q I r hw
  obtain ⟨a, xs, e1, hq, hl, hw⟩ := hw
  subst e1
  cases r
  obtain ⟨its, rv, ht, hz⟩ := I.list hq
  rw [assign_Tuple]
  refine wpAny_bind (wpAny_standAt ?_)
  unfold unpack
  have e : (assignEach es X.env).length = its.toArray.size := by simp [hn, ← hl, rv.length]
  rw [e, hst]
  refine wpAny_bind (wpAny_holding (unpackItems_list (I.ok.hd hc) ht.isList fun h' hx => ?_))
  have I1 : Inv X pins σ H { s with heap := h' } := I.kept (t' := s.toks) fun b o e => hx b o (Nat.ne_of_lt (Heap.lt_size e)) e
  exact h pins _ σ H xs _ Q I1 (by simpa using rv) hw
end
/-! ### isinstance -/
section
variable {X : Cx}
theorem call_isinst : CallR X (.builtin "isinstance") (fun xs H Q => ∃ x c t b, xs = [x, c] ∧ TyOf X.K H x t ∧ ((∃ T, c = .ty T ∧ PySem.W.kitOne X.K t (.type T) = some b) ∨ ∃ C, c = .ref C ∧ PySem.W.kitOne X.K t (.ref C) = some b) ∧ Q (.bl b) H) := by
  intro pins s σ H xs us Q I r h
  obtain ⟨x, c, t, b, rfl, ty, hk, q⟩ := h
  obtain ⟨u, v, rfl, ru, rv⟩ := r.two
  rcases hk with ⟨T, rfl, hk⟩ | ⟨C, rfl, hk⟩
  · cases (show v = Value.type T from rv)
    exact isinst_ok I ru ty hk fun tk => ⟨.bl b, H, I.tok tk, rfl, q⟩
  · cases (show v = Value.ref C from rv)
    exact isinst_ok I ru ty hk fun tk => ⟨.bl b, H, I.tok tk, rfl, q⟩
end
theorem kit_ii (K : PySem.W.Frag) : PySem.W.kitOne K (.type "int") (.type "int") = some true := by
  unfold PySem.W.kitOne; rw [if_pos (by decide +kernel)]
theorem kit_ll (K : PySem.W.Frag) : PySem.W.kitOne K (.type "list") (.type "list") = some true := by
  unfold PySem.W.kitOne; rw [if_pos (by decide +kernel)]
theorem kit_tt (K : PySem.W.Frag) : PySem.W.kitOne K (.type "tuple") (.type "tuple") = some true := by
  unfold PySem.W.kitOne; rw [if_pos (by decide +kernel)]
theorem kit_ib (K : PySem.W.Frag) : PySem.W.kitOne K (.type "int") (.type "bool") = some false := by
  unfold PySem.W.kitOne PySem.W.kitCls
  rw [if_neg (by decide +kernel)]
  show (if PySem.W.kitMeta "bool" = true then PySem.W.subIn K (.type "int") (.type "bool") else none) = some false
  rw [if_pos (by decide +kernel)]
  first | rfl | decide +kernel
end L2

namespace L2
open PySem PySem.Spec PyProof.Rows
/-! ### a comprehension's names, decided over the written scopes -/
abbrev CompOkP (outer : List (Str × NameKind)) (N : List Str) (js : List Nat) (scope : Scope) : Prop :=
  scope.kind = .function ∧ (∀ y ∈ scope.names, y.2 ≠ .cell) ∧ (∀ y ∈ scope.names, y.2 = .local → scope.names.lookup y.1 = some .local) ∧
  (∀ y ∈ scope.names, y.2 = .free → outer.lookup y.1 = some .cell ∨ outer.lookup y.1 = some .free) ∧
  (∀ j ∈ js, (N.getD j "", NameKind.free) ∈ scope.names) ∧
  ∀ j ∈ js, (scope.names.map fun (y : Str × NameKind) => if (y.2 == NameKind.free && outer.lookup y.1 == some .cell) = true then (y.1, NameKind.cell) else (y.1, y.2)).lookup (N.getD j "") = some .cell ∨
    (scope.names.map fun (y : Str × NameKind) => if (y.2 == NameKind.free && outer.lookup y.1 == some .cell) = true then (y.1, NameKind.cell) else (y.1, y.2)).lookup (N.getD j "") = some .free
theorem CompScope.of {X : Cx} {T : List Str} {js : List Nat} {scope : Scope} (outer : List (Str × NameKind)) (N : List Str) (h1 : X.env.scope.names = outer) (hk : X.env.scope.kind = .function) (h2 : X.N = N) (h : CompOkP outer N js scope) : CompScope X T js scope := by
  obtain ⟨a, b, c, d, e, f⟩ := h
  subst h1 h2
  refine ⟨a, b, c, d, e, fun j hj => ?_⟩
  have z : (compEnvC scope (clos scope.names X.env.cells) 0 X.env).kindOf (X.N.getD j "") = (scope.names.map fun (y : Str × NameKind) => if (y.2 == NameKind.free && X.env.scope.names.lookup y.1 == some .cell) = true then (y.1, NameKind.cell) else (y.1, y.2)).lookup (X.N.getD j "") := by
    show (scope.names.map fun (n, k) => if (k == NameKind.free && X.env.scope.kind == .function && X.env.kindOf n == some .cell) then (n, NameKind.cell) else (n, k)).lookup (X.N.getD j "") = _
    rw [hk]
    congr 1
    refine List.map_congr_left fun y _ => ?_
    obtain ⟨n, k⟩ := y
    show (if (k == NameKind.free && (ScopeKind.function == ScopeKind.function) && X.env.kindOf n == some NameKind.cell) = true then _ else _) = _
    rw [show (ScopeKind.function == ScopeKind.function) = true from rfl, Bool.and_true]
    rfl
  rw [z]
  exact f j hj
/-! ### a def of the text with its promise, to be called -/
structure Ok (P : Program) (w : World) (K : PySem.W.Frag) (mg : Str → Option Value) (base : Heap) (x : Str) (ps : List Str) (k : Nat) (sp : Sp) : Prop where
  ex : ∃ f fd, FnOk P w K mg base CX0 k f fd ps sp ∧ Binds K fd ps [] ∧ mg x = some (.ref f) ∧ PySem.W.keepIn K (.ref f) = true
section
variable {X : Cx} {k j : Nat} {ps : List Str} {sp : Sp} {x : Str} {p pos : Pos} {e : Expr} {es : List Expr} {t : TA}
theorem pe_callO (O : Ok X.prog X.w X.K X.mg X.base x ps k sp) (hr : Room j X.A) (ha : PA X (e :: es) t) (hg : Gl X x := by rfl) (hj : k ≤ j := by decide) (hdb : (x == ("__debug__" : Str)) = false := by decide) (he : starEach (e :: es) X.env = (false, eval e X.env) :: starEach es X.env := by rfl) (hpl : (backTo pos (starEach es X.env)).any (·.1) = false := by rfl) :
    PE X (.Call (.Name x p) (e :: es) [] pos) (tCall sp [] E0 t) := by
  obtain ⟨f, fd, F, b, m, kp⟩ := O.ex
  exact pe_call F (hr.mono hj) hg m kp b .nil pass0 ha hdb he hpl
end
/-! ### built-in names in short -/
section
variable {X : Cx} {p pos : Pos} {a b : Expr} {ta tb : TE} {t : TA}
theorem pe_len (hm : X.mg "len" = none) (ha : PE X a ta) (hg : Gl X "len" := by rfl) (hs : starEach [a] X.env = (false, eval a X.env) :: starEach [] X.env := by rfl) : PE X (.Call (.Name "len" p) [a] [] pos) (tCB (fun xs H Q => ∃ p ys, xs = [.ref p] ∧ (SqL X.K H p ys ∨ SqT X.K H p ys) ∧ Q (.int ys.length) H) (tCons ta tNil)) :=
  pe_callB call_len_seq hg hm (by decide +kernel) (pa_cons ha pa_nil hs) (by decide) (by decide) hs rfl
theorem pe_isinst (hm : X.mg "isinstance" = none) (ha : PE X a ta) (hb : PE X b tb) (hg : Gl X "isinstance" := by rfl) (hs : starEach [a, b] X.env = (false, eval a X.env) :: starEach [b] X.env := by rfl) (hs2 : starEach [b] X.env = (false, eval b X.env) :: starEach [] X.env := by rfl) :
    PE X (.Call (.Name "isinstance" p) [a, b] [] pos) (tCB (fun xs H Q => ∃ x c t b, xs = [x, c] ∧ TyOf X.K H x t ∧ ((∃ T, c = .ty T ∧ PySem.W.kitOne X.K t (.type T) = some b) ∨ ∃ C, c = .ref C ∧ PySem.W.kitOne X.K t (.ref C) = some b) ∧ Q (.bl b) H) (tCons ta (tCons tb tNil))) :=
  pe_callB call_isinst hg hm (by decide +kernel) (pa_cons ha (pa_cons hb pa_nil hs2) hs) (by decide) (by decide) hs (by rw [hs2]; rfl)
theorem pe_min (hc : X.calm = true) (hm : X.mg "min" = none) (ha : PE X a ta) (hb : PE X b tb) (hg : Gl X "min" := by rfl) (hs : starEach [a, b] X.env = (false, eval a X.env) :: starEach [b] X.env := by rfl) (hs2 : starEach [b] X.env = (false, eval b X.env) :: starEach [] X.env := by rfl) :
    PE X (.Call (.Name "min" p) [a, b] [] pos) (tCB (fun xs H Q => ∃ i j, xs = [.int i, .int j] ∧ Q (.int (if j < i then j else i)) H) (tCons ta (tCons tb tNil))) :=
  pe_callB (call_min2 hc) hg hm (by decide +kernel) (pa_cons ha (pa_cons hb pa_nil hs2) hs) (by decide) (by decide) hs (by rw [hs2]; rfl)
theorem pe_max (hc : X.calm = true) (hm : X.mg "max" = none) (ha : PE X a ta) (hb : PE X b tb) (hg : Gl X "max" := by rfl) (hs : starEach [a, b] X.env = (false, eval a X.env) :: starEach [b] X.env := by rfl) (hs2 : starEach [b] X.env = (false, eval b X.env) :: starEach [] X.env := by rfl) :
    PE X (.Call (.Name "max" p) [a, b] [] pos) (tCB (fun xs H Q => ∃ i j, xs = [.int i, .int j] ∧ Q (.int (if i < j then j else i)) H) (tCons ta (tCons tb tNil))) :=
  pe_callB (call_max2 hc) hg hm (by decide +kernel) (pa_cons ha (pa_cons hb pa_nil hs2) hs) (by decide) (by decide) hs (by rw [hs2]; rfl)
theorem pe_list (hm : X.mg "list" = none) (ha : PE X a ta) (hg : Gl X "list" := by rfl) (hs : starEach [a] X.env = (false, eval a X.env) :: starEach [] X.env := by rfl) : PE X (.Call (.Name "list" p) [a] [] pos) (tCB (fun xs H Q => ∃ p ys, xs = [.ref p] ∧ (SqL X.K H p ys ∨ SqT X.K H p ys) ∧ ∀ l, H l = none → Q (.ref l) (upd H l (.lst ys))) (tCons ta tNil)) :=
  pe_callTy call_list_of hg hm (by decide +kernel) (pa_cons ha pa_nil hs) (by decide) (by decide) hs rfl
theorem pe_ty {T : String} {x : Str} (hm : X.mg x = none) (hg : Gl X x := by rfl) (hv : bootBuiltins x = some (.type T) := by first | rfl | decide +kernel) (hn : x ≠ "__name__" := by decide) (hd : (x == ("__debug__" : Str)) = false := by decide) : PE X (.Name x pos) (tC (.ty T)) := pe_bltn hg hm hv rfl hn hd
end
/-! ### the same with the written part by its name (within a comprehension's block) -/
section
variable {X : Cx} {p pos : Pos} {a b : Expr} {ta tb : TE} {t : TA}
theorem ix_listK (K : PySem.W.Frag) (h : X.K = K := by rfl) : IxR X (rIxL K) := h ▸ ix_list
theorem ix_tupK (K : PySem.W.Frag) (h : X.K = K := by rfl) : IxR X (rIxT K) := h ▸ ix_tup
theorem pg_tupK (K : PySem.W.Frag) {es : List Expr} {k : Nat} {t : TGs} {n : Nat} (hc : X.calm = true) (hp : PGs X es t) (h : X.K = K := by rfl)
    (hn : (assignEach es X.env).length = n := by rfl) (hst : (assignEach es X.env).findIdx? (·.1) = none := by rfl) : PG X (.Tuple es k pos) (gTup K n t) := by
  subst h
  exact pg_tup hc hp hn hst
end
end L2

namespace L2
open PySem PySem.Spec PyProof.Rows
/-! ### a comprehension's reading, by a word over the turn -/
abbrev CompT (p : Addr) (g : TG) (ti : TT) (te : TE) (x : V) (N : St → Hp → Prop) (σ : St) (H : Hp) : Prop :=
  g x σ H fun σ2 H2 => ti σ2 H2 fun b H3 => if b = true then te σ2 H3 fun v H4 => ∃ xs, H4 p = some (.lst xs) ∧ xs.length < sizeLine ∧ N σ2 (upd H4 p (.lst (xs ++ [v]))) else N σ2 H3
section
variable {p : Addr} {Q : VK} {g : TG} {ti : TT} {te : TE} {σ0 : St} {H0 : Hp}
theorem comp_range {lo : Int} {n : Nat} (Pv : Nat → St → Hp → Prop) (h0 : Pv 0 σ0 H0) (hs : ∀ i σ H, i < n → Pv i σ H → CompT p g ti te (.int (lo + i)) (Pv (i + 1)) σ H) (hd : ∀ σ H, Pv n σ H → Q (.ref p) H) : CompR (Itr lo n) p Q g ti te σ0 H0 := by
  unfold CompR
  refine ⟨fun i m σ H => m = n - i ∧ i ≤ n ∧ Pv i σ H, ⟨n, by simp, Nat.zero_le _, h0⟩, ?_⟩
  rintro i m σ H ⟨rfl, hi', q⟩
  by_cases hlt : i < n
  · refine .inr ⟨hlt, Pv (i + 1), fun σ' H' p' => ⟨n - (i + 1), by omega, rfl, hlt, p'⟩, fun x H' y => ?_⟩
    obtain ⟨e, y⟩ := y
    subst e y
    exact hs i σ _ hlt q
  · have e : i = n := by omega
    subst e
    exact .inl ⟨Nat.le_refl _, hd σ H q⟩
theorem comp_list {K : PySem.W.Frag} {a : Addr} {xs : List V} (Pv : Nat → St → Hp → Prop) (h0 : Pv 0 σ0 H0) (hl : ∀ i σ H, i ≤ xs.length → Pv i σ H → SqL K H a xs)
    (hs : ∀ i x σ H, xs[i]? = some x → Pv i σ H → CompT p g ti te x (Pv (i + 1)) σ H) (hd : ∀ σ H, Pv xs.length σ H → Q (.ref p) H) : CompR (Itl K a) p Q g ti te σ0 H0 := by
  unfold CompR
  refine ⟨fun i m σ H => m = xs.length - i ∧ i ≤ xs.length ∧ Pv i σ H, ⟨xs.length, by simp, Nat.zero_le _, h0⟩, ?_⟩
  rintro i m σ H ⟨rfl, hi, q⟩
  have q' := hl i σ H hi q
  by_cases hlt : i < xs.length
  · refine .inr ⟨⟨xs, xs[i], q', by simp [hlt]⟩, Pv (i + 1), fun σ' H' p' => ⟨xs.length - (i + 1), by omega, rfl, hlt, p'⟩, fun x H' y => ?_⟩
    obtain ⟨e, y⟩ := y
    subst e
    exact hs i x σ _ (y xs q') q
  · have e : i = xs.length := by omega
    subst e
    exact .inl ⟨⟨xs, q', Nat.le_refl _⟩, hd σ H q⟩
theorem comp_zip {K : PySem.W.Frag} {a b : Addr} {xs ys : List V} (hxy : xs.length = ys.length) (Pv : Nat → St → Hp → Prop) (h0 : Pv 0 σ0 H0) (hl : ∀ i σ H, i ≤ xs.length → Pv i σ H → SqL K H a xs ∧ SqL K H b ys)
    (hs : ∀ i x y t σ H, xs[i]? = some x → ys[i]? = some y → Pv i σ H → H t = none → CompT p g ti te (.ref t) (Pv (i + 1)) σ (upd H t (.tup [x, y]))) (hd : ∀ σ H, Pv xs.length σ H → Q (.ref p) H) : CompR (Itz K a b) p Q g ti te σ0 H0 := by
  unfold CompR
  refine ⟨fun i m σ H => m = xs.length - i ∧ i ≤ xs.length ∧ Pv i σ H, ⟨xs.length, by simp, Nat.zero_le _, h0⟩, ?_⟩
  rintro i m σ H ⟨rfl, hi, q⟩
  obtain ⟨q1, q2⟩ := hl i σ H hi q
  by_cases hlt : i < xs.length
  · refine .inr ⟨⟨xs, ys, xs[i], ys[i]'(by omega), q1, q2, by simp [hlt], by simp [show i < ys.length by omega]⟩, Pv (i + 1), fun σ' H' p' => ⟨xs.length - (i + 1), by omega, rfl, hlt, p'⟩, fun x H' y => ?_⟩
    obtain ⟨t, u, v, rfl, ht, rfl, y1, y2⟩ := y
    exact hs i u v t σ H (y1 xs q1) (y2 ys q2) q ht
  · have e : i = xs.length := by omega
    subst e
    exact .inl ⟨⟨xs, ys, q1, q2, .inl (Nat.le_refl _)⟩, hd σ H q⟩
end
theorem compT_one {p : Addr} {te : TE} {x : V} {N : St → Hp → Prop} {σ : St} {H : Hp} {i : Nat} (h : te (σ.set i (some x)) H fun v H4 => ∃ xs, H4 p = some (.lst xs) ∧ xs.length < sizeLine ∧ N (σ.set i (some x)) (upd H4 p (.lst (xs ++ [v])))) : CompT p (gName i) tNoIf te x N σ H := by
  show (if true = true then (te (σ.set i (some x)) H fun v H4 => ∃ xs, H4 p = some (.lst xs) ∧ xs.length < sizeLine ∧ N (σ.set i (some x)) (upd H4 p (.lst (xs ++ [v])))) else N (σ.set i (some x)) H)
  rw [if_pos rfl]
  exact h
theorem compT_two {K : PySem.W.Frag} {p t : Addr} {te : TE} {x y : V} {N : St → Hp → Prop} {σ : St} {H : Hp} {i j : Nat} (ht : SqT K H t [x, y])
    (h : te ((σ.set i (some x)).set j (some y)) H fun v H4 => ∃ xs, H4 p = some (.lst xs) ∧ xs.length < sizeLine ∧ N ((σ.set i (some x)).set j (some y)) (upd H4 p (.lst (xs ++ [v])))) : CompT p (gTup K 2 (gCons (gName i) (gCons (gName j) gNil))) tNoIf te (.ref t) N σ H := by
  refine ⟨t, [x, y], rfl, ht, rfl, x, [y], rfl, y, [], rfl, rfl, ?_⟩
  show (if true = true then (te ((σ.set i (some x)).set j (some y)) H fun v H4 => ∃ xs, H4 p = some (.lst xs) ∧ xs.length < sizeLine ∧ N ((σ.set i (some x)).set j (some y)) (upd H4 p (.lst (xs ++ [v])))) else N ((σ.set i (some x)).set j (some y)) H)
  rw [if_pos rfl]
  exact h
theorem seq_cut {t r : TS} {D : Ends} {σ : St} {H : Hp} (M : St → Hp → Prop) (h : ∀ nx : St → Hp → Prop, (∀ σ' H', M σ' H' → nx σ' H') → t { D with nx := nx } σ H) (hr : ∀ σ' H', M σ' H' → r D σ' H') : tSeq t r D σ H := h _ hr
/-! ### heaps that only grow -/
theorem Same.upd {H : Hp} {p : Addr} {o : HO} (h : H p = none) : Same H (upd H p o) := fun b u e => by rw [upd_ne (ne_of_none e h)]; exact e
theorem Same.tup {K : PySem.W.Frag} {H H' : Hp} {a : Addr} {xs : List V} (e : Same H H') (h : SqT K H a xs) : SqT K H' a xs := by
  rcases h with (h | ⟨o, h⟩) | h
  · exact .inl (.inl (e _ _ h))
  · exact .inl (.inr ⟨o, e _ _ h⟩)
  · exact .inr h
theorem SqL.upd {K : PySem.W.Frag} {H : Hp} {a p : Addr} {o : HO} {xs : List V} (h : SqL K H a xs) (hp : H p = none) : SqL K (L2.upd H p o) a xs := (Same.upd hp).seq h
theorem getI {ns : List Int} {i : Nat} (h : i < ns.length) : (ns.map V.int)[i]? = some (.int (ns.getD i 0)) := by
  rw [List.getElem?_map, List.getElem?_eq_getElem h, List.getD_eq_getElem?_getD, List.getElem?_eq_getElem h]; rfl
theorem atI_int {ns : List Int} {i : Nat} (h : i < ns.length) : atI (ns.map V.int) (i : Int) = some (.int (ns.getD i 0)) := atI_nat (getI h)
theorem getI_some {ns : List Int} {i : Nat} {x : V} (h : (ns.map V.int)[i]? = some x) : i < ns.length ∧ x = .int (ns.getD i 0) := by
  have hi : i < ns.length := by simpa using (List.getElem?_eq_some_iff.mp h).1
  rw [getI hi] at h
  exact ⟨hi, (Option.some.inj h).symm⟩
theorem sz1000 {n : Nat} (h : n ≤ 100000) : n < sizeLine := Nat.lt_of_le_of_lt h (by decide)
theorem sz1000' {n : Nat} (h : n ≤ 100000) : n ≤ sizeLine := Nat.le_of_lt (sz1000 h)
end L2

/-! the mathematics, in plain Lean -/
namespace Tf
open PySem L2
structure Beds (needs heats : List Int) : Prop where
  len : heats.length = needs.length
  lo : 1 ≤ needs.length
  hi : needs.length ≤ 50
  need : ∀ i, i < needs.length → 1 ≤ needs.getD i 0 ∧ needs.getD i 0 ≤ 200
  heat : ∀ i, i < needs.length → 0 ≤ heats.getD i 0 ∧ heats.getD i 0 ≤ needs.getD i 0
theorem take_map_succ {β : Type} {f : Int → β} {fs : List Int} {i : Nat} (h : i < fs.length) : (fs.take (i + 1)).map f = (fs.take i).map f ++ [f (fs.getD i 0)] := by
  rw [List.take_add_one, List.getElem?_eq_getElem h, List.map_append, List.getD_eq_getElem?_getD, List.getElem?_eq_getElem h]; rfl
theorem range_map_succ {β : Type} {f : Nat → β} {i : Nat} : (List.range (i + 1)).map f = (List.range i).map f ++ [f i] := by
  rw [List.range_succ, List.map_append]; rfl
theorem getD_map {f : Int → Int} {fs : List Int} {i : Nat} (h : i < fs.length) : (fs.map f).getD i 0 = f (fs.getD i 0) := by
  simp [List.getD_eq_getElem?_getD, List.getElem?_map, List.getElem?_eq_getElem h]
theorem getD_rangeMap {f : Nat → Int} {n i : Nat} (h : i < n) : ((List.range n).map f).getD i 0 = f i := by
  simp [List.getD_eq_getElem?_getD, List.getElem?_map, List.getElem?_range h]
theorem getD_mem {fs : List Int} {i : Nat} (h : i < fs.length) : fs.getD i 0 ∈ fs := by
  rw [List.getD_eq_getElem?_getD, List.getElem?_eq_getElem h]; exact List.getElem_mem h
theorem list_ext_getD {xs ys : List Int} (hl : xs.length = ys.length) (h : ∀ i, i < xs.length → xs.getD i 0 = ys.getD i 0) : xs = ys := by
  refine List.ext_getElem hl fun i h1 h2 => ?_
  have := h i h1
  rw [List.getD_eq_getElem?_getD, List.getD_eq_getElem?_getD, List.getElem?_eq_getElem h1, List.getElem?_eq_getElem h2] at this
  exact this
theorem base_at (z : Int) : ∃ b : Int, atI [V.int 3, V.int 12, V.int 200] (z % 3) = some (.int b) ∧ 0 < b ∧ b ≤ 200 := by
  have h1 := Int.emod_nonneg z (show (3 : Int) ≠ 0 by decide)
  have h2 := Int.emod_lt_of_pos z (show (0 : Int) < 3 by decide)
  have h3 : z % 3 = 0 ∨ z % 3 = 1 ∨ z % 3 = 2 := by omega
  rcases h3 with e | e | e <;> rw [e]
  · exact ⟨3, rfl, by decide, by decide⟩
  · exact ⟨12, rfl, by decide, by decide⟩
  · exact ⟨200, rfl, by decide, by decide⟩
theorem many_nat (z m : Int) (hm : 0 < m) : ∃ n : Nat, 1 + z % m = (n : Int) ∧ 1 ≤ n ∧ (n : Int) ≤ m := by
  have h1 := Int.emod_nonneg z (show m ≠ 0 by omega)
  have h2 := Int.emod_lt_of_pos z hm
  exact ⟨(1 + z % m).toNat, by omega, by omega, by omega⟩
end Tf
namespace Tf
open PySem L2
/-! ### slices -/
theorem sIx_lo {n : Nat} {i : Int} (h0 : 0 ≤ i) (h1 : i ≤ n) (d : Nat) : HT.sIx n d (some i) = i.toNat := by
  simp only [HT.sIx]
  rw [if_neg (by omega)]
  omega
theorem cut_take {xs : List V} {k : Nat} (h : k ≤ xs.length) : cutV xs none (some (k : Int)) = xs.take k := by
  unfold cutV
  rw [sIx_lo (by omega) (by omega)]
  simp [HT.sIx]
theorem cut_drop {xs : List V} {k : Nat} (h : k ≤ xs.length) : cutV xs (some (k : Int)) none = xs.drop k := by
  unfold cutV
  rw [sIx_lo (by omega) (by omega)]
  simp only [HT.sIx, Int.toNat_natCast]
  rw [List.take_of_length_le]
  simp
/-! ### thawed beds, the front -/
end Tf

namespace L2
open PySem PySem.Spec PyProof.Rows
section
variable {X : Cx} {p pos : Pos} {a b : Expr} {ta tb : TE}
theorem call_sum (hc : X.calm = true) : CallR X (.builtin "sum") (fun vs H Q => ∃ (p : Addr) (ns : List Int), vs = [.ref p] ∧ SqL X.K H p (ns.map V.int) ∧ Q (.int ns.sum) H) := by
  intro pins s σ H vs us Q I r h
  obtain ⟨p, ns, rfl, hq, q⟩ := h
  obtain ⟨u, rfl, rx⟩ := r.one
  cases rx
  obtain ⟨its, rv, pl, hz⟩ := I.list hq
  have hi := intsAre_of rv
  have key : ∀ items : Array Value, s.heap.IsList p items → AllInts items → (∀ h' tk t', (∀ b o, s.heap.get? b = some o → h'.get? b = some o) → EP X pins σ Q (.int (numsOf items.toList).sum t') { s with heap := h', toks := tk }) →
      wpAny (model X.prog X.w) X.A (call (.builtin "sum") [.ref p]) (EP X pins σ Q) X.xe s := fun items hl hall h => by
    obtain ⟨xs, rfl⟩ := hall.items
    rw [nums_intItems] at h
    refine sum_intListG (I.ok.hd hc) hl fun h' tk t' hk => ?_
    have := h h' tk t' hk
    rw [preSum_eq, List.take_of_length_le (by simp)]; exact this
  refine key its.toArray pl.isList hi.allInts fun h' tk t' hk => ?_
  rw [show its.toArray.toList = its from rfl, hi.numsOf]
  exact ⟨.int ns.sum, H, I.kept hk, ⟨_, rfl⟩, q⟩
theorem pe_sum (hc : X.calm = true) (hm : X.mg "sum" = none) (ha : PE X a ta) (hg : Gl X "sum" := by rfl) (hs : starEach [a] X.env = (false, eval a X.env) :: starEach [] X.env := by rfl) : PE X (.Call (.Name "sum" p) [a] [] pos) (tCB (fun vs H Q => ∃ (p : Addr) (ns : List Int), vs = [.ref p] ∧ SqL X.K H p (ns.map V.int) ∧ Q (.int ns.sum) H) (tCons ta tNil)) :=
  pe_callB (call_sum hc) hg hm (by decide +kernel) (pa_cons ha pa_nil hs) (by decide) (by decide) hs rfl
theorem pe_gint {x : Str} {i : Int} (h : ∃ t, X.mg x = some (.int i t)) (hg : Gl X x := by rfl) (hd : (x == ("__debug__" : Str)) = false := by decide) : PE X (.Name x pos) (tC (.int i)) := by
  obtain ⟨t, h⟩ := h
  exact pe_glob hg h ⟨t, rfl⟩ hd
end
theorem Same.set {H H2 : Hp} {p : Addr} {o : HO} (s : Same H H2) (hp : H p = none) : Same H (L2.upd H2 p o) := fun b u e => by rw [upd_ne (ne_of_none e hp)]; exact s b u e
theorem comp_zip_ints {K : PySem.W.Frag} {a b p : Addr} {Q : VK} {te : TE} {xs ys : List Int} {H1 : Hp} {caps : St} (f : Int → Int → Int) (hl : xs.length = ys.length) (hz : xs.length ≤ 1000) (hA : SqL K H1 a (xs.map V.int)) (hB : SqL K H1 b (ys.map V.int)) (hp : H1 p = none)
    (ht : ∀ (x y : Int) (H : Hp) (Q' : VK), Q' (.int (f x y)) H → te (some (.int x) :: some (.int y) :: caps) H Q')
    (q : ∀ H', Same H1 H' → H' p = some (.lst ((List.zipWith f xs ys).map V.int)) → Q (.ref p) H') :
    CompR (Itz K a b) p Q (gTup K 2 (gCons (gName 0) (gCons (gName 1) gNil))) tNoIf te (none :: none :: caps) (upd H1 p (.lst [])) := by
  refine comp_zip (xs := xs.map V.int) (ys := ys.map V.int) (by simpa using hl) (fun i σ H2 => (∃ v w, σ = v :: w :: caps) ∧ Same H1 H2 ∧ H2 p = some (.lst (((List.zipWith f xs ys).take i).map V.int))) ?_ ?_ ?_ ?_
  · exact ⟨⟨_, _, rfl⟩, Same.upd hp, by rw [List.take_zero]; exact upd_same⟩
  · rintro i σ H2 _ ⟨_, s2, _⟩
    exact ⟨s2.seq hA, s2.seq hB⟩
  · rintro i x y t σ H2 hx hy ⟨⟨v, w, rfl⟩, s2, h2⟩ ft
    obtain ⟨hi, rfl⟩ := getI_some hx
    obtain ⟨hi', rfl⟩ := getI_some hy
    refine compT_two (SqT.of upd_same) (ht _ _ _ _ ?_)
    have npt : p ≠ t := ne_of_none h2 ft
    refine ⟨_, by rw [upd_ne npt]; exact h2, sz1000 (by rw [List.length_map, List.length_take]; omega), ⟨_, _, rfl⟩, (s2.trans (Same.upd ft)).set hp, ?_⟩
    rw [upd_same]
    have hlt : i < (List.zipWith f xs ys).length := by rw [List.length_zipWith]; omega
    have e : (List.zipWith f xs ys).getD i 0 = f (xs.getD i 0) (ys.getD i 0) := by
      simp only [List.getD_eq_getElem?_getD, List.getElem?_zipWith, List.getElem?_eq_getElem hi, List.getElem?_eq_getElem hi', Option.getD_some]
    rw [Tf.take_map_succ (f := V.int) hlt, e]
  · rintro σ H2 ⟨_, s2, h2⟩
    rw [List.length_map, List.take_of_length_le (by rw [List.length_zipWith]; omega)] at h2
    exact q H2 s2 h2
end L2
namespace Tf
open PySem L2
/-! ### a season's units shared out from the top -/
def leftAt (rs : List Int) (a : Int) (i : Nat) : Int := max 0 (a - (rs.drop i).sum)
def shareAt (rs : List Int) (a : Int) (i : Nat) : Int := min (leftAt rs a (i + 1)) (rs.getD i 0)
theorem drop_sum {rs : List Int} {i : Nat} (h : i < rs.length) : (rs.drop i).sum = rs.getD i 0 + (rs.drop (i + 1)).sum := by
  rw [List.drop_eq_getElem_cons h, List.sum_cons, List.getD_eq_getElem?_getD, List.getElem?_eq_getElem h]; rfl
theorem leftAt_top {rs : List Int} {a : Int} {n : Nat} (h : rs.length ≤ n) (ha : 0 ≤ a) : leftAt rs a n = a := by
  unfold leftAt
  rw [List.drop_of_length_le h, List.sum_nil]; omega
theorem leftAt_nonneg (rs : List Int) (a : Int) (i : Nat) : 0 ≤ leftAt rs a i := by unfold leftAt; omega
theorem leftAt_step {rs : List Int} {a : Int} {i : Nat} (h : i < rs.length) (h0 : 0 ≤ rs.getD i 0) : leftAt rs a i = leftAt rs a (i + 1) - shareAt rs a i := by
  unfold shareAt leftAt
  rw [drop_sum h]; omega
theorem share_bounds {rs : List Int} {a : Int} {i : Nat} (h0 : 0 ≤ rs.getD i 0) : 0 ≤ shareAt rs a i ∧ shareAt rs a i ≤ rs.getD i 0 := by
  have := leftAt_nonneg rs a (i + 1)
  unfold shareAt; omega
def shares (rs : List Int) (a : Int) : List Int := (List.range rs.length).map (shareAt rs a)
theorem shares_len (rs : List Int) (a : Int) : (shares rs a).length = rs.length := by unfold shares; simp
theorem shares_at {rs : List Int} {a : Int} {i : Nat} (h : i < rs.length) : (shares rs a).getD i 0 = shareAt rs a i := by unfold shares; exact getD_rangeMap h
def rooms (needs heats : List Int) : List Int := List.zipWith (fun n h => n - h) needs heats
def warmL (needs heats : List Int) (a : Int) : List Int := List.zipWith (fun h s => h + s) heats (shares (rooms needs heats) a)
def coldL (heats : List Int) (a : Int) : List Int := List.zipWith (fun h s => h - s) heats (shares heats a)
theorem getD_zipWith {f : Int → Int → Int} {xs ys : List Int} {i : Nat} (h1 : i < xs.length) (h2 : i < ys.length) : (List.zipWith f xs ys).getD i 0 = f (xs.getD i 0) (ys.getD i 0) := by
  simp only [List.getD_eq_getElem?_getD, List.getElem?_zipWith, List.getElem?_eq_getElem h1, List.getElem?_eq_getElem h2, Option.getD_some]
theorem rooms_len {needs heats : List Int} (h : heats.length = needs.length) : (rooms needs heats).length = needs.length := by unfold rooms; rw [List.length_zipWith]; omega
theorem rooms_at {needs heats : List Int} (h : heats.length = needs.length) {i : Nat} (hi : i < needs.length) : (rooms needs heats).getD i 0 = needs.getD i 0 - heats.getD i 0 := getD_zipWith hi (by omega)
theorem warmL_len {needs heats : List Int} {a : Int} (h : heats.length = needs.length) : (warmL needs heats a).length = needs.length := by unfold warmL; rw [List.length_zipWith, shares_len, rooms_len h]; omega
theorem warmL_at {needs heats : List Int} {a : Int} (h : heats.length = needs.length) {i : Nat} (hi : i < needs.length) : (warmL needs heats a).getD i 0 = heats.getD i 0 + shareAt (rooms needs heats) a i := by
  unfold warmL
  rw [getD_zipWith (by omega) (by rw [shares_len, rooms_len h]; exact hi), shares_at (by rw [rooms_len h]; exact hi)]
theorem coldL_len {heats : List Int} {a : Int} : (coldL heats a).length = heats.length := by unfold coldL; rw [List.length_zipWith, shares_len]; omega
theorem coldL_at {heats : List Int} {a : Int} {i : Nat} (hi : i < heats.length) : (coldL heats a).getD i 0 = heats.getD i 0 - shareAt heats a i := by
  unfold coldL
  rw [getD_zipWith hi (by rw [shares_len]; exact hi), shares_at hi]
theorem set_range {n k : Nat} {f : Nat → Int} {v : Int} : ((List.range n).map f).set k v = (List.range n).map fun i => if i = k then v else f i := by
  refine List.ext_getElem (by simp) fun i h1 h2 => ?_
  rw [List.getElem_set]
  simp only [List.getElem_map, List.getElem_range]
  by_cases h : k = i
  · rw [if_pos h, if_pos h.symm]
  · rw [if_neg h, if_neg (Ne.symm h)]
theorem list_range (xs : List Int) : xs = (List.range xs.length).map fun i => xs.getD i 0 :=
  list_ext_getD (by simp) fun i hi => by rw [getD_rangeMap hi]
theorem range_congr {n : Nat} {f g : Nat → Int} (h : ∀ i, i < n → f i = g i) : (List.range n).map f = (List.range n).map g :=
  List.map_congr_left fun i hi => h i (List.mem_range.mp hi)
theorem setI {xs : List Int} {k : Nat} {v : Int} : (xs.map V.int).set k (.int v) = (xs.set k v).map V.int := by rw [List.map_set]
theorem sum_bounds : ∀ {xs : List Int}, (∀ x ∈ xs, 1 ≤ x ∧ x ≤ 200) → (xs.length : Int) ≤ xs.sum ∧ xs.sum ≤ 200 * (xs.length : Int)
  | [], _ => by simp
  | x :: xs, h => by
    have h1 := h x List.mem_cons_self
    have h2 := sum_bounds (xs := xs) fun y hy => h y (List.mem_cons_of_mem _ hy)
    rw [List.sum_cons, List.length_cons]
    omega
theorem mem_getD {xs : List Int} {x : Int} (h : x ∈ xs) : ∃ i, i < xs.length ∧ xs.getD i 0 = x := by
  obtain ⟨i, hi, e⟩ := List.mem_iff_getElem.mp h
  exact ⟨i, hi, by rw [List.getD_eq_getElem?_getD, List.getElem?_eq_getElem hi]; exact e⟩
theorem Beds.sum {needs heats : List Int} (B : Beds needs heats) : 1 ≤ needs.sum ∧ needs.sum ≤ 10000 := by
  have h := sum_bounds (xs := needs) fun x hx => by
    obtain ⟨i, hi, e⟩ := mem_getD hx
    rw [← e]
    exact B.need i hi
  have h1 := B.lo
  have h2 := B.hi
  omega
end Tf
namespace L2
open PySem
theorem upd_self {H : Hp} {b : Addr} {o : HO} (h : H b = some o) : upd H b o = H := by
  funext c
  by_cases e : c = b
  · rw [e, upd_same, h]
  · rw [upd_ne e]
theorem SqL.off {K : PySem.W.Frag} {H : Hp} {a b : Addr} {o : HO} {xs : List V} (h : SqL K H a xs) (n : a ≠ b) : SqL K (L2.upd H b o) a xs := by
  rcases h with (h | ⟨o', h⟩) | h
  · exact .inl (.inl (by rw [upd_ne n]; exact h))
  · exact .inl (.inr ⟨o', by rw [upd_ne n]; exact h⟩)
  · exact .inr h
theorem ixN_nat {n k : Nat} (h : k < n) : ixN n (k : Int) = some k := by
  unfold ixN
  rw [if_pos (by omega), if_pos (by omega), Int.toNat_natCast]
end L2

namespace L2
open PySem PySem.Spec PyProof.Rows
/-! ### two lists of the same values are equal -/
theorem Vals.at {xs : List V} {us : List Value} (r : Vals xs us) {j : Nat} (h : j < us.length) : ∃ x, xs[j]? = some x ∧ RelV x us[j] := by
  have hx : j < xs.length := by rw [r.length]; exact h
  obtain ⟨u, e, ru⟩ := r.get (List.getElem?_eq_getElem hx)
  rw [List.getElem?_eq_getElem h] at e
  exact ⟨_, List.getElem?_eq_getElem hx, by rw [Option.some.inj e]; exact ru⟩
end L2
namespace Tf
open PySem L2
/-! ### seasons -/
def kindS (b : Bool) : Str := if b = true then "warm" else "cold"
theorem kind_warm (b : Bool) : decide (V.str (kindS b) = V.str "warm") = b := by
  cases b
  · exact decide_eq_false (fun h => absurd (V.str.inj h) (by decide +kernel))
  · exact decide_eq_true rfl
theorem kind_cold (b : Bool) : decide (V.str (kindS b) = V.str "cold") = !b := by
  cases b
  · exact decide_eq_true rfl
  · exact decide_eq_false (fun h => absurd (V.str.inj h) (by decide +kernel))
structure SeasAt (H : Hp) (ts : List Addr) (ss : List (Bool × Int)) : Prop where
  len : ts.length = ss.length
  at' : ∀ (i : Nat) (z : Bool × Int), ss[i]? = some z → ∃ t, ts[i]? = some t ∧ H t = some (.tup [.str (kindS z.1), .int z.2])
theorem SeasAt.same {H H' : Hp} {ts : List Addr} {ss : List (Bool × Int)} (S : SeasAt H ts ss) (h : Same H H') : SeasAt H' ts ss :=
  ⟨S.len, fun i z e => let ⟨t, e1, e2⟩ := S.at' i z e; ⟨t, e1, h _ _ e2⟩⟩
theorem SeasAt.nil (H : Hp) : SeasAt H [] [] := ⟨rfl, fun i z e => by simp at e⟩
theorem SeasAt.snoc {H : Hp} {ts : List Addr} {ss : List (Bool × Int)} (S : SeasAt H ts ss) {t : Addr} {z : Bool × Int} (h : H t = some (.tup [.str (kindS z.1), .int z.2])) : SeasAt H (ts ++ [t]) (ss ++ [z]) := by
  refine ⟨by simp [S.len], fun i y e => ?_⟩
  by_cases hi : i < ss.length
  · rw [List.getElem?_append_left hi] at e
    obtain ⟨t', e1, e2⟩ := S.at' i y e
    exact ⟨t', by rw [List.getElem?_append_left (by rw [S.len]; exact hi)]; exact e1, e2⟩
  · rw [List.getElem?_append_right (by omega)] at e
    have hi0 : i - ss.length = 0 := by
      have := (List.getElem?_eq_some_iff.mp e).1
      simp at this
      omega
    rw [hi0] at e
    have e : z = y := by simpa using e
    subst e
    refine ⟨t, ?_, h⟩
    rw [List.getElem?_append_right (by rw [S.len]; omega), S.len, hi0]
    rfl
structure HeatsOk (needs heats : List Int) : Prop where
  len : heats.length = needs.length
  lo : ∀ i, i < needs.length → 0 ≤ heats.getD i 0
  hi : ∀ i, i < needs.length → heats.getD i 0 ≤ needs.getD i 0
theorem Beds.ok {needs heats : List Int} (B : Beds needs heats) : HeatsOk needs heats := ⟨B.len, fun i h => (B.heat i h).1, fun i h => (B.heat i h).2⟩
theorem HeatsOk.rooms0 {needs heats : List Int} (h : HeatsOk needs heats) : ∀ i, i < (rooms needs heats).length → 0 ≤ (rooms needs heats).getD i 0 := fun i hi => by
  rw [rooms_len h.len] at hi
  rw [rooms_at h.len hi]
  have := h.hi i hi
  omega
theorem HeatsOk.warm {needs heats : List Int} (h : HeatsOk needs heats) (m : Int) : HeatsOk needs (warmL needs heats m) := by
  refine ⟨warmL_len h.len, fun i hi => ?_, fun i hi => ?_⟩
  all_goals
    rw [warmL_at h.len hi]
    have b := share_bounds (a := m) (h.rooms0 i (by rw [rooms_len h.len]; exact hi))
    rw [rooms_at h.len hi] at b
    have := h.lo i hi
    omega
theorem HeatsOk.cold {needs heats : List Int} (h : HeatsOk needs heats) (m : Int) : HeatsOk needs (coldL heats m) := by
  refine ⟨by rw [coldL_len, h.len], fun i hi => ?_, fun i hi => ?_⟩
  all_goals
    rw [coldL_at (by rw [h.len]; exact hi)]
    have b := share_bounds (a := m) (h.lo i hi)
    have := h.hi i hi
    omega
def seasL (needs heats : List Int) (z : Bool × Int) : List Int := if z.1 = true then warmL needs heats z.2 else coldL heats z.2
def seasLeft (needs heats : List Int) (z : Bool × Int) : Int := if z.1 = true then leftAt (rooms needs heats) z.2 0 else leftAt heats z.2 0
theorem HeatsOk.seas {needs heats : List Int} (h : HeatsOk needs heats) (z : Bool × Int) : HeatsOk needs (seasL needs heats z) := by
  unfold seasL
  split
  · exact h.warm _
  · exact h.cold _
structure Sums where
  heats : List Int
  room : Int
  heat : Int
def stepS (needs : List Int) (s : Sums) (z : Bool × Int) : Sums :=
  ⟨seasL needs s.heats z, if z.1 = true then s.room + seasLeft needs s.heats z else s.room, if z.1 = true then s.heat else s.heat + seasLeft needs s.heats z⟩
def passL (needs heats : List Int) (ss : List (Bool × Int)) : Sums := ss.foldl (stepS needs) ⟨heats, 0, 0⟩
theorem passL_snoc (needs heats : List Int) (ss : List (Bool × Int)) (z : Bool × Int) : passL needs heats (ss ++ [z]) = stepS needs (passL needs heats ss) z := by
  unfold passL
  rw [List.foldl_append]; rfl
theorem passL_ok {needs heats : List Int} (h : HeatsOk needs heats) (ss : List (Bool × Int)) : HeatsOk needs (passL needs heats ss).heats := by
  have : ∀ (ss : List (Bool × Int)) (s : Sums), HeatsOk needs s.heats → HeatsOk needs (ss.foldl (stepS needs) s).heats := by
    intro ss
    induction ss with
    | nil => intro s h; exact h
    | cons z ss ih => intro s h; exact ih _ (h.seas z)
  exact this ss _ h
theorem take_snoc {α : Type} {ss : List α} {i : Nat} {z : α} (h : ss[i]? = some z) : ss.take (i + 1) = ss.take i ++ [z] := by
  rw [List.take_add_one, h]; rfl
end Tf

namespace L2
open PySem PySem.Spec PyProof.Rows
section
variable {X : Cx} {p pos : Pos} {a b : Expr} {ta tb : TE}
abbrev rSorted (K : PySem.W.Frag) : List V → Hp → VK → Prop := fun vs H Q => ∃ (p : Addr) (ns : List Int), vs = [.ref p] ∧ SqL K H p (ns.map V.int) ∧ ns.length < 64 ∧ ∀ (l : Addr) (ns' : List Int), H l = none → ns'.Perm ns → ns'.Pairwise (· ≤ ·) → Q (.ref l) (upd H l (.lst (ns'.map V.int)))
theorem vals_of {vs : List Value} {ns : List Int} (h : IntsAre vs ns) : Vals (ns.map V.int) vs := by
  induction h with
  | nil => exact .nil
  | cons => rename_i ih; exact .cons ⟨_, rfl⟩ ih
theorem call_sorted : CallR X (.builtin "sorted") (rSorted X.K) := by
  intro pins s σ H vs us Q I r h
  obtain ⟨p, ns, rfl, hq, hn, q⟩ := h
  obtain ⟨u, rfl, rx⟩ := r.one
  cases rx
  obtain ⟨its, rv, pl, hz⟩ := I.list hq
  have hi := intsAre_of rv
  have hlen := hi.length
  refine sorted_ints pl.isList hi (by omega) fun out ns' a1 a2 a3 => ?_
  obtain ⟨e, he⟩ := sortedAll_at s.heap its out
  have hl' := a2.length_eq
  refine ⟨.ref (s.heap.objs.size + 1), _, I.laid (t' := s.toks) (fun _ _ => sortedAll_old) (Nat.le_succ _) (o := .lst (ns'.map V.int)) ⟨?_, out.toList, e, vals_of a1, ?_⟩, rfl, q _ ns' (I.hok.fresh (Nat.le_succ _)) a2 a3⟩
  · rw [List.length_map]; exact Nat.le_of_lt (Nat.lt_of_lt_of_le (by omega : ns'.length < 64) (by decide))
  · rw [Array.toArray_toList]; exact he
theorem pe_sorted (hm : X.mg "sorted" = none) (ha : PE X a ta) (hg : Gl X "sorted" := by rfl) (hs : starEach [a] X.env = (false, eval a X.env) :: starEach [] X.env := by rfl) : PE X (.Call (.Name "sorted" p) [a] [] pos) (tCB (rSorted X.K) (tCons ta tNil)) :=
  pe_callB call_sorted hg hm (by decide +kernel) (pa_cons ha pa_nil hs) (by decide) (by decide) hs rfl
end
end L2
namespace Tf
open PySem L2
theorem perm_sum {a b : List Int} (h : a.Perm b) : a.sum = b.sum := by
  induction h with
  | nil => rfl
  | cons x _ ih => simp only [List.sum_cons, ih]
  | swap x y l => simp only [List.sum_cons]; omega
  | trans _ _ h1 h2 => exact h1.trans h2
def clampI (x l m : Int) : Int := if x < l then l else if m < x then m else x
theorem sorted_three {l m x : Int} {ns : List Int} (h : ns.Perm [l, x, m]) (o : ns.Pairwise (· ≤ ·)) (hlm : l ≤ m) : ∃ u v, ns = [u, clampI x l m, v] := by
  have hl := h.length_eq
  match ns, hl with
  | [u, c, v], _ =>
    have ho : (u ≤ c ∧ u ≤ v) ∧ c ≤ v := by simpa using o
    have hs : [u, c, v].sum = [l, x, m].sum := perm_sum h
    have hu : u = l ∨ u = x ∨ u = m := by simpa using h.mem_iff.mp (show u ∈ [u, c, v] by simp)
    have hv : v = l ∨ v = x ∨ v = m := by simpa using h.mem_iff.mp (show v ∈ [u, c, v] by simp)
    have hc : c = l ∨ c = x ∨ c = m := by simpa using h.mem_iff.mp (show c ∈ [u, c, v] by simp)
    have h1 : l = u ∨ l = c ∨ l = v := by simpa using h.mem_iff.mpr (show l ∈ [l, x, m] by simp)
    have h2 : x = u ∨ x = c ∨ x = v := by simpa using h.mem_iff.mpr (show x ∈ [l, x, m] by simp)
    have h3 : m = u ∨ m = c ∨ m = v := by simpa using h.mem_iff.mpr (show m ∈ [l, x, m] by simp)
    simp only [List.sum_cons, List.sum_nil] at hs
    refine ⟨u, v, ?_⟩
    have e : c = clampI x l m := by
      unfold clampI
      split
      · omega
      · split <;> omega
    rw [e]
end Tf
namespace L2
theorem none_of {H H' : Hp} {t : PySem.Addr} (s : Same H H') (h : H' t = none) : H t = none := by
  cases e : H t with
  | none => rfl
  | some o => exact absurd ((s _ _ e).symm.trans h) (by simp)
end L2
namespace Tf
theorem clamp_mono {x y l m : Int} (h : l ≤ m) (e : x ≤ y) : clampI x l m ≤ clampI y l m := by
  unfold clampI
  repeat' split
  all_goals omega
theorem clamp_joined {x d1 l1 m1 d2 l2 m2 : Int} (h1 : l1 ≤ m1) (h2 : l2 ≤ m2) :
    clampI (x + (d1 + d2)) (clampI (l1 + d2) l2 m2) (clampI (m1 + d2) l2 m2) = clampI (clampI (x + d1) l1 m1 + d2) l2 m2 := by
  unfold clampI
  repeat' split
  all_goals omega
end Tf

namespace Tf
open PySem L2
/-! ### rules of three numbers -/
structure Rl where
  d : Int
  l : Int
  m : Int
abbrev Rl.vs (r : Rl) : List V := [.int r.d, .int r.l, .int r.m]
def Rl.Ok (r : Rl) : Prop := r.l ≤ r.m
def Rl.ap (r : Rl) (x : Int) : Int := clampI (x + r.d) r.l r.m
def Rl.jn (a b : Rl) : Rl := ⟨a.d + b.d, b.ap a.l, b.ap a.m⟩
theorem Rl.jn_ok {a b : Rl} (ha : a.Ok) (hb : b.Ok) : (a.jn b).Ok := clamp_mono hb (by have : a.l ≤ a.m := ha; omega)
theorem Rl.ap_jn {a b : Rl} (ha : a.Ok) (hb : b.Ok) (x : Int) : (a.jn b).ap x = b.ap (a.ap x) := clamp_joined ha hb
theorem Rl.jn_assoc {a b c : Rl} (hb : b.Ok) (hc : c.Ok) : (a.jn b).jn c = a.jn (b.jn c) := by
  have e : ∀ x, (b.jn c).ap x = c.ap (b.ap x) := Rl.ap_jn hb hc
  show (⟨a.d + b.d + c.d, c.ap (b.ap a.l), c.ap (b.ap a.m)⟩ : Rl) = ⟨a.d + (b.d + c.d), (b.jn c).ap a.l, (b.jn c).ap a.m⟩
  rw [e, e, Int.add_assoc]
def Rl.rep (r : Rl) : Nat → Rl
  | 0 => r
  | n + 1 => (r.rep n).jn r
theorem Rl.rep_ok {r : Rl} (h : r.Ok) : ∀ n, (r.rep n).Ok
  | 0 => h
  | n + 1 => Rl.jn_ok (Rl.rep_ok h n) h
theorem Rl.rep_add {r : Rl} (h : r.Ok) (a : Nat) : ∀ b, (r.rep a).jn (r.rep b) = r.rep (a + b + 1)
  | 0 => rfl
  | b + 1 => by
    show (r.rep a).jn ((r.rep b).jn r) = (r.rep (a + b + 1)).jn r
    rw [← Rl.jn_assoc (Rl.rep_ok h b) h, Rl.rep_add h a b]
end Tf
namespace Tf
open PySem L2
/-! ### seasons as rules of a depth -/
def stepH (full h : Int) (z : Bool × Int) : Int := if z.1 = true then min full (h + z.2) else max 0 (h - z.2)
def stepsH (full h : Int) (ss : List (Bool × Int)) : Int := ss.foldl (stepH full) h
def addS (ss : List (Bool × Int)) : Int := ss.foldl (fun t z => t + if z.1 = true then z.2 else -z.2) 0
def seasR (full : Int) (z : Bool × Int) : Rl := if z.1 = true then ⟨z.2, min full z.2, full⟩ else ⟨-z.2, 0, max 0 (full - z.2)⟩
def rowR (full : Int) (ss : List (Bool × Int)) : Rl := ⟨addS ss, stepsH full 0 ss, stepsH full full ss⟩
theorem stepsH_snoc (full h : Int) (ss : List (Bool × Int)) (z : Bool × Int) : stepsH full h (ss ++ [z]) = stepH full (stepsH full h ss) z := by unfold stepsH; rw [List.foldl_append]; rfl
theorem addS_snoc (ss : List (Bool × Int)) (z : Bool × Int) : addS (ss ++ [z]) = addS ss + if z.1 = true then z.2 else -z.2 := by unfold addS; rw [List.foldl_append]; rfl
theorem addS_append (a b : List (Bool × Int)) : addS (a ++ b) = addS a + addS b := by
  have go : ∀ (b : List (Bool × Int)) (t : Int), b.foldl (fun t z => t + if z.1 = true then z.2 else -z.2) t = t + b.foldl (fun t z => t + if z.1 = true then z.2 else -z.2) 0 := by
    intro b
    induction b with
    | nil => intro t; show t = t + 0; omega
    | cons z b ih => intro t; rw [List.foldl_cons, List.foldl_cons, ih, ih (0 + _)]; omega
  unfold addS
  rw [List.foldl_append, go]
theorem stepH_in {full h : Int} {z : Bool × Int} (hz : 0 ≤ z.2) (h0 : 0 ≤ h) (h1 : h ≤ full) : 0 ≤ stepH full h z ∧ stepH full h z ≤ full := by
  unfold stepH; split <;> omega
theorem stepsH_in {full h : Int} {ss : List (Bool × Int)} (hz : ∀ z ∈ ss, 0 ≤ z.2) (h0 : 0 ≤ h) (h1 : h ≤ full) : 0 ≤ stepsH full h ss ∧ stepsH full h ss ≤ full := by
  induction ss generalizing h with
  | nil => exact ⟨h0, h1⟩
  | cons z ss ih =>
    have := stepH_in (hz z (List.mem_cons_self ..)) h0 h1
    exact ih (fun y hy => hz y (List.mem_cons_of_mem _ hy)) this.1 this.2
theorem stepH_mono {full h k : Int} {z : Bool × Int} (e : h ≤ k) : stepH full h z ≤ stepH full k z := by unfold stepH; split <;> omega
theorem stepsH_mono {full h k : Int} (ss : List (Bool × Int)) (e : h ≤ k) : stepsH full h ss ≤ stepsH full k ss := by
  induction ss generalizing h k with
  | nil => exact e
  | cons z ss ih => exact ih (stepH_mono e)
theorem rowR_ok {full : Int} (hf : 0 ≤ full) (ss : List (Bool × Int)) : (rowR full ss).Ok := stepsH_mono ss hf
theorem seasR_ok {full : Int} {z : Bool × Int} (hf : 0 ≤ full) (hz : 0 ≤ z.2) : (seasR full z).Ok := by
  unfold seasR Rl.Ok; split <;> (dsimp only; omega)
theorem seasR_ap {full h : Int} {z : Bool × Int} (hz : 0 ≤ z.2) (h0 : 0 ≤ h) (h1 : h ≤ full) : (seasR full z).ap h = stepH full h z := by
  unfold seasR stepH Rl.ap clampI
  by_cases e : z.1 = true
  · rw [if_pos e, if_pos e]; dsimp only; repeat' split
    all_goals omega
  · rw [if_neg e, if_neg e]; dsimp only; repeat' split
    all_goals omega
theorem rowR_snoc {full : Int} {ss : List (Bool × Int)} {z : Bool × Int} (hf : 0 ≤ full) (hs : ∀ z ∈ ss, 0 ≤ z.2) (hz : 0 ≤ z.2) : rowR full (ss ++ [z]) = (rowR full ss).jn (seasR full z) := by
  have a := stepsH_in hs (Int.le_refl 0) hf
  have b := stepsH_in hs hf (Int.le_refl full)
  show (⟨addS (ss ++ [z]), stepsH full 0 (ss ++ [z]), stepsH full full (ss ++ [z])⟩ : Rl) = ⟨addS ss + (seasR full z).d, (seasR full z).ap (stepsH full 0 ss), (seasR full z).ap (stepsH full full ss)⟩
  rw [seasR_ap hz a.1 a.2, seasR_ap hz b.1 b.2, addS_snoc, stepsH_snoc, stepsH_snoc]
  congr 1
  unfold seasR
  split <;> rfl
theorem rowR_ap {full h : Int} {ss : List (Bool × Int)} (hz : ∀ z ∈ ss, 0 ≤ z.2) (h0 : 0 ≤ h) (h1 : h ≤ full) : (rowR full ss).ap h = stepsH full h ss := by
  have key : ∀ n, ∀ ss : List (Bool × Int), ss.length = n → (∀ z ∈ ss, 0 ≤ z.2) → (rowR full ss).ap h = stepsH full h ss := by
    intro n
    induction n with
    | zero =>
      intro ss hl _
      cases ss with
      | nil => show clampI (h + 0) 0 full = h; unfold clampI; repeat' split
               all_goals omega
      | cons _ _ => cases hl
    | succ n ih =>
      intro ss hl hz
      have hne : ss ≠ [] := by intro e; rw [e] at hl; cases hl
      obtain ⟨b, z, rfl⟩ : ∃ b z, ss = b ++ [z] := ⟨ss.dropLast, ss.getLast hne, (List.dropLast_concat_getLast hne).symm⟩
      have hb : ∀ z ∈ b, 0 ≤ z.2 := fun y hy => hz y (List.mem_append_left _ hy)
      have hz' : 0 ≤ z.2 := hz z (by simp)
      have i1 := stepsH_in hb h0 h1
      rw [rowR_snoc (by omega) hb hz', Rl.ap_jn (rowR_ok (by omega) b) (seasR_ok (by omega) hz'), ih b (by simpa using hl) hb, seasR_ap hz' i1.1 i1.2, stepsH_snoc]
  exact key _ ss rfl hz
theorem SeasAt.take {H : Hp} {ts : List Addr} {ss : List (Bool × Int)} (S : SeasAt H ts ss) (k : Nat) : SeasAt H (ts.take k) (ss.take k) := by
  refine ⟨by rw [List.length_take, List.length_take, S.len], fun i z e => ?_⟩
  have hi : i < k := by have := (List.getElem?_eq_some_iff.mp e).1; rw [List.length_take] at this; omega
  rw [List.getElem?_take_of_lt hi] at e
  obtain ⟨t, e1, e2⟩ := S.at' i z e
  exact ⟨t, by rw [List.getElem?_take_of_lt hi]; exact e1, e2⟩
theorem SeasAt.drop {H : Hp} {ts : List Addr} {ss : List (Bool × Int)} (S : SeasAt H ts ss) (k : Nat) : SeasAt H (ts.drop k) (ss.drop k) := by
  refine ⟨by rw [List.length_drop, List.length_drop, S.len], fun i z e => ?_⟩
  rw [List.getElem?_drop] at e
  obtain ⟨t, e1, e2⟩ := S.at' (k + i) z e
  exact ⟨t, by rw [List.getElem?_drop]; exact e1, e2⟩
end Tf
namespace Tf
open PySem L2
theorem SeasAt.item {H : Hp} {ts : List Addr} {ss : List (Bool × Int)} (S : SeasAt H ts ss) {i : Nat} {x : V} (h : (ts.map V.ref)[i]? = some x) : ∃ t z, x = .ref t ∧ ss[i]? = some z ∧ H t = some (.tup [.str (kindS z.1), .int z.2]) := by
  rw [List.getElem?_map] at h
  cases e : ts[i]? with
  | none => rw [e] at h; cases h
  | some t =>
    rw [e] at h
    have hi : i < ss.length := by rw [← S.len]; exact (List.getElem?_eq_some_iff.mp e).1
    obtain ⟨t', e1, e2⟩ := S.at' i _ (List.getElem?_eq_getElem hi)
    rw [e] at e1
    cases e1
    exact ⟨t, _, (Option.some.inj h).symm, List.getElem?_eq_getElem hi, e2⟩
end Tf

namespace Tf
open PySem L2
/-! ### the heat down to a place -/
def down (hs : List Int) (i : Nat) : Int := (hs.drop i).sum
theorem down_step {hs : List Int} {i : Nat} (h : i < hs.length) : down hs i = hs.getD i 0 + down hs (i + 1) := drop_sum h
theorem down_end {hs : List Int} {i : Nat} (h : hs.length ≤ i) : down hs i = 0 := by unfold down; rw [List.drop_of_length_le h]; rfl
theorem down_ind {P : Nat → Prop} (n : Nat) (h0 : P n) (hs : ∀ i, i < n → P (i + 1) → P i) : ∀ i, i ≤ n → P i := by
  have go : ∀ k i, i + k = n → P i := by
    intro k
    induction k with
    | zero => intro i e; rw [show i = n by omega]; exact h0
    | succ k ih => intro i e; exact hs i (by omega) (ih (i + 1) (by omega))
  exact fun i hi => go (n - i) i (by omega)
theorem down_rooms {needs heats : List Int} (hl : heats.length = needs.length) : ∀ i, i ≤ needs.length → down (rooms needs heats) i = down needs i - down heats i := by
  refine down_ind _ ?_ fun i hi ih => ?_
  · rw [down_end (by rw [rooms_len hl]; omega), down_end (by omega), down_end (by omega)]; omega
  · rw [down_step (hs := rooms needs heats) (i := i) (by rw [rooms_len hl]; exact hi), down_step (hs := needs) (i := i) hi, down_step (hs := heats) (i := i) (by omega), ih, rooms_at hl hi]; omega
theorem leftAt_down (rs : List Int) (a : Int) (i : Nat) : leftAt rs a i = max 0 (a - down rs i) := rfl
theorem HeatsOk.down {needs heats : List Int} (h : HeatsOk needs heats) : ∀ i, i ≤ needs.length → 0 ≤ Tf.down heats i ∧ Tf.down heats i ≤ Tf.down needs i := by
  refine down_ind _ ?_ fun i hi ih => ?_
  · rw [down_end (by have := h.len; omega), down_end (Nat.le_refl _)]; omega
  · have hl := h.len
    have a := h.lo i hi
    have b := h.hi i hi
    rw [down_step hi, down_step (by omega)]; omega
theorem down_warm {needs heats : List Int} {a : Int} (h : HeatsOk needs heats) (ha : 0 ≤ a) : ∀ i, i ≤ needs.length → down (warmL needs heats a) i = min (down needs i) (down heats i + a) := by
  refine down_ind _ ?_ fun i hi ih => ?_
  · rw [down_end (by rw [warmL_len h.len]; omega), down_end (Nat.le_refl _), down_end (by rw [h.len]; omega)]; omega
  · have hl := h.len
    have b := h.hi i hi
    have b0 := h.lo i hi
    have d1 := h.down (i + 1) hi
    rw [down_step (by rw [warmL_len hl]; omega), ih, warmL_at hl hi, down_step hi, down_step (show i < heats.length by omega)]
    unfold shareAt
    rw [leftAt_down, down_rooms hl (i + 1) hi, rooms_at hl hi]
    omega
theorem down_cold {needs heats : List Int} {a : Int} (h : HeatsOk needs heats) (ha : 0 ≤ a) : ∀ i, i ≤ needs.length → down (coldL heats a) i = max 0 (down heats i - a) := by
  refine down_ind _ ?_ fun i hi ih => ?_
  · rw [down_end (by rw [coldL_len, h.len]; omega), down_end (by rw [h.len]; omega)]; omega
  · have hl := h.len
    have b0 := h.lo i hi
    have d1 := h.down (i + 1) hi
    rw [down_step (by rw [coldL_len]; omega), ih, coldL_at (by omega), down_step (show i < heats.length by omega)]
    unfold shareAt
    rw [leftAt_down]
    omega
theorem down_seas {needs heats : List Int} {z : Bool × Int} (h : HeatsOk needs heats) (hz : 0 ≤ z.2) {i : Nat} (hi : i ≤ needs.length) : down (seasL needs heats z) i = stepH (down needs i) (down heats i) z := by
  unfold seasL stepH
  split
  · exact down_warm h hz i hi
  · exact down_cold h hz i hi
theorem down_pass {needs heats : List Int} {ss : List (Bool × Int)} (h : HeatsOk needs heats) (hz : ∀ z ∈ ss, 0 ≤ z.2) {i : Nat} (hi : i ≤ needs.length) : down (passL needs heats ss).heats i = stepsH (down needs i) (down heats i) ss := by
  have go : ∀ (ss : List (Bool × Int)) (s : Sums), (∀ z ∈ ss, 0 ≤ z.2) → HeatsOk needs s.heats → down (ss.foldl (stepS needs) s).heats i = stepsH (down needs i) (down s.heats i) ss := by
    intro ss
    induction ss with
    | nil => intro s _ _; rfl
    | cons z ss ih =>
      intro s hz h
      have h1 := ih (stepS needs s z) (fun y hy => hz y (List.mem_cons_of_mem _ hy)) (h.seas z)
      rw [List.foldl_cons, h1]
      show stepsH _ (down (seasL needs s.heats z) i) ss = stepsH _ (stepH _ _ z) ss
      rw [down_seas h (hz z (List.mem_cons_self ..)) hi]
  exact go ss _ hz h
theorem seasLeft_down {needs heats : List Int} {z : Bool × Int} (h : HeatsOk needs heats) : seasLeft needs heats z = if z.1 = true then max 0 (z.2 - (down needs 0 - down heats 0)) else max 0 (z.2 - down heats 0) := by
  unfold seasLeft
  split
  · rw [leftAt_down, down_rooms h.len 0 (Nat.zero_le _)]
  · rw [leftAt_down]
end Tf
namespace Tf
def yearsH (full h : Int) (ss : List (Bool × Int)) : Nat → Int
  | 0 => h
  | n + 1 => stepsH full (yearsH full h ss n) ss
theorem yearsH_in {full h : Int} {ss : List (Bool × Int)} (hz : ∀ z ∈ ss, 0 ≤ z.2) (h0 : 0 ≤ h) (h1 : h ≤ full) : ∀ n, 0 ≤ yearsH full h ss n ∧ yearsH full h ss n ≤ full
  | 0 => ⟨h0, h1⟩
  | n + 1 => stepsH_in hz (yearsH_in hz h0 h1 n).1 (yearsH_in hz h0 h1 n).2
theorem rep_ap {full h : Int} {ss : List (Bool × Int)} (hf : 0 ≤ full) (hz : ∀ z ∈ ss, 0 ≤ z.2) (h0 : 0 ≤ h) (h1 : h ≤ full) : ∀ n, ((rowR full ss).rep n).ap h = yearsH full h ss (n + 1)
  | 0 => rowR_ap hz h0 h1
  | n + 1 => by
    have i := yearsH_in hz h0 h1 (n + 1)
    show (((rowR full ss).rep n).jn (rowR full ss)).ap h = _
    rw [Rl.ap_jn (Rl.rep_ok (rowR_ok hf ss) n) (rowR_ok hf ss), rep_ap hf hz h0 h1 n, rowR_ap hz i.1 i.2]
    rfl
end Tf

namespace Tf
open PySem L2
theorem cut_dropG {xs : List V} {k : Nat} : cutV xs (some (k : Int)) none = xs.drop k := by
  by_cases h : k ≤ xs.length
  · exact cut_drop h
  · rw [List.drop_of_length_le (by omega)]
    have e : HT.sIx xs.length 0 (some (k : Int)) = xs.length := by
      simp only [HT.sIx]
      rw [if_neg (by omega)]
      omega
    unfold cutV
    rw [e, List.drop_length, List.take_nil]
theorem cut_takeG {xs : List V} {k : Nat} : cutV xs none (some (k : Int)) = xs.take k := by
  by_cases h : k ≤ xs.length
  · exact cut_take h
  · rw [List.take_of_length_le (by omega)]
    have e : HT.sIx xs.length xs.length (some (k : Int)) = xs.length := by
      simp only [HT.sIx]
      rw [if_neg (by omega)]
      omega
    unfold cutV
    rw [e]
    simp [HT.sIx]
end Tf

namespace Tf
open PySem L2
/-! ### years that come again, over the beds -/
def yearsL (needs heats : List Int) (ss : List (Bool × Int)) : Nat → Sums
  | 0 => ⟨heats, 0, 0⟩
  | n + 1 => ss.foldl (stepS needs) (yearsL needs heats ss n)
theorem fold_ok {needs : List Int} : ∀ (ss : List (Bool × Int)) (s : Sums), HeatsOk needs s.heats → HeatsOk needs (ss.foldl (stepS needs) s).heats := by
  intro ss
  induction ss with
  | nil => intro s h; exact h
  | cons z ss ih => intro s h; exact ih _ (h.seas z)
theorem yearsL_ok {needs heats : List Int} (h : HeatsOk needs heats) (ss : List (Bool × Int)) : ∀ n, HeatsOk needs (yearsL needs heats ss n).heats
  | 0 => h
  | n + 1 => fold_ok ss _ (yearsL_ok h ss n)
theorem fold_snoc (needs : List Int) (s : Sums) (ss : List (Bool × Int)) (z : Bool × Int) : (ss ++ [z]).foldl (stepS needs) s = stepS needs (ss.foldl (stepS needs) s) z := by rw [List.foldl_append]; rfl
theorem down_fold {needs : List Int} {i : Nat} (hi : i ≤ needs.length) : ∀ (ss : List (Bool × Int)) (s : Sums), (∀ z ∈ ss, 0 ≤ z.2) → HeatsOk needs s.heats → down (ss.foldl (stepS needs) s).heats i = stepsH (down needs i) (down s.heats i) ss := by
  intro ss
  induction ss with
  | nil => intro s _ _; rfl
  | cons z ss ih =>
    intro s hz h
    have h1 := ih (stepS needs s z) (fun y hy => hz y (List.mem_cons_of_mem _ hy)) (h.seas z)
    rw [List.foldl_cons, h1]
    show stepsH _ (down (seasL needs s.heats z) i) ss = stepsH _ (stepH _ _ z) ss
    rw [down_seas h (hz z (List.mem_cons_self ..)) hi]
theorem down_years {needs heats : List Int} {ss : List (Bool × Int)} (h : HeatsOk needs heats) (hz : ∀ z ∈ ss, 0 ≤ z.2) {i : Nat} (hi : i ≤ needs.length) : ∀ n, down (yearsL needs heats ss n).heats i = yearsH (down needs i) (down heats i) ss n
  | 0 => rfl
  | n + 1 => by
    show down (ss.foldl (stepS needs) (yearsL needs heats ss n)).heats i = stepsH _ (yearsH _ _ ss n) ss
    rw [down_fold hi ss _ hz (yearsL_ok h ss n), down_years h hz hi n]
end Tf
namespace Tf
open PySem L2
theorem yearsH_mid {full h : Int} {ss : List (Bool × Int)} (hf : 0 ≤ full) (hz : ∀ z ∈ ss, 0 ≤ z.2) (h0 : 0 ≤ h) (h1 : h ≤ full) : ∀ n : Nat, yearsH full h ss (n + 1) = clampI (stepsH full h ss + n * addS ss) (stepsH full 0 ss) (stepsH full full ss)
  | 0 => by
    have a := stepsH_mono (full := full) ss h0
    have b := stepsH_mono (full := full) ss h1
    show stepsH full h ss = _
    rw [show (((0 : Nat) : Int)) * addS ss = 0 by rw [show (((0 : Nat) : Int)) = 0 from rfl, Int.zero_mul]]
    unfold clampI
    repeat' split
    all_goals omega
  | n + 1 => by
    have ih := yearsH_mid hf hz h0 h1 n
    have i := yearsH_in hz h0 h1 (n + 1)
    have a := stepsH_mono (full := full) ss h0
    have b := stepsH_mono (full := full) ss h1
    have e3 : ((n + 1 : Nat) : Int) * addS ss = n * addS ss + addS ss := by rw [show ((n + 1 : Nat) : Int) = (n : Int) + 1 by omega, Int.add_mul, Int.one_mul]
    have e4 : (0 ≤ addS ss → 0 ≤ (n : Int) * addS ss) ∧ (addS ss ≤ 0 → (n : Int) * addS ss ≤ 0) := by
      refine ⟨fun h => Int.mul_nonneg (by omega) h, fun h => ?_⟩
      have : 0 ≤ (n : Int) * (-addS ss) := Int.mul_nonneg (by omega) (by omega)
      rw [Int.mul_neg] at this; omega
    show stepsH full (yearsH full h ss (n + 1)) ss = _
    rw [← rowR_ap hz i.1 i.2, ih, e3]
    show clampI (clampI _ _ _ + addS ss) (stepsH full 0 ss) (stepsH full full ss) = _
    generalize (n : Int) * addS ss = z at *
    generalize stepsH full h ss = y at *
    generalize stepsH full 0 ss = l at *
    generalize stepsH full full ss = m at *
    generalize addS ss = d at *
    unfold clampI
    repeat' split
    all_goals omega
def farL (needs heats : List Int) (ss : List (Bool × Int)) (many some : Nat) : List Int := ((ss.take some).foldl (stepS needs) (yearsL needs heats ss many)).heats
theorem farL_ok {needs heats : List Int} (h : HeatsOk needs heats) (ss : List (Bool × Int)) (many some : Nat) : HeatsOk needs (farL needs heats ss many some) := fold_ok _ _ (yearsL_ok h ss many)
theorem down_far {needs heats : List Int} {ss : List (Bool × Int)} (h : HeatsOk needs heats) (hz : ∀ z ∈ ss, 0 ≤ z.2) (many some : Nat) {i : Nat} (hi : i ≤ needs.length) :
    down (farL needs heats ss many some) i = stepsH (down needs i) (yearsH (down needs i) (down heats i) ss many) (ss.take some) := by
  unfold farL
  rw [down_fold hi _ _ (fun z hz' => hz z (List.mem_of_mem_take hz')) (yearsL_ok h ss many), down_years h hz hi]
theorem down_diff {hs : List Int} {n : Nat} (hl : hs.length = n) : (List.range n).map (fun i => down hs i - down hs (i + 1)) = hs := by
  refine List.ext_getElem (by simp [hl]) fun i h1 h2 => ?_
  rw [List.getElem_map, List.getElem_range, down_step h2, List.getD_eq_getElem?_getD, List.getElem?_eq_getElem h2]
  show hs[i] + _ - _ = hs[i]
  omega
end Tf
namespace Tf
open PySem L2
theorem SeasAt.append {H : Hp} {ts us : List Addr} {ss zs : List (Bool × Int)} (S : SeasAt H ts ss) (U : SeasAt H us zs) : SeasAt H (ts ++ us) (ss ++ zs) := by
  refine ⟨by rw [List.length_append, List.length_append, S.len, U.len], fun i z e => ?_⟩
  by_cases hi : i < ss.length
  · rw [List.getElem?_append_left hi] at e
    obtain ⟨t, e1, e2⟩ := S.at' i z e
    exact ⟨t, by rw [List.getElem?_append_left (by rw [S.len]; exact hi)]; exact e1, e2⟩
  · rw [List.getElem?_append_right (by omega)] at e
    obtain ⟨t, e1, e2⟩ := U.at' _ z e
    exact ⟨t, by rw [List.getElem?_append_right (by rw [S.len]; omega), S.len]; exact e1, e2⟩
end Tf

namespace Tf
open PySem L2
/-! ### the resting year -/
theorem HeatsOk.needs {needs heats : List Int} (h : HeatsOk needs heats) : HeatsOk needs needs := ⟨rfl, fun i hi => by have a := h.lo i hi; have b := h.hi i hi; omega, fun i hi => Int.le_refl _⟩
end Tf
namespace L2
open PySem PySem.Spec PyProof.Rows
section
variable {X : Cx}
theorem op_eqI (hu : X.A.units < cLine) : OpR X (compareOp .Eq) (fun x y H Q => ∃ (p q : Addr) (xs ys : List Int), x = .ref p ∧ y = .ref q ∧ SqL X.K H p (xs.map V.int) ∧ SqL X.K H q (ys.map V.int) ∧ xs.length = ys.length ∧ Q (.bl (decide (xs = ys))) H) := by
  intro pins s σ H x y v u Q I rx ry h
  obtain ⟨p, q, xs, ys, rfl, rfl, h1, h2, hl, hq⟩ := h
  cases rx
  cases ry
  obtain ⟨its, r1, pl1, _⟩ := I.list h1
  obtain ⟨jts, r2, pl2, _⟩ := I.list h2
  have l1 := r1.length
  have l2 := r2.length
  rw [List.length_map] at l1 l2
  refine SeqAt.eq_listAt (e := fun j => xs.getD j 0 == ys.getD j 0) pl1.isList pl2.isList (by simp only [List.size_toArray]; omega) hu (fun j a b => ?_) ?_
  · obtain ⟨x, e, ru⟩ := r1.at (j := j) (by simpa using a)
    obtain ⟨x', e', ru'⟩ := r2.at (j := j) (by simpa using b)
    obtain ⟨_, rfl⟩ := getI_some e
    obtain ⟨_, rfl⟩ := getI_some e'
    obtain ⟨t, e1⟩ := ru
    obtain ⟨t', e2⟩ := ru'
    show SeqAt.EqAt _ s its[j] jts[j] _
    rw [e1, e2]
    exact SeqAt.EqAt.int_int _ _ _ _
  · have ed : (List.range its.toArray.size).all (fun j => xs.getD j 0 == ys.getD j 0) = decide (xs = ys) := by
      rw [Bool.eq_iff_iff, List.all_eq_true, decide_eq_true_iff]
      simp only [List.mem_range, List.size_toArray, beq_iff_eq]
      refine ⟨fun h => List.ext_getElem hl fun i h1 h2 => ?_, fun h j _ => by rw [h]⟩
      have := h i (by omega)
      rw [List.getD_eq_getElem?_getD, List.getD_eq_getElem?_getD, List.getElem?_eq_getElem h1, List.getElem?_eq_getElem h2] at this
      exact this
    rw [ed]
    exact ⟨.bl _, H, I, rfl, hq⟩
end
end L2

namespace PySem
theorem F.lri_no_len : typeLookup (Value.type "list_reverseiterator") (Str.ofString "__len__") = pure none := by
  rw [typeLookup_type, builtinLookup_eq_fast]; rfl
theorem F.lri_hint : typeLookup (Value.type "list_reverseiterator") (Str.ofString "__length_hint__") = pure (some (.builtin "list_reverseiterator.__length_hint__")) := by
  rw [typeLookup_type, builtinLookup_eq_fast]; rfl
theorem F.sub_lri_self : isSubtype (.type "list_reverseiterator") (.type "list_reverseiterator") = pure true := by
  rw [isSubtype_type]; rfl
theorem wpAny_extend_rev {prog : Program} {w : World} {A : Around} {s : Shared} {R : Result → Shared → Prop} {I : Addr} {fp wr : List Addr} {G : Array GenState → Array GenState → Prop} {n : Nat} {P : Nat → Value → Prop} {St : Nat → Shared → Prop}
    (W : WalksS prog w (Around.in1 A) I fp wr G n P St) (hT : ∀ i s, St i s → Shared.TypeIs s (.ref I) "list_reverseiterator") (S : Addr) (res : Value) (c₀ : Nat) (hst : St 0 s) (hSf : S ∉ fp) (hI : I ∈ fp)
    (hS : s.heap.get? S = some { cls := .type "list", data := .seq #[] c₀ })
    (hR : ∀ (s' : Shared) (acc' : Array Value) (c' : Nat), Moved (S :: wr) G s s' → s'.heap.get? S = some { cls := .type "list", data := .seq acc' c' } → ItemsOf P acc' n → R (.ok (.ret res)) s') (hn : n ≤ sizeLine) :
    wpAny (model prog w) (Around.in1 A) (Builtin.List.listExtendWith (.ref S) (.ref I) res)
      (fun fin s' => match fin with | .done f => R (.ok f) s' | .again c' => c'.quiet = true ∧ codeAny (model prog w) A c' R s') (fun e s' => R (.error e) s') s := by
  have hSI : S ≠ I := fun e => hSf (e ▸ hI)
  unfold Builtin.List.listExtendWith
  refine wpAny_bind (wpAny_typeOf (hT 0 s hst) ?_)
  have h1 : Builtin.List.listSameRef (.ref S) (.ref I) = false := by
    show (S == I) = false
    simp [hSI]
  rw [h1]
  simp only [show (Value.type "list_reverseiterator" == Value.type "list") = false by decide, show (Value.type "list_reverseiterator" == Value.type "tuple") = false by decide, Bool.or_false, Bool.false_eq_true, if_false]
  refine wpAny_bind (W.self 0 s _ _ hst ?_)
  refine wpAny_bind (wpAny_holding ?_)
  unfold Builtin.List.listLengthHint
  refine wpAny_bind (wpAny_specialOf (hT 0 s hst) F.lri_no_len ?_)
  refine wpAny_ite_false rfl ?_
  refine wpAny_ite_false rfl ?_
  refine wpAny_bind (wpAny_specialOf (hT 0 s hst) F.lri_hint ?_)
  dsimp only
  rw [show splitId "list_reverseiterator.__length_hint__" = some ("list_reverseiterator", "__length_hint__") by rfl]
  dsimp only
  refine wpAny_bind (wpAny_isInstance (hT 0 s hst) F.sub_lri_self ?_)
  refine wpAny_ite_false rfl ?_
  refine wpAny_ite_true rfl ?_
  refine wpAny_ite_false rfl ?_
  refine wpAny_pure ?_
  refine wpAny_ite_false rfl ?_
  refine wpAny_pure ⟨plainId_quiet F.plain_extend_loop { pos := [.ref S, .ref I, res] }, ?_⟩
  exact codeAny_extend_loopS W hn S hSf res n 0 s #[] c₀ rfl (Nat.zero_le n) hst hS (ItemsOf.nil P) hR
theorem wpAny_list_init_rev {prog : Program} {w : World} {A : Around} {s : Shared} {R : Result → Shared → Prop} {I : Addr} {fp wr : List Addr} {G : Array GenState → Array GenState → Prop} {n : Nat} {P : Nat → Value → Prop} {St : Nat → Shared → Prop}
    (W : WalksS prog w (Around.in1 A) I fp wr G n P St) (hT : ∀ i s, St i s → Shared.TypeIs s (.ref I) "list_reverseiterator") (S : Addr) (hst : St 0 s) (hSf : S ∉ fp) (hI : I ∈ fp)
    (hS : s.heap.get? S = some { cls := .type "list", data := .seq #[] })
    (hR : ∀ (s' : Shared) (acc' : Array Value) (c' : Nat), Moved (S :: wr) G s s' → s'.heap.get? S = some { cls := .type "list", data := .seq acc' c' } → ItemsOf P acc' n → R (.ok (.ret .none)) s') (hn : n ≤ sizeLine) :
    wpAny (model prog w) (Around.in1 A) (Builtin.«list.__init__» { pos := [.ref S, .ref I] })
      (fun fin s' => match fin with | .done f => R (.ok f) s' | .again c' => c'.quiet = true ∧ codeAny (model prog w) A c' R s') (fun e s' => R (.error e) s') s := by
  refine wpAny_bind (wpAny_bind (wpAny_seqItems hS rfl (wpAny_pure (wpAny_bind (wpAny_updateSeq hS rfl ?_ (by simp [sizeLine_eq]) (by simp [sizeLine_eq]))))))
  have hS₂ := Heap.get?_update_self (Obj.mapSeq fun (x : Array Value) => #[]) hS rfl
  have oth := fun (b : Addr) (o : Obj) (hb : b ≠ S) (e : s.heap.get? b = some o) => Eq.trans (Heap.get?_update_other s.heap (Obj.mapSeq fun (x : Array Value) => #[]) (Ne.symm hb)) e
  refine wpAny_bind (wpAny_letGo (wpAny_extend_rev W hT S .none _ (W.frame 0 s _ s.toks hst (Nat.le_refl _) fun b hb o e => oth b o (fun h => hSf (h ▸ hb)) e) hSf hI hS₂ (fun s' acc' c' hm hS' hacc => hR s' acc' c' ?_ hS' hacc) hn))
  exact Moved.trans W.gtrans (Moved.then_heap (Moved.refl W.grefl) (Nat.le_refl s.toks) fun b o hb e => oth b o (fun h => hb (h ▸ List.mem_cons_self)) e) hm
theorem call_list_rev {prog : Program} {w : World} {A : Around} {E : Value → Shared → Prop} {s : Shared} {I : Addr} {fp wr : List Addr} {G : Array GenState → Array GenState → Prop} {n : Nat} {P : Nat → Value → Prop} {St : Nat → Shared → Prop} {Q : Value → Shared → Prop}
    (W : WalksS prog w (Around.in1 (Around.in1 A)) I fp wr G n P St) (hT : ∀ i s, St i s → Shared.TypeIs s (.ref I) "list_reverseiterator") (hst : St 0 s) (hfp : ∀ b ∈ fp, b < s.heap.objs.size) (hI : I ∈ fp)
    (hQ : ∀ (s' : Shared) (acc' : Array Value) (c' : Nat), Moved (s.heap.objs.size :: wr) G { s with heap := s.heap.push { cls := .type "list", data := .seq #[] } } s' →
      s'.heap.get? s.heap.objs.size = some { cls := .type "list", data := .seq acc' c' } → ItemsOf P acc' n → Q (.ref s.heap.objs.size) s') (hn : n ≤ sizeLine) :
    wpAny (model prog w) A (call (.type "list") [.ref I]) Q E s := by
  have hSf : s.heap.objs.size ∉ fp := fun hm => Nat.lt_irrefl _ (hfp _ hm)
  refine callType_codes F.called_list (F.typeCall_list_1 (.ref I)) F.entry_list_init (code_list_new (Q₁ := fun obj s₁ => obj = .ref s.heap.objs.size ∧ s₁ = { s with heap := s.heap.push { cls := .type "list", data := .seq #[] } }) (.ref I) ⟨rfl, rfl⟩) fun obj s₁ h₁ => ?_
  obtain ⟨rfl, rfl⟩ := h₁
  have hS := Heap.get?_push_size s.heap (o := { cls := Value.type "list", data := Data.seq #[] }) rfl
  refine ⟨⟨_, hS, rfl⟩, F.args_list_init_2 _ _, ?_⟩
  exact wpAny_list_init_rev W hT s.heap.objs.size (W.frame 0 s _ s.toks hst (Nat.le_refl _) fun b _ o e => Heap.get?_push_of_some _ e) hSf hI hS (fun s' acc' c' hm hS' hacc => ⟨rfl, hQ s' acc' c' hm hS' hacc⟩) hn
end PySem
namespace L2
open PySem PySem.Spec PyProof.Rows
/-! ### reversed, over a list of n things -/
def ItRv (K : PySem.W.Frag) (a : Addr) (n : Nat) : It :=
  ⟨fun i H => ∃ xs, SqL K H a xs ∧ xs.length = n ∧ i < n, fun i H x H' => H' = H ∧ ∀ xs, SqL K H a xs → xs.length = n → xs[n - 1 - i]? = some x, fun i H => ∃ xs, SqL K H a xs ∧ xs.length = n ∧ n ≤ i⟩
theorem turn_rev {P : Program} {w : World} {K : PySem.W.Frag} {tg : Expr} (a it : Addr) (n : Nat) : Turn P w K tg (ItRv K a n) [it] it (fun i h => i ≤ n ∧ h.IsRevIter it a ((n : Int) - 1 - i)) where
  mem := by simp
  obj := fun i h st b hb => by
    have e : b = it := by simpa using hb
    subst e
    obtain ⟨_, o, e, c, d⟩ := st
    exact ⟨o, e, fun v z => by rw [d] at z; cases z⟩
  keep := fun i h h' st k => by
    obtain ⟨l, o, e, c, d⟩ := st
    exact ⟨l, o, k it (by simp) o e, c, d⟩
  item := by
    intro X hP hw hK hc i pins s σ H E I hf st hg
    subst hP hw hK
    obtain ⟨xs, hq, hl, hi⟩ := hg
    obtain ⟨its, rv, p, hz⟩ := I.list hq
    have hlen := rv.length
    obtain ⟨f0, f1, f2, f3, f4, f5⟩ := hf it (by simp)
    obtain ⟨st0, st⟩ := st
    obtain ⟨o, e, c, d⟩ := id st
    have ne : a ≠ it := SqL.ne I hq e c (by decide)
    have W := Walks.listRev (prog := X.prog) (w := X.w) (I.ok.hd hc) it a ne its.toArray
    have es : its.toArray.size = n := by rw [List.size_toArray]; omega
    rw [es] at W
    refine W.item i s _ _ hi ⟨st0, st, p.isList⟩ fun v h' tk hv st' kk => ?_
    have I1 : Inv X pins σ H { s with heap := h', toks := tk } := I.turned (fun b o hb e => kk b o (by simpa using hb) e) f0 f1 f3 f4 f5
    obtain ⟨s1, s2, s3⟩ := st'
    obtain ⟨o', e', c', d'⟩ := id s2
    have hx : ∃ x, xs[n - 1 - i]? = some x := ⟨_, List.getElem?_eq_getElem (by omega)⟩
    obtain ⟨x, hx⟩ := hx
    obtain ⟨u, hu, ru⟩ := rv.get hx
    have ev : v = u := by
      have : its[n - 1 - i]? = some v := by simpa using hv
      rw [hu] at this
      exact (Option.some.inj this).symm
    subst ev
    exact ⟨v, rfl, go_of (s := { s with heap := h', toks := tk }) e' c' d' (by decide) ⟨x, H, I1, ru, ⟨rfl, fun ys hy hl' => by rw [I.list_inj hy hq]; exact hx⟩, ⟨s1, s2⟩, fun b hb => (hf b hb).1⟩⟩
  done := by
    intro X hP hw hK hc i pins s σ H E I hf st hg
    subst hP hw hK
    obtain ⟨xs, hq, hl, hi⟩ := hg
    obtain ⟨its, rv, p, hz⟩ := I.list hq
    have hlen := rv.length
    obtain ⟨f0, f1, f2, f3, f4, f5⟩ := hf it (by simp)
    obtain ⟨st0, st⟩ := st
    obtain ⟨o, e, c, d⟩ := id st
    have ne : a ≠ it := SqL.ne I hq e c (by decide)
    have W := Walks.listRev (prog := X.prog) (w := X.w) (I.ok.hd hc) it a ne its.toArray
    have es : its.toArray.size = n := by rw [List.size_toArray]; omega
    rw [es] at W
    have ei : i = n := by omega
    subst ei
    exact W.done s _ _ ⟨st0, st, p.isList⟩ fun h' tk kk => ⟨rfl, I.turned (fun b o hb e => kk b o (by simpa using hb) e) f0 f1 f3 f4 f5⟩
  self := fun _ _ _ _ _ st h => wpAny_pyIter_revIter st.2 h
section
variable {X : Cx} {tg : Expr}
def iRev (K : PySem.W.Frag) (ta : TA) : TI := fun σ H R => ta σ H fun vs H1 => ∃ p xs, vs = [.ref p] ∧ SqL K H1 p xs ∧ R (ItRv K p xs.length) H1
theorem pi_rev {a : Expr} {ta : TA} {p pos : Pos} (hg : Gl X "reversed") (hm : X.mg "reversed" = none) (ha : PA X [a] ta) (hs : starEach [a] X.env = (false, eval a X.env) :: starEach [] X.env := by rfl) :
    PI X tg (.Call (.Name "reversed" p) [a] [] pos) (iRev X.K ta) := by
  intro pins s σ H R I h
  refine Call_ (ld_blt I hg hm boot_reversed (PyProof.Rows.callWith_type1 (thn (ha pos pins s σ H _ I h) fun us s1 ⟨vs, H1, I1, r1, q1⟩ => ?_) hs rfl))
  obtain ⟨p, xs, rfl, hq, q⟩ := q1
  obtain ⟨u, rfl, rx⟩ := vals1 r1
  cases rx
  obtain ⟨its, rv, pl, hz⟩ := I1.list hq
  have hlen := rv.length
  refine call_reversed_list pl.isList ?_
  have es : (its.toArray.size : Int) - 1 = (xs.length : Int) - 1 - (0 : Nat) := by rw [List.size_toArray]; omega
  refine wpAny_pyIter_revIter ⟨_, Heap.get?_push_size _ rfl, rfl, rfl⟩ ?_
  refine ⟨s1.heap.objs.size, [s1.heap.objs.size], _, _, H1, rfl, I1.kept (t' := s1.toks) fun b o e => Heap.get?_push_of_some _ e, turn_rev p _ xs.length, ⟨Nat.zero_le _, ⟨_, Heap.get?_push_size _ rfl, rfl, by rw [← es]; rfl⟩⟩, fun b hb => ?_, q⟩
  have e : b = s1.heap.objs.size := by simpa using hb
  subst e
  exact I1.fpOk (Nat.le_refl _) (I1.hok.fresh (Nat.le_refl _))
def tRevL (K : PySem.W.Frag) (ta : TA) : TE := fun σ H Q => ta σ H fun vs H1 => ∃ p ys, vs = [.ref p] ∧ SqL K H1 p ys ∧ ∀ l, H1 l = none → Q (.ref l) (upd H1 l (.lst ys.reverse))
theorem pe_listRev {a : Expr} {ta : TA} {p p' pos pos' : Pos} (hm : X.mg "list" = none) (hm' : X.mg "reversed" = none) (ha : PA X [a] ta) (hc : X.calm = true := by rfl) (hg : Gl X "list" := by rfl) (hg' : Gl X "reversed" := by rfl)
    (hs : starEach [a] X.env = (false, eval a X.env) :: starEach [] X.env := by rfl) (hs' : starEach [.Call (.Name "reversed" p') [a] [] pos'] X.env = (false, eval (.Call (.Name "reversed" p') [a] [] pos') X.env) :: starEach [] X.env := by rfl) :
    PE X (.Call (.Name "list" p) [.Call (.Name "reversed" p') [a] [] pos'] [] pos) (tRevL X.K ta) := by
  intro pins s σ H Q I h
  refine wpAny_Call_Name_kw (ld_blt I hg hm (show bootBuiltins "list" = some (.type "list") by decide +kernel) ?_ (by decide) (by decide))
  refine PyProof.Rows.callWith_type1 ?_ hs' rfl
  rw [hs']
  show wpAny _ _ (spliced ((false, eval (.Call (.Name "reversed" p') [a] [] pos') X.env) :: backTo pos (starEach [] X.env))) _ _ s
  refine Calls.spliced_cons ?_
  refine Call_ (ld_blt I hg' hm' boot_reversed (PyProof.Rows.callWith_type1 (thn (ha pos' pins s σ H _ I h) fun us s1 ⟨vs, H1, I1, r1, q1⟩ => ?_) hs rfl))
  obtain ⟨p, ys, rfl, hq, q⟩ := q1
  obtain ⟨u, rfl, rx⟩ := vals1 r1
  cases rx
  obtain ⟨its, rv, pl, hz⟩ := I1.list hq
  have hlen := rv.length
  refine call_reversed_list pl.isList ?_
  refine Calls.spliced_nil ?_
  have hlt : p < s1.heap.objs.size := by
    obtain ⟨o, n, e, _, _, _⟩ := pl
    exact Heap.lt_size e
  have ne : p ≠ s1.heap.objs.size := Nat.ne_of_lt hlt
  have esz : (s1.heap.push (revObj p ((its.toArray.size : Int) - 1))).objs.size = s1.heap.objs.size + 1 := Heap.size_push _ _
  have pl' : (s1.heap.push (revObj p ((its.toArray.size : Int) - 1))).IsList p its.toArray := by
    obtain ⟨o, ho, hc', n, hd⟩ := pl.isList
    exact ⟨o, Heap.get?_push_of_some _ ho, hc', n, hd⟩
  refine call_list_rev (Walks.listRev (prog := X.prog) (w := X.w) (A := X.A.in1.in1) (I1.ok.hd hc) s1.heap.objs.size p ne its.toArray).toS (fun i s2 st => st.2.1.typeIs) ⟨Nat.zero_le _, ⟨_, Heap.get?_push_size _ rfl, rfl, ?_⟩, pl'⟩ ?_ (by simp) ?_ ?_
  · show Data.fields #[.ref p, rawInt ((its.toArray.size : Int) - 1)] = Data.fields #[.ref p, rawInt ((its.toArray.size : Int) - 1 - ((0 : Nat) : Int))]
    rw [show ((its.toArray.size : Int) - 1 - ((0 : Nat) : Int)) = (its.toArray.size : Int) - 1 by omega]
  · intro b hb
    show b < (s1.heap.push (revObj p ((its.toArray.size : Int) - 1))).objs.size
    rw [esz]
    simp only [List.mem_cons, List.not_mem_nil, or_false] at hb
    rcases hb with rfl | rfl
    · exact Nat.lt_succ_self _
    · exact Nat.lt_succ_of_lt hlt
  · intro s' acc' c' hm he hi
    have eacc : acc' = its.reverse.toArray := by
      apply Array.ext
      · rw [hi.1]; simp
      · intro j h1 h2
        have h3 := hi.2 j acc'[j] (Array.getElem?_eq_getElem h1)
        have h4 : j < its.length := by simpa using h2
        have h5 : its[its.length - 1 - j]? = some acc'[j] := by simpa using h3
        rw [List.getElem?_eq_getElem (by omega)] at h5
        have h6 := Option.some.inj h5
        rw [← h6]
        simp
    subst eacc
    have hk : ∀ b u, s1.heap.get? b = some u → s'.heap.get? b = some u := fun b u e => by
      have hb : b < s1.heap.objs.size := Heap.lt_size e
      refine hm.heap b u ?_ (Heap.get?_push_of_some _ (Heap.get?_push_of_some _ e))
      simp only [List.mem_cons, List.not_mem_nil, or_false]
      rintro (z | z)
      · have z : b = (s1.heap.push (revObj p ((its.toArray.size : Int) - 1))).objs.size := z
        rw [esz] at z
        subst z
        exact Nat.lt_irrefl _ (Nat.lt_of_succ_lt hb)
      · subst z
        exact Nat.lt_irrefl _ hb
    have es : s' = { s1 with heap := s'.heap, toks := s'.toks } := by
      obtain ⟨_, hg1, hd1, ho1, _⟩ := hm
      cases s'
      simp only at hg1 hd1 ho1
      subst hg1 hd1 ho1
      rfl
    have ea : (s1.heap.push (revObj p ((its.toArray.size : Int) - 1))).objs.size = s1.heap.objs.size + 1 := esz
    have I2 := I1.laid (h' := s'.heap) (t' := s'.toks) (a := (s1.heap.push (revObj p ((its.toArray.size : Int) - 1))).objs.size) (o := .lst ys.reverse) hk (by rw [esz]; exact Nat.le_succ _) (show ObjOk X.prog X.w _ s'.heap _ (.lst ys.reverse) from ⟨by rw [List.length_reverse]; exact hz, its.reverse, c', rv.reverse, he⟩)
    rw [← es] at I2
    exact ⟨.ref _, _, I2, rfl, q _ (I1.hok.fresh (by rw [esz]; exact Nat.le_succ _))⟩
  · rw [List.size_toArray]; omega
end
theorem for_rev {K : PySem.W.Frag} {a : Addr} {xs : List V} {g : TG} {tb : TS} {D : Ends} {σ : St} {H : Hp} (Pv : Nat → St → Hp → Prop) (h0 : Pv 0 σ H) (hl : ∀ i σ H, i ≤ xs.length → Pv i σ H → SqL K H a xs)
    (hs : ∀ i x σ H, i < xs.length → xs[xs.length - 1 - i]? = some x → Pv i σ H → g x σ H fun σ2 H2 => tb { D with nx := Pv (i + 1), ct := Pv (i + 1), bk := D.nx } σ2 H2) (hd : ∀ σ H, Pv xs.length σ H → D.nx σ H) :
    ∃ W : Nat → Nat → St → Hp → Prop, (∃ m, W 0 m σ H) ∧ ∀ i m σ H, W i m σ H →
      ((ItRv K a xs.length).stop i H ∧ D.nx σ H) ∨ ((ItRv K a xs.length).go i H ∧ ∃ N : St → Hp → Prop, (∀ σ' H', N σ' H' → ∃ m', m' < m ∧ W (i + 1) m' σ' H') ∧ ∀ x H', (ItRv K a xs.length).yld i H x H' → g x σ H' fun σ2 H2 => tb { D with nx := N, ct := N, bk := D.nx } σ2 H2) := by
  refine ⟨fun i m σ H => m = xs.length - i ∧ i ≤ xs.length ∧ Pv i σ H, ⟨xs.length, by simp, Nat.zero_le _, h0⟩, ?_⟩
  rintro i m σ H ⟨rfl, hi, p⟩
  have q := hl i σ H hi p
  by_cases hlt : i < xs.length
  · refine .inr ⟨⟨xs, q, rfl, hlt⟩, Pv (i + 1), fun σ' H' p' => ⟨xs.length - (i + 1), by omega, rfl, hlt, p'⟩, fun x H' y => ?_⟩
    obtain ⟨e, y⟩ := y
    subst e
    exact hs i x σ _ hlt (y xs q rfl) p
  · have e : i = xs.length := by omega
    subst e
    exact .inl ⟨⟨xs, q, rfl, Nat.le_refl _⟩, hd σ H p⟩
theorem for_zip {K : PySem.W.Frag} {a b : Addr} {xs ys : List V} (hxy : xs.length = ys.length) {g : TG} {tb : TS} {D : Ends} {σ : St} {H : Hp} (Pv : Nat → St → Hp → Prop) (h0 : Pv 0 σ H) (hl : ∀ i σ H, i ≤ xs.length → Pv i σ H → SqL K H a xs ∧ SqL K H b ys)
    (hs : ∀ i x y t σ H, xs[i]? = some x → ys[i]? = some y → Pv i σ H → H t = none → g (.ref t) σ (upd H t (.tup [x, y])) fun σ2 H2 => tb { D with nx := Pv (i + 1), ct := Pv (i + 1), bk := D.nx } σ2 H2) (hd : ∀ σ H, Pv xs.length σ H → D.nx σ H) :
    ∃ W : Nat → Nat → St → Hp → Prop, (∃ m, W 0 m σ H) ∧ ∀ i m σ H, W i m σ H →
      ((Itz K a b).stop i H ∧ D.nx σ H) ∨ ((Itz K a b).go i H ∧ ∃ N : St → Hp → Prop, (∀ σ' H', N σ' H' → ∃ m', m' < m ∧ W (i + 1) m' σ' H') ∧ ∀ x H', (Itz K a b).yld i H x H' → g x σ H' fun σ2 H2 => tb { D with nx := N, ct := N, bk := D.nx } σ2 H2) := by
  refine ⟨fun i m σ H => m = xs.length - i ∧ i ≤ xs.length ∧ Pv i σ H, ⟨xs.length, by simp, Nat.zero_le _, h0⟩, ?_⟩
  rintro i m σ H ⟨rfl, hi, p⟩
  obtain ⟨q1, q2⟩ := hl i σ H hi p
  by_cases hlt : i < xs.length
  · refine .inr ⟨⟨xs, ys, xs[i], ys[i]'(by omega), q1, q2, by simp [hlt], by simp [show i < ys.length by omega]⟩, Pv (i + 1), fun σ' H' p' => ⟨xs.length - (i + 1), by omega, rfl, hlt, p'⟩, fun x H' y => ?_⟩
    obtain ⟨t, u, v, rfl, ht, rfl, y1, y2⟩ := y
    exact hs i u v t σ H (y1 xs q1) (y2 ys q2) p ht
  · have e : i = xs.length := by omega
    subst e
    exact .inl ⟨⟨xs, ys, q1, q2, .inl (Nat.le_refl _)⟩, hd σ H p⟩
end L2

namespace Tf
open PySem L2
/-! ### the sums from each place on -/
def downs (ns : List Int) : List Int := (List.range ns.length).map (down ns)
def downsUp (ns : List Int) (i : Nat) : List Int := (List.range i).map fun j => down ns (ns.length - (j + 1))
theorem downsUp_len (ns : List Int) (i : Nat) : (downsUp ns i).length = i := by unfold downsUp; rw [List.length_map, List.length_range]
theorem downsUp_succ (ns : List Int) (i : Nat) : downsUp ns (i + 1) = downsUp ns i ++ [down ns (ns.length - (i + 1))] := by unfold downsUp; rw [List.range_succ, List.map_append]; rfl
theorem downs_len (ns : List Int) : (downs ns).length = ns.length := by unfold downs; rw [List.length_map, List.length_range]
theorem downsUp_rev (ns : List Int) : (downsUp ns ns.length).reverse = downs ns := by
  unfold downsUp downs
  apply List.ext_getElem
  · simp
  · intro i h1 h2
    simp only [List.length_map, List.length_range] at h2
    simp only [List.getElem_reverse, List.getElem_map, List.getElem_range, List.length_map, List.length_range]
    congr 1
    omega
theorem downs_get {ns : List Int} {i : Nat} (h : i < ns.length) : (downs ns)[i]? = some (down ns i) := by
  unfold downs; rw [List.getElem?_map, List.getElem?_range h]; rfl
theorem downs_diff {R : List Int} (h : 1 ≤ R.length) : List.zipWith (fun d a => d - a) (downs R) ((downs R).drop 1 ++ [0]) = R := by
  have e : (downs R).drop 1 ++ [0] = (List.range R.length).map fun i => down R (i + 1) := by
    apply List.ext_getElem
    · rw [List.length_append, List.length_drop, downs_len, List.length_map, List.length_range]; show _ - 1 + 1 = _; omega
    · intro i h1 h2
      rw [List.length_map, List.length_range] at h2
      rw [List.getElem_map, List.getElem_range, List.getElem_append]
      have hd : ((downs R).drop 1).length = R.length - 1 := by rw [List.length_drop, downs_len]
      split
      · rename_i h3
        rw [hd] at h3
        rw [List.getElem_drop]
        unfold downs
        rw [List.getElem_map, List.getElem_range, Nat.add_comm]
      · rename_i h3
        rw [hd] at h3
        rw [down_end (by omega)]
        simp
  rw [e]
  unfold downs
  rw [List.zipWith_map_left, List.zipWith_map_right, List.zipWith_self]
  exact down_diff rfl
end Tf

namespace Tf
open PySem L2
/-! ### what finds no room and no heat, by the heat of all beds alone -/
def mR (F : Int) : Int → List (Bool × Int) → Int
  | _, [] => 0
  | x, z :: ss => (if z.1 = true then max 0 (z.2 - (F - x)) else 0) + mR F (stepH F x z) ss
def mH (F : Int) : Int → List (Bool × Int) → Int
  | _, [] => 0
  | x, z :: ss => (if z.1 = true then 0 else max 0 (z.2 - x)) + mH F (stepH F x z) ss
theorem mR_nonneg (F : Int) : ∀ (ss : List (Bool × Int)) (x : Int), 0 ≤ mR F x ss
  | [], _ => Int.le_refl 0
  | z :: ss, x => by
    have := mR_nonneg F ss (stepH F x z)
    show 0 ≤ (if z.1 = true then max 0 (z.2 - (F - x)) else 0) + mR F (stepH F x z) ss
    split <;> omega
theorem mH_nonneg (F : Int) : ∀ (ss : List (Bool × Int)) (x : Int), 0 ≤ mH F x ss
  | [], _ => Int.le_refl 0
  | z :: ss, x => by
    have := mH_nonneg F ss (stepH F x z)
    show 0 ≤ (if z.1 = true then 0 else max 0 (z.2 - x)) + mH F (stepH F x z) ss
    split <;> omega
theorem stepsH_cons (full h : Int) (z : Bool × Int) (ss : List (Bool × Int)) : stepsH full h (z :: ss) = stepsH full (stepH full h z) ss := rfl
theorem addS_cons (z : Bool × Int) (ss : List (Bool × Int)) : addS (z :: ss) = (if z.1 = true then z.2 else -z.2) + addS ss := by
  have := addS_append [z] ss
  rw [show [z] ++ ss = z :: ss from rfl] at this
  rw [this]
  congr 1
  show (0 : Int) + _ = _
  rw [Int.zero_add]
theorem miss_bal {F : Int} : ∀ (ss : List (Bool × Int)) (x : Int), (∀ z ∈ ss, 0 ≤ z.2) → 0 ≤ x → x ≤ F → stepsH F x ss = x + addS ss - mR F x ss + mH F x ss
  | [], x, _, _, _ => by show x = x + 0 - 0 + 0; omega
  | z :: ss, x, hz, h0, h1 => by
    have hz0 := hz z (List.mem_cons_self ..)
    have hi := stepH_in hz0 h0 h1
    have ih := miss_bal ss (stepH F x z) (fun y hy => hz y (List.mem_cons_of_mem _ hy)) hi.1 hi.2
    rw [stepsH_cons, ih, addS_cons]
    show _ = x + _ - ((if z.1 = true then max 0 (z.2 - (F - x)) else 0) + mR F (stepH F x z) ss) + ((if z.1 = true then 0 else max 0 (z.2 - x)) + mH F (stepH F x z) ss)
    generalize mR F (stepH F x z) ss = a
    generalize mH F (stepH F x z) ss = b
    unfold stepH
    split <;> omega
theorem miss_room {F : Int} : ∀ (ss : List (Bool × Int)) (x : Int), (∀ z ∈ ss, 0 ≤ z.2) → 0 ≤ x → x ≤ F → 0 < mR F x ss → stepsH F x ss = stepsH F F ss
  | [], x, _, _, _, h => absurd h (by show ¬ (0 : Int) < 0; omega)
  | z :: ss, x, hz, h0, h1, h => by
    have hz0 := hz z (List.mem_cons_self ..)
    have hi := stepH_in hz0 h0 h1
    have hF := stepH_in hz0 (Int.le_trans h0 h1) (Int.le_refl F)
    have h : 0 < (if z.1 = true then max 0 (z.2 - (F - x)) else 0) + mR F (stepH F x z) ss := h
    rw [stepsH_cons, stepsH_cons]
    by_cases hp : 0 < mR F (stepH F x z) ss
    · have ih := miss_room ss (stepH F x z) (fun y hy => hz y (List.mem_cons_of_mem _ hy)) hi.1 hi.2 hp
      have m1 := stepsH_mono (full := F) ss (stepH_mono (full := F) (z := z) h1)
      have m2 := stepsH_mono (full := F) ss hF.2
      omega
    · have h0' := mR_nonneg F ss (stepH F x z)
      have e : stepH F x z = stepH F F z := by
        unfold stepH
        by_cases hw : z.1 = true
        · rw [if_pos hw] at h ⊢
          rw [if_pos hw]
          omega
        · rw [if_neg hw] at h
          omega
      rw [e]
theorem miss_heat {F : Int} : ∀ (ss : List (Bool × Int)) (x : Int), (∀ z ∈ ss, 0 ≤ z.2) → 0 ≤ x → x ≤ F → 0 < mH F x ss → stepsH F x ss = stepsH F 0 ss
  | [], x, _, _, _, h => absurd h (by show ¬ (0 : Int) < 0; omega)
  | z :: ss, x, hz, h0, h1, h => by
    have hz0 := hz z (List.mem_cons_self ..)
    have hi := stepH_in hz0 h0 h1
    have hF := stepH_in hz0 (Int.le_refl 0) (Int.le_trans h0 h1)
    have h : 0 < (if z.1 = true then 0 else max 0 (z.2 - x)) + mH F (stepH F x z) ss := h
    rw [stepsH_cons, stepsH_cons]
    by_cases hp : 0 < mH F (stepH F x z) ss
    · have ih := miss_heat ss (stepH F x z) (fun y hy => hz y (List.mem_cons_of_mem _ hy)) hi.1 hi.2 hp
      have m1 := stepsH_mono (full := F) ss (stepH_mono (full := F) (z := z) h0)
      have m2 := stepsH_mono (full := F) ss hF.1
      omega
    · have h0' := mH_nonneg F ss (stepH F x z)
      have e : stepH F x z = stepH F 0 z := by
        unfold stepH
        by_cases hw : z.1 = true
        · rw [if_pos hw] at h
          omega
        · rw [if_neg hw] at h ⊢
          rw [if_neg hw]
          omega
      rw [e]
theorem fold_room {needs : List Int} : ∀ (ss : List (Bool × Int)) (s : Sums), (∀ z ∈ ss, 0 ≤ z.2) → HeatsOk needs s.heats → (ss.foldl (stepS needs) s).room = s.room + mR (down needs 0) (down s.heats 0) ss ∧ (ss.foldl (stepS needs) s).heat = s.heat + mH (down needs 0) (down s.heats 0) ss
  | [], s, _, _ => ⟨(Int.add_zero _).symm, (Int.add_zero _).symm⟩
  | z :: ss, s, hz, h => by
    have hz0 := hz z (List.mem_cons_self ..)
    obtain ⟨a, b⟩ := fold_room ss (stepS needs s z) (fun y hy => hz y (List.mem_cons_of_mem _ hy)) (h.seas z)
    have e : down (stepS needs s z).heats 0 = stepH (down needs 0) (down s.heats 0) z := down_seas h hz0 (Nat.zero_le _)
    rw [List.foldl_cons, a, b, e]
    show (if z.1 = true then s.room + seasLeft needs s.heats z else s.room) + _ = s.room + ((if z.1 = true then max 0 (z.2 - (down needs 0 - down s.heats 0)) else 0) + _) ∧ (if z.1 = true then s.heat else s.heat + seasLeft needs s.heats z) + _ = s.heat + ((if z.1 = true then 0 else max 0 (z.2 - down s.heats 0)) + _)
    rw [seasLeft_down h]
    by_cases hw : z.1 = true
    · rw [if_pos hw, if_pos hw, if_pos hw, if_pos hw, if_pos hw]; omega
    · rw [if_neg hw, if_neg hw, if_neg hw, if_neg hw, if_neg hw]; omega
theorem fold_heats {needs : List Int} : ∀ (ss : List (Bool × Int)) (s t : Sums), s.heats = t.heats → (ss.foldl (stepS needs) s).heats = (ss.foldl (stepS needs) t).heats
  | [], _, _, e => e
  | z :: ss, s, t, e => fold_heats ss _ _ (by show seasL needs s.heats z = seasL needs t.heats z; rw [e])
theorem years_shift {needs heats : List Int} {ss : List (Bool × Int)} (h : HeatsOk needs heats) (hz : ∀ z ∈ ss, 0 ≤ z.2) : ∀ n, (yearsL needs heats ss (n + 1)).heats = (yearsL needs (passL needs heats ss).heats ss n).heats ∧
    (yearsL needs heats ss (n + 1)).room = (passL needs heats ss).room + (yearsL needs (passL needs heats ss).heats ss n).room ∧ (yearsL needs heats ss (n + 1)).heat = (passL needs heats ss).heat + (yearsL needs (passL needs heats ss).heats ss n).heat
  | 0 => ⟨rfl, (Int.add_zero _).symm, (Int.add_zero _).symm⟩
  | n + 1 => by
    obtain ⟨a, b, c⟩ := years_shift h hz n
    have h1 := yearsL_ok h ss (n + 1)
    have h2 := yearsL_ok (passL_ok h ss) ss n
    obtain ⟨b1, c1⟩ := fold_room ss (yearsL needs heats ss (n + 1)) hz h1
    obtain ⟨b2, c2⟩ := fold_room ss (yearsL needs (passL needs heats ss).heats ss n) hz h2
    refine ⟨fold_heats ss _ _ a, ?_, ?_⟩
    · show (ss.foldl (stepS needs) (yearsL needs heats ss (n + 1))).room = _ + (ss.foldl (stepS needs) (yearsL needs (passL needs heats ss).heats ss n)).room
      rw [b1, b2, b, a]; omega
    · show (ss.foldl (stepS needs) (yearsL needs heats ss (n + 1))).heat = _ + (ss.foldl (stepS needs) (yearsL needs (passL needs heats ss).heats ss n)).heat
      rw [c1, c2, c, a]; omega
theorem years_miss {needs heats : List Int} {ss : List (Bool × Int)} (h : HeatsOk needs heats) (hz : ∀ z ∈ ss, 0 ≤ z.2) (hl : stepsH (down needs 0) 0 ss ≤ down heats 0) (hm : down heats 0 ≤ stepsH (down needs 0) (down needs 0) ss) (n : Nat) :
    (stepsH (down needs 0) 0 ss = stepsH (down needs 0) (down needs 0) ss → (yearsL needs heats ss n).room = n * (passL needs heats ss).room ∧ (yearsL needs heats ss n).heat = n * (passL needs heats ss).heat) ∧
    (stepsH (down needs 0) 0 ss ≠ stepsH (down needs 0) (down needs 0) ss → (yearsL needs heats ss n).room = max (down heats 0 + n * addS ss - yearsH (down needs 0) (down heats 0) ss n) 0 ∧ (yearsL needs heats ss n).heat = max (-(down heats 0 + n * addS ss - yearsH (down needs 0) (down heats 0) ss n)) 0) := by
  have d := h.down 0 (Nat.zero_le _)
  have hF : 0 ≤ down needs 0 := Int.le_trans d.1 d.2
  have pr := fold_room ss ⟨heats, 0, 0⟩ hz h
  have pr1 : (passL needs heats ss).room = mR (down needs 0) (down heats 0) ss := by have := pr.1; rw [Int.zero_add] at this; exact this
  have pr2 : (passL needs heats ss).heat = mH (down needs 0) (down heats 0) ss := by have := pr.2; rw [Int.zero_add] at this; exact this
  have dy : ∀ n, down (yearsL needs heats ss n).heats 0 = yearsH (down needs 0) (down heats 0) ss n := down_years h hz (Nat.zero_le _)
  have step : ∀ n, (yearsL needs heats ss (n + 1)).room = (yearsL needs heats ss n).room + mR (down needs 0) (yearsH (down needs 0) (down heats 0) ss n) ss ∧ (yearsL needs heats ss (n + 1)).heat = (yearsL needs heats ss n).heat + mH (down needs 0) (yearsH (down needs 0) (down heats 0) ss n) ss := fun n => by
    have := fold_room ss (yearsL needs heats ss n) hz (yearsL_ok h ss n)
    rw [dy n] at this
    exact this
  generalize down needs 0 = F at *
  generalize down heats 0 = x at *
  have hy := yearsH_in (full := F) (h := x) hz d.1 d.2
  have hb : ∀ n, stepsH F 0 ss ≤ yearsH F x ss n ∧ yearsH F x ss n ≤ stepsH F F ss := fun n => by
    cases n with
    | zero => exact ⟨hl, hm⟩
    | succ n => exact ⟨stepsH_mono ss (hy n).1, stepsH_mono ss (hy n).2⟩
  refine ⟨fun e => ?_, fun ne => ?_⟩
  · have hx : ∀ n, yearsH F x ss n = x := fun n => by have := hb n; omega
    induction n with
    | zero => exact ⟨by show (0 : Int) = ((0 : Nat) : Int) * _; simp, by show (0 : Int) = ((0 : Nat) : Int) * _; simp⟩
    | succ n ih =>
      rw [(step n).1, (step n).2, ih.1, ih.2, hx n, pr1, pr2, show ((n + 1 : Nat) : Int) = (n : Int) + 1 by omega, Int.add_mul, Int.add_mul, Int.one_mul, Int.one_mul]
      exact ⟨rfl, rfl⟩
  · have bal : ∀ n, yearsH F x ss (n + 1) = yearsH F x ss n + addS ss - mR F (yearsH F x ss n) ss + mH F (yearsH F x ss n) ss := fun n => miss_bal ss _ hz (hy n).1 (hy n).2
    have one : ∀ n, (0 ≤ addS ss → mH F (yearsH F x ss n) ss = 0) ∧ (addS ss < 0 → mR F (yearsH F x ss n) ss = 0) := fun n => by
      have b := bal n
      have n1 := mR_nonneg F ss (yearsH F x ss n)
      have n2 := mH_nonneg F ss (yearsH F x ss n)
      have r1 := miss_room ss _ hz (hy n).1 (hy n).2
      have r2 := miss_heat ss _ hz (hy n).1 (hy n).2
      have eq : yearsH F x ss (n + 1) = stepsH F (yearsH F x ss n) ss := rfl
      have hbn := hb n
      rw [eq] at b
      refine ⟨fun hd => ?_, fun hd => ?_⟩
      · by_cases hp : 0 < mH F (yearsH F x ss n) ss
        · have e2 := r2 hp
          by_cases hq : 0 < mR F (yearsH F x ss n) ss
          · have e1 := r1 hq
            exact absurd (e2.symm.trans e1) ne
          · omega
        · omega
      · by_cases hp : 0 < mR F (yearsH F x ss n) ss
        · have e1 := r1 hp
          by_cases hq : 0 < mH F (yearsH F x ss n) ss
          · have e2 := r2 hq
            exact absurd (e2.symm.trans e1) ne
          · omega
        · omega
    have tot : (0 ≤ (yearsL needs heats ss n).room ∧ 0 ≤ (yearsL needs heats ss n).heat) ∧ (0 ≤ addS ss → (yearsL needs heats ss n).heat = 0) ∧ (addS ss < 0 → (yearsL needs heats ss n).room = 0) ∧ yearsH F x ss n = x + n * addS ss - (yearsL needs heats ss n).room + (yearsL needs heats ss n).heat := by
      clear hl hm
      induction n with
      | zero => exact ⟨⟨Int.le_refl 0, Int.le_refl 0⟩, fun _ => rfl, fun _ => rfl, by show x = x + ((0 : Nat) : Int) * addS ss - 0 + 0; simp⟩
      | succ n ih =>
        obtain ⟨⟨i0, i00⟩, i1, i2, i3⟩ := ih
        have o := one n
        have b := bal n
        have st := step n
        have n1 := mR_nonneg F ss (yearsH F x ss n)
        have n2 := mH_nonneg F ss (yearsH F x ss n)
        rw [st.1, st.2, b, show ((n + 1 : Nat) : Int) = (n : Int) + 1 by omega, Int.add_mul, Int.one_mul]
        refine ⟨⟨by omega, by omega⟩, fun hd => by have := i1 hd; have := o.1 hd; omega, fun hd => by have := i2 hd; have := o.2 hd; omega, by rw [i3]; omega⟩
    obtain ⟨⟨t0, t00⟩, t1, t2, t3⟩ := tot
    rw [t3]
    by_cases hd : 0 ≤ addS ss
    · have := t1 hd
      constructor <;> omega
    · have := t2 (by omega)
      constructor <;> omega
end Tf
namespace Tf
open PySem L2
def untilL (needs heats : List Int) (ss : List (Bool × Int)) (n so : Nat) : Sums := (ss.take so).foldl (stepS needs) (yearsL needs heats ss n)
theorem fold_split {needs : List Int} {s : Sums} {ss : List (Bool × Int)} (hz : ∀ z ∈ ss, 0 ≤ z.2) (h : HeatsOk needs s.heats) : ss.foldl (stepS needs) s = ⟨(passL needs s.heats ss).heats, s.room + (passL needs s.heats ss).room, s.heat + (passL needs s.heats ss).heat⟩ := by
  have a := fold_heats (needs := needs) ss s ⟨s.heats, 0, 0⟩ rfl
  obtain ⟨b, c⟩ := fold_room ss s hz h
  obtain ⟨b', c'⟩ := fold_room ss ⟨s.heats, 0, 0⟩ hz h
  have b' : (passL needs s.heats ss).room = mR (down needs 0) (down s.heats 0) ss := b'.trans (Int.zero_add _)
  have c' : (passL needs s.heats ss).heat = mH (down needs 0) (down s.heats 0) ss := c'.trans (Int.zero_add _)
  rw [b', c', ← b, ← c]
  show _ = (⟨(List.foldl (stepS needs) ⟨s.heats, 0, 0⟩ ss).heats, _, _⟩ : Sums)
  rw [← a]
end Tf

namespace Tf
open PySem L2
/-! ### rest at one depth -/
end Tf

namespace Tf
open PySem L2
/-! ### a season bed by bed -/
def heldG (z : Bool × Int) (h u : Int) : Int := if z.1 = true then h + u else h - u
def limG (needs heats : List Int) (z : Bool × Int) : List Int := if z.1 = true then rooms needs heats else heats
theorem leftAt_le {rs : List Int} {a : Int} (h0 : ∀ i, i < rs.length → 0 ≤ rs.getD i 0) {k : Nat} (hk : k ≤ rs.length) : ∀ i, i ≤ k → leftAt rs a i ≤ leftAt rs a k := by
  refine down_ind k (Int.le_refl _) fun i hi ih => ?_
  have := leftAt_step (a := a) (show i < rs.length by omega) (h0 i (by omega))
  have := (share_bounds (a := a) (h0 i (by omega))).1
  omega
theorem leftAt_lo (rs : List Int) (a : Int) (i : Nat) : 0 ≤ leftAt rs a i := by unfold leftAt; omega
def goL (needs heats : List Int) (z : Bool × Int) (k : Nat) : List Int := (List.range needs.length).map fun i => heldG z (heats.getD i 0) (if k ≤ i then shareAt (limG needs heats z) z.2 i else 0)
theorem goL_len (needs heats : List Int) (z : Bool × Int) (k : Nat) : (goL needs heats z k).length = needs.length := by unfold goL; simp
theorem goL_at {needs heats : List Int} {z : Bool × Int} {k i : Nat} (hi : i < needs.length) : (goL needs heats z k).getD i 0 = heldG z (heats.getD i 0) (if k ≤ i then shareAt (limG needs heats z) z.2 i else 0) := getD_rangeMap hi
theorem limG_len {needs heats : List Int} (hl : heats.length = needs.length) (z : Bool × Int) : (limG needs heats z).length = needs.length := by unfold limG; split; exact rooms_len hl; exact hl
theorem limG_lo {needs heats : List Int} (hO : HeatsOk needs heats) (z : Bool × Int) : ∀ i, i < (limG needs heats z).length → 0 ≤ (limG needs heats z).getD i 0 := by
  intro i hi
  rw [limG_len hO.len] at hi
  unfold limG
  split
  · exact hO.rooms0 i (by rw [rooms_len hO.len]; exact hi)
  · exact hO.lo i hi
theorem goL_start {needs heats : List Int} (hl : heats.length = needs.length) (z : Bool × Int) : goL needs heats z needs.length = heats := by
  refine list_ext_getD (by rw [goL_len, hl]) fun i hi => ?_
  rw [goL_len] at hi
  rw [goL_at hi, if_neg (by omega)]
  unfold heldG
  split <;> omega
theorem goL_set {needs heats : List Int} {z : Bool × Int} {j : Nat} (hj : j < needs.length) : (goL needs heats z (j + 1)).set j (heldG z (heats.getD j 0) (shareAt (limG needs heats z) z.2 j)) = goL needs heats z j := by
  unfold goL
  refine List.ext_getElem (by simp) fun i h1 h2 => ?_
  simp only [List.length_map, List.length_range] at h2
  rw [List.getElem_set]
  simp only [List.getElem_map, List.getElem_range]
  by_cases e : j = i
  · rw [if_pos e, if_pos (by omega), e]
  · rw [if_neg e]
    by_cases hi : j ≤ i
    · rw [if_pos hi, if_pos (by omega)]
    · rw [if_neg hi, if_neg (by omega)]
theorem goL_fin {needs heats : List Int} (hO : HeatsOk needs heats) (z : Bool × Int) {k : Nat} (hk : k ≤ needs.length) (hs : leftAt (limG needs heats z) z.2 k ≤ 0 ∨ k = 0) : leftAt (limG needs heats z) z.2 k = seasLeft needs heats z ∧ goL needs heats z k = seasL needs heats z := by
  have hrl := limG_len hO.len z
  have hr0 := limG_lo hO z
  have e0 : leftAt (limG needs heats z) z.2 0 = seasLeft needs heats z := by unfold limG seasLeft; split <;> rfl
  have z0 := leftAt_lo (limG needs heats z) z.2
  have le := fun i (hi : i ≤ k) => leftAt_le (a := z.2) hr0 (by omega) i hi
  refine ⟨?_, ?_⟩
  · rw [← e0]
    rcases hs with hs | rfl
    · have a := le 0 (Nat.zero_le _)
      have b := z0 0
      have c := z0 k
      omega
    · rfl
  · refine list_ext_getD (by rw [goL_len, (hO.seas z).len]) fun i hi => ?_
    rw [goL_len] at hi
    have es : (if k ≤ i then shareAt (limG needs heats z) z.2 i else 0) = shareAt (limG needs heats z) z.2 i := by
      by_cases h : k ≤ i
      · rw [if_pos h]
      · rw [if_neg h]
        rcases hs with hs | rfl
        · have a := le (i + 1) (by omega)
          have b := z0 (i + 1)
          have c := hr0 i (by omega)
          unfold shareAt
          omega
        · omega
    rw [goL_at hi, es]
    unfold heldG limG seasL
    by_cases hb : z.1 = true
    · rw [if_pos hb, if_pos hb, if_pos hb, warmL_at hO.len hi]
    · rw [if_neg hb, if_neg hb, if_neg hb, coldL_at (by rw [hO.len]; exact hi)]
theorem years_same {needs heats : List Int} {ss : List (Bool × Int)} (h : HeatsOk needs heats) (hz : ∀ z ∈ ss, 0 ≤ z.2) {j : Nat} (e : (yearsL needs heats ss (j + 1)).heats = (yearsL needs heats ss j).heats) : ∀ k : Nat, (yearsL needs heats ss (j + k)).heats = (yearsL needs heats ss j).heats ∧
    (yearsL needs heats ss (j + k)).room = (yearsL needs heats ss j).room + k * ((yearsL needs heats ss (j + 1)).room - (yearsL needs heats ss j).room) ∧ (yearsL needs heats ss (j + k)).heat = (yearsL needs heats ss j).heat + k * ((yearsL needs heats ss (j + 1)).heat - (yearsL needs heats ss j).heat)
  | 0 => ⟨rfl, by show _ = _ + ((0 : Nat) : Int) * _; simp, by show _ = _ + ((0 : Nat) : Int) * _; simp⟩
  | k + 1 => by
    obtain ⟨a, b, c⟩ := years_same h hz e k
    have f := fold_room ss (yearsL needs heats ss (j + k)) hz (yearsL_ok h ss _)
    have g := fold_room ss (yearsL needs heats ss j) hz (yearsL_ok h ss _)
    have f1 : (yearsL needs heats ss (j + (k + 1))).room = _ := f.1
    have f2 : (yearsL needs heats ss (j + (k + 1))).heat = _ := f.2
    have g1 : (yearsL needs heats ss (j + 1)).room = _ := g.1
    have g2 : (yearsL needs heats ss (j + 1)).heat = _ := g.2
    rw [a] at f1 f2
    refine ⟨(fold_heats ss _ _ a).trans e, ?_, ?_⟩
    · rw [f1, b, g1, show ((k + 1 : Nat) : Int) = (k : Int) + 1 by omega, Int.add_mul (k : Int) 1, Int.one_mul]
      generalize mR (down needs 0) (down (yearsL needs heats ss j).heats 0) ss = m
      rw [show (yearsL needs heats ss j).room + m - (yearsL needs heats ss j).room = m by omega]
      omega
    · rw [f2, c, g2, show ((k + 1 : Nat) : Int) = (k : Int) + 1 by omega, Int.add_mul (k : Int) 1, Int.one_mul]
      generalize mH (down needs 0) (down (yearsL needs heats ss j).heats 0) ss = m
      rw [show (yearsL needs heats ss j).heat + m - (yearsL needs heats ss j).heat = m by omega]
      omega
end Tf
namespace Tf
open PySem L2
def Keep (b : Addr) (H H' : Hp) : Prop := ∀ x o, x ≠ b → H x = some o → H' x = some o
theorem Keep.refl (b : Addr) (H : Hp) : Keep b H H := fun _ _ _ h => h
theorem _root_.L2.Same.keep {H H' : Hp} (s : Same H H') (b : Addr) : Keep b H H' := fun x o _ h => s x o h
theorem Keep.trans {b : Addr} {H H' H2 : Hp} (k : Keep b H H') (k' : Keep b H' H2) : Keep b H H2 := fun x o n h => k' x o n (k x o n h)
theorem Keep.upd {b : Addr} {H : Hp} {o : HO} : Keep b H (L2.upd H b o) := fun x u n h => by rw [upd_ne n]; exact h
theorem Keep.seq {K : PySem.W.Frag} {b a : Addr} {H H' : Hp} {xs : List V} (k : Keep b H H') (h : SqL K H a xs) (n : a ≠ b) : SqL K H' a xs := by
  rcases h with (h | ⟨o, h⟩) | h
  · exact .inl (.inl (k _ _ n h))
  · exact .inl (.inr ⟨o, k _ _ n h⟩)
  · exact .inr h
theorem Keep.seas {b : Addr} {H H' : Hp} {ts : List Addr} {ss : List (Bool × Int)} {xs : List V} (k : Keep b H H') (S : SeasAt H ts ss) (hb : H b = some (.lst xs)) : SeasAt H' ts ss :=
  ⟨S.len, fun i z e => let ⟨t, e1, e2⟩ := S.at' i z e; ⟨t, e1, k _ _ (ne_of e2 hb (by intro z; cases z)) e2⟩⟩
end Tf

namespace Tf
open PySem L2
/-! ### the first thawed season of a bed -/
end Tf

namespace Tf
open PySem L2
/-! ### a year of a warm and a cold season, from frozen ground -/
end Tf

namespace Tf
open PySem L2
/-! ### what slow years lose, from frozen ground -/
end Tf











namespace L2
open PySem PySem.Spec PyProof.Rows

section
variable {κ : Type} [DecidableEq κ]
def valV (kvs : List (κ × V)) (k : κ) : Option V := (kvs.find? fun kv => decide (kv.1 = k)).map (·.2)
def putK (kvs : List (κ × V)) (k : κ) (v : V) : List (κ × V) :=
  if (kvs.any fun kv => decide (kv.1 = k)) = true then kvs.map (fun kv => if kv.1 = k then (kv.1, v) else kv) else kvs ++ [(k, v)]
theorem valV_nil {k : κ} : valV ([] : List (κ × V)) k = none := rfl
theorem valV_pos {p : κ × V} {r : List (κ × V)} {k : κ} (e : p.1 = k) : valV (p :: r) k = some p.2 := by simp [valV, List.find?_cons, e]
theorem valV_neg {p : κ × V} {r : List (κ × V)} {k : κ} (e : ¬ p.1 = k) : valV (p :: r) k = valV r k := by simp [valV, List.find?_cons, e]
theorem valV_any (k : κ) : ∀ kvs : List (κ × V), (kvs.any fun kv => decide (kv.1 = k)) = (valV kvs k).isSome
  | [] => rfl
  | p :: r => by
    rw [List.any_cons]
    by_cases e : p.1 = k
    · simp only [valV_pos e, decide_eq_true e, Bool.true_or, Option.isSome_some]
    · rw [valV_neg e, decide_eq_false e, Bool.false_or]; exact valV_any k r
theorem length_putK (kvs : List (κ × V)) (k : κ) (v : V) : (putK kvs k v).length ≤ kvs.length + 1 := by
  unfold putK
  split
  · rw [List.length_map]; omega
  · rw [List.length_append, List.length_cons, List.length_nil]; omega
theorem putK_new {kvs : List (κ × V)} {k : κ} (v : V) (h : valV kvs k = none) : putK kvs k v = kvs ++ [(k, v)] := by
  unfold putK
  rw [valV_any, h]
  exact if_neg (by decide)

theorem KV.val {kvs : List (κ × V)} {vs : List (κ × Value)} (r : KV kvs vs) (k : κ) : RelO (valV kvs k) (valueAt vs k) := by
  unfold KV at r
  induction r with
  | nil => exact True.intro
  | @cons p q ps qs h t ih =>
    obtain ⟨h1, h2⟩ := h
    by_cases e : p.1 = k
    · have e' : q.1 = k := h1.symm.trans e
      have b : valueAt (q :: qs) k = some q.2 := by simp [valueAt, List.find?_cons, e']
      rw [valV_pos e, b]; exact h2
    · have e' : ¬ q.1 = k := fun z => e (h1.trans z)
      have b : valueAt (q :: qs) k = valueAt qs k := by simp [valueAt, List.find?_cons, e']
      rw [valV_neg e, b]; exact ih
theorem KV.any {kvs : List (κ × V)} {vs : List (κ × Value)} (r : KV kvs vs) (k : κ) : (kvs.any fun kv => decide (kv.1 = k)) = vs.any fun kv => decide (kv.1 = k) := by
  unfold KV at r
  induction r with
  | nil => rfl
  | cons h t ih => rw [List.any_cons, List.any_cons, ih, h.1]
theorem KV.repl {kvs : List (κ × V)} {vs : List (κ × Value)} (r : KV kvs vs) (k : κ) {y : V} {u : Value} (ry : RelV y u) :
    KV (kvs.map fun kv => if kv.1 = k then (kv.1, y) else kv) (vs.map fun kv => if kv.1 = k then (kv.1, u) else kv) := by
  unfold KV at r ⊢
  induction r with
  | nil => exact .nil
  | @cons p q ps qs h t ih =>
    rw [List.map_cons, List.map_cons]
    refine .cons ?_ ih
    obtain ⟨h1, h2⟩ := h
    by_cases e : p.1 = k
    · rw [if_pos e, if_pos (h1.symm.trans e)]; exact ⟨h1, ry⟩
    · rw [if_neg e, if_neg (fun z => e (h1.trans z))]; exact ⟨h1, h2⟩
theorem KV.put {kvs : List (κ × V)} {vs : List (κ × Value)} (r : KV kvs vs) (k : κ) {y : V} {u : Value} (ry : RelV y u) : KV (putK kvs k y) (stored vs k u) := by
  unfold putK stored
  rw [r.any k]
  by_cases e : (vs.any fun kv => decide (kv.1 = k)) = true
  · rw [if_pos e, if_pos e]; exact r.repl k ry
  · rw [if_neg e, if_neg e]; exact Paired.snoc r ⟨rfl, ry⟩
end


theorem kV_is {P : Program} {w : World} {k : Key} {u : Value} (r : RelV (kV k) u) : (mixKind P w).is k u = true := by
  cases k with
  | inl i => obtain ⟨t, e⟩ := (show ∃ t, u = Value.int i t from r); subst e; exact mixKind_int P w i t
  | inr x => obtain ⟨t, e⟩ := (show ∃ t, u = Value.str x t from r); subst e; exact mixKind_str P w x t
theorem items_are {P : Program} {w : World} : ∀ {ks : List Key} {us : List Value}, Vals (ks.map kV) us → ItemsAre (mixKind P w) ks us
  | [], _, r => by rw [List.map_nil] at r; cases r; exact .nil
  | k :: ks, _, r => by
    rw [List.map_cons] at r
    cases r with
    | cons h t => exact .cons (kV_is h) (items_are t)

abbrev KT (H : Hp) : List (List Key × V) → List (List Key × Addr × Value) → Prop := Paired fun p q => p.1 = q.1 ∧ H q.2.1 = some (.tup (p.1.map kV)) ∧ RelV p.2 q.2.2
theorem KT.val {H : Hp} {kvs : List (List Key × V)} {xs : List (List Key × Addr × Value)} (r : KT H kvs xs) (k : List Key) : RelO (valV kvs k) ((atKey xs k).map (·.2)) := by
  induction r with
  | nil => exact True.intro
  | @cons p q ps qs h t ih =>
    obtain ⟨h1, _, h2⟩ := h
    by_cases e : p.1 = k
    · have e' : q.1 = k := h1.symm.trans e
      have b : atKey (q :: qs) k = some q.2 := by simp [atKey, List.find?_cons, e']
      rw [valV_pos e, b]; exact h2
    · have e' : ¬ q.1 = k := fun z => e (h1.trans z)
      have b : atKey (q :: qs) k = atKey qs k := by simp [atKey, List.find?_cons, e']
      rw [valV_neg e, b]; exact ih
section
variable {P : Program} {w : World} {H : Hp} {h : Heap} {a : Addr}
theorem rd_of {u : HO} (ok : HOk P w H h) (e : Rd H a u) : ObjOk P w H h a u := e.ok ok
theorem dk_rd {kvs : List (Key × V)} (ok : HOk P w H h) (e : Rd H a (.dK kvs)) : kvs.length ≤ sizeLine ∧ (a == sysModules) = false ∧ ∃ vs, KV kvs vs ∧ h.DictOf (mixKind P w) a vs :=
  show ObjOk P w H h a (.dK kvs) from rd_of ok e
theorem dk_of {kvs : List (Key × V)} (ok : HOk P w H h) (e : H a = some (.dK kvs)) : kvs.length ≤ sizeLine ∧ (a == sysModules) = false ∧ ∃ vs, KV kvs vs ∧ h.DictOf (mixKind P w) a vs := dk_rd ok (.inl e)
theorem key_of {ks : List Key} (ok : HOk P w H h) (e : H a = some (.tup (ks.map kV))) : (tupleKind (mixKind P w)).is h ks a := by
  obtain ⟨_, its, r, o, h1, h2, n, h3⟩ := (show ObjOk P w H h a (.tup (ks.map kV)) from ok a _ e)
  exact ⟨o, its.toArray, n, h1, h2, h3, by simpa using items_are r⟩
theorem dt_rd {kvs : List (List Key × V)} (ok : HOk P w H h) (e : Rd H a (.dT kvs)) : kvs.length ≤ sizeLine ∧ (a == sysModules) = false ∧
    ∃ xs, KT H kvs xs ∧ h.DictOfH (tupleKind (mixKind P w)) a xs := by
  obtain ⟨z, y, xs, r, o, es, ep, h1, h2, h3, h4, h5⟩ := (show ObjOk P w H h a (.dT kvs) from rd_of ok e)
  refine ⟨z, y, xs, r, o, es, ep, h1, h2, h3, h4, fun x hx => ?_, h5⟩
  have all : ∀ {l : List (List Key × V)} {m : List (List Key × Addr × Value)}, KT H l m → ∀ x ∈ m, (tupleKind (mixKind P w)).is h x.1 x.2.1 := by
    intro l m q
    induction q with
    | nil => intro x hx; exact nomatch hx
    | @cons p q ps qs hq t ih =>
      intro x hx
      rcases List.mem_cons.mp hx with e | hx
      · subst e
        exact key_of ok (by rw [← hq.1]; exact hq.2.1)
      · exact ih x hx
  exact all r x hx
end

def DGet (H : Hp) (a : Addr) (y : V) (r : Option V) : Prop :=
  (∃ kvs k, Rd H a (.dK kvs) ∧ y = kV k ∧ r = valV kvs k) ∨ ∃ kvs k b, Rd H a (.dT kvs) ∧ y = .ref b ∧ H b = some (.tup (k.map kV)) ∧ r = valV kvs k
theorem DGet.k {H : Hp} {a : Addr} {kvs : List (Key × V)} {k : Key} (e : H a = some (.dK kvs)) : DGet H a (kV k) (valV kvs k) := .inl ⟨kvs, k, .inl e, rfl, rfl⟩
section
variable {X : Cx} {pins : List (Addr × Obj)} {σ : St} {H : Hp} {s : Shared} {a : Addr} {y v : V} {u r : Value} {o : Option V} {A : Around} {E : Value → Shared → Prop}

theorem Inv.big (I : Inv X pins σ H s) : sysModules < s.heap.objs.size := by
  have h : mainGlobals < s.heap.objs.size := (I.mod.glob.keeps I.bk).lt
  exact Nat.lt_trans (by decide) h

theorem d_getItem {Q : Value → Shared → Prop} (hu : A.units + 1 < cLine) (I : Inv X pins σ H s) (g : DGet H a y (some v)) (ry : RelV y u) (h : ∀ w' s', Inv X pins σ H s' → RelV v w' → Q w' s') :
    wpAny (model X.prog X.w) A (getItem (.ref a) u) Q E s := by
  rcases g with ⟨kvs, k, e, ey, l⟩ | ⟨kvs, k, b, e, ey, eb, l⟩
  · subst ey
    obtain ⟨z, hd, vs, rel, dd⟩ := dk_rd I.hok e
    obtain ⟨w', hw, rw'⟩ := RelO.some_of (v := v) (o := valueAt vs k) (by rw [l]; exact rel.val k)
    exact wpAny_getItem_of (kV_is ry) dd.mapOf hw (h w' _ (I.tok _) rw')
  · subst ey
    cases (show u = Value.ref b from ry)
    obtain ⟨z, hd, xs, rel, dd⟩ := dt_rd I.hok e
    obtain ⟨w', hw, rw'⟩ := RelO.some_of (v := v) (o := (atKey xs k).map (·.2)) (by rw [l]; exact rel.val k)
    obtain ⟨p, hp, hp2⟩ := Option.map_eq_some_iff.mp hw
    refine wpAny_getItem_heap (tupleKind_room_in1 hu) (key_of I.hok eb) dd hp ?_
    rw [hp2]
    exact h w' _ (I.tok _) rw'
theorem d_write {h' : Heap} {t' : Nat} {ob : HO} (I : Inv X pins σ H s) (mu : Mut (H a)) (hs : Heap.SameBut a s.heap h') (he : ∃ q, h'.get? a = some q) (new : ObjOk X.prog X.w (upd H a ob) h' a ob) :
    Inv X pins σ (upd H a ob) { s with heap := h', toks := t' } :=
  I.write (x := a) (e := a) mu (.inl rfl) (fun b q hb z => (hs.2 b hb).trans z) he new
theorem dk_new {P : Program} {w : World} {H' : Hp} {h' : Heap} {kvs : List (Key × V)} {vs : List (Key × Value)} (z : kvs.length ≤ sizeLine) (hd : (a == sysModules) = false) (rel : KV kvs vs) (dd : h'.DictOf (mixKind P w) a vs) :
    ObjOk P w H' h' a (.dK kvs) := ⟨z, hd, vs, rel, dd⟩
end



def NoSl (i : Expr) : Prop := ∀ ov iv, subscripted i false ov iv = operate [ov, iv] (getItem ov iv)
theorem subD_of {prog : Program} {w : World} {A : Around} {E : Value → Shared → Prop} {s : Shared} {env : Env} {value slice : Expr} {pos : Pos} {T id : String} {Q : Value → Shared → Prop}
    (hl : typeLookup (.type T) "__getitem__" = pure (some (.builtin id))) (hs : NoSl slice)
    (h : wpAny (model prog w) A (eval value env) (fun o s₁ => wpAny (model prog w) A (eval slice env) (fun i s₂ => s₂.TypeIs o T ∧ wpAny (model prog w) A (getItem o i) Q E s₂) E s₁) E s) :
    wpAny (model prog w) A (eval (.Subscript value slice pos) env) Q E s := by
  refine Subscript_ (wpAny_mono h (fun o s₁ h₁ => wpAny_mono h₁ (fun i s₂ h₂ => ?_) fun _ _ x => x) fun _ _ x => x)
  obtain ⟨hT, h₂⟩ := h₂
  unfold subscriptTail
  refine wpAny_bind ?_
  rw [getitemInPython_of_ne hT.not_modules]
  refine wpAny_bind (wpAny_specialOf hT hl ?_)
  have fin : wpAny (model prog w) A (subscripted slice false o i) (fun r s₃ => wpAny (model prog w) A (letTemporaryGo value o r >>= fun _ => pure r) Q E s₃) E s₂ := by
    rw [hs o i]
    exact wpAny_operating (wpAny_mono h₂ (fun r s₃ h₃ => wpAny_bind (wpAny_letTemporaryGo (wpAny_pure h₃))) fun _ _ x => x)
  first
    | exact wpAny_pure (wpAny_bind fin)
    | exact wpAny_bind (wpAny_pure (wpAny_bind fin))
    | exact wpAny_bind fin

theorem dict_typeIs {X : Cx} {pins : List (Addr × Obj)} {σ : St} {H : Hp} {s : Shared} {a : Addr} {y : V} {o : Option V} (I : Inv X pins σ H s) (g : DGet H a y o) : s.TypeIs (.ref a) "dict" := by
  rcases g with ⟨kvs, k, e, _, _⟩ | ⟨kvs, k, b, e, _, _, _⟩
  · obtain ⟨_, _, vs, _, dd⟩ := dk_rd I.hok e
    exact dd.typeIs
  · obtain ⟨_, _, xs, _, dd⟩ := dt_rd I.hok e
    exact dd.typeIs
def tDGet (td ty : TE) : TE := fun σ H Q => td σ H fun x H1 => ty σ H1 fun y H2 => ∃ a v, x = .ref a ∧ DGet H2 a y (some v) ∧ Q v H2
section
variable {X : Cx} {o i e value : Expr} {pos pos' tpos : Pos} {td ty tv : TE}
theorem pe_dget (hu : X.A.units + 1 < cLine) (ho : PE X o td) (hi : PE X i ty) (hs : NoSl i) : PE X (.Subscript o i pos) (tDGet td ty) := by
  intro pins s σ H Q I h
  refine subD_of PySem.F.slot_dict_getitem.lookup hs (thn (ho pins s σ H _ I h) fun u s1 ⟨x, H1, I1, rx, q1⟩ => thn (hi pins s1 σ H1 _ I1 q1) fun iv s2 ⟨y, H2, I2, ry, a, v, ex, g, q2⟩ => ?_)
  subst ex
  obtain rfl : u = Value.ref a := rx
  exact ⟨dict_typeIs I2 g, d_getItem hu I2 g ry fun w' s3 I3 rw' => ⟨v, H2, I3, rw', q2⟩⟩
end


theorem dk_empty {P : Program} {w : World} {H : Hp} (h : Heap) (hb : sysModules < h.objs.size) : ObjOk P w H (h.push { cls := .type "dict", data := .dict #[] }) h.objs.size (.dK []) :=
  ⟨Nat.zero_le _, beq_eq_false_iff_ne.mpr (Ne.symm (Nat.ne_of_lt hb)), [], .nil, Heap.DictOf.new h⟩

def tPairs : List (TE × TE) → St → Hp → (List (V × V) → Hp → Prop) → Prop
  | [], _, H, Q => Q [] H
  | (tk, tv) :: r, σ, H, Q => tk σ H fun x H1 => tv σ H1 fun y H2 => tPairs r σ H2 fun ps H3 => Q ((x, y) :: ps) H3
abbrev VV : List (V × V) → List (Value × Value) → Prop := Paired fun p q => RelV p.1 q.1 ∧ RelV p.2 q.2
def PPs (X : Cx) (pos : Pos) (keys : List (Option Expr)) (values : List Expr) (trs : List (TE × TE)) : Prop :=
  ∀ (pins : List (Addr × Obj)) (s : Shared) (σ : St) (H : Hp) (Q : List (V × V) → Hp → Prop), Inv X pins σ H s → tPairs trs σ H Q →
    wpAny (model X.prog X.w) X.A (evalPairs (pairTrees keys values X.env pos)) (fun vs s' => ∃ ps H', Inv X pins σ H' s' ∧ VV ps vs ∧ Q ps H') X.xe s
theorem pps_nil {X : Cx} {pos : Pos} : PPs X pos [] [] [] := fun pins s σ H Q I h => pairTrees_nil_walk ⟨[], H, I, .nil, h⟩
theorem pps_cons {X : Cx} {pos : Pos} {k v : Expr} {ks : List (Option Expr)} {vs : List Expr} {tk tv : TE} {trs : List (TE × TE)} (hk : PE X k tk) (hv : PE X v tv) (hr : PPs X pos ks vs trs) :
    PPs X pos (some k :: ks) (v :: vs) ((tk, tv) :: trs) := fun pins s σ H Q I h =>
  pairTrees_cons_walk (thn (hk pins s σ H _ I h) fun u s1 ⟨x, H1, I1, rx, q1⟩ => thn (hv pins s1 σ H1 _ I1 q1) fun w2 s2 ⟨y, H2, I2, ry, q2⟩ =>
    thn (hr pins s2 σ H2 _ I2 q2) fun ws s3 ⟨ps, H3, I3, rel, q3⟩ => ⟨(x, y) :: ps, H3, I3, .cons ⟨rx, ry⟩ rel, q3⟩)

def mergeK (kvs more : List (Key × V)) : List (Key × V) := more.foldl (fun acc kv => putK acc kv.1 kv.2) kvs
theorem KV.merge : ∀ {more : List (Key × V)} {rs : List (Key × Value)} {kvs : List (Key × V)} {vs : List (Key × Value)}, KV more rs → KV kvs vs → KV (mergeK kvs more) (merged vs rs) := by
  intro more rs kvs vs r
  unfold KV at r
  induction r generalizing kvs vs with
  | nil => intro q; exact q
  | @cons p q ps qs h t ih =>
    intro r0
    have e : KV (putK kvs p.1 p.2) (stored vs q.1 q.2) := by
      have := r0.put p.1 h.2
      rw [← h.1]; exact this
    exact ih e
theorem length_mergeK : ∀ (more kvs : List (Key × V)), (mergeK kvs more).length ≤ kvs.length + more.length
  | [], kvs => by show kvs.length ≤ kvs.length + 0; omega
  | p :: r, kvs => by
    have h1 := length_mergeK r (putK kvs p.1 p.2)
    have h2 := length_putK kvs p.1 p.2
    show (mergeK (putK kvs p.1 p.2) r).length ≤ _
    rw [List.length_cons]; omega
theorem carries_of {P : Program} {w : World} : ∀ {kvs : List (Key × V)} {ws : List (Value × Value)}, VV (kvs.map fun kv => (kV kv.1, kv.2)) ws → ∃ rs, Carries (mixKind P w) ws rs ∧ KV kvs rs
  | [], _, r => by rw [List.map_nil] at r; cases r; exact ⟨[], True.intro, .nil⟩
  | p :: kvs, _, r => by
    rw [List.map_cons] at r
    cases r with
    | @cons a b as bs h t =>
      obtain ⟨rs, c, q⟩ := carries_of (P := P) (w := w) t
      obtain ⟨b1, b2⟩ := b
      exact ⟨(p.1, b2) :: rs, ⟨kV_is h.1, rfl, c⟩, .cons ⟨rfl, h.2⟩ q⟩
def tDisp (trs : List (TE × TE)) : TE := fun σ H Q => ∀ p, H p = none → tPairs trs σ (upd H p (.dK [])) fun ps H2 => H2 p = some (.dK []) ∧ ∃ kvs : List (Key × V), ps = kvs.map (fun kv => (kV kv.1, kv.2)) ∧ kvs.length ≤ 15 ∧ Q (.ref p) (upd H2 p (.dK (mergeK [] kvs)))
theorem pe_disp {X : Cx} {pos : Pos} {keys : List (Option Expr)} {values : List Expr} {trs : List (TE × TE)} (h : PPs X pos keys values trs) (hall : keys.all (·.isSome) = true) (hl : keys.length = values.length) (h0 : keys ≠ [])
    (h15 : keys.length ≤ 15) : PE X (.Dict keys values pos) (tDisp trs) := by
  intro pins s σ H Q I q
  have hn := I.hok.fresh (Nat.le_refl s.heap.objs.size)
  have I1 := I.laid (a := s.heap.objs.size) (o := .dK []) (h' := s.heap.push { cls := .type "dict", data := .dict #[] }) (t' := s.toks) (fun _ _ q => Heap.get?_push_of_some _ q) (Nat.le_refl _) (dk_empty s.heap I.big)
  refine wpAny_Dict_walk (knd := mixKind X.prog X.w) hall hl h0 h15 (thn (h pins _ σ _ _ I1 (q _ hn)) fun ws s2 ⟨ps, H2, I2, rel, e, kvs, ep, lk, q2⟩ => ?_)
  subst ep
  obtain ⟨rs, c, rk⟩ := carries_of (P := X.prog) (w := X.w) rel
  obtain ⟨z, hd, vs0, r0, dd⟩ := dk_of I2.hok e
  cases r0
  refine ⟨rs, c, dd, fun h' dd' hs => ⟨.ref s.heap.objs.size, _, ?_, rfl, q2⟩⟩
  have hz : (mergeK [] kvs).length ≤ sizeLine := by
    have h1 := length_mergeK kvs []
    rw [List.length_nil] at h1
    rw [sizeLine_eq]; omega
  have he : ∃ q, h'.get? s.heap.objs.size = some q := let ⟨q, _, _, hq, _⟩ := dd'; ⟨q, hq⟩
  exact d_write I2 (by rw [e]; exact True.intro) hs he (dk_new hz hd (rk.merge .nil) dd')






end L2






/-! GROUND: an object of the program's class, its stages, its methods. -/
namespace L2
open PySem PySem.Spec PyProof.Rows
structure OkM (P : Program) (w : World) (K : PySem.W.Frag) (mg : Str → Option Value) (base : Heap) (C : Addr) (m : Str) (ps : List Str) (k : Nat) (sp : Sp) : Prop where
  ex : ∃ f fd, FnOk P w K mg base CX0 k f fd ps sp ∧ Binds K fd ps [] ∧ Meth K C m f
section
variable {X : Cx} {k j : Nat} {ps : List Str} {sp : Sp} {C : Addr} {m x : Str} {p pos apos : Pos} {o e : Expr} {es : List Expr} {ta : TE} {t : TA}
theorem pe_methO {pl : Sem Bool} (O : OkM X.prog X.w X.K X.mg X.base C m ps k sp) (c : Cls X.K C) (hr : Room j X.A) (he : PE X o ta) (ha : PA X (e :: es) t) (hj : k ≤ j := by decide) (hst : starEach (e :: es) X.env = (false, eval e X.env) :: starEach es X.env := by rfl) (hpl : (backTo pos (starEach es X.env)).any (·.1) = false := by rfl)
    (ht : eval (.Call (.Attribute o m apos) (e :: es) [] pos) X.env = (do
      let ov ← eval o X.env
      standAt apos.atName
      let (f, first) ← holding [ov] (getMethod ov m pl)
      callWith pos f first (backTo pos (starEach (e :: es) X.env)) (backToKw pos (keywordEach [] X.env))) := by rfl) : PE X (.Call (.Attribute o m apos) (e :: es) [] pos) (tMeth C m sp [] E0 ta t) := by
  obtain ⟨f, fd, F, b, M⟩ := O.ex
  exact pe_meth he c M F (hr.mono hj) b .nil pass0 ha hst hpl ht
theorem pe_meth0O {pl : Sem Bool} (O : OkM X.prog X.w X.K X.mg X.base C m ps k sp) (c : Cls X.K C) (hr : Room j X.A) (he : PE X o ta) (hj : k ≤ j := by decide)
    (ht : eval (.Call (.Attribute o m apos) [] [] pos) X.env = (do
      let ov ← eval o X.env
      standAt apos.atName
      let (f, first) ← holding [ov] (getMethod ov m pl)
      callWith pos f first (backTo pos (starEach [] X.env)) (backToKw pos (keywordEach [] X.env))) := by rfl) : PE X (.Call (.Attribute o m apos) [] [] pos) (tMeth C m sp [] E0 ta tNil) := by
  obtain ⟨f, fd, F, b, M⟩ := O.ex
  exact pe_meth0 he c M F (hr.mono hj) b .nil pass0 ht
structure OkI (P : Program) (w : World) (K : PySem.W.Frag) (mg : Str → Option Value) (base : Heap) (C : Addr) (ps : List Str) (k : Nat) (sp : Sp) (ds : List Value) : Prop where
  ex : ∃ f fd, FnOk P w K mg base CX0 k f fd ps sp ∧ Binds K fd ps ds ∧ Mk K C f
theorem pe_makeO {dvs : List V} {ds : List Value} (O : OkI X.prog X.w X.K X.mg X.base C ps k sp ds) (hd : Vals dvs ds) (hr : Room j X.A) (hm : X.mg x = some (.ref C)) (ha : PA X (e :: es) t) (hg : Gl X x := by rfl) (hj : k + 1 ≤ j := by decide) (hdb : (x == ("__debug__" : Str)) = false := by decide)
    (he : starEach (e :: es) X.env = (false, eval e X.env) :: starEach es X.env := by rfl) (hpl : (backTo pos (starEach es X.env)).any (·.1) = false := by rfl) : PE X (.Call (.Name x p) (e :: es) [] pos) (tMake C sp dvs E0 t) := by
  obtain ⟨f, fd, F, b, M⟩ := O.ex
  exact pe_make M F (hr.mono hj) hg hm b hd pass0 ha hdb he hpl
theorem okD {P : Program} {w : World} {K : PySem.W.Frag} {mg : Str → Option Value} {base : Heap} {x qual : Str} {st : Stmt} {f : Addr} {N ps : List Str} {k : Nat} {sp : Sp} {dV kV doc pm cdv ct oc : Value} {an od : Option Addr} {osl : Array (Option Value)}
    (lk : K.lookup f = some ⟨oc, od, .func (PySem.W.fnOf x qual (defArgs st) (defBody st) (defScope st) dV kV doc pm an cdv ct), osl⟩) (hcd : PySem.W.codeIn K cdv qual = true) (S : FnScope N ps (defScope st)) (len : ∀ vs H Q E, sp vs H Q E → vs.length = ps.length)
    (hbody : ∀ (cdv : Value) (A : Around) (outer : List Env) (s : Shared) (H : Hp) (vs : List V) (Q : VK) (E : XK), Room k (A.deeper (envOfC qual (defScope st) s.heap.objs.size f cdv)) → sp vs H Q E →
      ∃ t, PSs (cxOf CX0 P w K mg base N qual (defScope st) f cdv A outer s H E).nox (defBody st) t ∧ t { nx := fun _ H' => Q .non H', rt := Q } (start N vs) H) : FnOk P w K mg base CX0 (k + 1) f (PySem.W.fnOf x qual (defArgs st) (defBody st) (defScope st) dV kV doc pm an cdv ct) ps sp := by
  refine fn_of lk hcd S len fun A outer s H vs Q E hr hsp => ?_
  obtain ⟨t, h, q⟩ := hbody cdv A outer s H vs Q E hr hsp
  exact ⟨t, h.nox, q⟩
end
structure FunD (K : PySem.W.Frag) (x qual : Str) (st : Stmt) (f : Addr) (fd : FuncData) : Prop where
  ex : ∃ (oc : Value) (od : Option Addr) (dV kV doc pm : Value) (an : Option Addr) (cdv ct : Value) (osl : Array (Option Value)),
    fd = PySem.W.fnOf x qual (defArgs st) (defBody st) (defScope st) dV kV doc pm an cdv ct ∧ K.lookup f = some ⟨oc, od, .func fd, osl⟩ ∧ PySem.W.codeIn K cdv qual = true
theorem FunD.ok {P : Program} {w : World} {K : PySem.W.Frag} {mg : Str → Option Value} {base : Heap} {x qual : Str} {st : Stmt} {f : Addr} {fd : FuncData} {N ps : List Str} {k : Nat} {sp : Sp} (F : FunD K x qual st f fd) (S : FnScope N ps (defScope st)) (len : ∀ vs H Q E, sp vs H Q E → vs.length = ps.length)
    (hbody : ∀ (cdv : Value) (A : Around) (outer : List Env) (s : Shared) (H : Hp) (vs : List V) (Q : VK) (E : XK), Room k (A.deeper (envOfC qual (defScope st) s.heap.objs.size f cdv)) → sp vs H Q E →
      ∃ t, PSs (cxOf CX0 P w K mg base N qual (defScope st) f cdv A outer s H E).nox (defBody st) t ∧ t { nx := fun _ H' => Q .non H', rt := Q } (start N vs) H) : FnOk P w K mg base CX0 (k + 1) f fd ps sp := by
  obtain ⟨oc, od, dV, kV, doc, pm, an, cdv, ct, osl, rfl, lk, hcd⟩ := F.ex
  exact okD lk hcd S len hbody
theorem sqL_set {K : PySem.W.Frag} {H : Hp} {a p G dx : Addr} {fs : List (Str × V)} {o : HO} {xs : List V} (h : SqL K H a xs) (hp : H p = some (.ins G dx fs)) : SqL K (upd H p o) a xs := by
  rcases h with (h | ⟨ob, h⟩) | h
  · exact .inl (.inl ((upd_ne (ne_of h hp (by intro z; cases z))).trans h))
  · exact .inl (.inr ⟨ob, (upd_ne (ne_of h hp (by intro z; cases z))).trans h⟩)
  · exact .inr h
end L2
namespace Tf
open PySem L2
/-! ### the ground -/
structure Stage where
  needs : List Int
  heats : List Int
  found : Int
  taken : Int
def stageK (a b : Addr) (x y : Int) : List (Key × V) := [(.inr "needs", .ref a), (.inr "heats", .ref b), (.inr "found", .int x), (.inr "taken", .int y)]
def StageAt (H : Hp) (d : Addr) (S : Stage) : Prop := ∃ a b, H d = some (.dK (stageK a b S.found S.taken)) ∧ H a = some (.lst (S.needs.map V.int)) ∧ H b = some (.lst (S.heats.map V.int))
theorem StageAt.same {H H' : Hp} {d : Addr} {S : Stage} (h : StageAt H d S) (s : Same H H') : StageAt H' d S := by
  obtain ⟨a, b, h1, h2, h3⟩ := h
  exact ⟨a, b, s _ _ h1, s _ _ h2, s _ _ h3⟩
theorem k_needs_heats : ¬ ((Sum.inr "needs" : Sum Int Str) = (Sum.inr "heats" : Sum Int Str)) := by decide +kernel
theorem k_needs_found : ¬ ((Sum.inr "needs" : Sum Int Str) = (Sum.inr "found" : Sum Int Str)) := by decide +kernel
theorem k_heats_found : ¬ ((Sum.inr "heats" : Sum Int Str) = (Sum.inr "found" : Sum Int Str)) := by decide +kernel
theorem k_needs_taken : ¬ ((Sum.inr "needs" : Sum Int Str) = (Sum.inr "taken" : Sum Int Str)) := by decide +kernel
theorem k_heats_taken : ¬ ((Sum.inr "heats" : Sum Int Str) = (Sum.inr "taken" : Sum Int Str)) := by decide +kernel
theorem k_found_taken : ¬ ((Sum.inr "found" : Sum Int Str) = (Sum.inr "taken" : Sum Int Str)) := by decide +kernel
theorem stage_needs (a b : Addr) (x y : Int) : valV (stageK a b x y) (Sum.inr "needs" : Key) = some (.ref a) := by
  unfold stageK
  rw [valV_pos rfl]
theorem stage_heats (a b : Addr) (x y : Int) : valV (stageK a b x y) (Sum.inr "heats" : Key) = some (.ref b) := by
  unfold stageK
  rw [valV_neg k_needs_heats, valV_pos rfl]
theorem stage_found (a b : Addr) (x y : Int) : valV (stageK a b x y) (Sum.inr "found" : Key) = some (.int x) := by
  unfold stageK
  rw [valV_neg k_needs_found, valV_neg k_heats_found, valV_pos rfl]
theorem stage_taken (a b : Addr) (x y : Int) : valV (stageK a b x y) (Sum.inr "taken" : Key) = some (.int y) := by
  unfold stageK
  rw [valV_neg k_needs_taken, valV_neg k_heats_taken, valV_neg k_found_taken, valV_pos rfl]
theorem merge_stage (a b : Addr) (x y : Int) : mergeK [] (stageK a b x y) = stageK a b x y := by
  have e1 : putK ([] : List (Key × V)) (.inr "needs") (.ref a) = [(.inr "needs", .ref a)] := (putK_new _ valV_nil).trans rfl
  have e2 : putK ([(.inr "needs", .ref a)] : List (Key × V)) (.inr "heats") (.ref b) = [(.inr "needs", .ref a), (.inr "heats", .ref b)] := (putK_new _ ((valV_neg k_needs_heats).trans valV_nil)).trans rfl
  have e3 : putK ([(.inr "needs", .ref a), (.inr "heats", .ref b)] : List (Key × V)) (.inr "found") (.int x) = [(.inr "needs", .ref a), (.inr "heats", .ref b), (.inr "found", .int x)] := (putK_new _ ((valV_neg k_needs_found).trans ((valV_neg k_heats_found).trans valV_nil))).trans rfl
  have e4 : putK ([(.inr "needs", .ref a), (.inr "heats", .ref b), (.inr "found", .int x)] : List (Key × V)) (.inr "taken") (.int y) = stageK a b x y := (putK_new _ ((valV_neg k_needs_taken).trans ((valV_neg k_heats_taken).trans ((valV_neg k_found_taken).trans valV_nil)))).trans rfl
  show putK (putK (putK (putK ([] : List (Key × V)) (.inr "needs") (.ref a)) (.inr "heats") (.ref b)) (.inr "found") (.int x)) (.inr "taken") (.int y) = stageK a b x y
  rw [e1, e2, e3, e4]
def gF (pk ps : Addr) : List (Str × V) := [("kept", .ref pk), ("stages", .ref ps)]
theorem gF_kept (pk ps : Addr) : (gF pk ps).lookup ("kept" : Str) = some (.ref pk) := by
  unfold gF
  rw [List.lookup_cons]
  simp
theorem gF_stages (pk ps : Addr) : (gF pk ps).lookup ("stages" : Str) = some (.ref ps) := by
  unfold gF
  rw [List.lookup_cons, show (("stages" : Str) == ("kept" : Str)) = false by decide +kernel, List.lookup_cons]
  simp
theorem gF_no (pk ps : Addr) {m : Str} (h1 : (m == ("kept" : Str)) = false) (h2 : (m == ("stages" : Str)) = false) : (gF pk ps).lookup m = none := by
  unfold gF
  rw [List.lookup_cons, h1, List.lookup_cons, h2]
  rfl
theorem gF_put (pk ps : Addr) : putF "stages" (.ref ps) (putF "kept" (.ref pk) []) = gF pk ps := by
  have h : ¬ (("kept" : Str) = "stages") := by decide +kernel
  show (if ("kept" : Str) = "stages" then [(("kept" : Str), V.ref ps)] else (("kept" : Str), V.ref pk) :: putF "stages" (V.ref ps) []) = _
  rw [if_neg h]
  rfl
structure GroundAt (G : Addr) (H : Hp) (p : Addr) (kept : List V) (Ss : List Stage) : Prop where
  ex : ∃ (dx pk ps : Addr) (ds : List Addr), H p = some (.ins G dx (gF pk ps)) ∧ H pk = some (.lst kept) ∧ H ps = some (.lst (ds.map V.ref)) ∧ ds.length = Ss.length ∧ ∀ (i : Nat) (S : Stage), Ss[i]? = some S → ∃ d, ds[i]? = some d ∧ StageAt H d S
structure GroundSep (G : Addr) (ok : Addr → Prop) (H : Hp) (p : Addr) (kept : List V) (Ss : List Stage) : Prop where
  ex : ∃ (dx pk ps : Addr) (ds : List Addr), H p = some (.ins G dx (gF pk ps)) ∧ ok pk ∧ H pk = some (.lst kept) ∧ ok ps ∧ H ps = some (.lst (ds.map V.ref)) ∧ ds.length = Ss.length ∧ ∀ (i : Nat) (S : Stage), Ss[i]? = some S → ∃ d a b, ds[i]? = some d ∧ ok d ∧ ok a ∧ ok b ∧ H d = some (.dK (stageK a b S.found S.taken)) ∧ H a = some (.lst (S.needs.map V.int)) ∧ H b = some (.lst (S.heats.map V.int))
theorem GroundSep.keep {G : Addr} {ok ok' : Addr → Prop} {H H' : Hp} {p : Addr} {kept : List V} {Ss : List Stage} (h : GroundSep G ok H p kept Ss) (k : ∀ b o, ok b → H b = some o → H' b = some o) (kp : ∀ o, H p = some o → H' p = some o) (ko : ∀ b, ok b → ok' b) : GroundSep G ok' H' p kept Ss := by
  obtain ⟨dx, pk, ps, ds, h1, o2, h2, o3, h3, h4, h5⟩ := h.ex
  refine ⟨⟨dx, pk, ps, ds, kp _ h1, ko _ o2, k _ _ o2 h2, ko _ o3, k _ _ o3 h3, h4, fun i S e => ?_⟩⟩
  obtain ⟨d, a, b, e1, o4, o5, o6, e2, e3, e4⟩ := h5 i S e
  exact ⟨d, a, b, e1, ko _ o4, ko _ o5, ko _ o6, k _ _ o4 e2, k _ _ o5 e3, k _ _ o6 e4⟩
structure GCls (K : PySem.W.Frag) (mg : Str → Option Value) (G : Addr) : Prop where
  cl : Cls K G
  nK : NoAttr K G "kept"
  nS : NoAttr K G "stages"
  mgG : mg "Ground" = some (.ref G)
structure GroundX (G : Addr) (ok : Addr → Prop) (H : Hp) (p pk ps : Addr) (kept : List V) (Ss : List Stage) : Prop where
  ne : pk ≠ ps
  ex : ∃ (dx : Addr) (ds : List Addr), H p = some (.ins G dx (gF pk ps)) ∧ H pk = some (.lst kept) ∧ H ps = some (.lst (ds.map V.ref)) ∧ ds.length = Ss.length ∧ ∀ (i : Nat) (S : Stage), Ss[i]? = some S → ∃ d, ds[i]? = some d ∧ StageAt H d S ∧ ∃ a b, H d = some (.dK (stageK a b S.found S.taken)) ∧ H a = some (.lst (S.needs.map V.int)) ∧ H b = some (.lst (S.heats.map V.int)) ∧ a ≠ pk ∧ a ≠ ps ∧ b ≠ pk ∧ b ≠ ps ∧ ok a ∧ ok b
theorem GroundX.at {G : Addr} {ok : Addr → Prop} {H : Hp} {p pk ps : Addr} {kept : List V} {Ss : List Stage} (h : GroundX G ok H p pk ps kept Ss) : GroundAt G H p kept Ss := by
  obtain ⟨dx, ds, h1, h2, h3, h4, h5⟩ := h.ex
  refine ⟨⟨dx, pk, ps, ds, h1, h2, h3, h4, fun i S e => ?_⟩⟩
  obtain ⟨d, e1, e2, _⟩ := h5 i S e
  exact ⟨d, e1, e2⟩
def Keep2 (pk ps : Addr) (H H' : Hp) : Prop := ∀ b o, b ≠ pk → b ≠ ps → H b = some o → H' b = some o
theorem Keep2.trans {pk ps : Addr} {H H1 H2 : Hp} (a : Keep2 pk ps H H1) (b : Keep2 pk ps H1 H2) : Keep2 pk ps H H2 := fun c o n1 n2 e => b c o n1 n2 (a c o n1 n2 e)
theorem _root_.L2.Same.keep2 {H H' : Hp} (s : Same H H') (pk ps : Addr) : Keep2 pk ps H H' := fun b o _ _ e => s b o e
theorem GroundX.same {G : Addr} {ok : Addr → Prop} {H H' : Hp} {p pk ps : Addr} {kept : List V} {Ss : List Stage} (h : GroundX G ok H p pk ps kept Ss) (s : Same H H') : GroundX G ok H' p pk ps kept Ss := by
  obtain ⟨dx, ds, h1, h2, h3, h4, h5⟩ := h.ex
  refine ⟨h.ne, dx, ds, s _ _ h1, s _ _ h2, s _ _ h3, h4, fun i S e => ?_⟩
  obtain ⟨d, e1, e2, a, b, e3, e4, e5, r⟩ := h5 i S e
  exact ⟨d, e1, e2.same s, a, b, s _ _ e3, s _ _ e4, s _ _ e5, r⟩
theorem GroundX.push {G : Addr} {ok : Addr → Prop} {H H' : Hp} {p pk ps : Addr} {kept : List V} {Ss : List Stage} {x : V} {d a b : Addr} {S : Stage} (h : GroundX G ok H p pk ps kept Ss) (k : Keep2 pk ps H H') (hk : H' pk = some (.lst (kept ++ [x]))) (hs : ∀ ds : List Addr, H ps = some (.lst (ds.map V.ref)) → H' ps = some (.lst (ds.map V.ref ++ [.ref d])))
    (h1 : H d = some (.dK (stageK a b S.found S.taken))) (h2 : H a = some (.lst (S.needs.map V.int))) (h3 : H b = some (.lst (S.heats.map V.int))) (n1 : a ≠ pk) (n2 : a ≠ ps) (n3 : b ≠ pk) (n4 : b ≠ ps) (oa : ok a) (ob : ok b) : GroundX G ok H' p pk ps (kept ++ [x]) (Ss ++ [S]) := by
  obtain ⟨dx, ds, g1, g2, g3, g4, g5⟩ := h.ex
  have kd : ∀ {d : Addr} {kvs : List (Key × V)}, H d = some (.dK kvs) → H' d = some (.dK kvs) := fun {d kvs} e => k d _ (ne_of e g2 (by intro z; cases z)) (ne_of e g3 (by intro z; cases z)) e
  refine ⟨h.ne, dx, ds ++ [d], k p _ (ne_of g1 g2 (by intro z; cases z)) (ne_of g1 g3 (by intro z; cases z)) g1, hk, ?_, by simp [g4], fun i T e => ?_⟩
  · rw [hs ds g3, List.map_append]; rfl
  · by_cases hi : i < Ss.length
    · rw [List.getElem?_append_left hi] at e
      obtain ⟨d', e1, _, a', b', e3, e4, e5, m1, m2, m3, m4, mo⟩ := g5 i T e
      refine ⟨d', by rw [List.getElem?_append_left (by omega)]; exact e1, ⟨a', b', kd e3, k _ _ m1 m2 e4, k _ _ m3 m4 e5⟩, a', b', kd e3, k _ _ m1 m2 e4, k _ _ m3 m4 e5, m1, m2, m3, m4, mo⟩
    · rw [List.getElem?_append_right (by omega)] at e
      have hi0 : i - Ss.length = 0 := by
        cases z : i - Ss.length with
        | zero => rfl
        | succ n => rw [z] at e; cases e
      rw [hi0] at e
      cases e
      refine ⟨d, by rw [List.getElem?_append_right (by omega), show i - ds.length = 0 by omega]; rfl, ⟨a, b, kd h1, k _ _ n1 n2 h2, k _ _ n3 n4 h3⟩, a, b, kd h1, k _ _ n1 n2 h2, k _ _ n3 n4 h3, n1, n2, n3, n4, oa, ob⟩
def amtOf (b : Bool) (ss : List (Bool × Int)) : Int := ((ss.filter fun z => z.1 == b).map (·.2)).sum
theorem kinds_eq (a b : Bool) : decide (V.str (kindS a) = V.str (kindS b)) = (a == b) := by
  cases b with
  | true => rw [show kindS true = "warm" from rfl, kind_warm]; cases a <;> rfl
  | false => rw [show kindS false = "cold" from rfl, kind_cold]; cases a <;> rfl
def amtsN (b : Bool) (ss : List (Bool × Int)) : List Int := (ss.filter fun z => z.1 == b).map (·.2)
theorem amtsN_yes {b : Bool} {ss : List (Bool × Int)} {i : Nat} {z : Bool × Int} (e : ss[i]? = some z) (h : (z.1 == b) = true) : amtsN b (ss.take (i + 1)) = amtsN b (ss.take i) ++ [z.2] := by
  unfold amtsN
  rw [take_snoc e, List.filter_append, List.map_append, List.filter_cons, h]
  rfl
theorem amtsN_no {b : Bool} {ss : List (Bool × Int)} {i : Nat} {z : Bool × Int} (e : ss[i]? = some z) (h : ¬ (z.1 == b) = true) : amtsN b (ss.take (i + 1)) = amtsN b (ss.take i) := by
  unfold amtsN
  rw [take_snoc e, List.filter_append, List.map_append, List.filter_cons, if_neg h]
  simp
theorem amtsN_len (b : Bool) (ss : List (Bool × Int)) : (amtsN b ss).length ≤ ss.length := by
  unfold amtsN
  rw [List.length_map]
  exact List.length_filter_le _ _
theorem amtOf_yes (b : Bool) (ss : List (Bool × Int)) : (amtsN b ss).sum = amtOf b ss := rfl
def amtUntil (b : Bool) (ss : List (Bool × Int)) (n so : Nat) : Int := (n : Int) * amtOf b ss + amtOf b (ss.take so)
def reachS (S : Stage) (ss : List (Bool × Int)) (n so : Nat) : Stage := ⟨S.needs, (untilL S.needs S.heats ss n so).heats, S.found + amtUntil true ss n so - (untilL S.needs S.heats ss n so).room, S.taken + amtUntil false ss n so - (untilL S.needs S.heats ss n so).heat⟩
theorem sum_le : ∀ (l : List Int), (∀ x ∈ l, 0 ≤ x ∧ x ≤ 1000000) → 0 ≤ l.sum ∧ l.sum ≤ 1000000 * (l.length : Int)
  | [], _ => ⟨Int.le_refl 0, Int.le_refl 0⟩
  | x :: r, h => by
    have h1 := h x List.mem_cons_self
    have h2 := sum_le r fun y hy => h y (List.mem_cons_of_mem _ hy)
    rw [List.sum_cons, List.length_cons]
    omega
theorem amtOf_le (b : Bool) {ss : List (Bool × Int)} (hz : ∀ z ∈ ss, 0 ≤ z.2 ∧ z.2 ≤ 1000000) (hn : ss.length ≤ 1000) : -(2 ^ 64) < amtOf b ss ∧ amtOf b ss < 2 ^ 64 := by
  have h := sum_le (amtsN b ss) fun x hx => by
    unfold amtsN at hx
    obtain ⟨z, hz', rfl⟩ := List.mem_map.mp hx
    exact hz z (List.mem_filter.mp hz').1
  have hl := amtsN_len b ss
  rw [amtOf_yes] at h
  omega
structure GroundY (G : Addr) (ok : Addr → Prop) (H : Hp) (p : Addr) (kept : List V) (Ss : List Stage) : Prop where
  ex : ∃ (dx pk ps : Addr) (ds : List Addr), H p = some (.ins G dx (gF pk ps)) ∧ H pk = some (.lst kept) ∧ H ps = some (.lst (ds.map V.ref)) ∧ ds.length = Ss.length ∧ ∀ (i : Nat) (S : Stage), Ss[i]? = some S → ∃ d a b, ds[i]? = some d ∧ ok a ∧ ok b ∧ H d = some (.dK (stageK a b S.found S.taken)) ∧ H a = some (.lst (S.needs.map V.int)) ∧ H b = some (.lst (S.heats.map V.int))
theorem GroundAt.y {G : Addr} {H : Hp} {p : Addr} {kept : List V} {Ss : List Stage} (h : GroundAt G H p kept Ss) : GroundY G (fun _ => True) H p kept Ss := by
  obtain ⟨dx, pk, ps, ds, h1, h2, h3, h4, h5⟩ := h.ex
  refine ⟨⟨dx, pk, ps, ds, h1, h2, h3, h4, fun i S e => ?_⟩⟩
  obtain ⟨d, e1, a, b, e2, e3, e4⟩ := h5 i S e
  exact ⟨d, a, b, e1, trivial, trivial, e2, e3, e4⟩
theorem GroundX.y {G : Addr} {ok : Addr → Prop} {H : Hp} {p pk ps : Addr} {kept : List V} {Ss : List Stage} (h : GroundX G ok H p pk ps kept Ss) : GroundY G (fun b => b ≠ pk ∧ b ≠ ps ∧ ok b) H p kept Ss := by
  obtain ⟨dx, ds, h1, h2, h3, h4, h5⟩ := h.ex
  refine ⟨⟨dx, pk, ps, ds, h1, h2, h3, h4, fun i S e => ?_⟩⟩
  obtain ⟨d, e1, _, a, b, e2, e3, e4, m1, m2, m3, m4, m5, m6⟩ := h5 i S e
  exact ⟨d, a, b, e1, ⟨m1, m2, m5⟩, ⟨m3, m4, m6⟩, e2, e3, e4⟩
inductive Deed where
  | sea (z : Bool × Int)
  | yrs (ss : List (Bool × Int)) (n : Nat)
def Deed.row : Deed → List (Bool × Int)
  | .sea z => [z]
  | .yrs ss _ => ss
def Deed.more : Deed → Nat
  | .sea _ => 0
  | .yrs _ n => n
def DeedAt (H : Hp) (t : Addr) : Deed → Prop
  | .sea z => H t = some (.tup [.str (kindS z.1), .int z.2])
  | .yrs ss n => ∃ u ts, H t = some (.tup [.str "years", .ref u, .int ((n : Int) + 1)]) ∧ H u = some (.tup (ts.map V.ref)) ∧ SeasAt H ts ss
theorem kind_years (b : Bool) : decide (V.str (kindS b) = V.str "years") = false := by
  cases b
  · exact decide_eq_false (fun h => absurd (V.str.inj h) (by decide +kernel))
  · exact decide_eq_false (fun h => absurd (V.str.inj h) (by decide +kernel))
theorem kind_lay (b : Bool) : decide (V.str (kindS b) = V.str "lay") = false := by
  cases b
  · exact decide_eq_false (fun h => absurd (V.str.inj h) (by decide +kernel))
  · exact decide_eq_false (fun h => absurd (V.str.inj h) (by decide +kernel))
theorem GroundX.weak {G : Addr} {ok ok' : Addr → Prop} {H : Hp} {p pk ps : Addr} {kept : List V} {Ss : List Stage} (h : GroundX G ok H p pk ps kept Ss) (w : ∀ b, ok b → ok' b) : GroundX G ok' H p pk ps kept Ss := by
  obtain ⟨dx, ds, h1, h2, h3, h4, h5⟩ := h.ex
  refine ⟨h.ne, dx, ds, h1, h2, h3, h4, fun i S e => ?_⟩
  obtain ⟨d, e1, e2, a, b, e3, e4, e5, m1, m2, m3, m4, m5, m6⟩ := h5 i S e
  exact ⟨d, e1, e2, a, b, e3, e4, e5, m1, m2, m3, m4, w a m5, w b m6⟩
theorem GroundSep.x {G : Addr} {ok : Addr → Prop} {H : Hp} {p : Addr} {needs heats : List Int} {x y : Int} (h : GroundSep G ok H p [] [⟨needs, heats, x, y⟩]) (h1 : needs ≠ []) (h2 : heats ≠ []) : ∃ pk ps, ok pk ∧ ok ps ∧ GroundX G ok H p pk ps [] [⟨needs, heats, x, y⟩] := by
  obtain ⟨dx, pk, ps, ds, g1, o1, g2, o2, g3, g4, g5⟩ := h.ex
  obtain ⟨d, a, b, e1, o3, o4, o5, e2, e3, e4⟩ := g5 0 _ rfl
  have hds : ds ≠ [] := fun z => by rw [z] at e1; cases e1
  have isInt : ∀ {c : Addr} {ns : List Int}, ns ≠ [] → H c = some (.lst (ns.map V.int)) → c ≠ pk ∧ c ≠ ps := fun {c ns} hn e => by
    refine ⟨ne_of e g2 fun z => hn (List.map_eq_nil_iff.mp (HO.lst.inj z)), ne_of e g3 fun z => ?_⟩
    have z := HO.lst.inj z
    cases ns with
    | nil => exact hn rfl
    | cons n r =>
      cases ds with
      | nil => exact hds rfl
      | cons d r' => cases z
  have ha := isInt h1 e3
  have hb := isInt h2 e4
  refine ⟨pk, ps, o1, o2, ⟨ne_of g2 g3 fun z => hds (List.map_eq_nil_iff.mp (HO.lst.inj z).symm), dx, ds, g1, g2, g3, g4, fun i S e => ?_⟩⟩
  match i, e with
  | 0, e =>
    cases e
    exact ⟨d, e1, ⟨a, b, e2, e3, e4⟩, a, b, e2, e3, e4, ha.1, ha.2, hb.1, hb.2, o4, o5⟩
  | k + 1, e => cases e
end Tf

namespace Tf
open PySem L2
/-! ONE SEASON done to a ground. -/
theorem until_one (needs hs : List Int) (z : Bool × Int) : untilL needs hs [z] 0 1 = stepS needs ⟨hs, 0, 0⟩ z := rfl
theorem amt_one (b : Bool) (z : Bool × Int) : amtUntil b [z] 0 1 = if z.1 == b then z.2 else 0 := by
  unfold amtUntil amtOf
  rw [show ((0 : Nat) : Int) = 0 from rfl, Int.zero_mul, Int.zero_add, show ([z] : List (Bool × Int)).take 1 = [z] from rfl, List.filter_cons]
  split <;> simp
theorem reach_warm (needs hs : List Int) (f t m : Int) : reachS ⟨needs, hs, f, t⟩ [(true, m)] 0 1 = ⟨needs, seasL needs hs (true, m), f + m - seasLeft needs hs (true, m), t⟩ := by
  unfold reachS
  rw [until_one, amt_one, amt_one]
  show Stage.mk needs (seasL needs hs (true, m)) (f + m - (0 + seasLeft needs hs (true, m))) (t + 0 - 0) = _
  rw [Int.zero_add, Int.add_zero, Int.sub_zero]
theorem reach_cold (needs hs : List Int) (f t m : Int) : reachS ⟨needs, hs, f, t⟩ [(false, m)] 0 1 = ⟨needs, seasL needs hs (false, m), f, t + m - seasLeft needs hs (false, m)⟩ := by
  unfold reachS
  rw [until_one, amt_one, amt_one]
  show Stage.mk needs (seasL needs hs (false, m)) (f + 0 - 0) (t + m - (0 + seasLeft needs hs (false, m))) = _
  rw [Int.zero_add, Int.add_zero, Int.sub_zero]
theorem room_warm (needs hs : List Int) (m : Int) : (untilL needs hs [(true, m)] 0 1).room = seasLeft needs hs (true, m) := by
  show 0 + seasLeft needs hs (true, m) = _
  rw [Int.zero_add]
theorem heat_cold (needs hs : List Int) (m : Int) : (untilL needs hs [(false, m)] 0 1).heat = seasLeft needs hs (false, m) := by
  show 0 + seasLeft needs hs (false, m) = _
  rw [Int.zero_add]
/-! and what is kept -/
theorem GroundX.tight {G : Addr} {ok : Addr → Prop} {H : Hp} {p pk ps : Addr} {kept : List V} {Ss : List Stage} (h : GroundX G ok H p pk ps kept Ss) : GroundX G (fun b => ok b ∧ ∃ o, H b = some o) H p pk ps kept Ss := by
  obtain ⟨dx, ds, h1, h2, h3, h4, h5⟩ := h.ex
  refine ⟨h.ne, dx, ds, h1, h2, h3, h4, fun i S e => ?_⟩
  obtain ⟨d, e1, e2, a, b, e3, e4, e5, m1, m2, m3, m4, m5, m6⟩ := h5 i S e
  exact ⟨d, e1, e2, a, b, e3, e4, e5, m1, m2, m3, m4, ⟨m5, _, e4⟩, m6, _, e5⟩
theorem SeasAt.tup {H H' : Hp} {ts : List Addr} {ss : List (Bool × Int)} (S : SeasAt H ts ss) (k : ∀ t xs, H t = some (.tup xs) → H' t = some (.tup xs)) : SeasAt H' ts ss :=
  ⟨S.len, fun i z e => let ⟨t, e1, e2⟩ := S.at' i z e; ⟨t, e1, k _ _ e2⟩⟩
end Tf

namespace L2
open PySem PySem.Spec PyProof.Rows
section
variable {X : Cx}
theorem op_fdivB : OpR X (binaryOp .FloorDiv) (rI (fun _ j => 0 < j ∧ j.natAbs.log2 < 9000) fun i j => .int (i / j)) := opI fun i j _ _ _ _ _ hc q => by
  have h1 : (0 : Int) < j := hc.1
  have h2 : j.natAbs.log2 < 9000 := hc.2
  exact floordiv_int (by omega) (by rw [Int.fdiv_eq_ediv_of_nonneg i (by omega)]; exact q) (.inl (PyProof.noPylong_of_log2 h2))
end
end L2
namespace Tf
open PySem L2
/-! A HISTORY: deeds one behind another. -/
inductive Act where
  | sea (z : Bool × Int)
  | lay (m : Int)
  | yrs (ss : List (Bool × Int)) (n : Nat)
def Act.Fit : Act → Prop
  | .sea z => 0 ≤ z.2 ∧ z.2 ≤ 1000000
  | .lay m => 1 ≤ m ∧ m ≤ 200
  | .yrs ss n => 1 ≤ ss.length ∧ ss.length ≤ 12 ∧ (∀ z ∈ ss, 0 ≤ z.2 ∧ z.2 ≤ 1000000) ∧ (n : Int) + 1 ≤ 1000000000000000000
def Act.isLay : Act → Bool
  | .lay _ => true
  | _ => false
def ActAt (H : Hp) (t : Addr) : Act → Prop
  | .sea z => H t = some (.tup [.str (kindS z.1), .int z.2])
  | .lay m => H t = some (.tup [.str "lay", .int m])
  | .yrs ss n => ∃ u ts, H t = some (.tup [.str "years", .ref u, .int ((n : Int) + 1)]) ∧ H u = some (.tup (ts.map V.ref)) ∧ SeasAt H ts ss
def KeepT (H H' : Hp) : Prop := ∀ t xs, H t = some (.tup xs) → H' t = some (.tup xs)
theorem KeepT.trans {H H1 H2 : Hp} (a : KeepT H H1) (b : KeepT H1 H2) : KeepT H H2 := fun t xs e => b t xs (a t xs e)
theorem _root_.L2.Same.keepT {H H' : Hp} (s : Same H H') : KeepT H H' := fun t xs e => s t _ e
theorem keepT_upd {H : Hp} {q : Addr} {xs : List V} {o : HO} (h : H q = some (.lst xs)) : KeepT H (upd H q o) := fun t ys e => by rw [upd_ne (ne_of e h (by intro z; cases z))]; exact e
theorem ActAt.tup {H H' : Hp} {t : Addr} {A : Act} (h : ActAt H t A) (k : KeepT H H') : ActAt H' t A := by
  cases A with
  | sea z => exact k _ _ h
  | lay m => exact k _ _ h
  | yrs ss n =>
    obtain ⟨u, ts, h1, h2, h3⟩ := h
    exact ⟨u, ts, k _ _ h1, k _ _ h2, h3.tup k⟩
theorem ActAt.same {H H' : Hp} {t : Addr} {A : Act} (h : ActAt H t A) (s : Same H H') : ActAt H' t A := h.tup s.keepT
structure ActsAt (H : Hp) (ts : List Addr) (As : List Act) : Prop where
  len : ts.length = As.length
  at' : ∀ (i : Nat) (A : Act), As[i]? = some A → ∃ t, ts[i]? = some t ∧ ActAt H t A
theorem ActsAt.tup {H H' : Hp} {ts : List Addr} {As : List Act} (h : ActsAt H ts As) (k : KeepT H H') : ActsAt H' ts As :=
  ⟨h.len, fun i A e => let ⟨t, e1, e2⟩ := h.at' i A e; ⟨t, e1, e2.tup k⟩⟩
theorem ActsAt.same {H H' : Hp} {ts : List Addr} {As : List Act} (h : ActsAt H ts As) (s : Same H H') : ActsAt H' ts As := h.tup s.keepT
theorem ActsAt.nil (H : Hp) : ActsAt H [] [] := ⟨rfl, fun i A e => by simp at e⟩
theorem snoc_at {α : Type} {xs : List α} {a b : α} {i : Nat} (e : (xs ++ [a])[i]? = some b) : (i < xs.length ∧ xs[i]? = some b) ∨ (i = xs.length ∧ a = b) := by
  by_cases hi : i < xs.length
  · rw [List.getElem?_append_left hi] at e
    exact .inl ⟨hi, e⟩
  · rw [List.getElem?_append_right (by omega)] at e
    have hi0 : i - xs.length = 0 := by
      cases z : i - xs.length with
      | zero => rfl
      | succ n => rw [z] at e; cases e
    rw [hi0] at e
    exact .inr ⟨by omega, Option.some.inj e⟩
theorem ActsAt.snoc {H : Hp} {ts : List Addr} {As : List Act} (h : ActsAt H ts As) {t : Addr} {A : Act} (ht : ActAt H t A) : ActsAt H (ts ++ [t]) (As ++ [A]) := by
  refine ⟨by simp [h.len], fun i B e => ?_⟩
  rcases snoc_at e with ⟨hi, e⟩ | ⟨rfl, rfl⟩
  · obtain ⟨t', e1, e2⟩ := h.at' i B e
    exact ⟨t', by rw [List.getElem?_append_left (by rw [h.len]; exact hi)]; exact e1, e2⟩
  · exact ⟨t, by rw [List.getElem?_append_right (by rw [h.len]; omega), show As.length - ts.length = 0 by rw [h.len]; omega]; rfl, ht⟩
def doS (S : Stage) : Act → Stage
  | .sea z => reachS S [z] 0 1
  | .lay m => ⟨S.needs ++ [m], S.heats ++ [0], S.found, S.taken⟩
  | .yrs ss n => reachS S ss n ss.length
def dueL (S : Stage) : Act → List Int
  | .sea z => [seasLeft S.needs S.heats z]
  | .lay _ => [(S.needs.length : Int) + 1]
  | .yrs ss n => [(yearsL S.needs S.heats ss (n + 1)).room, (yearsL S.needs S.heats ss (n + 1)).heat]
def Told (H : Hp) (v : V) (S : Stage) : Act → Prop
  | .sea z => v = .int (seasLeft S.needs S.heats z)
  | .lay _ => v = .int ((S.needs.length : Int) + 1)
  | .yrs ss n => ∃ u, v = .ref u ∧ H u = some (.tup [.int (yearsL S.needs S.heats ss (n + 1)).room, .int (yearsL S.needs S.heats ss (n + 1)).heat])
theorem until_years (needs heats : List Int) (ss : List (Bool × Int)) (n : Nat) : untilL needs heats ss n ss.length = yearsL needs heats ss (n + 1) := by
  unfold untilL
  rw [List.take_length]
  rfl
theorem amt_years (b : Bool) (ss : List (Bool × Int)) (n : Nat) : amtUntil b ss n ss.length = ((n : Int) + 1) * amtOf b ss := by
  unfold amtUntil
  rw [List.take_length, Int.add_mul, Int.one_mul]
theorem reach_years (S : Stage) (ss : List (Bool × Int)) (n : Nat) : reachS S ss n ss.length = ⟨S.needs, (yearsL S.needs S.heats ss (n + 1)).heats, S.found + ((n : Int) + 1) * amtOf true ss - (yearsL S.needs S.heats ss (n + 1)).room, S.taken + ((n : Int) + 1) * amtOf false ss - (yearsL S.needs S.heats ss (n + 1)).heat⟩ := by
  unfold reachS
  rw [until_years, amt_years, amt_years]
structure Stage.Ok (S : Stage) : Prop where
  heats : HeatsOk S.needs S.heats
  lo : 1 ≤ S.needs.length
  need : ∀ x ∈ S.needs, 1 ≤ x ∧ x ≤ 200
theorem getD_app {xs ys : List Int} {i : Nat} (h : i < xs.length) : (xs ++ ys).getD i 0 = xs.getD i 0 := by
  rw [List.getD_eq_getElem?_getD, List.getD_eq_getElem?_getD, List.getElem?_append_left h]
theorem getD_appR {xs ys : List Int} {i : Nat} (h : xs.length ≤ i) : (xs ++ ys).getD i 0 = ys.getD (i - xs.length) 0 := by
  rw [List.getD_eq_getElem?_getD, List.getD_eq_getElem?_getD, List.getElem?_append_right h]
theorem snoc_ind {α : Type} {P : List α → Prop} (h0 : P []) (hs : ∀ xs a, P xs → P (xs ++ [a])) (xs : List α) : P xs := by
  have aux : ∀ ys : List α, P ys.reverse := by
    intro ys
    induction ys with
    | nil => exact h0
    | cons a r ih => rw [List.reverse_cons]; exact hs _ _ ih
  have := aux xs.reverse
  rw [List.reverse_reverse] at this
  exact this
theorem HeatsOk.lay {needs heats : List Int} (h : HeatsOk needs heats) {m : Int} (hm : 0 ≤ m) : HeatsOk (needs ++ [m]) (heats ++ [0]) := by
  have hl := h.len
  refine ⟨by simp [hl], fun i hi => ?_, fun i hi => ?_⟩
  · rw [List.length_append] at hi
    have hi : i < needs.length + 1 := hi
    by_cases h1 : i < needs.length
    · rw [getD_app (by omega)]; exact h.lo i h1
    · rw [getD_appR (by omega), show i - heats.length = 0 by omega]; exact Int.le_refl 0
  · rw [List.length_append] at hi
    have hi : i < needs.length + 1 := hi
    by_cases h1 : i < needs.length
    · rw [getD_app (by omega), getD_app h1]; exact h.hi i h1
    · rw [getD_appR (by omega), show i - heats.length = 0 by omega, getD_appR (by omega), show i - needs.length = 0 by omega]; exact hm
theorem Stage.Ok.do {S : Stage} (h : S.Ok) {A : Act} (hA : A.Fit) : (doS S A).Ok := by
  cases A with
  | sea z => exact ⟨by show HeatsOk S.needs (untilL S.needs S.heats [z] 0 1).heats; exact fold_ok _ _ (yearsL_ok h.heats _ _), h.lo, h.need⟩
  | lay m =>
    have h1 : 1 ≤ m ∧ m ≤ 200 := hA
    refine ⟨h.heats.lay (by omega), by show 1 ≤ (S.needs ++ [m]).length; simp, fun x hx => ?_⟩
    rcases List.mem_append.mp hx with hx | hx
    · exact h.need x hx
    · have : x = m := by simpa using hx
      rw [this]; exact h1
  | yrs ss n => exact ⟨by show HeatsOk S.needs (untilL S.needs S.heats ss n ss.length).heats; exact fold_ok _ _ (yearsL_ok h.heats _ _), h.lo, h.need⟩
theorem do_len (S : Stage) (A : Act) : (doS S A).needs.length = S.needs.length + (if A.isLay = true then 1 else 0) := by
  cases A with
  | sea z => rfl
  | lay m => show (S.needs ++ [m]).length = _; rw [List.length_append]; rfl
  | yrs ss n => rfl
def runS (S : Stage) (As : List Act) : Stage := As.foldl doS S
def histS (S : Stage) (As : List Act) : List Stage := (List.range (As.length + 1)).map fun i => runS S (As.take i)
theorem runS_snoc (S : Stage) (As : List Act) (A : Act) : runS S (As ++ [A]) = doS (runS S As) A := by unfold runS; rw [List.foldl_append]; rfl
theorem histS_len (S : Stage) (As : List Act) : (histS S As).length = As.length + 1 := by unfold histS; rw [List.length_map, List.length_range]
theorem histS_at (S : Stage) (As : List Act) {i : Nat} (h : i ≤ As.length) : (histS S As)[i]? = some (runS S (As.take i)) := by
  unfold histS
  rw [List.getElem?_map, List.getElem?_range (by omega)]
  rfl
theorem histS_snoc (S : Stage) (As : List Act) (A : Act) : histS S (As ++ [A]) = histS S As ++ [doS (runS S As) A] := by
  unfold histS
  rw [List.length_append, show As.length + [A].length + 1 = (As.length + 1) + 1 from rfl, List.range_succ, List.map_append]
  congr 1
  · refine List.map_congr_left fun i hi => ?_
    have := List.mem_range.mp hi
    rw [List.take_append_of_le_length (by omega)]
  · show [runS S ((As ++ [A]).take (As.length + 1))] = _
    rw [List.take_of_length_le (by simp), runS_snoc]
theorem histS_last (S : Stage) (As : List Act) : (histS S As).getLast? = some (runS S As) := by
  rw [List.getLast?_eq_getElem?, histS_len, Nat.add_sub_cancel, histS_at S As (Nat.le_refl _), List.take_length]
theorem histS_first (S : Stage) (As : List Act) : (histS S As)[0]? = some S := by rw [histS_at S As (Nat.zero_le _)]; rfl
theorem runS_ok {S : Stage} (h : S.Ok) : ∀ (As : List Act), (∀ A ∈ As, A.Fit) → (runS S As).Ok := by
  intro As
  induction As using snoc_ind with
  | h0 => intro _; exact h
  | hs As A ih =>
    intro hA
    rw [runS_snoc]
    exact (ih fun B hB => hA B (List.mem_append_left _ hB)).do (hA A (by simp))
def KeepL (L : List Addr) (H H' : Hp) : Prop := ∀ b o, b ∉ L → H b = some o → H' b = some o
theorem KeepL.refl (L : List Addr) (H : Hp) : KeepL L H H := fun _ _ _ e => e
theorem KeepL.trans {L : List Addr} {H H1 H2 : Hp} (a : KeepL L H H1) (b : KeepL L H1 H2) : KeepL L H H2 := fun c o n e => b c o n (a c o n e)
theorem _root_.L2.Same.keepL {H H' : Hp} (s : Same H H') (L : List Addr) : KeepL L H H' := fun b o _ e => s b o e
theorem KeepL.mono {L M : List Addr} {H H' : Hp} (k : KeepL L H H') (h : ∀ b ∈ L, b ∈ M) : KeepL M H H' := fun b o n e => k b o (fun z => n (h b z)) e
theorem keepL_upd {L : List Addr} {H : Hp} {q : Addr} {o : HO} (h : q ∈ L) : KeepL L H (upd H q o) := fun b u n e => by rw [upd_ne (fun z : b = q => n (by rw [z]; exact h))]; exact e
theorem KeepL.drop {L M : List Addr} {H H' : Hp} (k : KeepL (L ++ M) H H') (h : ∀ b ∈ M, H b = none) : KeepL L H H' := fun b o n e => k b o (fun z => by
  rcases List.mem_append.mp z with z | z
  · exact n z
  · rw [h b z] at e; cases e) e
theorem KeepL.tups {L : List Addr} {H H' : Hp} (k : KeepL L H H') (h : ∀ b ∈ L, ∃ xs, H b = some (.lst xs)) : KeepT H H' := fun t ys e => k t _ (fun z => by
  obtain ⟨xs, g⟩ := h t z
  rw [e] at g
  cases g) e
theorem Keep2.tups {pk ps : Addr} {H H' : Hp} {xs ys : List V} (k : Keep2 pk ps H H') (h1 : H pk = some (.lst xs)) (h2 : H ps = some (.lst ys)) : KeepT H H' := fun t zs e => k t _ (ne_of e h1 (by intro z; cases z)) (ne_of e h2 (by intro z; cases z)) e
theorem KeepL.free {L : List Addr} {H H' : Hp} (k : KeepL L H H') (h : ∀ b ∈ L, ∃ o, H' b = some o) {a : Addr} (e : H' a = none) : H a = none := by
  cases z : H a with
  | none => rfl
  | some o =>
    exfalso
    by_cases m : a ∈ L
    · obtain ⟨u, g⟩ := h a m; rw [e] at g; cases g
    · rw [k a o m z] at e; cases e
theorem do_warm (S : Stage) (m : Int) : doS S (.sea (true, m)) = ⟨S.needs, seasL S.needs S.heats (true, m), S.found + m - seasLeft S.needs S.heats (true, m), S.taken⟩ := reach_warm S.needs S.heats S.found S.taken m
theorem do_cold (S : Stage) (m : Int) : doS S (.sea (false, m)) = ⟨S.needs, seasL S.needs S.heats (false, m), S.found, S.taken + m - seasLeft S.needs S.heats (false, m)⟩ := reach_cold S.needs S.heats S.found S.taken m
theorem do_yrs (S : Stage) (ss : List (Bool × Int)) (n : Nat) : doS S (.yrs ss n) = ⟨S.needs, (yearsL S.needs S.heats ss (n + 1)).heats, S.found + ((n : Int) + 1) * amtOf true ss - (yearsL S.needs S.heats ss (n + 1)).room, S.taken + ((n : Int) + 1) * amtOf false ss - (yearsL S.needs S.heats ss (n + 1)).heat⟩ := reach_years S ss n
theorem amtOf_snoc {b : Bool} {ss : List (Bool × Int)} {i : Nat} {z : Bool × Int} (e : ss[i]? = some z) : amtOf b (ss.take (i + 1)) = amtOf b (ss.take i) + if z.1 == b then z.2 else 0 := by
  rw [← amtOf_yes, ← amtOf_yes]
  by_cases h : (z.1 == b) = true
  · rw [amtsN_yes e h, if_pos h, List.sum_append]; simp
  · rw [amtsN_no e h, if_neg h, Int.add_zero]
theorem GroundX.keepL {G : Addr} {ok : Addr → Prop} {H H' : Hp} {p pk ps : Addr} {kept : List V} {Ss : List Stage} {L : List Addr} (h : GroundX G ok H p pk ps kept Ss) (k : KeepL L H H') (hl : ∀ b ∈ L, ∃ xs, H b = some (.lst xs)) (nk : pk ∉ L) (ns : ps ∉ L) (no : ∀ b, ok b → b ∉ L) : GroundX G ok H' p pk ps kept Ss := by
  obtain ⟨dx, ds, h1, h2, h3, h4, h5⟩ := h.ex
  have kd : ∀ {d : Addr} {o : HO}, H d = some o → (∀ xs, o ≠ .lst xs) → H' d = some o := fun {d o} e n => k d _ (fun z => by obtain ⟨xs, g⟩ := hl d z; rw [e] at g; exact n xs (Option.some.inj g)) e
  refine ⟨h.ne, dx, ds, kd h1 (by intro xs z; cases z), k _ _ nk h2, k _ _ ns h3, h4, fun i S e => ?_⟩
  obtain ⟨d, e1, _, a, b, e3, e4, e5, m1, m2, m3, m4, m5, m6⟩ := h5 i S e
  have g1 := kd e3 (by intro xs z; cases z)
  have g2 := k _ _ (no a m5) e4
  have g3 := k _ _ (no b m6) e5
  exact ⟨d, e1, ⟨a, b, g1, g2, g3⟩, a, b, g1, g2, g3, m1, m2, m3, m4, m5, m6⟩
theorem KeepL.seq {K : PySem.W.Frag} {L : List Addr} {a : Addr} {H H' : Hp} {xs : List V} (k : KeepL L H H') (h : SqL K H a xs) (n : ∀ o, H a = some o → a ∉ L) : SqL K H' a xs := by
  rcases h with (h | ⟨ob, h⟩) | h
  · exact .inl (.inl (k _ _ (n _ h) h))
  · exact .inl (.inr ⟨ob, k _ _ (n _ h) h⟩)
  · exact .inr h
theorem cut_ints (ns : List Int) (lo hi : Option Int) : ∃ cells : List Int, cutV (ns.map V.int) lo hi = cells.map V.int ∧ cells.length ≤ ns.length := by
  refine ⟨(ns.drop (HT.sIx (ns.map V.int).length 0 lo)).take (HT.sIx (ns.map V.int).length (ns.map V.int).length hi - HT.sIx (ns.map V.int).length 0 lo), ?_, ?_⟩
  · unfold cutV
    rw [← List.map_drop, ← List.map_take]
  · rw [List.length_take, List.length_drop]; omega
theorem Beds.stage {needs heats : List Int} (B : Beds needs heats) : Stage.Ok ⟨needs, heats, 0, 0⟩ := ⟨B.ok, B.lo, fun x hx => by
  obtain ⟨i, hi, rfl⟩ := mem_getD hx
  exact B.need i hi⟩
theorem GroundX.fresh {G : Addr} {ok : Addr → Prop} {H : Hp} {p pk ps q : Addr} {kept : List V} {Ss : List Stage} (h : GroundX G ok H p pk ps kept Ss) (f : H q = none) : GroundX G (fun b => ok b ∧ b ≠ q) H p pk ps kept Ss :=
  h.tight.weak fun b ⟨e1, o, e2⟩ => ⟨e1, ne_of_none e2 f⟩
end Tf

namespace L2
open PySem PySem.Spec PyProof.Rows
section
variable {X : Cx}
theorem op_neNil (hu : X.A.units < cLine) : OpR X (compareOp .NotEq) (fun x y H Q => ∃ (p q : Addr) (xs : List V), x = .ref p ∧ y = .ref q ∧ SqL X.K H p xs ∧ SqL X.K H q [] ∧ Q (.bl (!xs.isEmpty)) H) := by
  intro pins s σ H x y v u Q I rx ry h
  obtain ⟨p, q, xs, rfl, rfl, h1, h2, hq⟩ := h
  cases rx
  cases ry
  obtain ⟨its, r1, pl1, _⟩ := I.list h1
  obtain ⟨jts, r2, pl2, _⟩ := I.list h2
  have l1 := r1.length
  have l2 := r2.length
  rw [List.length_nil] at l2
  cases xs with
  | nil =>
    rw [List.length_nil] at l1
    refine SeqAt.RcNeAt.lists (e := fun _ => true) pl1.isList pl2.isList (by simp only [List.size_toArray]; omega) hu (fun j a b => ?_) _ _ _ _ ?_
    · simp only [List.size_toArray] at a; omega
    · rw [show (List.range its.toArray.size).all (fun _ => true) = true from by simp]
      exact ⟨.bl false, H, I, rfl, hq⟩
  | cons a r =>
    rw [List.length_cons] at l1
    refine SeqAt.RcNeAt.lists_lengths pl1.isList pl2.isList (by simp only [List.size_toArray, bne_iff_ne]; omega) hu _ _ _ _ ?_
    exact ⟨.bl true, H, I, rfl, hq⟩
end
end L2
namespace Tf
open PySem L2
def actN : Act → Str
  | .sea z => kindS z.1
  | .lay _ => "lay"
  | .yrs _ _ => "years"
theorem ActAt.head {H : Hp} {t : Addr} {A : Act} (h : ActAt H t A) : ∃ r, H t = some (.tup (.str (actN A) :: r)) := by
  cases A with
  | sea z => exact ⟨_, h⟩
  | lay m => exact ⟨_, h⟩
  | yrs ss n => obtain ⟨u, ts, h1, _⟩ := h; exact ⟨_, h1⟩
theorem actN_years (A : Act) : decide (V.str (actN A) = V.str "years") = (match A with | .yrs _ _ => true | _ => false) := by
  cases A with
  | sea z => exact kind_years z.1
  | lay m => exact decide_eq_false (fun h => absurd (show ("lay" : Str) = "years" from V.str.inj h) (by decide +kernel))
  | yrs ss n => exact decide_eq_true rfl
end Tf

namespace Tf
open PySem L2
/-! THE BALANCE: what is there, what found room, what was taken. -/
/-! deeds as years -/
def Act.deed : Act → Deed
  | .sea z => .sea z
  | .lay _ => .yrs [] 0
  | .yrs ss n => .yrs ss n
theorem ActAt.deed {H : Hp} {t : Addr} {A : Act} (h : ActAt H t A) (hl : A.isLay = false) : DeedAt H t A.deed := by
  cases A with
  | sea z => exact h
  | lay m => cases hl
  | yrs ss n => exact h
end Tf

namespace Tf
open PySem L2
/-! WHAT IS LOST of what is brought or taken. -/
end Tf



open PySem
namespace L2
theorem seq_in {t r : TS} {D : Ends} {σ : St} {H : Hp} (h : ∀ D1 : Ends, (∀ σ' H', r D σ' H' → D1.nx σ' H') → t D1 σ H) : tSeq t r D σ H := h _ fun _ _ e => e
end L2

namespace Tf
open PySem L2
/-! ### a warmer ground is no colder bed by bed -/
def LeL (n : Nat) (xs ys : List Int) : Prop := ∀ i, i < n → xs.getD i 0 ≤ ys.getD i 0
theorem LeL.refl (n : Nat) (xs : List Int) : LeL n xs xs := fun _ _ => Int.le_refl _
theorem drop_mono {n : Nat} {xs ys : List Int} (hx : xs.length = n) (hy : ys.length = n) (h : LeL n xs ys) : ∀ k, k ≤ n → (xs.drop (n - k)).sum ≤ (ys.drop (n - k)).sum
  | 0, _ => by
    rw [Nat.sub_zero, List.drop_of_length_le (by omega), List.drop_of_length_le (by omega)]
    exact Int.le_refl _
  | k + 1, hk => by
    have ih := drop_mono hx hy h k (by omega)
    rw [drop_sum (rs := xs) (i := n - (k + 1)) (by omega), drop_sum (rs := ys) (i := n - (k + 1)) (by omega), show n - (k + 1) + 1 = n - k by omega]
    have := h (n - (k + 1)) (by omega)
    omega
theorem drop_le {n : Nat} {xs ys : List Int} (hx : xs.length = n) (hy : ys.length = n) (h : LeL n xs ys) {i : Nat} (hi : i ≤ n) : (xs.drop i).sum ≤ (ys.drop i).sum := by
  have := drop_mono hx hy h (n - i) (by omega)
  rwa [show n - (n - i) = i by omega] at this
def LeZ (z y : Bool × Int) : Prop := z.1 = y.1 ∧ (z.1 = true → z.2 ≤ y.2) ∧ (z.1 = false → z.2 = y.2)
theorem LeZ.refl (z : Bool × Int) : LeZ z z := ⟨rfl, fun _ => Int.le_refl _, fun _ => rfl⟩
theorem seas_mono {needs hs gs : List Int} (h : HeatsOk needs hs) (g : HeatsOk needs gs) (le : LeL needs.length hs gs) {z y : Bool × Int} (lz : LeZ z y) : LeL needs.length (seasL needs hs z) (seasL needs gs y) := by
  intro i hi
  obtain ⟨zb, zm⟩ := z
  obtain ⟨yb, ym⟩ := y
  obtain ⟨e, l1, l2⟩ := lz
  have e : zb = yb := e
  subst e
  have hl := h.len
  have gl := g.len
  have a1 := le i hi
  have b1 := h.hi i hi
  have b2 := g.hi i hi
  have b3 := h.lo i hi
  cases zb with
  | true =>
    have l1 : zm ≤ ym := l1 rfl
    show (warmL needs hs zm).getD i 0 ≤ (warmL needs gs ym).getD i 0
    rw [warmL_at hl hi, warmL_at gl hi]
    unfold shareAt leftAt
    rw [rooms_at hl hi, rooms_at gl hi]
    have r : ((rooms needs gs).drop (i + 1)).sum ≤ ((rooms needs hs).drop (i + 1)).sum := drop_le (rooms_len gl) (rooms_len hl) (fun j hj => by rw [rooms_at gl hj, rooms_at hl hj]; have := le j hj; omega) (by omega)
    omega
  | false =>
    have l2 : zm = ym := l2 rfl
    subst l2
    show (coldL hs zm).getD i 0 ≤ (coldL gs zm).getD i 0
    rw [coldL_at (by omega), coldL_at (by omega)]
    unfold shareAt leftAt
    have r : (hs.drop (i + 1)).sum ≤ (gs.drop (i + 1)).sum := drop_le hl gl le (by omega)
    omega
structure LeR (ss yy : List (Bool × Int)) : Prop where
  len : ss.length = yy.length
  at' : ∀ (i : Nat) (z y : Bool × Int), ss[i]? = some z → yy[i]? = some y → LeZ z y
theorem LeR.refl (ss : List (Bool × Int)) : LeR ss ss := ⟨rfl, fun i z y e1 e2 => by rw [e1] at e2; cases e2; exact LeZ.refl z⟩
theorem LeR.take {ss yy : List (Bool × Int)} (h : LeR ss yy) (k : Nat) : LeR (ss.take k) (yy.take k) := by
  refine ⟨by rw [List.length_take, List.length_take, h.len], fun i z y e1 e2 => ?_⟩
  have hi : i < k := by
    have := (List.getElem?_eq_some_iff.mp e1).1
    rw [List.length_take] at this
    omega
  rw [List.getElem?_take_of_lt hi] at e1 e2
  exact h.at' i z y e1 e2
theorem fold_mono {needs : List Int} : ∀ (ss yy : List (Bool × Int)) (s t : Sums), LeR ss yy → HeatsOk needs s.heats → HeatsOk needs t.heats → LeL needs.length s.heats t.heats → LeL needs.length (ss.foldl (stepS needs) s).heats (yy.foldl (stepS needs) t).heats
  | [], yy, s, t, h, _, _, le => by
    obtain rfl : yy = [] := List.eq_nil_of_length_eq_zero h.len.symm
    exact le
  | z :: ss, yy, s, t, h, hs, ht, le => by
    cases yy with
    | nil => have := h.len; cases this
    | cons y yy =>
      have lz := h.at' 0 z y rfl rfl
      exact fold_mono ss yy (stepS needs s z) (stepS needs t y) ⟨by have := h.len; simpa using this, fun i z' y' e1 e2 => h.at' (i + 1) z' y' (by simpa using e1) (by simpa using e2)⟩ (hs.seas z) (ht.seas y) (seas_mono hs ht le lz)
theorem years_mono {needs hs gs : List Int} {ss yy : List (Bool × Int)} (h : HeatsOk needs hs) (g : HeatsOk needs gs) (le : LeL needs.length hs gs) (lr : LeR ss yy) : ∀ n, LeL needs.length (yearsL needs hs ss n).heats (yearsL needs gs yy n).heats
  | 0 => le
  | n + 1 => fold_mono ss yy _ _ lr (yearsL_ok h ss n) (yearsL_ok g yy n) (years_mono h g le lr n)
theorem far_mono {needs hs gs : List Int} {ss yy : List (Bool × Int)} (h : HeatsOk needs hs) (g : HeatsOk needs gs) (le : LeL needs.length hs gs) (lr : LeR ss yy) (n so : Nat) : LeL needs.length (farL needs hs ss n so) (farL needs gs yy n so) :=
  fold_mono _ _ _ _ (lr.take so) (yearsL_ok h ss n) (yearsL_ok g yy n) (years_mono h g le lr n)
end Tf

namespace L2
open PySem PySem.Spec PyProof.Rows
section
variable {X : Cx}
/-! ### list.insert at a place that is there -/
def rInsert : V → List V → Hp → VK → Prop := fun x vs H Q => ∃ l xs i y, x = .ref l ∧ vs = [.int i, y] ∧ H l = some (.lst xs) ∧ 0 ≤ i ∧ i ≤ (xs.length : Int) ∧ xs.length ≤ 100000 ∧ Q .non (upd H l (.lst (xs.take i.toNat ++ [y] ++ xs.drop i.toNat)))
theorem mt_insert : MtM X "list.insert" rInsert := by
  intro pins s σ H x vs v us Q I rx rv h
  obtain ⟨l, xs, i, y, rfl, rfl, hH, h0, h1, hz, q⟩ := h
  cases rx
  obtain ⟨u1, u2, rfl, r1, r2⟩ := rv.two
  obtain ⟨t, rfl⟩ := r1
  obtain ⟨z, its, n, r, hl, e⟩ := I.lstM hH
  have hs : xs.length < sizeLine := Nat.lt_of_le_of_lt hz (by decide)
  have hfit : ¬ (!Builtin.List.listFitsIndex i) = true := by
    rw [fitsIndex_both (by omega) (by omega)]
    exact Bool.false_ne_true
  refine call_meets F.slot_list_insert ⟨_, e, rfl⟩ F.entry_list_insert (F.args_list_insert_3 _ _ _)
    (AutoSeq1.list_insert_list_int_val_1 l its.toArray n i t u2 hfit (by rw [List.size_toArray]; omega)) ⟨e, ?_⟩
  have hk : min i.toNat its.toArray.size = i.toNat := by rw [List.size_toArray]; omega
  refine ⟨.non, _, I.lset (its' := its.take i.toNat ++ [u2] ++ its.drop i.toNat) hH e ?_ (((r.take _).append (.cons r2 .nil)).append (r.drop _)) ?_, rfl, q⟩
  · show (its.toArray.extract 0 (if i < 0 then (i + (its.toArray.size : Int)).toNat else min i.toNat its.toArray.size)).push u2 ++ its.toArray.extract (if i < 0 then (i + (its.toArray.size : Int)).toNat else min i.toNat its.toArray.size) = _
    rw [if_neg (by omega), hk]
    simp [List.extract]
    exact List.take_of_length_le (by simp)
  · simp only [List.length_append, List.length_take, List.length_drop, List.length_singleton]
    omega
theorem pe_sumK {a : Expr} {ta : TE} {p pos : Pos} (K : PySem.W.Frag) (hc : X.calm = true) (hm : X.mg "sum" = none) (ha : PE X a ta) (h : X.K = K := by rfl) (hg : Gl X "sum" := by rfl) (hs : starEach [a] X.env = (false, eval a X.env) :: starEach [] X.env := by rfl) : PE X (.Call (.Name "sum" p) [a] [] pos) (tCB (fun vs H Q => ∃ (p : Addr) (ns : List Int), vs = [.ref p] ∧ SqL K H p (ns.map V.int) ∧ Q (.int ns.sum) H) (tCons ta tNil)) := by
  subst h
  exact pe_sum hc hm ha hg hs
end
end L2

namespace Tf
open PySem L2
theorem mk9 {N P : List Str} {sc : Scope} (a : sc.kind = .function := by rfl) (b : sc.isCoroutine = false := by rfl) (c : sc.isGenerator = false := by rfl) (d : N.Nodup := by decide +kernel) (e : N.take P.length = P := by rfl) (f : ∀ x ∈ P, sc.names.lookup x = some .local ∨ sc.names.lookup x = some .cell := by decide +kernel) (g : ∀ y ∈ sc.names, y.2 ≠ .free := by decide +kernel) : FnScope N P sc := ⟨a, b, c, d, e, f, g⟩
theorem sz9 {n : Nat} (h : Nat.ble n 100000 = true := by rfl) : n ≤ sizeLine := sz1000' (Nat.le_of_ble_eq_true h)
theorem gN {pk ps : Addr} {m : Str} (h1 : (m == ("kept" : Str)) = false := by decide +kernel) (h2 : (m == ("stages" : Str)) = false := by decide +kernel) : (gF pk ps).lookup m = none := gF_no pk ps h1 h2
def top (i : Nat) : Stmt := PySem.Challenge.pw_thawfront_k39_whole_warmer.main.body.getD i (.Pass ⟨0, 0, 0, 0⟩)
structure Txt (K : W.Frag) (mg : Str → Option Value) : Prop where
  n_ValueError : mg "ValueError" = none
  n_bool : mg "bool" = none
  n_int : mg "int" = none
  n_isinstance : mg "isinstance" = none
  n_len : mg "len" = none
  n_list : mg "list" = none
  n_max : mg "max" = none
  n_min : mg "min" = none
  n_range : mg "range" = none
  n_reversed : mg "reversed" = none
  n_sorted : mg "sorted" = none
  n_sum : mg "sum" = none
  n_tuple : mg "tuple" = none
  n_zip : mg "zip" = none
  g_MOST_BEDS : ∃ t, mg "MOST_BEDS" = some (.int 30 t)
  g_MOST_LAID : ∃ t, mg "MOST_LAID" = some (.int 20 t)
  g_MOST_NEED : ∃ t, mg "MOST_NEED" = some (.int 200 t)
  g_MOST_AMOUNT : ∃ t, mg "MOST_AMOUNT" = some (.int 1000000 t)
  g_MOST_SEASONS : ∃ t, mg "MOST_SEASONS" = some (.int 12 t)
  g_MOST_TIMES : ∃ t, mg "MOST_TIMES" = some (.int 1000000000000000000 t)
  g_MOST_DEEDS : ∃ t, mg "MOST_DEEDS" = some (.int 300 t)
section
variable {P : Program} {w : World} {K : W.Frag} {mg : Str → Option Value} {base : Heap} {f G : Addr} {fd : FuncData}
abbrev s_check_deed : Stmt := top 23
abbrev N_check_deed : List Str := ["least", "count", "deed"]
abbrev P_check_deed : List Str := ["least", "count", "deed"]
theorem sc_check_deed : FnScope N_check_deed P_check_deed (defScope s_check_deed) := mk9
/-! check_deed -/
def sp_check_deed : Sp := fun vs H Q _ => ∃ (l n m : Int), vs = [.int l, .int n, .int m] ∧ l ≤ m ∧ m ≤ n ∧ Q .non H
theorem ok_check_deed (F : Fun K "check_deed" "check_deed" s_check_deed f fd) (T : Txt K mg) : FnOk P w K mg base CX0 1 f fd P_check_deed sp_check_deed := by
  refine F.ok sc_check_deed (fun vs H Q E h => ?_) (fun cdv A outer s H vs Q E hr h => ?_)
  · obtain ⟨l, n, m, rfl, _⟩ := h
    rfl
  · obtain ⟨l, n, m, rfl, h0, h1, q⟩ := h
    refine ⟨_, (pss_one (ps_if (PW.pt (pw_or (pt_cmpR op_lt (pv 2) (pv 0) (nomark _)) (pw_or1 (pt_cmpR op_gt (pv 2) (pv 1) (nomark _)))))
        (pss_one ps_never)
        pss_nil)), ?_⟩
    refine ⟨_, rfl, _, rfl, _, _, rfl, rfl, _, rfl, ?_⟩
    refine ite2 (fun h => absurd (of_decide_eq_true h) (by omega)) (fun _ => ?_)
    refine ⟨_, rfl, _, rfl, _, _, rfl, rfl, _, rfl, ?_⟩
    refine ite2 (fun h => absurd (of_decide_eq_true h) (by omega)) (fun _ => ?_)
    exact q
abbrev s_check_beds : Stmt := top 24
abbrev N_check_beds : List Str := ["needs"]
abbrev P_check_beds : List Str := ["needs"]
theorem sc_check_beds : FnScope N_check_beds P_check_beds (defScope s_check_beds) := mk9
/-! check_beds -/
def sp_check_beds (K : W.Frag) : Sp := fun vs H Q _ => ∃ (a : Addr) (ns : List Int), vs = [.ref a] ∧ SqL K H a (ns.map V.int) ∧ 1 ≤ ns.length ∧ ns.length ≤ 30 ∧ Q .non H
theorem ok_check_beds (F : Fun K "check_beds" "check_beds" s_check_beds f fd) (T : Txt K mg) : FnOk P w K mg base CX0 1 f fd P_check_beds (sp_check_beds K) := by
  refine F.ok sc_check_beds (fun vs H Q E h => ?_) (fun cdv A outer s H vs Q E hr h => ?_)
  · obtain ⟨a, ns, rfl, _⟩ := h
    rfl
  · obtain ⟨a, ns, rfl, hA, h1, h2, q⟩ := h
    have el : ((ns.map V.int).length : Int) = (ns.length : Int) := by rw [List.length_map]
    refine ⟨_, (pss_one (ps_if (PW.pt (pw_or (pt_cmpR op_lt (pe_len T.n_len (pv 0)) pe_int (nomark _)) (pw_or1 (pt_cmpR op_gt (pe_len T.n_len (pv 0)) (pe_gint T.g_MOST_BEDS) (nomark _)))))
        (pss_one ps_never)
        pss_nil)), ?_⟩
    refine ⟨_, rfl, a, _, rfl, .inl hA, _, _, rfl, rfl, _, rfl, ?_⟩
    refine ite2 (fun h => absurd (of_decide_eq_true h) (by omega)) (fun _ => ?_)
    refine ⟨_, rfl, a, _, rfl, .inl hA, _, _, rfl, rfl, _, rfl, ?_⟩
    refine ite2 (fun h => absurd (of_decide_eq_true h) (by omega)) (fun _ => ?_)
    exact q
abbrev s_check_need : Stmt := top 25
abbrev N_check_need : List Str := ["need"]
abbrev P_check_need : List Str := ["need"]
theorem sc_check_need : FnScope N_check_need P_check_need (defScope s_check_need) := mk9
/-! check_need -/
def sp_check_need : Sp := fun vs H Q _ => ∃ (m : Int), vs = [.int m] ∧ 1 ≤ m ∧ m ≤ 200 ∧ Q .non H
theorem ok_check_need (F : Fun K "check_need" "check_need" s_check_need f fd) (T : Txt K mg) : FnOk P w K mg base CX0 1 f fd P_check_need sp_check_need := by
  refine F.ok sc_check_need (fun vs H Q E h => ?_) (fun cdv A outer s H vs Q E hr h => ?_)
  · obtain ⟨m, rfl, _⟩ := h
    rfl
  · obtain ⟨m, rfl, h0, h1, q⟩ := h
    refine ⟨_, (pss_one (ps_if (PW.pt (pw_or (pt_cmpR op_lt (pv 0) pe_int (nomark _)) (pw_or1 (pt_cmpR op_gt (pv 0) (pe_gint T.g_MOST_NEED) (nomark _)))))
        (pss_one ps_never)
        pss_nil)), ?_⟩
    refine ⟨_, rfl, _, _, rfl, rfl, _, rfl, ?_⟩
    refine ite2 (fun h => absurd (of_decide_eq_true h) (by omega)) (fun _ => ?_)
    refine ⟨_, rfl, _, _, rfl, rfl, _, rfl, ?_⟩
    refine ite2 (fun h => absurd (of_decide_eq_true h) (by omega)) (fun _ => ?_)
    exact q
abbrev s_check_heats : Stmt := top 26
abbrev N_check_heats : List Str := ["needs", "heats", "need", "heat"]
abbrev P_check_heats : List Str := ["needs", "heats"]
theorem sc_check_heats : FnScope N_check_heats P_check_heats (defScope s_check_heats) := mk9
/-! check_heats -/
def sp_check_heats (K : W.Frag) : Sp := fun vs H Q _ => ∃ (a b : Addr) (needs heats : List Int), vs = [.ref a, .ref b] ∧ SqL K H a (needs.map V.int) ∧ SqL K H b (heats.map V.int) ∧ HeatsOk needs heats ∧ needs.length ≤ 1000 ∧ ∀ H', Same H H' → Q .non H'
theorem ok_check_heats (F : Fun K "check_heats" "check_heats" s_check_heats f fd) (T : Txt K mg) : FnOk P w K mg base CX0 1 f fd P_check_heats (sp_check_heats K) := by
  refine F.ok sc_check_heats (fun vs H Q E h => ?_) (fun cdv A outer s H vs Q E hr h => ?_)
  · obtain ⟨a, b, needs, heats, rfl, _⟩ := h
    rfl
  · obtain ⟨a, b, needs, heats, rfl, hA, hB, hO, hn, q⟩ := h
    refine ⟨_, (pss_cons (ps_if (pt_cmpR op_ne (pe_len T.n_len (pv 1)) (pe_len T.n_len (pv 0)) (nomark _))
        (pss_one ps_never)
        pss_nil)
      (pss_one (ps_for PassesOwn.never rfl (pi_zip (by rfl) T.n_zip (pa_cons (pv 0) (pa_cons (pv 1) pa_nil))) (pg_tup (n := 2) (by rfl) (pgs_cons (pg_name (i := 2) sc_check_heats.nd rfl (Or.inl rfl)) (pgs_cons (pg_name (i := 3) sc_check_heats.nd rfl (Or.inl rfl)) pgs_nil)))
        (pss_one (ps_if (PW.pt (pw_or (pt_cmpR op_lt (pv 3) pe_int (nomark _)) (pw_or1 (pt_cmpR op_gt (pv 3) (pv 2) (nomark _)))))
          (pss_one ps_never)
          pss_nil))))), ?_⟩
    refine ⟨_, rfl, b, _, rfl, .inl hB, _, rfl, a, _, rfl, .inl hA, rfl, _, rfl, ?_⟩
    refine iteNS (congrArg V.int (by rw [List.length_map, List.length_map, hO.len])) ?_
    refine ⟨_, rfl, _, rfl, a, b, rfl, ⟨_, hA⟩, ⟨_, hB⟩, ?_⟩
    refine for_zip (xs := needs.map V.int) (ys := heats.map V.int) (by rw [List.length_map, List.length_map, hO.len]) (fun i σ H3 => (∃ v w, σ = [some (.ref a), some (.ref b), v, w]) ∧ Same H H3) ?_ ?_ ?_ ?_
    · exact ⟨⟨none, none, rfl⟩, Same.refl _⟩
    · rintro i σ H3 _ ⟨_, s3⟩
      exact ⟨s3.seq hA, s3.seq hB⟩
    · rintro i x y t σ H3 hx hy ⟨⟨v, w, rfl⟩, s3⟩ ht
      obtain ⟨hi, rfl⟩ := getI_some hx
      obtain ⟨_, rfl⟩ := getI_some hy
      have h1 := hO.lo i hi
      have h2 := hO.hi i hi
      refine ⟨t, _, rfl, SqT.of upd_same, rfl, _, _, rfl, _, _, rfl, rfl, ?_⟩
      refine ⟨_, rfl, _, _, rfl, rfl, _, rfl, ?_⟩
      refine ite2 (fun h => absurd (of_decide_eq_true h) (by omega)) (fun _ => ?_)
      refine ⟨_, rfl, _, rfl, _, _, rfl, rfl, _, rfl, ?_⟩
      refine ite2 (fun h => absurd (of_decide_eq_true h) (by omega)) (fun _ => ?_)
      exact ⟨⟨_, _, rfl⟩, s3.trans (Same.upd ht)⟩
    · rintro σ H3 ⟨_, s3⟩
      exact q _ s3
abbrev s_check_amount : Stmt := top 27
abbrev N_check_amount : List Str := ["amount"]
abbrev P_check_amount : List Str := ["amount"]
theorem sc_check_amount : FnScope N_check_amount P_check_amount (defScope s_check_amount) := mk9
/-! check_amount -/
def sp_check_amount : Sp := fun vs H Q _ => ∃ (m : Int), vs = [.int m] ∧ 0 ≤ m ∧ m ≤ 1000000 ∧ Q .non H
theorem ok_check_amount (F : Fun K "check_amount" "check_amount" s_check_amount f fd) (T : Txt K mg) : FnOk P w K mg base CX0 1 f fd P_check_amount sp_check_amount := by
  refine F.ok sc_check_amount (fun vs H Q E h => ?_) (fun cdv A outer s H vs Q E hr h => ?_)
  · obtain ⟨m, rfl, _⟩ := h
    rfl
  · obtain ⟨m, rfl, h0, h1, q⟩ := h
    refine ⟨_, (pss_one (ps_if (PW.pt (pw_or (pt_cmpR op_lt (pv 0) pe_int (nomark _)) (pw_or1 (pt_cmpR op_gt (pv 0) (pe_gint T.g_MOST_AMOUNT) (nomark _)))))
        (pss_one ps_never)
        pss_nil)), ?_⟩
    refine ⟨_, rfl, _, _, rfl, rfl, _, rfl, ?_⟩
    refine ite2 (fun h => absurd (of_decide_eq_true h) (by omega)) (fun _ => ?_)
    refine ⟨_, rfl, _, _, rfl, rfl, _, rfl, ?_⟩
    refine ite2 (fun h => absurd (of_decide_eq_true h) (by omega)) (fun _ => ?_)
    exact q
abbrev s_check_year : Stmt := top 28
abbrev N_check_year : List Str := ["year", "season"]
abbrev P_check_year : List Str := ["year"]
theorem sc_check_year : FnScope N_check_year P_check_year (defScope s_check_year) := mk9
/-! check_year -/
def sp_check_year (K : W.Frag) : Sp := fun vs H Q _ => ∃ (p : Addr) (ts : List Addr) (ss : List (Bool × Int)), vs = [.ref p] ∧ SqL K H p (ts.map V.ref) ∧ SeasAt H ts ss ∧ (∀ z ∈ ss, 0 ≤ z.2 ∧ z.2 ≤ 1000000) ∧ 1 ≤ ss.length ∧ ss.length ≤ 12 ∧ Q .non H
theorem ok_check_year (F : Fun K "check_year" "check_year" s_check_year f fd) (T : Txt K mg) (o_check_amount : Ok P w K mg base "check_amount" P_check_amount 1 sp_check_amount) : FnOk P w K mg base CX0 2 f fd P_check_year (sp_check_year K) := by
  refine F.ok sc_check_year (fun vs H Q E h => ?_) (fun cdv A outer s H vs Q E hr h => ?_)
  · obtain ⟨p, ts, ss, rfl, _⟩ := h
    rfl
  · obtain ⟨p, ts, ss, rfl, hP, hS, hz, h1, h2, q⟩ := h
    have hl : ((ts.map V.ref).length : Int) = ss.length := by rw [List.length_map, hS.len]
    refine ⟨_, (pss_cons (ps_if (PW.pt (pw_or (pt_cmpR op_lt (pe_len T.n_len (pv 0)) pe_int (nomark _)) (pw_or1 (pt_cmpR op_gt (pe_len T.n_len (pv 0)) (pe_gint T.g_MOST_SEASONS) (nomark _)))))
        (pss_one ps_never)
        pss_nil)
      (pss_one (ps_for PassesOwn.never rfl (pi_list (pv 0)) (pg_name (i := 1) sc_check_year.nd rfl (Or.inl rfl))
        (pss_one (ps_expr (pe_callO o_check_amount hr (pa_cons (pe_ix ix_tup (pv 1) pe_int (fun _ _ => rfl)) pa_nil))))))), ?_⟩
    refine ⟨_, rfl, p, _, rfl, .inl hP, _, _, rfl, rfl, _, rfl, ?_⟩
    refine ite2 (fun h => absurd (of_decide_eq_true h) (by omega)) (fun _ => ?_)
    refine ⟨_, rfl, p, _, rfl, .inl hP, _, _, rfl, rfl, _, rfl, ?_⟩
    refine ite2 (fun h => absurd (of_decide_eq_true h) (by omega)) (fun _ => ?_)
    refine ⟨_, rfl, p, rfl, ⟨_, hP⟩, ?_⟩
    refine for_list (xs := ts.map V.ref) (fun i σ H2 => H2 = H ∧ ∃ (v : Option V), σ = [some (.ref p), v]) ⟨rfl, none, rfl⟩ (fun i σ H2 _ z => z.1 ▸ hP) ?_ ?_
    · rintro i x σ H2 hx ⟨rfl, v, rfl⟩
      obtain ⟨t, z, rfl, hzi, ht⟩ := hS.item hx
      have hzz := hz z (List.mem_of_getElem? hzi)
      exact ⟨_, rfl, t, _, _, _, rfl, rfl, SqT.of ht, rfl, z.2, rfl, hzz.1, hzz.2, rfl, _, rfl⟩
    · rintro σ H2 ⟨rfl, v, rfl⟩
      exact q
abbrev s_check_times : Stmt := top 29
abbrev N_check_times : List Str := ["times"]
abbrev P_check_times : List Str := ["times"]
theorem sc_check_times : FnScope N_check_times P_check_times (defScope s_check_times) := mk9
/-! check_times -/
def sp_check_times : Sp := fun vs H Q _ => ∃ (m : Int), vs = [.int m] ∧ 1 ≤ m ∧ m ≤ 1000000000000000000 ∧ Q .non H
theorem ok_check_times (F : Fun K "check_times" "check_times" s_check_times f fd) (T : Txt K mg) : FnOk P w K mg base CX0 1 f fd P_check_times sp_check_times := by
  refine F.ok sc_check_times (fun vs H Q E h => ?_) (fun cdv A outer s H vs Q E hr h => ?_)
  · obtain ⟨m, rfl, _⟩ := h
    rfl
  · obtain ⟨m, rfl, h0, h1, q⟩ := h
    refine ⟨_, (pss_one (ps_if (PW.pt (pw_or (pt_cmpR op_lt (pv 0) pe_int (nomark _)) (pw_or1 (pt_cmpR op_gt (pv 0) (pe_gint T.g_MOST_TIMES) (nomark _)))))
        (pss_one ps_never)
        pss_nil)), ?_⟩
    refine ⟨_, rfl, _, _, rfl, rfl, _, rfl, ?_⟩
    refine ite2 (fun h => absurd (of_decide_eq_true h) (by omega)) (fun _ => ?_)
    refine ⟨_, rfl, _, _, rfl, rfl, _, rfl, ?_⟩
    refine ite2 (fun h => absurd (of_decide_eq_true h) (by omega)) (fun _ => ?_)
    exact q
abbrev s_check_season : Stmt := top 30
abbrev N_check_season : List Str := ["years", "seasons", "at_year", "season"]
abbrev P_check_season : List Str := ["years", "seasons", "at_year", "season"]
theorem sc_check_season : FnScope N_check_season P_check_season (defScope s_check_season) := mk9
/-! check_season -/
def sp_check_season : Sp := fun vs H Q _ => ∃ (y s m n : Int), vs = [.int y, .int s, .int m, .int n] ∧ 1 ≤ m ∧ m ≤ y ∧ 1 ≤ n ∧ n ≤ s ∧ Q .non H
theorem ok_check_season (F : Fun K "check_season" "check_season" s_check_season f fd) (T : Txt K mg) : FnOk P w K mg base CX0 1 f fd P_check_season sp_check_season := by
  refine F.ok sc_check_season (fun vs H Q E h => ?_) (fun cdv A outer s H vs Q E hr h => ?_)
  · obtain ⟨y, s, m, n, rfl, _⟩ := h
    rfl
  · obtain ⟨y, s, m, n, rfl, h0, h1, h2, h3, q⟩ := h
    refine ⟨_, (pss_cons (ps_if (PW.pt (pw_or (pt_cmpR op_lt (pv 2) pe_int (nomark _)) (pw_or1 (pt_cmpR op_gt (pv 2) (pv 0) (nomark _)))))
        (pss_one ps_never)
        pss_nil)
      (pss_one (ps_if (PW.pt (pw_or (pt_cmpR op_lt (pv 3) pe_int (nomark _)) (pw_or1 (pt_cmpR op_gt (pv 3) (pv 1) (nomark _)))))
        (pss_one ps_never)
        pss_nil))), ?_⟩
    refine ⟨_, rfl, _, _, rfl, rfl, _, rfl, ?_⟩
    refine ite2 (fun h => absurd (of_decide_eq_true h) (by omega)) (fun _ => ?_)
    refine ⟨_, rfl, _, rfl, _, _, rfl, rfl, _, rfl, ?_⟩
    refine ite2 (fun h => absurd (of_decide_eq_true h) (by omega)) (fun _ => ?_)
    refine ⟨_, rfl, _, _, rfl, rfl, _, rfl, ?_⟩
    refine ite2 (fun h => absurd (of_decide_eq_true h) (by omega)) (fun _ => ?_)
    refine ⟨_, rfl, _, rfl, _, _, rfl, rfl, _, rfl, ?_⟩
    refine ite2 (fun h => absurd (of_decide_eq_true h) (by omega)) (fun _ => ?_)
    exact q
abbrev s_check_laid : Stmt := top 31
abbrev N_check_laid : List Str := ["count"]
abbrev P_check_laid : List Str := ["count"]
theorem sc_check_laid : FnScope N_check_laid P_check_laid (defScope s_check_laid) := mk9
/-! check_laid -/
def sp_check_laid : Sp := fun vs H Q _ => ∃ (n : Int), vs = [.int n] ∧ n < 20 ∧ Q .non H
theorem ok_check_laid (F : Fun K "check_laid" "check_laid" s_check_laid f fd) (T : Txt K mg) : FnOk P w K mg base CX0 1 f fd P_check_laid sp_check_laid := by
  refine F.ok sc_check_laid (fun vs H Q E h => ?_) (fun cdv A outer s H vs Q E hr h => ?_)
  · obtain ⟨n, rfl, _⟩ := h
    rfl
  · obtain ⟨n, rfl, h0, q⟩ := h
    refine ⟨_, (pss_one (ps_if (pt_cmpR op_ge (pv 0) (pe_gint T.g_MOST_LAID) (nomark _))
        (pss_one ps_never)
        pss_nil)), ?_⟩
    refine ⟨_, rfl, _, _, rfl, rfl, _, rfl, ?_⟩
    refine ite2 (fun h => absurd (of_decide_eq_true h) (by omega)) (fun _ => ?_)
    exact q
abbrev s_check_room_for_deed : Stmt := top 32
abbrev N_check_room_for_deed : List Str := ["count"]
abbrev P_check_room_for_deed : List Str := ["count"]
theorem sc_check_room_for_deed : FnScope N_check_room_for_deed P_check_room_for_deed (defScope s_check_room_for_deed) := mk9
/-! check_room_for_deed -/
def sp_check_room_for_deed : Sp := fun vs H Q _ => ∃ (n : Int), vs = [.int n] ∧ n < 300 ∧ Q .non H
theorem ok_check_room_for_deed (F : Fun K "check_room_for_deed" "check_room_for_deed" s_check_room_for_deed f fd) (T : Txt K mg) : FnOk P w K mg base CX0 1 f fd P_check_room_for_deed sp_check_room_for_deed := by
  refine F.ok sc_check_room_for_deed (fun vs H Q E h => ?_) (fun cdv A outer s H vs Q E hr h => ?_)
  · obtain ⟨n, rfl, _⟩ := h
    rfl
  · obtain ⟨n, rfl, h0, q⟩ := h
    refine ⟨_, (pss_one (ps_if (pt_cmpR op_ge (pv 0) (pe_gint T.g_MOST_DEEDS) (nomark _))
        (pss_one ps_never)
        pss_nil)), ?_⟩
    refine ⟨_, rfl, _, _, rfl, rfl, _, rfl, ?_⟩
    refine ite2 (fun h => absurd (of_decide_eq_true h) (by omega)) (fun _ => ?_)
    exact q
abbrev s_shared_from_top : Stmt := top 34
abbrev N_shared_from_top : List Str := ["limits", "amount", "shares", "left", "place"]
abbrev P_shared_from_top : List Str := ["limits", "amount"]
theorem sc_shared_from_top : FnScope N_shared_from_top P_shared_from_top (defScope s_shared_from_top) := mk9
/-! shared_from_top -/
def sp_shared_from_top (K : W.Frag) : Sp := fun vs H Q _ => ∃ (a : Addr) (rs : List Int) (m : Int), vs = [.ref a, .int m] ∧ SqL K H a (rs.map V.int) ∧ rs.length ≤ 1000 ∧ 0 ≤ m ∧ (∀ i, i < rs.length → 0 ≤ rs.getD i 0) ∧
  ∀ (H' : Hp) (t p : Addr), Same H H' → H t = none → H p = none → H' t = some (.tup [.ref p, .int (leftAt rs m 0)]) → H' p = some (.lst ((shares rs m).map V.int)) → Q (.ref t) H'
theorem ok_shared_from_top (F : Fun K "shared_from_top" "shared_from_top" s_shared_from_top f fd) (T : Txt K mg) : FnOk P w K mg base CX0 1 f fd P_shared_from_top (sp_shared_from_top K) := by
  refine F.ok sc_shared_from_top (fun vs H Q E h => ?_) (fun cdv A outer s H vs Q E hr h => ?_)
  · obtain ⟨a, rs, m, rfl, _⟩ := h
    rfl
  · obtain ⟨a, rs, m, rfl, hA, hn, hm, hx, q⟩ := h
    refine ⟨_, (pss_cons (ps_set (i := 2) sc_shared_from_top.nd rfl (Or.inl rfl) (pe_list T.n_list (pv 0)))
      (pss_cons (ps_set (i := 3) sc_shared_from_top.nd rfl (Or.inl rfl) (pv 1))
      (pss_cons (ps_for PassesOwn.never rfl (pi_rangeD (by rfl) T.n_range (pa_cons (pe_op op_sub (pe_len T.n_len (pv 0)) pe_int) (pa_cons (pe_un un_neg pe_int) (pa_cons (pe_un un_neg pe_int) pa_nil)))) (pg_name (i := 4) sc_shared_from_top.nd rfl (Or.inl rfl))
        (pss_cons (ps_asg (pe_min (by rfl) T.n_min (pv 3) (pe_ix ix_list (pv 0) (pv 4) (fun _ _ => rfl))) (pg_sub (pv 2) (pv 4) set_list))
        (pss_one (ps_set (i := 3) sc_shared_from_top.nd rfl (Or.inl rfl) (pe_op op_sub (pv 3) (pe_ix ix_list (pv 2) (pv 4) (fun _ _ => rfl)))))))
      (pss_one (ps_ret (pe_tup (pa_cons (pv 2) (pa_cons (pv 3) pa_nil)))))))), ?_⟩
    refine ⟨_, rfl, a, _, rfl, .inl hA, fun p hp => ?_⟩
    refine ⟨_, rfl, _, rfl, a, _, rfl, .inl (hA.upd hp), _, _, rfl, rfl, _, rfl, _, rfl, _, _, rfl, by rw [List.length_map]; omega, ?_⟩
    refine for_rangeD (fun i σ H2 => (∃ v, σ = [some (.ref a), some (.int m), some (.ref p), some (.int (leftAt rs m (rs.length - i))), v]) ∧ H2 = upd H p (.lst (((List.range rs.length).map fun j => if j < rs.length - i then rs.getD j 0 else shareAt rs m j).map V.int))) ?_ ?_ ?_
    · refine ⟨⟨none, by rw [Nat.sub_zero, leftAt_top (Nat.le_refl _) hm]; rfl⟩, ?_⟩
      rw [Nat.sub_zero, range_congr (g := fun j => rs.getD j 0) fun i hi => if_pos hi, ← list_range rs]
    · rintro i σ H2 hi ⟨⟨v, rfl⟩, rfl⟩
      have hi' : i < rs.length := by rw [List.length_map] at hi; omega
      have e0 : ((rs.map V.int).length : Int) - 1 - (i : Int) = ((rs.length - i - 1 : Nat) : Int) := by rw [List.length_map]; omega
      rw [e0]
      generalize hk : rs.length - i - 1 = k at *
      have hk1 : rs.length - i = k + 1 := by omega
      have hkn : k < rs.length := by omega
      rw [hk1]
      refine ⟨_, rfl, _, rfl, _, rfl, a, _, _, _, rfl, rfl, hA.upd hp, atI_int hkn, _, _, rfl, ?_⟩
      have es : (if rs.getD k 0 < leftAt rs m (k + 1) then rs.getD k 0 else leftAt rs m (k + 1)) = shareAt rs m k := by unfold shareAt; split <;> omega
      rw [es]
      refine ⟨_, rfl, _, rfl, p, _, _, k, rfl, rfl, upd_same, ?_, ?_⟩
      · unfold ixN
        rw [if_pos (by omega), if_pos (by simp; omega), Int.toNat_natCast]
      rw [setI, set_range, upd_upd]
      have ef : (List.range rs.length).map (fun j => if j = k then shareAt rs m k else if j < k + 1 then rs.getD j 0 else shareAt rs m j) = (List.range rs.length).map (fun j => if j < k then rs.getD j 0 else shareAt rs m j) := by
        refine range_congr fun j _ => ?_
        by_cases h : j = k
        · rw [if_pos h, if_neg (by omega), h]
        · by_cases h' : j < k
          · rw [if_neg h, if_pos (by omega), if_pos h']
          · rw [if_neg h, if_neg (by omega), if_neg h']
      rw [ef]
      refine ⟨_, rfl, _, rfl, _, rfl, p, _, _, _, rfl, rfl, SqL.of upd_same, atI_int (by simpa using hkn), _, _, rfl, rfl, ⟨some (.int ((k : Nat) : Int)), ?_⟩, ?_⟩
      · rw [getD_rangeMap hkn, if_neg (by omega), leftAt_step hkn (hx k hkn)]
        rfl
      · rfl
    · rintro σ H2 ⟨⟨v, rfl⟩, e2⟩
      have en : (((rs.map V.int).length : Int) - 1 - -1).toNat = rs.length := by rw [List.length_map]; omega
      rw [en, Nat.sub_self] at e2 ⊢
      have ef : (List.range rs.length).map (fun j => if j < 0 then rs.getD j 0 else shareAt rs m j) = shares rs m := range_congr fun j _ => if_neg (by omega)
      rw [ef] at e2
      refine ⟨_, rfl, _, rfl, sz9, fun t ft => ?_⟩
      have s2 : Same H H2 := by rw [e2]; exact Same.upd hp
      have h2 : H2 p = some (.lst ((shares rs m).map V.int)) := by rw [e2]; exact upd_same
      exact q _ t p (s2.trans (Same.upd ft)) (s2.free ft) hp upd_same (by rw [upd_ne (ne_of_none h2 ft)]; exact h2)
abbrev s_warmed : Stmt := top 35
abbrev N_warmed : List Str := ["needs", "heats", "amount", "rooms", "shared"]
abbrev P_warmed : List Str := ["needs", "heats", "amount"]
theorem sc_warmed : FnScope N_warmed P_warmed (defScope s_warmed) := mk9
/-! warmed -/
def sp_warmed (K : W.Frag) : Sp := fun vs H Q _ => ∃ (a b : Addr) (needs heats : List Int) (m : Int), vs = [.ref a, .ref b, .int m] ∧ SqL K H a (needs.map V.int) ∧ SqL K H b (heats.map V.int) ∧ heats.length = needs.length ∧ needs.length ≤ 1000 ∧
  (∀ i, i < needs.length → heats.getD i 0 ≤ needs.getD i 0) ∧ 0 ≤ m ∧ m ≤ 1000000 ∧
  ∀ (H' : Hp) (t p : Addr), Same H H' → H t = none → H p = none → H' t = some (.tup [.ref p, .int (leftAt (rooms needs heats) m 0)]) → H' p = some (.lst ((warmL needs heats m).map V.int)) → Q (.ref t) H'
theorem ok_warmed (F : Fun K "warmed" "warmed" s_warmed f fd) (T : Txt K mg) (o_check_amount : Ok P w K mg base "check_amount" P_check_amount 1 sp_check_amount) (o_shared_from_top : Ok P w K mg base "shared_from_top" P_shared_from_top 1 (sp_shared_from_top K)) : FnOk P w K mg base CX0 2 f fd P_warmed (sp_warmed K) := by
  refine F.ok sc_warmed (fun vs H Q E h => ?_) (fun cdv A outer s H vs Q E hr h => ?_)
  · obtain ⟨a, b, needs, heats, m, rfl, _⟩ := h
    rfl
  · obtain ⟨a, b, needs, heats, m, rfl, hA, hB, hl, hn, hx, h0, h1, q⟩ := h
    refine ⟨_, (pss_cons (ps_expr (pe_callO o_check_amount hr (pa_cons (pv 2) pa_nil)))
      (pss_cons (ps_setC (i := 3) rfl sc_warmed.nd rfl rfl (CompScope.of (T := ["need", "heat"]) (js := []) (defScope s_warmed).names N_warmed rfl rfl rfl (by decide +kernel)) (pi_zip (by rfl) T.n_zip (pa_cons (pv 0) (pa_cons (pv 1) pa_nil))) (fun _ _ _ _ => ⟨(pg_tupK K (n := 2) (by rfl) (pgs_cons (pg_name (i := 0) (by show List.Nodup (["need", "heat"] : List Str); decide +kernel) rfl (Or.inl rfl)) (pgs_cons (pg_name (i := 1) (by show List.Nodup (["need", "heat"] : List Str); decide +kernel) rfl (Or.inl rfl)) pgs_nil))), pif_nil, (pe_op op_sub (pv 0) (pv 1))⟩))
      (pss_cons (ps_set (i := 4) sc_warmed.nd rfl (Or.inl rfl) (pe_callO o_shared_from_top hr (pa_cons (pv 3) (pa_cons (pv 2) pa_nil))))
      (pss_one (ps_ret (pe_tup (pa_cons (pe_comp rfl (CompScope.of (T := ["heat", "share"]) (js := []) (defScope s_warmed).names N_warmed rfl rfl rfl (by decide +kernel)) (pi_zip (by rfl) T.n_zip (pa_cons (pv 1) (pa_cons (pe_ix ix_tup (pv 4) pe_int (fun _ _ => rfl)) pa_nil))) (fun _ _ _ _ => ⟨(pg_tupK K (n := 2) (by rfl) (pgs_cons (pg_name (i := 0) (by show List.Nodup (["heat", "share"] : List Str); decide +kernel) rfl (Or.inl rfl)) (pgs_cons (pg_name (i := 1) (by show List.Nodup (["heat", "share"] : List Str); decide +kernel) rfl (Or.inl rfl)) pgs_nil))), pif_nil, (pe_op op_add (pv 0) (pv 1))⟩)) (pa_cons (pe_ix ix_tup (pv 4) pe_int (fun _ _ => rfl)) pa_nil)))))))), ?_⟩
    refine ⟨_, rfl, m, rfl, h0, h1, ?_⟩
    refine ⟨_, rfl, _, rfl, a, b, rfl, ⟨_, hA⟩, ⟨_, hB⟩, fun pr fpr => ?_⟩
    refine comp_zip_ints (fun n h => n - h) hl.symm hn hA hB fpr (fun x y H Q' q => ⟨_, rfl, _, rfl, _, _, rfl, rfl, q⟩) fun H1 s1 h1r => ?_
    have hr0 : ∀ i, i < (rooms needs heats).length → 0 ≤ (rooms needs heats).getD i 0 := fun i hi => by
      rw [rooms_len hl] at hi
      rw [rooms_at hl hi]
      have := hx i hi
      omega
    refine ⟨_, rfl, _, rfl, pr, rooms needs heats, m, rfl, SqL.of h1r, by rw [rooms_len hl]; exact hn, h0, hr0, fun H2 t ps s2 ft fps ht hps => ?_⟩
    refine ⟨_, rfl, _, rfl, t, _, _, _, rfl, rfl, SqT.of ht, rfl, b, ps, rfl, ⟨_, (s1.trans s2).seq hB⟩, ⟨_, SqL.of hps⟩, fun pw fpw => ?_⟩
    refine comp_zip_ints (fun h s => h + s) (by rw [shares_len, rooms_len hl, hl]) (by omega) ((s1.trans s2).seq hB) (SqL.of hps) fpw (fun x y H Q' q => ⟨_, rfl, _, rfl, _, _, rfl, rfl, q⟩) fun H3 s3 h3w => ?_
    refine ⟨_, rfl, t, _, _, _, rfl, rfl, SqT.of (s3 _ _ ht), rfl, sz9, fun t' ft' => ?_⟩
    have s4 : Same H H3 := (s1.trans s2).trans s3
    exact q _ t' pw (s4.trans (Same.upd ft')) (s4.free ft') ((s1.trans s2).free fpw) upd_same (by rw [upd_ne (ne_of_none h3w ft')]; exact h3w)
abbrev s_chilled : Stmt := top 36
abbrev N_chilled : List Str := ["needs", "heats", "amount", "shared"]
abbrev P_chilled : List Str := ["needs", "heats", "amount"]
theorem sc_chilled : FnScope N_chilled P_chilled (defScope s_chilled) := mk9
/-! chilled -/
def sp_chilled (K : W.Frag) : Sp := fun vs H Q _ => ∃ (x : V) (b : Addr) (heats : List Int) (m : Int), vs = [x, .ref b, .int m] ∧ SqL K H b (heats.map V.int) ∧ heats.length ≤ 1000 ∧
  (∀ i, i < heats.length → 0 ≤ heats.getD i 0) ∧ 0 ≤ m ∧ m ≤ 1000000 ∧
  ∀ (H' : Hp) (t p : Addr), Same H H' → H t = none → H p = none → H' t = some (.tup [.ref p, .int (leftAt heats m 0)]) → H' p = some (.lst ((coldL heats m).map V.int)) → Q (.ref t) H'
theorem ok_chilled (F : Fun K "chilled" "chilled" s_chilled f fd) (T : Txt K mg) (o_check_amount : Ok P w K mg base "check_amount" P_check_amount 1 sp_check_amount) (o_shared_from_top : Ok P w K mg base "shared_from_top" P_shared_from_top 1 (sp_shared_from_top K)) : FnOk P w K mg base CX0 2 f fd P_chilled (sp_chilled K) := by
  refine F.ok sc_chilled (fun vs H Q E h => ?_) (fun cdv A outer s H vs Q E hr h => ?_)
  · obtain ⟨x, b, heats, m, rfl, _⟩ := h
    rfl
  · obtain ⟨x, b, heats, m, rfl, hB, hn, hx, h0, h1, q⟩ := h
    refine ⟨_, (pss_cons (ps_expr (pe_callO o_check_amount hr (pa_cons (pv 2) pa_nil)))
      (pss_cons (ps_set (i := 3) sc_chilled.nd rfl (Or.inl rfl) (pe_callO o_shared_from_top hr (pa_cons (pv 1) (pa_cons (pv 2) pa_nil))))
      (pss_one (ps_ret (pe_tup (pa_cons (pe_comp rfl (CompScope.of (T := ["heat", "share"]) (js := []) (defScope s_chilled).names N_chilled rfl rfl rfl (by decide +kernel)) (pi_zip (by rfl) T.n_zip (pa_cons (pv 1) (pa_cons (pe_ix ix_tup (pv 3) pe_int (fun _ _ => rfl)) pa_nil))) (fun _ _ _ _ => ⟨(pg_tupK K (n := 2) (by rfl) (pgs_cons (pg_name (i := 0) (by show List.Nodup (["heat", "share"] : List Str); decide +kernel) rfl (Or.inl rfl)) (pgs_cons (pg_name (i := 1) (by show List.Nodup (["heat", "share"] : List Str); decide +kernel) rfl (Or.inl rfl)) pgs_nil))), pif_nil, (pe_op op_sub (pv 0) (pv 1))⟩)) (pa_cons (pe_ix ix_tup (pv 3) pe_int (fun _ _ => rfl)) pa_nil))))))), ?_⟩
    refine ⟨_, rfl, m, rfl, h0, h1, ?_⟩
    refine ⟨_, rfl, _, rfl, b, heats, m, rfl, hB, hn, h0, hx, fun H2 t ps s2 ft fps ht hps => ?_⟩
    refine ⟨_, rfl, _, rfl, t, _, _, _, rfl, rfl, SqT.of ht, rfl, b, ps, rfl, ⟨_, s2.seq hB⟩, ⟨_, SqL.of hps⟩, fun pw fpw => ?_⟩
    refine comp_zip_ints (fun h s => h - s) (by rw [shares_len]) hn (s2.seq hB) (SqL.of hps) fpw (fun x y H Q' q => ⟨_, rfl, _, rfl, _, _, rfl, rfl, q⟩) fun H3 s3 h3w => ?_
    refine ⟨_, rfl, t, _, _, _, rfl, rfl, SqT.of (s3 _ _ ht), rfl, sz9, fun t' ft' => ?_⟩
    have s4 : Same H H3 := s2.trans s3
    exact q _ t' pw (s4.trans (Same.upd ft')) (s4.free ft') (s2.free fpw) upd_same (by rw [upd_ne (ne_of_none h3w ft')]; exact h3w)
abbrev s_passed : Stmt := top 37
abbrev N_passed : List Str := ["needs", "heats", "seasons", "now", "no_room", "no_heat", "kind", "amount", "behind"]
abbrev P_passed : List Str := ["needs", "heats", "seasons"]
theorem sc_passed : FnScope N_passed P_passed (defScope s_passed) := mk9
/-! passed -/
def sp_passed (K : W.Frag) : Sp := fun vs H Q _ => ∃ (a b c : Addr) (needs heats : List Int) (ts : List Addr) (ss : List (Bool × Int)), vs = [.ref a, .ref b, .ref c] ∧ SqL K H a (needs.map V.int) ∧ SqL K H b (heats.map V.int) ∧ SqL K H c (ts.map V.ref) ∧ SeasAt H ts ss ∧
  HeatsOk needs heats ∧ needs.length ≤ 1000 ∧ (∀ z ∈ ss, 0 ≤ z.2 ∧ z.2 ≤ 1000000) ∧
  ∀ (H' : Hp) (t p : Addr), Same H H' → H t = none → H p = none → H' t = some (.tup [.ref p, .int (passL needs heats ss).room, .int (passL needs heats ss).heat]) → H' p = some (.lst ((passL needs heats ss).heats.map V.int)) → Q (.ref t) H'
theorem ok_passed (F : Fun K "passed" "passed" s_passed f fd) (T : Txt K mg) (o_warmed : Ok P w K mg base "warmed" P_warmed 2 (sp_warmed K)) (o_chilled : Ok P w K mg base "chilled" P_chilled 2 (sp_chilled K)) : FnOk P w K mg base CX0 3 f fd P_passed (sp_passed K) := by
  refine F.ok sc_passed (fun vs H Q E h => ?_) (fun cdv A outer s H vs Q E hr h => ?_)
  · obtain ⟨a, b, c, needs, heats, ts, ss, rfl, _⟩ := h
    rfl
  · obtain ⟨a, b, c, needs, heats, ts, ss, rfl, hA, hB, hC, hS, hO, hn, hz, q⟩ := h
    refine ⟨_, (pss_cons (ps_set (i := 3) sc_passed.nd rfl (Or.inl rfl) (pe_list T.n_list (pv 1)))
      (pss_cons (ps_set (i := 4) sc_passed.nd rfl (Or.inl rfl) pe_int)
      (pss_cons (ps_set (i := 5) sc_passed.nd rfl (Or.inl rfl) pe_int)
      (pss_cons (ps_for PassesOwn.never rfl (pi_list (pv 2)) (pg_tup (n := 2) (by rfl) (pgs_cons (pg_name (i := 6) sc_passed.nd rfl (Or.inl rfl)) (pgs_cons (pg_name (i := 7) sc_passed.nd rfl (Or.inl rfl)) pgs_nil)))
        (pss_cons (ps_if (pt_cmpR op_eq (pv 6) pe_str (nomark _))
          (pss_cons (ps_set (i := 8) sc_passed.nd rfl (Or.inl rfl) (pe_callO o_warmed hr (pa_cons (pv 0) (pa_cons (pv 3) (pa_cons (pv 7) pa_nil)))))
          (pss_one (ps_set (i := 4) sc_passed.nd rfl (Or.inl rfl) (pe_op op_add (pv 4) (pe_ix ix_tup (pv 8) pe_int (fun _ _ => rfl))))))
          (pss_cons (ps_set (i := 8) sc_passed.nd rfl (Or.inl rfl) (pe_callO o_chilled hr (pa_cons (pv 0) (pa_cons (pv 3) (pa_cons (pv 7) pa_nil)))))
          (pss_one (ps_set (i := 5) sc_passed.nd rfl (Or.inl rfl) (pe_op op_add (pv 5) (pe_ix ix_tup (pv 8) pe_int (fun _ _ => rfl)))))))
        (pss_one (ps_set (i := 3) sc_passed.nd rfl (Or.inl rfl) (pe_ix ix_tup (pv 8) pe_int (fun _ _ => rfl))))))
      (pss_one (ps_ret (pe_tup (pa_cons (pv 3) (pa_cons (pv 4) (pa_cons (pv 5) pa_nil)))))))))), ?_⟩
    refine ⟨_, rfl, b, _, rfl, .inl hB, fun p0 f0 => ?_⟩
    refine ⟨_, rfl, c, rfl, ⟨_, hC.upd f0⟩, ?_⟩
    refine for_list (xs := ts.map V.ref) (fun i σ H2 => ∃ (p : Addr) (v6 v7 v8 : Option V), σ = [some (.ref a), some (.ref b), some (.ref c), some (.ref p), some (.int (passL needs heats (ss.take i)).room), some (.int (passL needs heats (ss.take i)).heat), v6, v7, v8] ∧
      Same H H2 ∧ H p = none ∧ H2 p = some (.lst ((passL needs heats (ss.take i)).heats.map V.int))) ?_ ?_ ?_ ?_
    · exact ⟨p0, none, none, none, by rw [List.take_zero]; rfl, Same.upd f0, f0, by rw [List.take_zero]; exact upd_same⟩
    · rintro i σ H2 _ ⟨_, _, _, _, _, s2, _⟩
      exact s2.seq hC
    · rintro i x σ H2 hx ⟨p, v6, v7, v8, rfl, s2, fp, h2p⟩
      rw [List.getElem?_map] at hx
      cases et : ts[i]? with
      | none => rw [et] at hx; cases hx
      | some t =>
        rw [et] at hx
        obtain rfl : V.ref t = x := Option.some.inj hx
        have hi : i < ss.length := by rw [← hS.len]; exact (List.getElem?_eq_some_iff.mp et).1
        have ez : ss[i]? = some ss[i] := List.getElem?_eq_getElem hi
        generalize ss[i] = z at ez
        obtain ⟨t', e1, e2⟩ := hS.at' i z ez
        rw [et] at e1
        cases e1
        have hzz := hz z (List.mem_of_getElem? ez)
        have hOk := passL_ok hO (ss.take i)
        have hst : passL needs heats (ss.take (i + 1)) = stepS needs (passL needs heats (ss.take i)) z := by rw [take_snoc ez, passL_snoc]
        generalize passL needs heats (ss.take i) = R at *
        refine ⟨t, _, rfl, SqT.of (s2 _ _ e2), rfl, _, _, rfl, _, _, rfl, rfl, ?_⟩
        refine ⟨_, rfl, rfl, _, rfl, ?_⟩
        rw [kind_warm]
        refine ite2 (fun hb => ?_) (fun hb => ?_)
        · refine ⟨_, rfl, _, rfl, _, rfl, a, p, needs, R.heats, z.2, rfl, s2.seq hA, SqL.of h2p, hOk.len, hn, hOk.hi, hzz.1, hzz.2, fun H3 t3 p3 s3 ft3 fp3 ht3 hp3 => ?_⟩
          refine ⟨_, rfl, _, rfl, t3, _, _, _, rfl, rfl, SqT.of ht3, rfl, _, _, rfl, rfl, ?_⟩
          refine ⟨_, rfl, t3, _, _, _, rfl, rfl, SqT.of ht3, rfl, p3, some (.str (kindS z.1)), some (.int z.2), some (.ref t3), ?_, s2.trans s3, s2.free fp3, ?_⟩
          · rw [hst]
            unfold stepS seasLeft
            rw [if_pos hb, if_pos hb, if_pos hb]
            rfl
          · rw [hst, hp3]
            unfold stepS seasL
            rw [if_pos hb]
        · refine ⟨_, rfl, _, rfl, _, rfl, _, p, R.heats, z.2, rfl, SqL.of h2p, by rw [hOk.len]; exact hn, fun i hi => hOk.lo i (by rw [← hOk.len]; exact hi), hzz.1, hzz.2, fun H3 t3 p3 s3 ft3 fp3 ht3 hp3 => ?_⟩
          refine ⟨_, rfl, _, rfl, t3, _, _, _, rfl, rfl, SqT.of ht3, rfl, _, _, rfl, rfl, ?_⟩
          refine ⟨_, rfl, t3, _, _, _, rfl, rfl, SqT.of ht3, rfl, p3, some (.str (kindS z.1)), some (.int z.2), some (.ref t3), ?_, s2.trans s3, s2.free fp3, ?_⟩
          · rw [hst]
            unfold stepS seasLeft
            rw [if_neg hb, if_neg hb, if_neg hb]
            rfl
          · rw [hst, hp3]
            unfold stepS seasL
            rw [if_neg hb]
    · rintro σ H2 ⟨p, v6, v7, v8, rfl, s2, fp, h2p⟩
      have el : ss.take (ts.map V.ref).length = ss := List.take_of_length_le (by rw [List.length_map, hS.len]; exact Nat.le_refl _)
      rw [el] at h2p ⊢
      refine ⟨_, rfl, _, rfl, _, rfl, sz9, fun t ft => ?_⟩
      exact q _ t p (s2.trans (Same.upd ft)) (s2.free ft) fp upd_same (by rw [upd_ne (ne_of_none h2p ft)]; exact h2p)
abbrev s_still : Stmt := top 39
abbrev N_still : List Str := ["full"]
abbrev P_still : List Str := ["full"]
theorem sc_still : FnScope N_still P_still (defScope s_still) := mk9
/-! still -/
def sp_still : Sp := fun vs H Q _ => ∃ (full : Int), vs = [.int full] ∧ ∀ (H' : Hp) (t : Addr), Same H H' → H t = none → H' t = some (.tup [.int 0, .int 0, .int full]) → Q (.ref t) H'
theorem ok_still (F : Fun K "still" "still" s_still f fd) (T : Txt K mg) : FnOk P w K mg base CX0 1 f fd P_still sp_still := by
  refine F.ok sc_still (fun vs H Q E h => ?_) (fun cdv A outer s H vs Q E hr h => ?_)
  · obtain ⟨full, rfl, _⟩ := h
    rfl
  · obtain ⟨full, rfl, q⟩ := h
    refine ⟨_, (pss_one (ps_ret (pe_tup (pa_cons pe_int (pa_cons pe_int (pa_cons (pv 0) pa_nil)))))), ?_⟩
    exact ⟨_, rfl, sz9, fun t ht => q _ t (Same.upd ht) ht upd_same⟩
abbrev s_applied : Stmt := top 40
abbrev N_applied : List Str := ["rule", "heat", "behind"]
abbrev P_applied : List Str := ["rule", "heat"]
theorem sc_applied : FnScope N_applied P_applied (defScope s_applied) := mk9
/-! applied -/
def sp_applied (K : W.Frag) : Sp := fun vs H Q _ => ∃ (r : Addr) (d l m x : Int), vs = [.ref r, .int x] ∧ SqT K H r [.int d, .int l, .int m] ∧ l ≤ m ∧ ∀ H', Same H H' → Q (.int (clampI (x + d) l m)) H'
theorem ok_applied (F : Fun K "applied" "applied" s_applied f fd) (T : Txt K mg) : FnOk P w K mg base CX0 1 f fd P_applied (sp_applied K) := by
  refine F.ok sc_applied (fun vs H Q E h => ?_) (fun cdv A outer s H vs Q E hr h => ?_)
  · obtain ⟨r, d, l, m, x, rfl, _⟩ := h
    rfl
  · obtain ⟨r, d, l, m, x, rfl, hr', hlm, q⟩ := h
    have q := q H (Same.refl H)
    refine ⟨_, (pss_cons (ps_set (i := 2) sc_applied.nd rfl (Or.inl rfl) (pe_op op_add (pv 1) (pe_ix ix_tup (pv 0) pe_int (fun _ _ => rfl))))
      (pss_cons (ps_if (pt_cmpR op_lt (pv 2) (pe_ix ix_tup (pv 0) pe_int (fun _ _ => rfl)) (nomark _))
        (pss_one (ps_ret (pe_ix ix_tup (pv 0) pe_int (fun _ _ => rfl))))
        pss_nil)
      (pss_cons (ps_if (pt_cmpR op_gt (pv 2) (pe_ix ix_tup (pv 0) pe_int (fun _ _ => rfl)) (nomark _))
        (pss_one (ps_ret (pe_ix ix_tup (pv 0) pe_int (fun _ _ => rfl))))
        pss_nil)
      (pss_one (ps_ret (pv 2)))))), ?_⟩
    refine ⟨_, rfl, _, rfl, r, _, _, _, rfl, rfl, hr', rfl, _, _, rfl, rfl, ?_⟩
    refine ⟨_, rfl, _, rfl, r, _, _, _, rfl, rfl, hr', rfl, _, _, rfl, rfl, _, rfl, ?_⟩
    refine ite2 (fun h => ?_) (fun h => ?_)
    · have h := of_decide_eq_true h
      have e : clampI (x + d) l m = l := by unfold clampI; (repeat' split) <;> omega
      rw [e] at q
      exact ⟨_, rfl, r, _, _, _, rfl, rfl, hr', rfl, q⟩
    · have h : ¬ (x + d < l) := fun c => h (decide_eq_true c)
      refine ⟨_, rfl, _, rfl, r, _, _, _, rfl, rfl, hr', rfl, _, _, rfl, rfl, _, rfl, ?_⟩
      refine ite2 (fun h2 => ?_) (fun h2 => ?_)
      · have h2 := of_decide_eq_true h2
        have e : clampI (x + d) l m = m := by unfold clampI; (repeat' split) <;> omega
        rw [e] at q
        exact ⟨_, rfl, r, _, _, _, rfl, rfl, hr', rfl, q⟩
      · have h2 : ¬ (m < x + d) := fun c => h2 (decide_eq_true c)
        have e : clampI (x + d) l m = x + d := by unfold clampI; (repeat' split) <;> omega
        rw [e] at q
        exact ⟨_, rfl, q⟩
abbrev s_joined : Stmt := top 41
abbrev N_joined : List Str := ["first", "second"]
abbrev P_joined : List Str := ["first", "second"]
theorem sc_joined : FnScope N_joined P_joined (defScope s_joined) := mk9
/-! joined -/
def sp_joined (K : W.Frag) : Sp := fun vs H Q _ => ∃ (r1 r2 : Addr) (d1 l1 m1 d2 l2 m2 : Int), vs = [.ref r1, .ref r2] ∧ SqT K H r1 [.int d1, .int l1, .int m1] ∧ SqT K H r2 [.int d2, .int l2, .int m2] ∧ l1 ≤ m1 ∧ l2 ≤ m2 ∧
  ∀ (H' : Hp) (t : Addr), Same H H' → H t = none → H' t = some (.tup [.int (d1 + d2), .int (clampI (l1 + d2) l2 m2), .int (clampI (m1 + d2) l2 m2)]) → Q (.ref t) H'
theorem ok_joined (F : Fun K "joined" "joined" s_joined f fd) (T : Txt K mg) (o_applied : Ok P w K mg base "applied" P_applied 1 (sp_applied K)) : FnOk P w K mg base CX0 2 f fd P_joined (sp_joined K) := by
  refine F.ok sc_joined (fun vs H Q E h => ?_) (fun cdv A outer s H vs Q E hr h => ?_)
  · obtain ⟨r1, r2, d1, l1, m1, d2, l2, m2, rfl, _⟩ := h
    rfl
  · obtain ⟨r1, r2, d1, l1, m1, d2, l2, m2, rfl, hA, hB, h1, h2, q⟩ := h
    refine ⟨_, (pss_one (ps_ret (pe_tup (pa_cons (pe_op op_add (pe_ix ix_tup (pv 0) pe_int (fun _ _ => rfl)) (pe_ix ix_tup (pv 1) pe_int (fun _ _ => rfl))) (pa_cons (pe_callO o_applied hr (pa_cons (pv 1) (pa_cons (pe_ix ix_tup (pv 0) pe_int (fun _ _ => rfl)) pa_nil))) (pa_cons (pe_callO o_applied hr (pa_cons (pv 1) (pa_cons (pe_ix ix_tup (pv 0) pe_int (fun _ _ => rfl)) pa_nil))) pa_nil)))))), ?_⟩
    refine ⟨_, rfl, r1, _, _, _, rfl, rfl, hA, rfl, _, rfl, r2, _, _, _, rfl, rfl, hB, rfl, _, _, rfl, rfl, ?_⟩
    refine ⟨_, rfl, _, rfl, r1, _, _, _, rfl, rfl, hA, rfl, r2, d2, l2, m2, l1, rfl, hB, h2, fun H1 s1 => ?_⟩
    refine ⟨_, rfl, _, rfl, r1, _, _, _, rfl, rfl, s1.tup hA, rfl, r2, d2, l2, m2, m1, rfl, s1.tup hB, h2, fun H2 s2 => ?_⟩
    refine ⟨sz9, fun t ht => ?_⟩
    exact q _ t ((s1.trans s2).trans (Same.upd ht)) (none_of (s1.trans s2) ht) upd_same
abbrev s_repeated : Stmt := top 42
abbrev N_repeated : List Str := ["rule", "times", "so_far", "doubled", "left"]
abbrev P_repeated : List Str := ["rule", "times"]
theorem sc_repeated : FnScope N_repeated P_repeated (defScope s_repeated) := mk9
/-! repeated -/
def sp_repeated (K : W.Frag) : Sp := fun vs H Q _ => ∃ (r : Addr) (R : Rl) (n : Nat), vs = [.ref r, .int ((n : Int) + 1)] ∧ H r = some (.tup R.vs) ∧ R.Ok ∧ (n : Int) + 1 ≤ 1000000000000000000 ∧
  ∀ (H' : Hp) (t : Addr), Same H H' → H' t = some (.tup (R.rep n).vs) → Q (.ref t) H'
theorem ok_repeated (F : Fun K "repeated" "repeated" s_repeated f fd) (T : Txt K mg) (o_check_times : Ok P w K mg base "check_times" P_check_times 1 sp_check_times) (o_joined : Ok P w K mg base "joined" P_joined 2 (sp_joined K)) : FnOk P w K mg base CX0 3 f fd P_repeated (sp_repeated K) := by
  refine F.ok sc_repeated (fun vs H Q E h => ?_) (fun cdv A outer s H vs Q E hr h => ?_)
  · obtain ⟨r, R, n, rfl, _⟩ := h
    rfl
  · obtain ⟨r, R, n, rfl, hR, ho, hn, q⟩ := h
    refine ⟨_, (pss_cons (ps_expr (pe_callO o_check_times hr (pa_cons (pv 1) pa_nil)))
      (pss_cons (ps_set (i := 2) sc_repeated.nd rfl (Or.inl rfl) (pv 0))
      (pss_cons (ps_set (i := 3) sc_repeated.nd rfl (Or.inl rfl) (pv 0))
      (pss_cons (ps_set (i := 4) sc_repeated.nd rfl (Or.inl rfl) (pe_op op_sub (pv 1) pe_int))
      (pss_cons (ps_while PassesOwn.never (pt_cmpR op_gt (pv 4) pe_int (nomark _))
        (pss_cons (ps_if (pt_cmpR op_eq (pe_op op_mod (pv 4) pe_int) pe_int (nomark _))
          (pss_one (ps_set (i := 2) sc_repeated.nd rfl (Or.inl rfl) (pe_callO o_joined hr (pa_cons (pv 2) (pa_cons (pv 3) pa_nil)))))
          pss_nil)
        (pss_cons (ps_set (i := 3) sc_repeated.nd rfl (Or.inl rfl) (pe_callO o_joined hr (pa_cons (pv 3) (pa_cons (pv 3) pa_nil))))
        (pss_one (ps_set (i := 4) sc_repeated.nd rfl (Or.inl rfl) (pe_op op_fdiv (pv 4) pe_int))))))
      (pss_one (ps_ret (pv 2)))))))), ?_⟩
    refine ⟨_, rfl, _, rfl, by omega, hn, ?_⟩
    refine ⟨_, rfl, ?_⟩
    refine ⟨_, rfl, ?_⟩
    refine ⟨_, rfl, _, _, rfl, rfl, ?_⟩
    refine while_by (fun σ H1 => ∃ (a b L : Nat) (u v : Addr), Same H H1 ∧ H1 u = some (.tup (R.rep a).vs) ∧ H1 v = some (.tup (R.rep b).vs) ∧ a + L * (b + 1) = n ∧ σ = [some (.ref r), some (.int ((n : Int) + 1)), some (.ref u), some (.ref v), some (.int L)]) (fun σ _ => match σ with | [_, _, _, _, some (.int i)] => i.toNat | _ => 0) ⟨0, 0, n, r, r, Same.refl H, hR, hR, by omega, congrArg (fun z : Int => [some (V.ref r), some (V.int ((n : Int) + 1)), some (V.ref r), some (V.ref r), some (V.int z)]) (show (n : Int) + 1 - 1 = n by omega)⟩ ?_ ?_
    · rintro σ H1 ⟨a, b, L, u, v, s1, hu, hv, e, rfl⟩
      refine ⟨_, rfl, _, _, rfl, rfl, _, rfl, ?_⟩
      refine ite2 (fun h => ?_) (fun h => ?_)
      · have hL : 0 < (L : Int) := of_decide_eq_true h
        refine seq_cut (fun σ' H' => ∃ (a' : Nat) (u' : Addr), Same H1 H' ∧ H' u' = some (.tup (R.rep a').vs) ∧ a' = (if L % 2 = 1 then a + b + 1 else a) ∧ σ' = [some (.ref r), some (.int ((n : Int) + 1)), some (.ref u'), some (.ref v), some (.int L)]) (fun nx hnx => ?_) ?_
        · refine ⟨_, rfl, _, _, rfl, rfl, (show (0 : Int) < 2 by decide), rfl, _, rfl, ?_⟩
          refine ite2 (fun h2 => ?_) (fun h2 => ?_)
          · have h2 : (L : Int) % 2 = 1 := V.int.inj (of_decide_eq_true h2)
            refine ⟨_, rfl, _, rfl, u, v, _, _, _, _, _, _, rfl, SqT.of hu, SqT.of hv, Rl.rep_ok ho a, Rl.rep_ok ho b, fun H2 t s2 ft ht => ?_⟩
            refine hnx _ _ ⟨a + b + 1, t, s2, ?_, by rw [if_pos (by omega)], rfl⟩
            rw [← Rl.rep_add ho a b]
            exact ht
          · have h2 : ¬ ((L : Int) % 2 = 1) := fun c => h2 (decide_eq_true (congrArg V.int c))
            exact hnx _ _ ⟨a, u, Same.refl _, hu, by rw [if_neg (by omega)], rfl⟩
        · rintro σ' H' ⟨a', u', s2, hu', ea, rfl⟩
          refine ⟨_, rfl, _, rfl, v, v, _, _, _, _, _, _, rfl, SqT.of (s2 _ _ hv), SqT.of (s2 _ _ hv), Rl.rep_ok ho b, Rl.rep_ok ho b, fun H3 t s3 ft ht => ?_⟩
          refine ⟨_, rfl, _, _, rfl, rfl, (show (0 : Int) < 2 ∧ (2 : Int) < 1073741824 by decide), ?_⟩
          have eL : L / 2 < L := by omega
          refine ⟨⟨a', b + b + 1, L / 2, u', t, s1.trans (s2.trans s3), s3 _ _ hu', ?_, ?_, rfl⟩, ?_⟩
          · rw [← Rl.rep_add ho b b]
            exact ht
          · rw [ea, ← e]
            have e2 : b + b + 1 + 1 = 2 * (b + 1) := by omega
            rw [e2, ← Nat.mul_assoc]
            generalize b + 1 = c at *
            split
            · have : L = L / 2 * 2 + 1 := by omega
              generalize L / 2 * 2 = z at *
              rw [this, Nat.add_mul]; omega
            · have : L = L / 2 * 2 := by omega
              rw [← this]
          · exact eL
      · have hL : ¬ (0 < (L : Int)) := fun c => h (decide_eq_true c)
        have eL : L = 0 := by omega
        subst eL
        have ea : a = n := by omega
        subst ea
        exact ⟨_, rfl, q _ u s1 hu⟩
    · rintro σ H1 Q1 Q2 m ⟨v, hv, i, j, e1, e2, b, e3, q⟩
      exact ⟨v, hv, i, j, e1, e2, b, e3, m _ _ q⟩
abbrev s_season_rule : Stmt := top 43
abbrev N_season_rule : List Str := ["full", "season", "amount"]
abbrev P_season_rule : List Str := ["full", "season"]
theorem sc_season_rule : FnScope N_season_rule P_season_rule (defScope s_season_rule) := mk9
/-! season_rule -/
def sp_season_rule (K : W.Frag) : Sp := fun vs H Q _ => ∃ (full : Int) (t : Addr) (z : Bool × Int), vs = [.int full, .ref t] ∧ H t = some (.tup [.str (kindS z.1), .int z.2]) ∧ 0 ≤ full ∧ 0 ≤ z.2 ∧ z.2 ≤ 1000000 ∧
  ∀ (H' : Hp) (r : Addr), Same H H' → H r = none → H' r = some (.tup (seasR full z).vs) → Q (.ref r) H'
theorem ok_season_rule (F : Fun K "season_rule" "season_rule" s_season_rule f fd) (T : Txt K mg) (o_check_amount : Ok P w K mg base "check_amount" P_check_amount 1 sp_check_amount) : FnOk P w K mg base CX0 2 f fd P_season_rule (sp_season_rule K) := by
  refine F.ok sc_season_rule (fun vs H Q E h => ?_) (fun cdv A outer s H vs Q E hr h => ?_)
  · obtain ⟨full, t, z, rfl, _⟩ := h
    rfl
  · obtain ⟨full, t, z, rfl, hT, hf, z0, z1, q⟩ := h
    refine ⟨_, (pss_cons (ps_set (i := 2) sc_season_rule.nd rfl (Or.inl rfl) (pe_ix ix_tup (pv 1) pe_int (fun _ _ => rfl)))
      (pss_cons (ps_expr (pe_callO o_check_amount hr (pa_cons (pv 2) pa_nil)))
      (pss_cons (ps_if (pt_cmpR op_eq (pe_ix ix_tup (pv 1) pe_int (fun _ _ => rfl)) pe_str (nomark _))
        (pss_one (ps_ret (pe_tup (pa_cons (pv 2) (pa_cons (pe_min (by rfl) T.n_min (pv 2) (pv 0)) (pa_cons (pv 0) pa_nil))))))
        pss_nil)
      (pss_one (ps_ret (pe_tup (pa_cons (pe_un un_neg (pv 2)) (pa_cons pe_int (pa_cons (pe_max (by rfl) T.n_max pe_int (pe_op op_sub (pv 0) (pv 2))) pa_nil))))))))), ?_⟩
    refine ⟨_, rfl, t, _, _, _, rfl, rfl, SqT.of hT, rfl, ?_⟩
    refine ⟨_, rfl, z.2, rfl, z0, z1, ?_⟩
    refine ⟨_, rfl, t, _, _, _, rfl, rfl, SqT.of hT, rfl, rfl, _, rfl, ?_⟩
    rw [kind_warm]
    unfold seasR at q
    cases e : z.1 with
    | true =>
      rw [e, if_pos rfl] at q
      refine iteT ?_
      refine ⟨_, rfl, _, rfl, _, rfl, _, _, rfl, _, rfl, sz9, fun r hr => q _ r (Same.upd hr) hr (upd_same.trans ?_)⟩
      show some (HO.tup [.int z.2, .int (if full < z.2 then full else z.2), .int full]) = some (HO.tup [.int z.2, .int (min full z.2), .int full])
      rw [show (if full < z.2 then full else z.2) = min full z.2 by split <;> omega]
    | false =>
      rw [e, if_neg (by simp)] at q
      refine iteF ?_
      refine ⟨_, rfl, _, rfl, _, rfl, _, rfl, _, _, rfl, rfl, _, _, rfl, sz9, fun r hr => q _ r (Same.upd hr) hr (upd_same.trans ?_)⟩
      show some (HO.tup [.int (-z.2), .int 0, .int (if (0 : Int) < full - z.2 then full - z.2 else 0)]) = some (HO.tup [.int (-z.2), .int 0, .int (max 0 (full - z.2))])
      rw [show (if (0 : Int) < full - z.2 then full - z.2 else 0) = max 0 (full - z.2) by split <;> omega]
abbrev s_row_rule : Stmt := top 44
abbrev N_row_rule : List Str := ["full", "seasons", "rule", "season"]
abbrev P_row_rule : List Str := ["full", "seasons"]
theorem sc_row_rule : FnScope N_row_rule P_row_rule (defScope s_row_rule) := mk9
/-! row_rule -/
def sp_row_rule (K : W.Frag) : Sp := fun vs H Q _ => ∃ (full : Int) (p : Addr) (ts : List Addr) (ss : List (Bool × Int)), vs = [.int full, .ref p] ∧ SqL K H p (ts.map V.ref) ∧ SeasAt H ts ss ∧ 0 ≤ full ∧ (∀ z ∈ ss, 0 ≤ z.2 ∧ z.2 ≤ 1000000) ∧ ss.length ≤ 1000 ∧
  ∀ (H' : Hp) (r : Addr), Same H H' → H r = none → H' r = some (.tup (rowR full ss).vs) → Q (.ref r) H'
theorem ok_row_rule (F : Fun K "row_rule" "row_rule" s_row_rule f fd) (T : Txt K mg) (o_still : Ok P w K mg base "still" P_still 1 sp_still) (o_season_rule : Ok P w K mg base "season_rule" P_season_rule 2 (sp_season_rule K)) (o_joined : Ok P w K mg base "joined" P_joined 2 (sp_joined K)) : FnOk P w K mg base CX0 3 f fd P_row_rule (sp_row_rule K) := by
  refine F.ok sc_row_rule (fun vs H Q E h => ?_) (fun cdv A outer s H vs Q E hr h => ?_)
  · obtain ⟨full, p, ts, ss, rfl, _⟩ := h
    rfl
  · obtain ⟨full, p, ts, ss, rfl, hP, hS, hf, hz, hn, q⟩ := h
    refine ⟨_, (pss_cons (ps_set (i := 2) sc_row_rule.nd rfl (Or.inl rfl) (pe_callO o_still hr (pa_cons (pv 0) pa_nil)))
      (pss_cons (ps_for PassesOwn.never rfl (pi_list (pv 1)) (pg_name (i := 3) sc_row_rule.nd rfl (Or.inl rfl))
        (pss_one (ps_set (i := 2) sc_row_rule.nd rfl (Or.inl rfl) (pe_callO o_joined hr (pa_cons (pv 2) (pa_cons (pe_callO o_season_rule hr (pa_cons (pv 0) (pa_cons (pv 3) pa_nil))) pa_nil))))))
      (pss_one (ps_ret (pv 2))))), ?_⟩
    refine ⟨_, rfl, full, rfl, fun H1 r1 s1 f1 hr1 => ?_⟩
    refine ⟨_, rfl, p, rfl, ⟨_, s1.seq hP⟩, ?_⟩
    refine for_list (xs := ts.map V.ref) (fun i σ H2 => Same H H2 ∧ ∃ (r : Addr) (v : Option V), H r = none ∧ H2 r = some (.tup (rowR full (ss.take i)).vs) ∧ σ = [some (.int full), some (.ref p), some (.ref r), v]) ⟨s1, r1, none, f1, hr1, rfl⟩ (fun i σ H2 _ z => z.1.seq hP) ?_ ?_
    · rintro i x σ H2 hx ⟨s2, r, v, fr, hr2, rfl⟩
      obtain ⟨t, z, rfl, hzi, ht⟩ := hS.item hx
      have hzz := hz z (List.mem_of_getElem? hzi)
      have hza : ∀ z ∈ ss.take i, 0 ≤ z.2 := fun y hy => (hz y (List.mem_of_mem_take hy)).1
      refine ⟨_, rfl, _, rfl, _, rfl, full, t, z, rfl, s2 _ _ ht, hf, hzz.1, hzz.2, fun H3 u s3 fu hu => ?_⟩
      refine ⟨r, u, _, _, _, _, _, _, rfl, s3.tup (SqT.of hr2), SqT.of hu, rowR_ok hf _, seasR_ok hf hzz.1, fun H4 c s4 fc hc => ?_⟩
      refine ⟨s2.trans (s3.trans s4), c, _, none_of (s2.trans s3) fc, ?_, rfl⟩
      rw [take_snoc hzi, rowR_snoc hf hza hzz.1]
      exact hc
    · rintro σ H2 ⟨s2, r, v, fr, hr2, rfl⟩
      rw [List.length_map, hS.len, List.take_length] at hr2
      exact ⟨_, rfl, q _ r s2 fr hr2⟩
abbrev s_each_down_to : Stmt := top 46
abbrev N_each_down_to : List Str := ["numbers", "sums", "so_far", "number"]
abbrev P_each_down_to : List Str := ["numbers"]
theorem sc_each_down_to : FnScope N_each_down_to P_each_down_to (defScope s_each_down_to) := mk9
/-! each_down_to -/
def sp_each_down_to (K : W.Frag) : Sp := fun vs H Q _ => ∃ (a : Addr) (ns : List Int), vs = [.ref a] ∧ SqL K H a (ns.map V.int) ∧ ns.length ≤ 1000 ∧
  ∀ (H' : Hp) (p : Addr), Same H H' → H p = none → H' p = some (.lst ((downs ns).map V.int)) → Q (.ref p) H'
theorem ok_each_down_to (F : Fun K "each_down_to" "each_down_to" s_each_down_to f fd) (T : Txt K mg) : FnOk P w K mg base CX0 1 f fd P_each_down_to (sp_each_down_to K) := by
  refine F.ok sc_each_down_to (fun vs H Q E h => ?_) (fun cdv A outer s H vs Q E hr h => ?_)
  · obtain ⟨a, ns, rfl, _⟩ := h
    rfl
  · obtain ⟨a, ns, rfl, hA, hn, q⟩ := h
    refine ⟨_, (pss_cons (ps_set (i := 1) sc_each_down_to.nd rfl (Or.inl rfl) (pe_lst pa_nil))
      (pss_cons (ps_set (i := 2) sc_each_down_to.nd rfl (Or.inl rfl) pe_int)
      (pss_cons (ps_for PassesOwn.never rfl (pi_rev (by rfl) T.n_reversed (pa_cons (pv 0) pa_nil)) (pg_name (i := 3) sc_each_down_to.nd rfl (Or.inl rfl))
        (pss_cons (ps_set (i := 2) sc_each_down_to.nd rfl (Or.inl rfl) (pe_op op_add (pv 2) (pv 3)))
        (pss_one (ps_expr (pe_bm PySem.F.plainAttrs_list PySem.F.slot_list_append PySem.F.type_list_append mt_append (pv 1) (pa_cons (pv 2) pa_nil))))))
      (pss_one (ps_ret (pe_listRev T.n_list T.n_reversed (pa_cons (pv 1) pa_nil))))))), ?_⟩
    refine ⟨sz9, fun p hp => ?_⟩
    refine ⟨_, rfl, a, _, rfl, (Same.upd hp).seq hA, ?_⟩
    refine for_rev (xs := ns.map V.int) (fun i σ H2 => ∃ (v : Option V), σ = [some (.ref a), some (.ref p), some (.int (down ns (ns.length - i))), v] ∧ H2 = upd H p (.lst ((downsUp ns i).map V.int))) ⟨none, ?_, rfl⟩ ?_ ?_ ?_
    · rw [Nat.sub_zero, down_end (Nat.le_refl _)]; rfl
    · rintro i σ H2 _ ⟨v, rfl, rfl⟩
      exact (Same.upd hp).seq hA
    · rintro i x σ H2 hi hx ⟨v, rfl, rfl⟩
      rw [List.length_map] at hi hx
      rw [getI (by omega)] at hx
      cases hx
      refine ⟨_, rfl, _, rfl, _, _, rfl, rfl, ?_⟩
      have e : down ns (ns.length - i) + ns.getD (ns.length - 1 - i) 0 = down ns (ns.length - (i + 1)) := by
        have h := down_step (hs := ns) (i := ns.length - (i + 1)) (by omega)
        rw [show ns.length - (i + 1) + 1 = ns.length - i by omega, show ns.length - (i + 1) = ns.length - 1 - i by omega] at h
        rw [show ns.length - (i + 1) = ns.length - 1 - i by omega]
        omega
      refine ⟨_, rfl, .inl ⟨rfl, _, SqL.of upd_same⟩, _, rfl, p, _, _, rfl, rfl, upd_same, sz1000 (by rw [List.length_map, downsUp_len]; omega), ?_⟩
      refine ⟨some (.int (ns.getD (ns.length - 1 - i) 0)), ?_, ?_⟩
      · show [some (V.ref a), some (.ref p), some (.int (down ns (ns.length - i) + ns.getD (ns.length - 1 - i) 0)), some (.int (ns.getD (ns.length - 1 - i) 0))] = _
        rw [e]
      · show upd (upd H p _) p (.lst ((downsUp ns i).map V.int ++ [.int (down ns (ns.length - i) + ns.getD (ns.length - 1 - i) 0)])) = _
        rw [upd_upd, e, downsUp_succ, List.map_append]; rfl
    · rintro σ H2 ⟨v, rfl, rfl⟩
      rw [List.length_map]
      refine ⟨_, rfl, p, _, rfl, SqL.of upd_same, fun l hl => ?_⟩
      refine q _ l ((Same.upd hp).trans (Same.upd hl)) (none_of (Same.upd hp) hl) (upd_same.trans ?_)
      rw [← List.map_reverse, downsUp_rev]
abbrev s_heats_later : Stmt := top 47
abbrev N_heats_later : List Str := ["needs", "heats", "year", "times", "downs", "full", "held"]
abbrev P_heats_later : List Str := ["needs", "heats", "year", "times"]
theorem sc_heats_later : FnScope N_heats_later P_heats_later (defScope s_heats_later) := mk9
/-! heats_later -/
def sp_heats_later (K : W.Frag) : Sp := fun vs H Q _ => ∃ (a b c : Addr) (needs heats : List Int) (ts : List Addr) (ss : List (Bool × Int)) (n : Nat), vs = [.ref a, .ref b, .ref c, .int ((n : Int) + 1)] ∧ SqL K H a (needs.map V.int) ∧ SqL K H b (heats.map V.int) ∧ SqL K H c (ts.map V.ref) ∧ SeasAt H ts ss ∧ HeatsOk needs heats ∧ 1 ≤ needs.length ∧ needs.length ≤ 1000 ∧ (∀ z ∈ ss, 0 ≤ z.2 ∧ z.2 ≤ 1000000) ∧ ss.length ≤ 1000 ∧ (n : Int) + 1 ≤ 1000000000000000000 ∧
  ∀ (H' : Hp) (p : Addr), Same H H' → H p = none → H' p = some (.lst ((yearsL needs heats ss (n + 1)).heats.map V.int)) → Q (.ref p) H'
theorem ok_heats_later (F : Fun K "heats_later" "heats_later" s_heats_later f fd) (T : Txt K mg) (o_each_down_to : Ok P w K mg base "each_down_to" P_each_down_to 1 (sp_each_down_to K)) (o_row_rule : Ok P w K mg base "row_rule" P_row_rule 3 (sp_row_rule K)) (o_repeated : Ok P w K mg base "repeated" P_repeated 3 (sp_repeated K)) (o_applied : Ok P w K mg base "applied" P_applied 1 (sp_applied K)) : FnOk P w K mg base CX0 4 f fd P_heats_later (sp_heats_later K) := by
  refine F.ok sc_heats_later (fun vs H Q E h => ?_) (fun cdv A outer s H vs Q E hr h => ?_)
  · obtain ⟨a, b, c, needs, heats, ts, ss, n, rfl, _⟩ := h
    rfl
  · obtain ⟨a, b, c, needs, heats, ts, ss, n, rfl, hA, hB, hC, hS, hO, hn1, hn, hz, hsl, hnn, q⟩ := h
    have hz0 : ∀ z ∈ ss, 0 ≤ z.2 := fun z h => (hz z h).1
    have hY := yearsL_ok hO ss (n + 1)
    refine ⟨_, (pss_cons (ps_set (i := 4) sc_heats_later.nd rfl (Or.inl rfl) (pe_lst pa_nil))
      (pss_cons (ps_for PassesOwn.never rfl (pi_zip (by rfl) T.n_zip (pa_cons (pe_callO o_each_down_to hr (pa_cons (pv 0) pa_nil)) (pa_cons (pe_callO o_each_down_to hr (pa_cons (pv 1) pa_nil)) pa_nil))) (pg_tup (n := 2) (by rfl) (pgs_cons (pg_name (i := 5) sc_heats_later.nd rfl (Or.inl rfl)) (pgs_cons (pg_name (i := 6) sc_heats_later.nd rfl (Or.inl rfl)) pgs_nil)))
        (pss_one (ps_expr (pe_bm PySem.F.plainAttrs_list PySem.F.slot_list_append PySem.F.type_list_append mt_append (pv 4) (pa_cons (pe_callO o_applied hr (pa_cons (pe_callO o_repeated hr (pa_cons (pe_callO o_row_rule hr (pa_cons (pv 5) (pa_cons (pv 2) pa_nil))) (pa_cons (pv 3) pa_nil))) (pa_cons (pv 6) pa_nil))) pa_nil)))))
      (pss_one (ps_ret (pe_comp rfl (CompScope.of (T := ["down", "above"]) (js := []) (defScope s_heats_later).names N_heats_later rfl rfl rfl (by decide +kernel)) (pi_zip (by rfl) T.n_zip (pa_cons (pv 4) (pa_cons (pe_op op_cat (pe_slice sl_list (pv 4) (po_some pe_int) po_none) (pe_lst (pa_cons pe_int pa_nil))) pa_nil))) (fun _ _ _ _ => ⟨(pg_tupK K (n := 2) (by rfl) (pgs_cons (pg_name (i := 0) (by show List.Nodup (["down", "above"] : List Str); decide +kernel) rfl (Or.inl rfl)) (pgs_cons (pg_name (i := 1) (by show List.Nodup (["down", "above"] : List Str); decide +kernel) rfl (Or.inl rfl)) pgs_nil))), pif_nil, (pe_op op_sub (pv 0) (pv 1))⟩)))))), ?_⟩
    refine ⟨sz9, fun p fp => ?_⟩
    have s0 := Same.upd (o := .lst []) fp
    refine ⟨_, rfl, a, needs, rfl, s0.seq hA, hn, fun H1 u1 s1 f1 h1 => ?_⟩
    have s01 := s0.trans s1
    refine ⟨_, rfl, b, heats, rfl, s01.seq hB, by rw [hO.len]; exact hn, fun H2 u2 s2 f2 h2 => ?_⟩
    have s02 := s01.trans s2
    have n1 : u1 ≠ p := by rintro rfl; rw [upd_same] at f1; cases f1
    have n2 : u2 ≠ p := by rintro rfl; rw [s1 _ _ upd_same] at f2; cases f2
    refine ⟨u1, u2, rfl, ⟨_, SqL.of (s2 _ _ h1)⟩, ⟨_, SqL.of h2⟩, ?_⟩
    refine for_zip (xs := (downs needs).map V.int) (ys := (downs heats).map V.int) (by rw [List.length_map, List.length_map, downs_len, downs_len, hO.len]) (fun i σ H3 => (∃ v w, σ = [some (.ref a), some (.ref b), some (.ref c), some (.int ((n : Int) + 1)), some (.ref p), v, w]) ∧ Same H H3 ∧ H3 u1 = some (.lst ((downs needs).map V.int)) ∧ H3 u2 = some (.lst ((downs heats).map V.int)) ∧ H3 p = some (.lst (((List.range i).map (down (yearsL needs heats ss (n + 1)).heats)).map V.int))) ?_ ?_ ?_ ?_
    · exact ⟨⟨none, none, rfl⟩, s02, s2 _ _ h1, h2, s2 _ _ (s1 _ _ upd_same)⟩
    · rintro i σ H3 _ ⟨_, _, e1, e2, _⟩
      exact ⟨SqL.of e1, SqL.of e2⟩
    · rintro i x y t σ H3 hx hy ⟨⟨v, w, rfl⟩, s3, e1, e2, e3⟩ ht
      have hi : i < needs.length := by
        have := (List.getElem?_eq_some_iff.mp hx).1
        rw [List.length_map, downs_len] at this
        exact this
      rw [List.getElem?_map, downs_get hi] at hx
      rw [List.getElem?_map, downs_get (by rw [hO.len]; exact hi)] at hy
      cases hx
      cases hy
      have dN := hO.needs.down i (by omega)
      have dH := hO.down i (by omega)
      have s4 := s3.trans (Same.upd (o := .tup [.int (down needs i), .int (down heats i)]) ht)
      have k1 := Same.upd (o := .tup [.int (down needs i), .int (down heats i)]) ht _ _ e1
      have k2 := Same.upd (o := .tup [.int (down needs i), .int (down heats i)]) ht _ _ e2
      have k3 := Same.upd (o := .tup [.int (down needs i), .int (down heats i)]) ht _ _ e3
      refine ⟨t, _, rfl, SqT.of upd_same, rfl, _, _, rfl, _, _, rfl, rfl, ?_⟩
      refine ⟨_, rfl, .inl ⟨rfl, _, SqL.of k3⟩, ?_⟩
      refine ⟨_, rfl, _, rfl, down needs i, c, ts, ss, rfl, s4.seq hC, hS.same s4, dN.1, hz, hsl, fun H5 r5 s5 f5 e5 => ?_⟩
      refine ⟨_, rfl, r5, rowR (down needs i) ss, n, rfl, e5, rowR_ok dN.1 ss, hnn, fun H6 r6 s6 e6 => ?_⟩
      refine ⟨_, rfl, r6, _, _, _, _, rfl, SqT.of e6, Rl.rep_ok (rowR_ok dN.1 ss) n, fun H7 s7 => ?_⟩
      have s47 := (s5.trans s6).trans s7
      have ev : clampI (down heats i + ((rowR (down needs i) ss).rep n).d) ((rowR (down needs i) ss).rep n).l ((rowR (down needs i) ss).rep n).m = down (yearsL needs heats ss (n + 1)).heats i := by
        have := rep_ap (full := down needs i) (ss := ss) dN.1 hz0 dH.1 dH.2 n
        rw [down_years hO hz0 (by omega), ← this]
        rfl
      refine ⟨p, _, _, rfl, rfl, s47 _ _ k3, sz1000 (by simp only [List.length_map, List.length_range]; omega), ?_⟩
      refine ⟨⟨_, _, rfl⟩, (s4.trans s47).set fp, by rw [upd_ne n1]; exact s47 _ _ k1, by rw [upd_ne n2]; exact s47 _ _ k2, ?_⟩
      rw [upd_same, ev, List.range_succ, List.map_append, List.map_append]
      rfl
    · rintro σ H3 ⟨⟨v, w, rfl⟩, s3, e1, e2, e3⟩
      rw [List.length_map, downs_len] at e3
      have hl : (yearsL needs heats ss (n + 1)).heats.length = needs.length := hY.len
      generalize (yearsL needs heats ss (n + 1)).heats = R at *
      have eD : downs R = (List.range needs.length).map (down R) := by unfold downs; rw [hl]
      rw [← eD] at e3
      have ec : cutV ((downs R).map V.int) (some ((1 : Nat) : Int)) none = ((downs R).drop 1).map V.int := by rw [cut_dropG, List.map_drop]
      refine ⟨_, rfl, _, rfl, 1, rfl, p, _, rfl, SqL.of e3, fun c1 f1 => ?_⟩
      have t1 := Same.upd (o := .lst (cutV ((downs R).map V.int) (some 1) none)) f1
      refine ⟨sz9, fun c2 f2 => ?_⟩
      have t2 := Same.upd (o := .lst [.int 0]) f2
      refine ⟨c1, c2, _, _, rfl, rfl, t2 _ _ upd_same, upd_same, sz1000' (by rw [show cutV ((downs R).map V.int) (some 1) none = _ from ec]; simp only [List.length_map, List.length_drop, downs_len, List.length_cons, List.length_nil]; omega), fun c3 f3 => ?_⟩
      have t3 := Same.upd (o := .lst (cutV ((downs R).map V.int) (some 1) none ++ [.int 0])) f3
      have t13 := t1.trans (t2.trans t3)
      have e4 := t13 _ _ e3
      have e5 : cutV ((downs R).map V.int) (some 1) none ++ [V.int 0] = ((downs R).drop 1 ++ [0]).map V.int := by
        rw [show cutV ((downs R).map V.int) (some 1) none = _ from ec, List.map_append]; rfl
      refine ⟨p, c3, rfl, ⟨_, SqL.of e4⟩, ⟨_, SqL.of upd_same⟩, fun pw fpw => ?_⟩
      refine comp_zip_ints (xs := downs R) (ys := (downs R).drop 1 ++ [0]) (fun d a => d - a) (by rw [List.length_append, List.length_drop, downs_len, hl]; show _ = _ - 1 + 1; omega) (by rw [downs_len, hl]; exact hn) (SqL.of e4) ?_ fpw (fun x y H Q' q => ⟨_, rfl, _, rfl, _, _, rfl, rfl, q⟩) fun H5 s5 h5 => ?_
      · exact SqL.of (upd_same.trans (by rw [e5]))
      · rw [downs_diff (by omega)] at h5
        exact q _ pw ((s3.trans t13).trans s5) (none_of (s3.trans t13) fpw) h5
abbrev s_missed_later : Stmt := top 48
abbrev N_missed_later : List Str := ["needs", "heats", "year", "times", "rule", "each", "held", "over"]
abbrev P_missed_later : List Str := ["needs", "heats", "year", "times"]
theorem sc_missed_later : FnScope N_missed_later P_missed_later (defScope s_missed_later) := mk9
/-! missed_later -/
def sp_missed_later (K : W.Frag) : Sp := fun vs H Q _ => ∃ (a b c : Addr) (needs heats : List Int) (ts : List Addr) (ss : List (Bool × Int)) (n : Nat), vs = [.ref a, .ref b, .ref c, .int ((n : Int) + 1)] ∧ SqL K H a (needs.map V.int) ∧ SqL K H b (heats.map V.int) ∧ SqL K H c (ts.map V.ref) ∧ SeasAt H ts ss ∧ HeatsOk needs heats ∧ needs.length ≤ 1000 ∧ (∀ z ∈ ss, 0 ≤ z.2 ∧ z.2 ≤ 1000000) ∧ ss.length ≤ 1000 ∧ (n : Int) + 1 ≤ 1000000000000000000 ∧
  stepsH (down needs 0) 0 ss ≤ down heats 0 ∧ down heats 0 ≤ stepsH (down needs 0) (down needs 0) ss ∧
  ∀ (H' : Hp) (t : Addr), Same H H' → H t = none → H' t = some (.tup [.int (yearsL needs heats ss (n + 1)).room, .int (yearsL needs heats ss (n + 1)).heat]) → Q (.ref t) H'
theorem ok_missed_later (F : Fun K "missed_later" "missed_later" s_missed_later f fd) (T : Txt K mg) (o_row_rule : Ok P w K mg base "row_rule" P_row_rule 3 (sp_row_rule K)) (o_passed : Ok P w K mg base "passed" P_passed 3 (sp_passed K)) (o_repeated : Ok P w K mg base "repeated" P_repeated 3 (sp_repeated K)) (o_applied : Ok P w K mg base "applied" P_applied 1 (sp_applied K)) : FnOk P w K mg base CX0 4 f fd P_missed_later (sp_missed_later K) := by
  refine F.ok sc_missed_later (fun vs H Q E h => ?_) (fun cdv A outer s H vs Q E hr h => ?_)
  · obtain ⟨a, b, c, needs, heats, ts, ss, n, rfl, _⟩ := h
    rfl
  · obtain ⟨a, b, c, needs, heats, ts, ss, n, rfl, hA, hB, hC, hS, hO, hn, hz, hsl, hnn, hL, hM, q⟩ := h
    have hz0 : ∀ z ∈ ss, 0 ≤ z.2 := fun z h => (hz z h).1
    have ym := years_miss hO hz0 hL hM (n + 1)
    have dH := hO.down 0 (Nat.zero_le _)
    have dN : 0 ≤ down needs 0 := Int.le_trans dH.1 dH.2
    have eN : needs.sum = down needs 0 := rfl
    have eH : heats.sum = down heats 0 := rfl
    have ra := rep_ap (full := down needs 0) (ss := ss) dN hz0 dH.1 dH.2 n
    rw [show ((n + 1 : Nat) : Int) = (n : Int) + 1 by omega] at ym
    refine ⟨_, (pss_cons (ps_set (i := 4) sc_missed_later.nd rfl (Or.inl rfl) (pe_callO o_row_rule hr (pa_cons (pe_sum (by rfl) T.n_sum (pv 0)) (pa_cons (pv 2) pa_nil))))
      (pss_cons (ps_if (pt_cmpR op_eq (pe_ix ix_tup (pv 4) pe_int (fun _ _ => rfl)) (pe_ix ix_tup (pv 4) pe_int (fun _ _ => rfl)) (nomark _))
        (pss_cons (ps_set (i := 5) sc_missed_later.nd rfl (Or.inl rfl) (pe_callO o_passed hr (pa_cons (pv 0) (pa_cons (pv 1) (pa_cons (pv 2) pa_nil)))))
        (pss_one (ps_ret (pe_tup (pa_cons (pe_op op_mul (pv 3) (pe_ix ix_tup (pv 5) pe_int (fun _ _ => rfl))) (pa_cons (pe_op op_mul (pv 3) (pe_ix ix_tup (pv 5) pe_int (fun _ _ => rfl))) pa_nil))))))
        pss_nil)
      (pss_cons (ps_set (i := 6) sc_missed_later.nd rfl (Or.inl rfl) (pe_sum (by rfl) T.n_sum (pv 1)))
      (pss_cons (ps_set (i := 7) sc_missed_later.nd rfl (Or.inl rfl) (pe_op op_sub (pe_op op_add (pv 6) (pe_op op_mul (pv 3) (pe_ix ix_tup (pv 4) pe_int (fun _ _ => rfl)))) (pe_callO o_applied hr (pa_cons (pe_callO o_repeated hr (pa_cons (pv 4) (pa_cons (pv 3) pa_nil))) (pa_cons (pv 6) pa_nil)))))
      (pss_one (ps_ret (pe_tup (pa_cons (pe_max (by rfl) T.n_max (pv 7) pe_int) (pa_cons (pe_max (by rfl) T.n_max (pe_un un_neg (pv 7)) pe_int) pa_nil))))))))), ?_⟩
    refine ⟨_, rfl, a, needs, rfl, hA, _, rfl, needs.sum, c, ts, ss, rfl, hC, hS, by rw [eN]; exact dN, hz, hsl, fun H1 r1 s1 f1 h1 => ?_⟩
    rw [eN] at h1
    refine ⟨_, rfl, r1, _, _, _, rfl, rfl, SqT.of h1, rfl, _, rfl, r1, _, _, _, rfl, rfl, SqT.of h1, rfl, rfl, _, rfl, ?_⟩
    have hmul : ∀ y : Int, CMul ((n : Int) + 1) y := fun y => .inl ⟨by omega, by omega⟩
    refine ite2 (fun hc => ?_) (fun hc => ?_)
    · have hc : stepsH (down needs 0) 0 ss = stepsH (down needs 0) (down needs 0) ss := V.int.inj (of_decide_eq_true hc)
      obtain ⟨y1, y2⟩ := ym.1 hc
      refine ⟨_, rfl, _, rfl, _, rfl, a, b, c, needs, heats, ts, ss, rfl, s1.seq hA, s1.seq hB, s1.seq hC, hS.same s1, hO, hn, hz, fun H2 t2 p2 s2 ft2 fp2 h2 h2p => ?_⟩
      refine ⟨_, rfl, _, rfl, t2, _, _, _, rfl, rfl, SqT.of h2, rfl, _, _, rfl, rfl, hmul _, ?_⟩
      refine ⟨_, rfl, _, rfl, t2, _, _, _, rfl, rfl, SqT.of h2, rfl, _, _, rfl, rfl, hmul _, sz9, fun t ft => ?_⟩
      refine q _ t ((s1.trans s2).trans (Same.upd ft)) (none_of (s1.trans s2) ft) (upd_same.trans ?_)
      rw [y1, y2]
    · have hc : stepsH (down needs 0) 0 ss ≠ stepsH (down needs 0) (down needs 0) ss := fun c => hc (decide_eq_true (congrArg V.int c))
      obtain ⟨y1, y2⟩ := ym.2 hc
      refine ⟨_, rfl, b, heats, rfl, s1.seq hB, ?_⟩
      refine ⟨_, rfl, _, rfl, _, rfl, r1, _, _, _, rfl, rfl, SqT.of h1, rfl, _, _, rfl, rfl, hmul _, _, _, rfl, rfl, ?_⟩
      refine ⟨_, rfl, _, rfl, r1, rowR (down needs 0) ss, n, rfl, h1, rowR_ok dN ss, hnn, fun H2 r2 s2 h2 => ?_⟩
      refine ⟨_, rfl, r2, _, _, _, _, rfl, SqT.of h2, Rl.rep_ok (rowR_ok dN ss) n, fun H3 s3 => ?_⟩
      refine ⟨_, _, rfl, rfl, ?_⟩
      refine ⟨_, rfl, _, _, rfl, _, rfl, _, rfl, _, _, rfl, sz9, fun t ft => ?_⟩
      refine q _ t ((s1.trans (s2.trans s3)).trans (Same.upd ft)) (none_of (s1.trans (s2.trans s3)) ft) (upd_same.trans ?_)
      have ev : clampI (heats.sum + ((rowR (down needs 0) ss).rep n).d) ((rowR (down needs 0) ss).rep n).l ((rowR (down needs 0) ss).rep n).m = yearsH (down needs 0) (down heats 0) ss (n + 1) := ra
      show some (HO.tup [.int (if heats.sum + ((n : Int) + 1) * addS ss - clampI (heats.sum + ((rowR (down needs 0) ss).rep n).d) ((rowR (down needs 0) ss).rep n).l ((rowR (down needs 0) ss).rep n).m < 0 then 0 else heats.sum + ((n : Int) + 1) * addS ss - clampI (heats.sum + ((rowR (down needs 0) ss).rep n).d) ((rowR (down needs 0) ss).rep n).l ((rowR (down needs 0) ss).rep n).m),
        .int (if -(heats.sum + ((n : Int) + 1) * addS ss - clampI (heats.sum + ((rowR (down needs 0) ss).rep n).d) ((rowR (down needs 0) ss).rep n).l ((rowR (down needs 0) ss).rep n).m) < 0 then 0 else -(heats.sum + ((n : Int) + 1) * addS ss - clampI (heats.sum + ((rowR (down needs 0) ss).rep n).d) ((rowR (down needs 0) ss).rep n).l ((rowR (down needs 0) ss).rep n).m))]) = _
      rw [y1, y2, ev, eH]
      generalize down heats 0 + ((n : Int) + 1) * addS ss - yearsH (down needs 0) (down heats 0) ss (n + 1) = X
      rw [show (if X < 0 then 0 else X) = max X 0 by split <;> omega, show (if -X < 0 then 0 else -X) = max (-X) 0 by split <;> omega]
abbrev s_whole_years : Stmt := top 49
abbrev N_whole_years : List Str := ["needs", "heats", "year", "times", "first", "behind", "missed"]
abbrev P_whole_years : List Str := ["needs", "heats", "year", "times"]
theorem sc_whole_years : FnScope N_whole_years P_whole_years (defScope s_whole_years) := mk9
/-! whole_years -/
def sp_whole_years (K : W.Frag) : Sp := fun vs H Q _ => ∃ (a b c : Addr) (needs heats : List Int) (ts : List Addr) (ss : List (Bool × Int)) (n : Nat), vs = [.ref a, .ref b, .ref c, .int (n : Int)] ∧ SqL K H a (needs.map V.int) ∧ SqL K H b (heats.map V.int) ∧ SqL K H c (ts.map V.ref) ∧ SeasAt H ts ss ∧ HeatsOk needs heats ∧ 1 ≤ needs.length ∧ needs.length ≤ 1000 ∧ (∀ z ∈ ss, 0 ≤ z.2 ∧ z.2 ≤ 1000000) ∧ ss.length ≤ 1000 ∧ (n : Int) ≤ 1000000000000000000 ∧
  ∀ (H' : Hp) (t p : Addr), Same H H' → H t = none → H p = none → H' t = some (.tup [.ref p, .int (yearsL needs heats ss n).room, .int (yearsL needs heats ss n).heat]) → H' p = some (.lst ((yearsL needs heats ss n).heats.map V.int)) → Q (.ref t) H'
theorem ok_whole_years (F : Fun K "whole_years" "whole_years" s_whole_years f fd) (T : Txt K mg) (o_passed : Ok P w K mg base "passed" P_passed 3 (sp_passed K)) (o_heats_later : Ok P w K mg base "heats_later" P_heats_later 4 (sp_heats_later K)) (o_missed_later : Ok P w K mg base "missed_later" P_missed_later 4 (sp_missed_later K)) : FnOk P w K mg base CX0 5 f fd P_whole_years (sp_whole_years K) := by
  refine F.ok sc_whole_years (fun vs H Q E h => ?_) (fun cdv A outer s H vs Q E hr h => ?_)
  · obtain ⟨a, b, c, needs, heats, ts, ss, n, rfl, _⟩ := h
    rfl
  · obtain ⟨a, b, c, needs, heats, ts, ss, n, rfl, hA, hB, hC, hS, hO, hn1, hn, hz, hsl, hnn, q⟩ := h
    have hz0 : ∀ z ∈ ss, 0 ≤ z.2 := fun z h => (hz z h).1
    refine ⟨_, (pss_cons (ps_if (pt_cmpR op_eq (pv 3) pe_int (nomark _))
        (pss_one (ps_ret (pe_tup (pa_cons (pe_list T.n_list (pv 1)) (pa_cons pe_int (pa_cons pe_int pa_nil))))))
        pss_nil)
      (pss_cons (ps_set (i := 4) sc_whole_years.nd rfl (Or.inl rfl) (pe_callO o_passed hr (pa_cons (pv 0) (pa_cons (pv 1) (pa_cons (pv 2) pa_nil)))))
      (pss_cons (ps_if (pt_cmpR op_eq (pv 3) pe_int (nomark _))
        (pss_one (ps_ret (pv 4)))
        pss_nil)
      (pss_cons (ps_set (i := 5) sc_whole_years.nd rfl (Or.inl rfl) (pe_callO o_heats_later hr (pa_cons (pv 0) (pa_cons (pe_ix ix_tup (pv 4) pe_int (fun _ _ => rfl)) (pa_cons (pv 2) (pa_cons (pe_op op_sub (pv 3) pe_int) pa_nil))))))
      (pss_cons (ps_set (i := 6) sc_whole_years.nd rfl (Or.inl rfl) (pe_callO o_missed_later hr (pa_cons (pv 0) (pa_cons (pe_ix ix_tup (pv 4) pe_int (fun _ _ => rfl)) (pa_cons (pv 2) (pa_cons (pe_op op_sub (pv 3) pe_int) pa_nil))))))
      (pss_one (ps_ret (pe_tup (pa_cons (pv 5) (pa_cons (pe_op op_add (pe_ix ix_tup (pv 4) pe_int (fun _ _ => rfl)) (pe_ix ix_tup (pv 6) pe_int (fun _ _ => rfl))) (pa_cons (pe_op op_add (pe_ix ix_tup (pv 4) pe_int (fun _ _ => rfl)) (pe_ix ix_tup (pv 6) pe_int (fun _ _ => rfl))) pa_nil))))))))))), ?_⟩
    refine ⟨_, rfl, rfl, _, rfl, ?_⟩
    refine ite2 (fun hc => ?_) (fun hc => ?_)
    · have hc : (n : Int) = 0 := V.int.inj (of_decide_eq_true hc)
      obtain rfl : n = 0 := by omega
      refine ⟨_, rfl, b, _, rfl, .inl hB, fun p fp => ⟨sz9, fun t ft => ?_⟩⟩
      exact q _ t p ((Same.upd fp).trans (Same.upd ft)) (none_of (Same.upd fp) ft) fp upd_same (Same.upd ft _ _ upd_same)
    · have hc : ¬ (n : Int) = 0 := fun c => hc (decide_eq_true (congrArg V.int c))
      refine ⟨_, rfl, _, rfl, _, rfl, a, b, c, needs, heats, ts, ss, rfl, hA, hB, hC, hS, hO, hn, hz, fun H1 t1 p1 s1 ft1 fp1 h1 h1p => ?_⟩
      refine ⟨_, rfl, rfl, _, rfl, ?_⟩
      refine ite2 (fun hc1 => ?_) (fun hc1 => ?_)
      · have hc1 : (n : Int) = 1 := V.int.inj (of_decide_eq_true hc1)
        obtain rfl : n = 1 := by omega
        exact ⟨_, rfl, q _ t1 p1 s1 ft1 fp1 h1 h1p⟩
      · have hc1 : ¬ (n : Int) = 1 := fun c => hc1 (decide_eq_true (congrArg V.int c))
        obtain ⟨m, rfl⟩ : ∃ m, n = m + 1 + 1 := ⟨n - 2, by omega⟩
        obtain ⟨y1, y2, y3⟩ := years_shift hO hz0 (m + 1)
        have hP := passL_ok hO ss
        have em : ((m + 1 + 1 : Nat) : Int) - 1 = (m : Int) + 1 := by omega
        have dH := hO.down 0 (Nat.zero_le _)
        have e0 : down (passL needs heats ss).heats 0 = stepsH (down needs 0) (down heats 0) ss := down_pass hO hz0 (Nat.zero_le _)
        rw [y1, y2, y3] at q
        refine ⟨_, rfl, _, rfl, t1, _, _, _, rfl, rfl, SqT.of h1, rfl, _, rfl, _, rfl, _, _, rfl, rfl, ?_⟩
        refine ⟨a, p1, c, needs, (passL needs heats ss).heats, ts, ss, m, congrArg (fun z : Int => [V.ref a, V.ref p1, V.ref c, V.int z]) em, s1.seq hA, SqL.of h1p, s1.seq hC, hS.same s1, hP, hn1, hn, hz, hsl, by omega, fun H2 p2 s2 f2 h2 => ?_⟩
        have s12 := s1.trans s2
        refine ⟨_, rfl, _, rfl, t1, _, _, _, rfl, rfl, SqT.of (s2 _ _ h1), rfl, _, rfl, _, rfl, _, _, rfl, rfl, ?_⟩
        refine ⟨a, p1, c, needs, (passL needs heats ss).heats, ts, ss, m, congrArg (fun z : Int => [V.ref a, V.ref p1, V.ref c, V.int z]) em, s12.seq hA, SqL.of (s2 _ _ h1p), s12.seq hC, hS.same s12, hP, hn, hz, hsl, by omega, by rw [e0]; exact stepsH_mono ss dH.1, by rw [e0]; exact stepsH_mono ss dH.2, fun H3 t3 s3 f3 h3 => ?_⟩
        have s13 := s12.trans s3
        refine ⟨_, rfl, _, rfl, t1, _, _, _, rfl, rfl, SqT.of (s3 _ _ (s2 _ _ h1)), rfl, _, rfl, t3, _, _, _, rfl, rfl, SqT.of h3, rfl, _, _, rfl, rfl, ?_⟩
        refine ⟨_, rfl, t1, _, _, _, rfl, rfl, SqT.of (s3 _ _ (s2 _ _ h1)), rfl, _, rfl, t3, _, _, _, rfl, rfl, SqT.of h3, rfl, _, _, rfl, rfl, sz9, fun t ft => ?_⟩
        exact q _ t p2 (s13.trans (Same.upd ft)) (none_of s13 ft) (none_of s1 f2) upd_same (Same.upd ft _ _ (s3 _ _ h2))
abbrev s_passed_until : Stmt := top 50
abbrev N_passed_until : List Str := ["needs", "heats", "year", "at_year", "season", "ahead", "last"]
abbrev P_passed_until : List Str := ["needs", "heats", "year", "at_year", "season"]
theorem sc_passed_until : FnScope N_passed_until P_passed_until (defScope s_passed_until) := mk9
/-! passed_until -/
def sp_passed_until (K : W.Frag) : Sp := fun vs H Q _ => ∃ (a b c : Addr) (needs heats : List Int) (ts : List Addr) (ss : List (Bool × Int)) (n so : Nat), vs = [.ref a, .ref b, .ref c, .int ((n : Int) + 1), .int so] ∧ SqL K H a (needs.map V.int) ∧ SqL K H b (heats.map V.int) ∧ SqL K H c (ts.map V.ref) ∧ SeasAt H ts ss ∧ HeatsOk needs heats ∧ 1 ≤ needs.length ∧ needs.length ≤ 1000 ∧ (∀ z ∈ ss, 0 ≤ z.2 ∧ z.2 ≤ 1000000) ∧ ss.length ≤ 1000 ∧ (n : Int) + 1 ≤ 1000000000000000000 ∧
  ∀ (H' : Hp) (t p : Addr), Same H H' → H t = none → H p = none → H' t = some (.tup [.ref p, .int (untilL needs heats ss n so).room, .int (untilL needs heats ss n so).heat]) → H' p = some (.lst ((untilL needs heats ss n so).heats.map V.int)) → Q (.ref t) H'
theorem ok_passed_until (F : Fun K "passed_until" "passed_until" s_passed_until f fd) (T : Txt K mg) (o_whole_years : Ok P w K mg base "whole_years" P_whole_years 5 (sp_whole_years K)) (o_passed : Ok P w K mg base "passed" P_passed 3 (sp_passed K)) : FnOk P w K mg base CX0 6 f fd P_passed_until (sp_passed_until K) := by
  refine F.ok sc_passed_until (fun vs H Q E h => ?_) (fun cdv A outer s H vs Q E hr h => ?_)
  · obtain ⟨a, b, c, needs, heats, ts, ss, n, so, rfl, _⟩ := h
    rfl
  · obtain ⟨a, b, c, needs, heats, ts, ss, n, so, rfl, hA, hB, hC, hS, hO, hn1, hn, hz, hsl, hnn, q⟩ := h
    have hz0 : ∀ z ∈ ss, 0 ≤ z.2 := fun z h => (hz z h).1
    have hY := yearsL_ok hO ss n
    have es : untilL needs heats ss n so = _ := fold_split (s := yearsL needs heats ss n) (ss := ss.take so) (fun z h => hz0 z (List.mem_of_mem_take h)) hY
    rw [es] at q
    refine ⟨_, (pss_cons (ps_set (i := 5) sc_passed_until.nd rfl (Or.inl rfl) (pe_callO o_whole_years hr (pa_cons (pv 0) (pa_cons (pv 1) (pa_cons (pv 2) (pa_cons (pe_op op_sub (pv 3) pe_int) pa_nil))))))
      (pss_cons (ps_set (i := 6) sc_passed_until.nd rfl (Or.inl rfl) (pe_callO o_passed hr (pa_cons (pv 0) (pa_cons (pe_ix ix_tup (pv 5) pe_int (fun _ _ => rfl)) (pa_cons (pe_slice sl_list (pv 2) po_none (po_some (pv 4))) pa_nil)))))
      (pss_one (ps_ret (pe_tup (pa_cons (pe_ix ix_tup (pv 6) pe_int (fun _ _ => rfl)) (pa_cons (pe_op op_add (pe_ix ix_tup (pv 5) pe_int (fun _ _ => rfl)) (pe_ix ix_tup (pv 6) pe_int (fun _ _ => rfl))) (pa_cons (pe_op op_add (pe_ix ix_tup (pv 5) pe_int (fun _ _ => rfl)) (pe_ix ix_tup (pv 6) pe_int (fun _ _ => rfl))) pa_nil)))))))), ?_⟩
    refine ⟨_, rfl, _, rfl, _, rfl, _, rfl, _, _, rfl, rfl, a, b, c, needs, heats, ts, ss, n, congrArg (fun z : Int => [V.ref a, V.ref b, V.ref c, V.int z]) (show (n : Int) + 1 - 1 = n by omega), hA, hB, hC, hS, hO, hn1, hn, hz, hsl, by omega, fun H1 t1 p1 s1 ft1 fp1 h1 h1p => ?_⟩
    have ec : cutV (ts.map V.ref) none (some (so : Int)) = (ts.take so).map V.ref := by rw [cut_takeG, List.map_take]
    refine ⟨_, rfl, _, rfl, t1, _, _, _, rfl, rfl, SqT.of h1, rfl, _, rfl, _, rfl, _, rfl, c, _, rfl, s1.seq hC, fun c2 f2 => ?_⟩
    have t2 := Same.upd (o := .lst (cutV (ts.map V.ref) none (some (so : Int)))) f2
    have s12 := s1.trans t2
    refine ⟨a, p1, c2, needs, _, ts.take so, ss.take so, rfl, s12.seq hA, SqL.of (t2 _ _ h1p), SqL.of (upd_same.trans (by rw [ec])), (hS.same s12).take so, hY, hn, fun z h => hz z (List.mem_of_mem_take h), fun H3 t3 p3 s3 ft3 fp3 h3 h3p => ?_⟩
    have s13 := s12.trans s3
    have h13 := s3 _ _ (t2 _ _ h1)
    refine ⟨_, rfl, t3, _, _, _, rfl, rfl, SqT.of h3, rfl, ?_⟩
    refine ⟨_, rfl, t1, _, _, _, rfl, rfl, SqT.of h13, rfl, _, rfl, t3, _, _, _, rfl, rfl, SqT.of h3, rfl, _, _, rfl, rfl, ?_⟩
    refine ⟨_, rfl, t1, _, _, _, rfl, rfl, SqT.of h13, rfl, _, rfl, t3, _, _, _, rfl, rfl, SqT.of h3, rfl, _, _, rfl, rfl, sz9, fun t ft => ?_⟩
    exact q _ t p3 (s13.trans (Same.upd ft)) (none_of s13 ft) (none_of s12 fp3) upd_same (Same.upd ft _ _ h3p)
abbrev s_amount_of : Stmt := top 52
abbrev N_amount_of : List Str := ["kind", "seasons"]
abbrev P_amount_of : List Str := ["kind", "seasons"]
theorem sc_amount_of : FnScope N_amount_of P_amount_of (defScope s_amount_of) := mk9
/-! amount_of -/
def sp_amount_of (K : W.Frag) : Sp := fun vs H Q _ => ∃ (b : Bool) (p : Addr) (ts : List Addr) (ss : List (Bool × Int)), vs = [.str (kindS b), .ref p] ∧ SqL K H p (ts.map V.ref) ∧ SeasAt H ts ss ∧ ss.length ≤ 1000 ∧ ∀ H', Same H H' → Q (.int (amtOf b ss)) H'
theorem ok_amount_of (F : Fun K "amount_of" "amount_of" s_amount_of f fd) (T : Txt K mg) : FnOk P w K mg base CX0 1 f fd P_amount_of (sp_amount_of K) := by
  refine F.ok sc_amount_of (fun vs H Q E h => ?_) (fun cdv A outer s H vs Q E hr h => ?_)
  · obtain ⟨b, p, ts, ss, rfl, _⟩ := h
    rfl
  · obtain ⟨b, p, ts, ss, rfl, hP, hS, hn, q⟩ := h
    refine ⟨_, (pss_one (ps_ret (pe_sum (by rfl) T.n_sum (pe_comp rfl (CompScope.of (T := ["season"]) (js := [0]) (defScope s_amount_of).names N_amount_of rfl rfl rfl (by decide +kernel)) (pi_list (pv 1)) (fun _ _ _ _ => ⟨(pg_name (i := 0) (by show List.Nodup (["season", "kind"] : List Str); decide +kernel) rfl (Or.inl rfl)), (pif_one (pt_cmpR op_eq (pe_ix (ix_tupK K) (pv 0) pe_int (fun _ _ => rfl)) (pv 1) (nomark _))), (pe_ix (ix_tupK K) (pv 0) pe_int (fun _ _ => rfl))⟩))))), ?_⟩
    refine ⟨_, rfl, p, rfl, ⟨_, hP⟩, fun l hl => ?_⟩
    refine comp_list (xs := ts.map V.ref) (fun i σ H2 => (∃ v, σ = [v, some (.str (kindS b))]) ∧ H2 = upd H l (.lst ((amtsN b (ss.take i)).map V.int))) ?_ ?_ ?_ ?_
    · exact ⟨⟨none, rfl⟩, rfl⟩
    · rintro i σ H2 _ ⟨_, rfl⟩
      exact (Same.upd hl).seq hP
    · rintro i x σ H2 hx ⟨⟨v, rfl⟩, rfl⟩
      obtain ⟨t, z, rfl, hzi, ht⟩ := hS.item hx
      have ht2 := Same.upd (o := .lst ((amtsN b (ss.take i)).map V.int)) hl _ _ ht
      have hlen := amtsN_len b (ss.take i)
      rw [List.length_take] at hlen
      refine ⟨_, rfl, t, _, _, _, rfl, rfl, SqT.of ht2, rfl, _, rfl, rfl, _, rfl, ?_⟩
      rw [kinds_eq]
      refine ite2 (fun hc => ?_) (fun hc => ?_)
      · refine ⟨_, rfl, t, _, _, _, rfl, rfl, SqT.of ht2, rfl, _, upd_same, sz1000 (by rw [List.length_map]; omega), ⟨_, rfl⟩, ?_⟩
        rw [upd_upd, amtsN_yes hzi hc, List.map_append]
        rfl
      · exact ⟨⟨_, rfl⟩, by rw [amtsN_no hzi hc]⟩
    · rintro σ H2 ⟨_, rfl⟩
      rw [List.length_map, hS.len, List.take_length]
      exact ⟨l, amtsN b ss, rfl, SqL.of upd_same, q _ (Same.upd hl)⟩
abbrev s_amount_until : Stmt := top 53
abbrev N_amount_until : List Str := ["kind", "year", "at_year", "season"]
abbrev P_amount_until : List Str := ["kind", "year", "at_year", "season"]
theorem sc_amount_until : FnScope N_amount_until P_amount_until (defScope s_amount_until) := mk9
/-! amount_until -/
def sp_amount_until (K : W.Frag) : Sp := fun vs H Q _ => ∃ (b : Bool) (p : Addr) (ts : List Addr) (ss : List (Bool × Int)) (n so : Nat), vs = [.str (kindS b), .ref p, .int ((n : Int) + 1), .int (so : Int)] ∧ SqL K H p (ts.map V.ref) ∧ SeasAt H ts ss ∧ ss.length ≤ 1000 ∧ (∀ z ∈ ss, 0 ≤ z.2 ∧ z.2 ≤ 1000000) ∧ ∀ H', Same H H' → Q (.int (amtUntil b ss n so)) H'
theorem ok_amount_until (F : Fun K "amount_until" "amount_until" s_amount_until f fd) (T : Txt K mg) (o_amount_of : Ok P w K mg base "amount_of" P_amount_of 1 (sp_amount_of K)) : FnOk P w K mg base CX0 2 f fd P_amount_until (sp_amount_until K) := by
  refine F.ok sc_amount_until (fun vs H Q E h => ?_) (fun cdv A outer s H vs Q E hr h => ?_)
  · obtain ⟨b, p, ts, ss, n, so, rfl, _⟩ := h
    rfl
  · obtain ⟨b, p, ts, ss, n, so, rfl, hP, hS, hn, hz, q⟩ := h
    refine ⟨_, (pss_one (ps_ret (pe_op op_add (pe_op op_mul (pe_op op_sub (pv 2) pe_int) (pe_callO o_amount_of hr (pa_cons (pv 0) (pa_cons (pv 1) pa_nil)))) (pe_callO o_amount_of hr (pa_cons (pv 0) (pa_cons (pe_slice sl_list (pv 1) po_none (po_some (pv 3))) pa_nil)))))), ?_⟩
    refine ⟨_, rfl, _, _, rfl, rfl, _, rfl, _, rfl, b, p, ts, ss, rfl, hP, hS, hn, fun H1 s1 => ?_⟩
    have hb := amtOf_le b hz hn
    refine ⟨_, _, rfl, rfl, .inr hb, ?_⟩
    refine ⟨_, rfl, _, rfl, _, rfl, _, rfl, p, _, rfl, s1.seq hP, fun l hl => ?_⟩
    have ec : cutV (ts.map V.ref) none (some (so : Int)) = (ts.take so).map V.ref := by rw [cut_takeG, List.map_take]
    refine ⟨b, l, ts.take so, ss.take so, rfl, SqL.of (upd_same.trans (by rw [ec])), ((hS.same s1).same (Same.upd hl)).take so, by rw [List.length_take]; omega, fun H2 s2 => ?_⟩
    refine ⟨_, _, rfl, rfl, ?_⟩
    have e : ((n : Int) + 1 - 1) * amtOf b ss + amtOf b (ss.take so) = amtUntil b ss n so := by unfold amtUntil; rw [show (n : Int) + 1 - 1 = (n : Int) by omega]
    show Q (V.int (((n : Int) + 1 - 1) * amtOf b ss + amtOf b (ss.take so))) H2
    rw [e]
    exact q _ (s1.trans ((Same.upd hl).trans s2))
abbrev s_stage_of : Stmt := top 54
abbrev N_stage_of : List Str := ["needs", "heats", "found", "taken"]
abbrev P_stage_of : List Str := ["needs", "heats", "found", "taken"]
theorem sc_stage_of : FnScope N_stage_of P_stage_of (defScope s_stage_of) := mk9
/-! stage_of -/
def sp_stage_of : Sp := fun vs H Q _ => ∃ (a b : Addr) (x y : Int), vs = [.ref a, .ref b, .int x, .int y] ∧ ∀ (H' : Hp) (d : Addr), Same H H' → H d = none → H' d = some (.dK (stageK a b x y)) → Q (.ref d) H'
theorem ok_stage_of (F : Fun K "stage_of" "stage_of" s_stage_of f fd) (T : Txt K mg) : FnOk P w K mg base CX0 1 f fd P_stage_of sp_stage_of := by
  refine F.ok sc_stage_of (fun vs H Q E h => ?_) (fun cdv A outer s H vs Q E hr h => ?_)
  · obtain ⟨a, b, x, y, rfl, _⟩ := h
    rfl
  · obtain ⟨a, b, x, y, rfl, q⟩ := h
    refine ⟨_, (pss_one (ps_ret (pe_disp (pps_cons pe_str (pv 0) (pps_cons pe_str (pv 1) (pps_cons pe_str (pv 2) (pps_cons pe_str (pv 3) pps_nil)))) (by rfl) (by rfl) (by simp) (by decide)))), ?_⟩
    intro d hd
    refine ⟨_, rfl, _, rfl, _, rfl, _, rfl, upd_same, stageK a b x y, rfl, by show 4 ≤ 15; decide, ?_⟩
    rw [upd_upd, merge_stage]
    exact q _ d (Same.upd hd) hd upd_same
abbrev s_reached : Stmt := top 55
abbrev N_reached : List Str := ["stage", "year", "at_year", "season", "behind", "found", "taken"]
abbrev P_reached : List Str := ["stage", "year", "at_year", "season"]
theorem sc_reached : FnScope N_reached P_reached (defScope s_reached) := mk9
/-! reached -/
def sp_reached (K : W.Frag) : Sp := fun vs H Q _ => ∃ (d p : Addr) (S : Stage) (ts : List Addr) (ss : List (Bool × Int)) (n so : Nat) (a0 b0 : Addr), vs = [.ref d, .ref p, .int ((n : Int) + 1), .int (so : Int)] ∧ H d = some (.dK (stageK a0 b0 S.found S.taken)) ∧ H a0 = some (.lst (S.needs.map V.int)) ∧ H b0 = some (.lst (S.heats.map V.int)) ∧ SqL K H p (ts.map V.ref) ∧ SeasAt H ts ss ∧ ss.length ≤ 1000 ∧ (∀ z ∈ ss, 0 ≤ z.2 ∧ z.2 ≤ 1000000) ∧ HeatsOk S.needs S.heats ∧ 1 ≤ S.needs.length ∧ S.needs.length ≤ 1000 ∧ (n : Int) + 1 ≤ 1000000000000000000 ∧
  ∀ (H' : Hp) (t d' b' : Addr), Same H H' → H t = none → H d' = none → H b' = none → H' t = some (.tup [.ref d', .int (untilL S.needs S.heats ss n so).room, .int (untilL S.needs S.heats ss n so).heat]) → H' d' = some (.dK (stageK a0 b' (reachS S ss n so).found (reachS S ss n so).taken)) → H' b' = some (.lst ((reachS S ss n so).heats.map V.int)) → Q (.ref t) H'
theorem ok_reached (F : Fun K "reached" "reached" s_reached f fd) (T : Txt K mg) (o_passed_until : Ok P w K mg base "passed_until" P_passed_until 6 (sp_passed_until K)) (o_amount_until : Ok P w K mg base "amount_until" P_amount_until 2 (sp_amount_until K)) (o_stage_of : Ok P w K mg base "stage_of" P_stage_of 1 sp_stage_of) : FnOk P w K mg base CX0 7 f fd P_reached (sp_reached K) := by
  refine F.ok sc_reached (fun vs H Q E h => ?_) (fun cdv A outer s H vs Q E hr h => ?_)
  · obtain ⟨d, p, S, ts, ss, n, so, a0, b0, rfl, _⟩ := h
    rfl
  · obtain ⟨d, p, S, ts, ss, n, so, a0, b0, rfl, g1, g2, g3, hP, hS, hn, hz, hO, hl1, hl2, hnn, q⟩ := h
    have dn : ∀ {H' : Hp}, Same H H' → DGet H' d (.str "needs") (some (.ref a0)) := fun {H'} s => by have z := DGet.k (k := Sum.inr "needs") (s _ _ g1); rw [stage_needs] at z; exact z
    have dh : ∀ {H' : Hp}, Same H H' → DGet H' d (.str "heats") (some (.ref b0)) := fun {H'} s => by have z := DGet.k (k := Sum.inr "heats") (s _ _ g1); rw [stage_heats] at z; exact z
    have df : ∀ {H' : Hp}, Same H H' → DGet H' d (.str "found") (some (.int S.found)) := fun {H'} s => by have z := DGet.k (k := Sum.inr "found") (s _ _ g1); rw [stage_found] at z; exact z
    have dt : ∀ {H' : Hp}, Same H H' → DGet H' d (.str "taken") (some (.int S.taken)) := fun {H'} s => by have z := DGet.k (k := Sum.inr "taken") (s _ _ g1); rw [stage_taken] at z; exact z
    refine ⟨_, (pss_cons (ps_set (i := 4) sc_reached.nd rfl (Or.inl rfl) (pe_callO o_passed_until hr (pa_cons (pe_dget (hu_of hr) (pv 0) pe_str (fun _ _ => rfl)) (pa_cons (pe_dget (hu_of hr) (pv 0) pe_str (fun _ _ => rfl)) (pa_cons (pv 1) (pa_cons (pv 2) (pa_cons (pv 3) pa_nil)))))))
      (pss_cons (ps_set (i := 5) sc_reached.nd rfl (Or.inl rfl) (pe_op op_sub (pe_op op_add (pe_dget (hu_of hr) (pv 0) pe_str (fun _ _ => rfl)) (pe_callO o_amount_until hr (pa_cons pe_str (pa_cons (pv 1) (pa_cons (pv 2) (pa_cons (pv 3) pa_nil)))))) (pe_ix ix_tup (pv 4) pe_int (fun _ _ => rfl))))
      (pss_cons (ps_set (i := 6) sc_reached.nd rfl (Or.inl rfl) (pe_op op_sub (pe_op op_add (pe_dget (hu_of hr) (pv 0) pe_str (fun _ _ => rfl)) (pe_callO o_amount_until hr (pa_cons pe_str (pa_cons (pv 1) (pa_cons (pv 2) (pa_cons (pv 3) pa_nil)))))) (pe_ix ix_tup (pv 4) pe_int (fun _ _ => rfl))))
      (pss_one (ps_ret (pe_tup (pa_cons (pe_callO o_stage_of hr (pa_cons (pe_dget (hu_of hr) (pv 0) pe_str (fun _ _ => rfl)) (pa_cons (pe_ix ix_tup (pv 4) pe_int (fun _ _ => rfl)) (pa_cons (pv 5) (pa_cons (pv 6) pa_nil))))) (pa_cons (pe_ix ix_tup (pv 4) pe_int (fun _ _ => rfl)) (pa_cons (pe_ix ix_tup (pv 4) pe_int (fun _ _ => rfl)) pa_nil))))))))), ?_⟩
    refine ⟨_, rfl, d, _, rfl, dn (Same.refl _), _, rfl, d, _, rfl, dh (Same.refl _), _, rfl, _, rfl, _, rfl, a0, b0, p, S.needs, S.heats, ts, ss, n, so, rfl, SqL.of g2, SqL.of g3, hP, hS, hO, hl1, hl2, hz, hn, hnn, fun H1 t1 p1 s1 ft1 fp1 ht1 hp1 => ?_⟩
    -- found
    refine ⟨_, rfl, d, _, rfl, df s1, _, rfl, _, rfl, _, rfl, true, p, ts, ss, n, so, rfl, s1.seq hP, hS.same s1, hn, hz, fun H2 s2 => ?_⟩
    have s12 := s1.trans s2
    refine ⟨_, _, rfl, rfl, _, rfl, t1, _, _, _, rfl, rfl, SqT.of (s2 _ _ ht1), rfl, _, _, rfl, rfl, ?_⟩
    -- taken
    refine ⟨_, rfl, d, _, rfl, dt s12, _, rfl, _, rfl, _, rfl, false, p, ts, ss, n, so, rfl, s12.seq hP, hS.same s12, hn, hz, fun H3 s3 => ?_⟩
    have s13 := s12.trans s3
    have ht3 := s3 _ _ (s2 _ _ ht1)
    refine ⟨_, _, rfl, rfl, _, rfl, t1, _, _, _, rfl, rfl, SqT.of ht3, rfl, _, _, rfl, rfl, ?_⟩
    -- the stage
    refine ⟨_, rfl, d, _, rfl, dn s13, _, rfl, t1, _, _, _, rfl, rfl, SqT.of ht3, rfl, _, rfl, _, rfl, a0, p1, _, _, rfl, fun H4 d4 s4 f4 h4 => ?_⟩
    have ht4 := s4 _ _ ht3
    refine ⟨_, rfl, t1, _, _, _, rfl, rfl, SqT.of ht4, rfl, _, rfl, t1, _, _, _, rfl, rfl, SqT.of ht4, rfl, sz9, fun t5 f5 => ?_⟩
    have s14 := s13.trans s4
    exact q _ t5 d4 p1 (s14.trans (Same.upd f5)) (s14.free f5) (s13.free f4) fp1 upd_same (Same.upd f5 _ _ h4) (Same.upd f5 _ _ (s4 _ _ (s3 _ _ (s2 _ _ hp1))))
abbrev s_year_of : Stmt := top 56
abbrev N_year_of : List Str := ["deed"]
abbrev P_year_of : List Str := ["deed"]
theorem sc_year_of : FnScope N_year_of P_year_of (defScope s_year_of) := mk9
/-! year_of -/
def sp_year_of : Sp := fun vs H Q _ => ∃ (t : Addr) (D : Deed), vs = [.ref t] ∧ DeedAt H t D ∧ ∀ (H' : Hp) (u l : Addr) (ts : List Addr), Same H H' → H' u = some (.tup [.ref l, .int ((D.more : Int) + 1)]) → H' l = some (.lst (ts.map V.ref)) → SeasAt H' ts D.row → Q (.ref u) H'
theorem ok_year_of (F : Fun K "year_of" "year_of" s_year_of f fd) (T : Txt K mg) : FnOk P w K mg base CX0 1 f fd P_year_of sp_year_of := by
  refine F.ok sc_year_of (fun vs H Q E h => ?_) (fun cdv A outer s H vs Q E hr h => ?_)
  · obtain ⟨t, D, rfl, _⟩ := h
    rfl
  · obtain ⟨t, D, rfl, hD, q⟩ := h
    refine ⟨_, (pss_cons (ps_if (pt_cmpR op_eq (pe_ix ix_tup (pv 0) pe_int (fun _ _ => rfl)) pe_str (nomark _))
        (pss_one (ps_ret (pe_tup (pa_cons (pe_list T.n_list (pe_ix ix_tup (pv 0) pe_int (fun _ _ => rfl))) (pa_cons (pe_ix ix_tup (pv 0) pe_int (fun _ _ => rfl)) pa_nil)))))
        pss_nil)
      (pss_cons (ps_if (pt_cmpR op_eq (pe_ix ix_tup (pv 0) pe_int (fun _ _ => rfl)) pe_str (nomark _))
        (pss_one (ps_ret (pe_tup (pa_cons (pe_lst pa_nil) (pa_cons pe_int pa_nil)))))
        pss_nil)
      (pss_one (ps_ret (pe_tup (pa_cons (pe_lst (pa_cons (pv 0) pa_nil)) (pa_cons pe_int pa_nil))))))), ?_⟩
    cases D with
    | sea z =>
      have hD : H t = some (.tup [.str (kindS z.1), .int z.2]) := hD
      refine ⟨_, rfl, t, _, _, _, rfl, rfl, SqT.of hD, rfl, rfl, _, rfl, ?_⟩
      rw [kind_years]
      refine iteF ?_
      refine ⟨_, rfl, t, _, _, _, rfl, rfl, SqT.of hD, rfl, rfl, _, rfl, ?_⟩
      rw [kind_lay]
      refine iteF ?_
      refine ⟨_, rfl, sz9, fun l fl => ⟨sz9, fun u fu => ?_⟩⟩
      exact q _ u l [t] ((Same.upd fl).trans (Same.upd fu)) upd_same (Same.upd fu _ _ upd_same) (((SeasAt.nil _).snoc (z := z) hD).same ((Same.upd fl).trans (Same.upd fu)))
    | yrs ss n =>
      obtain ⟨u0, ts, h1, h2, h3⟩ := hD
      refine ⟨_, rfl, t, _, _, _, rfl, rfl, SqT.of h1, rfl, rfl, _, rfl, ?_⟩
      refine iteT ?_
      refine ⟨_, rfl, t, _, _, _, rfl, rfl, SqT.of h1, rfl, u0, _, rfl, .inr (SqT.of h2), fun l fl => ⟨_, rfl, t, _, _, _, rfl, rfl, SqT.of (Same.upd fl _ _ h1), rfl, sz9, fun u fu => ?_⟩⟩
      exact q _ u l ts ((Same.upd fl).trans (Same.upd fu)) upd_same (Same.upd fu _ _ upd_same) (h3.same ((Same.upd fl).trans (Same.upd fu)))
abbrev s_G___init__ : Stmt := inClass (top 57) 0
abbrev N_G___init__ : List Str := ["self", "needs", "heats", "need", "begun"]
abbrev P_G___init__ : List Str := ["self", "needs", "heats"]
theorem sc_G___init__ : FnScope N_G___init__ P_G___init__ (defScope s_G___init__) := mk9
/-! Ground.__init__ -/
def sp_G_init (K : W.Frag) (G : Addr) : Sp := fun vs H Q _ => ∃ (p a dx : Addr) (needs begun : List Int) (hv : V), vs = [.ref p, .ref a, hv] ∧ H p = some (.ins G dx []) ∧ SqL K H a (needs.map V.int) ∧ 1 ≤ needs.length ∧ needs.length ≤ 30 ∧ (∀ i, i < needs.length → 1 ≤ needs.getD i 0 ∧ needs.getD i 0 ≤ 200) ∧
  ((hv = .non ∧ begun = List.replicate needs.length 0) ∨ ∃ b, hv = .ref b ∧ SqL K H b (begun.map V.int)) ∧ HeatsOk needs begun ∧ ∀ H', (∀ b o, H b = some o → b ≠ p → H' b = some o) → GroundSep G (fun b => H b = none) H' p [] [⟨needs, begun, 0, 0⟩] → Q .non H'
theorem init_of {G : Addr} {H : Hp} {c1 c2 : Addr} {needs heats : List Int} {R : Addr → Hp → Prop} {E : XK} (h1 : H c1 = some (.lst (needs.map V.int))) (h2 : H c2 = some (.lst (heats.map V.int))) (B : Beds needs heats) (h30 : needs.length ≤ 30)
    (q : ∀ (H' : Hp) (x pk ps : Addr), Same H H' → H pk = none → H ps = none → GroundX G (fun b => H b = none) H' x pk ps [] [⟨needs, heats, 0, 0⟩] → R x H') : ∀ x dx, H x = none → H dx = none → dx ≠ x → sp_G_init K G [.ref x, .ref c1, .ref c2] (upd (upd H dx (.own x)) x (.ins G dx [])) (fun v H2 => v = .non ∧ R x H2) E := by
  have hB1 := B.len
  have hB3 := B.lo
  intro x dx fx fdx nex
  have hA0 : ∀ {c : Addr} {ys : List Int}, H c = some (.lst (ys.map V.int)) → SqL K (upd (upd H dx (.own x)) x (.ins G dx [])) c (ys.map V.int) := fun {c ys} e => SqL.of (by rw [upd_ne (ne_of_none e fx), upd_ne (ne_of_none e fdx)]; exact e)
  refine ⟨x, c1, dx, needs, heats, .ref c2, rfl, upd_same, hA0 h1, hB3, h30, B.need, .inr ⟨c2, rfl, hA0 h2⟩, B.ok, fun H3 k3 S3 => ⟨rfl, ?_⟩⟩
  obtain ⟨s3, S3'⟩ : Same H H3 ∧ GroundSep G (fun b => H b = none) H3 x [] [⟨needs, heats, 0, 0⟩] := by
    refine ⟨fun b o e => k3 b o (by rw [upd_ne (ne_of_none e fx), upd_ne (ne_of_none e fdx)]; exact e) (ne_of_none e fx), S3.keep (fun b o _ e => e) (fun o e => e) fun b e => ?_⟩
    cases z : H b with
    | none => rfl
    | some o =>
      have e : (upd (upd H dx (.own x)) x (.ins G dx [])) b = none := e
      rw [upd_ne (ne_of_none z fx), upd_ne (ne_of_none z fdx), z] at e
      cases e
  obtain ⟨pk, ps, fk, fs, X3⟩ := S3'.x (by intro e; rw [e] at hB3; simp at hB3) (by intro e; rw [e] at hB1; simp at hB1; omega)
  exact q H3 x pk ps s3 fk fs X3
theorem ok_G___init__ (F : FunD K "__init__" "Ground.__init__" s_G___init__ f fd) (T : Txt K mg) (TG : GCls K mg G) (o_check_beds : Ok P w K mg base "check_beds" P_check_beds 1 (sp_check_beds K)) (o_check_need : Ok P w K mg base "check_need" P_check_need 1 sp_check_need) (o_check_heats : Ok P w K mg base "check_heats" P_check_heats 1 (sp_check_heats K)) (o_stage_of : Ok P w K mg base "stage_of" P_stage_of 1 sp_stage_of) : FnOk P w K mg base CX0 2 f fd P_G___init__ (sp_G_init K G) := by
  refine F.ok sc_G___init__ (fun vs H Q E h => ?_) (fun cdv A outer s H vs Q E hr h => ?_)
  · obtain ⟨p, a, dx, needs, begun, hv, rfl, _⟩ := h
    rfl
  · obtain ⟨p, a, dx, needs, begun, hv, rfl, hp, hA, h1, h30, hx, hb, hO, q⟩ := h
    refine ⟨_, (pss_cons (ps_expr (pe_callO o_check_beds hr (pa_cons (pv 1) pa_nil)))
      (pss_cons (ps_for PassesOwn.never rfl (pi_list (pv 1)) (pg_name (i := 3) sc_G___init__.nd rfl (Or.inl rfl))
        (pss_one (ps_expr (pe_callO o_check_need hr (pa_cons (pv 3) pa_nil)))))
      (pss_cons (ps_set (i := 4) sc_G___init__.nd rfl (Or.inl rfl) (pe_ifExp (pt_cmp (pc_isN (pv 2))) (pe_op op_rep (pe_lst (pa_cons pe_int pa_nil)) (pe_len T.n_len (pv 1))) (pe_list T.n_list (pv 2))))
      (pss_cons (ps_expr (pe_callO o_check_heats hr (pa_cons (pv 1) (pa_cons (pv 4) pa_nil))))
      (pss_cons (ps_fld (pv 0) (pe_lst pa_nil) rfl)
      (pss_one (ps_fld (pv 0) (pe_lst (pa_cons (pe_callO o_stage_of hr (pa_cons (pe_list T.n_list (pv 1)) (pa_cons (pv 4) (pa_cons pe_int (pa_cons pe_int pa_nil))))) pa_nil)) rfl))))))), ?_⟩
    refine ⟨_, rfl, a, needs, rfl, hA, h1, h30, ?_⟩
    refine ⟨_, rfl, a, rfl, ⟨_, hA⟩, ?_⟩
    refine for_list (xs := needs.map V.int) (fun i σ H2 => (∃ v, σ = [some (.ref p), some (.ref a), some hv, v, none]) ∧ H2 = H) ⟨⟨none, rfl⟩, rfl⟩ (fun i σ H2 _ z => by rw [z.2]; exact hA) ?_ ?_
    · rintro i x σ H2 hx2 ⟨⟨v, rfl⟩, rfl⟩
      obtain ⟨hi, rfl⟩ := getI_some hx2
      exact ⟨_, rfl, _, rfl, (hx i hi).1, (hx i hi).2, ⟨_, rfl⟩, rfl⟩
    rintro σ0 H0 ⟨⟨v, rfl⟩, rfl⟩
    dsimp only
    refine seq_cut (fun σ H3 => ∃ pb, σ = [some (.ref p), some (.ref a), some hv, v, some (.ref pb)] ∧ Same H0 H3 ∧ H0 pb = none ∧ H3 pb = some (.lst (begun.map V.int))) ?_ ?_
    · intro nx hnx
      rcases hb with ⟨rfl, rfl⟩ | ⟨b, rfl, hB⟩
      · refine ⟨_, rfl, _, rfl, ?_⟩
        refine iteT ?_
        refine ⟨sz9, fun l0 f0 => ⟨_, rfl, a, _, rfl, .inl ((Same.upd f0).seq hA), l0, _, _, rfl, rfl, upd_same, ?_, ?_, ?_, fun pb fb => ?_⟩⟩
        · omega
        · rw [List.length_map]; omega
        · refine sz1000' ?_
          rw [List.length_map]
          show 1 * _ ≤ _
          omega
        · refine hnx _ _ ⟨pb, rfl, (Same.upd f0).trans (Same.upd fb), (Same.upd f0).free fb, upd_same.trans ?_⟩
          refine congrArg (fun z => some (HO.lst z)) ?_
          rw [List.length_map, show ((needs.length : Int)).toNat = needs.length by omega]
          simp
      · refine ⟨_, rfl, _, rfl, ?_⟩
        refine iteF ?_
        exact ⟨_, rfl, b, _, rfl, .inl hB, fun pb fb => hnx _ _ ⟨pb, rfl, Same.upd fb, fb, upd_same⟩⟩
    · rintro σ1 H3 ⟨pb, rfl, s3, fpb, h3b⟩
      refine ⟨_, rfl, _, rfl, a, pb, needs, begun, rfl, s3.seq hA, SqL.of h3b, hO, by omega, fun H4 s4 => ?_⟩
      have s04 := s3.trans s4
      have h4b := s4 _ _ h3b
      have h4p := s04 _ _ hp
      refine ⟨sz9, fun pk fk => ?_⟩
      have npk : p ≠ pk := ne_of_none h4p fk
      refine ⟨_, rfl, p, G, dx, [], rfl, (by rw [upd_ne npk]; exact h4p), TG.cl, TG.nK, (by show 0 < 1000; decide), ?_⟩
      have h5p : (upd (upd H4 pk (.lst [])) p (.ins G dx (putF "kept" (.ref pk) []))) p = some (.ins G dx (putF "kept" (.ref pk) [])) := upd_same
      have h5k : (upd (upd H4 pk (.lst [])) p (.ins G dx (putF "kept" (.ref pk) []))) pk = some (.lst []) := (upd_ne (Ne.symm npk)).trans upd_same
      have h5b : (upd (upd H4 pk (.lst [])) p (.ins G dx (putF "kept" (.ref pk) []))) pb = some (.lst (begun.map V.int)) := (upd_ne (ne_of h4b h4p (by intro z; cases z))).trans (Same.upd fk _ _ h4b)
      have hA5 : SqL K (upd (upd H4 pk (.lst [])) p (.ins G dx (putF "kept" (.ref pk) []))) a (needs.map V.int) := sqL_set ((Same.upd fk).seq (s04.seq hA)) (Same.upd fk _ _ h4p)
      have k5 : ∀ b o, H0 b = some o → b ≠ p → (upd (upd H4 pk (.lst [])) p (.ins G dx (putF "kept" (.ref pk) []))) b = some o := fun b o e n => by rw [upd_ne n]; exact Same.upd fk _ _ (s04 _ _ e)
      generalize upd (upd H4 pk (.lst [])) p (.ins G dx (putF "kept" (.ref pk) [])) = H5 at h5p h5k h5b hA5 k5 ⊢
      refine ⟨_, rfl, a, _, rfl, .inl hA5, fun la fla => ⟨_, rfl, la, pb, 0, 0, rfl, fun H6 d s6 fd6 hd6 => ⟨sz9, fun pst fst => ?_⟩⟩⟩
      have s56 := (Same.upd (o := .lst (needs.map V.int)) fla).trans s6
      have h6p := s56 _ _ h5p
      have npst : p ≠ pst := ne_of_none h6p fst
      refine ⟨_, rfl, p, G, dx, _, rfl, (by rw [upd_ne npst]; exact h6p), TG.cl, TG.nS, (by show 1 < 1000; decide), ?_⟩
      have kk : ∀ {b : Addr} {o : HO}, b ≠ p → H6 b = some o → (upd (upd H6 pst (.lst [.ref d])) p (.ins G dx (putF "stages" (.ref pst) (putF "kept" (.ref pk) [])))) b = some o := fun {b o} n e => by rw [upd_ne n]; exact Same.upd fst _ _ e
      have hla : H6 la = some (.lst (needs.map V.int)) := s6 _ _ upd_same
      have old5 : ∀ {b : Addr}, b ≠ p → H5 b = none → H0 b = none := fun {b} n e => by
        cases z : H0 b with
        | none => rfl
        | some o => rw [k5 b o z n] at e; cases e
      have fps : H0 pst = none := old5 (Ne.symm npst) (s56.free fst)
      have fd0 : H0 d = none := old5 (ne_of hd6 h6p (by intro z; cases z)) ((Same.upd (o := .lst (needs.map V.int)) fla).free fd6)
      have fla0 : H0 la = none := old5 (ne_of hla h6p (by intro z; cases z)) fla
      refine q _ (fun b o e n => kk n (s56 _ _ (k5 b o e n))) ⟨⟨dx, pk, pst, [d], ?_, s04.free fk, kk (Ne.symm npk) (s56 _ _ h5k), fps, ?_, rfl, fun i S e => ?_⟩⟩
      · rw [upd_same, gF_put]
      · exact (upd_ne (Ne.symm npst)).trans upd_same
      · match i, e with
        | 0, e =>
          cases e
          exact ⟨d, la, pb, rfl, fd0, fla0, fpb, kk (ne_of hd6 h6p (by intro z; cases z)) hd6, kk (ne_of hla h6p (by intro z; cases z)) hla, kk (ne_of (s56 _ _ h5b) h6p (by intro z; cases z)) (s56 _ _ h5b)⟩
        | k + 1, e => cases e
abbrev s_G_last_stage : Stmt := inClass (top 57) 1
abbrev N_G_last_stage : List Str := ["self"]
abbrev P_G_last_stage : List Str := ["self"]
theorem sc_G_last_stage : FnScope N_G_last_stage P_G_last_stage (defScope s_G_last_stage) := mk9
/-! Ground.last_stage -/
def sp_G_last_stage (G : Addr) : Sp := fun vs H Q _ => ∃ (p : Addr) (kept : List V) (Ss : List Stage) (S : Stage) (ok : Addr → Prop), vs = [.ref p] ∧ GroundY G ok H p kept Ss ∧ Ss.getLast? = some S ∧ ∀ d a b, ok a → ok b → H d = some (.dK (stageK a b S.found S.taken)) → H a = some (.lst (S.needs.map V.int)) → H b = some (.lst (S.heats.map V.int)) → Q (.ref d) H
theorem ok_G_last_stage (F : Fun K "last_stage" "Ground.last_stage" s_G_last_stage f fd) (T : Txt K mg) (TG : GCls K mg G) : FnOk P w K mg base CX0 1 f fd P_G_last_stage (sp_G_last_stage G) := by
  refine F.ok sc_G_last_stage (fun vs H Q E h => ?_) (fun cdv A outer s H vs Q E hr h => ?_)
  · obtain ⟨p, kept, Ss, S, ok, rfl, _⟩ := h
    rfl
  · obtain ⟨p, kept, Ss, S, ok, rfl, hG, hl, q⟩ := h
    refine ⟨_, (pss_one (ps_ret (pe_ix ix_list (pe_fld (pv 0) rfl) (pe_un un_neg pe_int) (fun _ _ => rfl)))), ?_⟩
    obtain ⟨dx, pk, ps, ds, h1, h2, h3, h4, h5⟩ := hG.ex
    have hn : 0 < Ss.length := by
      cases Ss with
      | nil => cases hl
      | cons a b => simp
    obtain ⟨d, a, b, e1, oa, ob, e2, e3, e4⟩ := h5 (Ss.length - 1) S (by rw [← List.getLast?_eq_getElem?]; exact hl)
    refine ⟨_, rfl, p, G, dx, _, _, rfl, h1, TG.cl, TG.nS, gF_stages _ _, _, rfl, ps, _, _, _, rfl, rfl, SqL.of h3, ?_, q d a b oa ob e2 e3 e4⟩
    have el : (ds.map V.ref).length = Ss.length := by rw [List.length_map, h4]
    unfold atI ixN
    rw [if_neg (by decide), if_pos (by omega)]
    show (ds.map V.ref)[((-1 : Int) + ((ds.map V.ref).length : Int)).toNat]? = _
    rw [show ((-1 : Int) + ((ds.map V.ref).length : Int)).toNat = Ss.length - 1 by omega, List.getElem?_map, e1]
    rfl
abbrev s_G_stage_within : Stmt := inClass (top 57) 2
abbrev N_G_stage_within : List Str := ["self", "deed", "at_year", "season", "again"]
abbrev P_G_stage_within : List Str := ["self", "deed", "at_year", "season"]
theorem sc_G_stage_within : FnScope N_G_stage_within P_G_stage_within (defScope s_G_stage_within) := mk9
/-! Ground.stage_within -/
def sp_G_stage_within (G : Addr) : Sp := fun vs H Q _ => ∃ (p t : Addr) (kept : List V) (Ss : List Stage) (S : Stage) (D : Deed) (k n so : Nat), vs = [.ref p, .int ((k : Int) + 1), .int ((n : Int) + 1), .int (so : Int)] ∧ GroundAt G H p kept Ss ∧ kept[k]? = some (.ref t) ∧ Ss[k]? = some S ∧ DeedAt H t D ∧ D.row.length ≤ 1000 ∧ (∀ z ∈ D.row, 0 ≤ z.2 ∧ z.2 ≤ 1000000) ∧ (D.more : Int) + 1 ≤ 1000000000000000000 ∧ n ≤ D.more ∧ 1 ≤ so ∧ so ≤ D.row.length ∧ HeatsOk S.needs S.heats ∧ 1 ≤ S.needs.length ∧ S.needs.length ≤ 1000 ∧
  ∀ (H' : Hp) (d a b : Addr), Same H H' → H d = none → H b = none → H' d = some (.dK (stageK a b (reachS S D.row n so).found (reachS S D.row n so).taken)) → H' a = some (.lst (S.needs.map V.int)) → H' b = some (.lst ((reachS S D.row n so).heats.map V.int)) → Q (.ref d) H'
theorem ok_G_stage_within (F : Fun K "stage_within" "Ground.stage_within" s_G_stage_within f fd) (T : Txt K mg) (TG : GCls K mg G) (o_check_deed : Ok P w K mg base "check_deed" P_check_deed 1 sp_check_deed) (o_check_season : Ok P w K mg base "check_season" P_check_season 1 sp_check_season) (o_year_of : Ok P w K mg base "year_of" P_year_of 1 sp_year_of) (o_reached : Ok P w K mg base "reached" P_reached 7 (sp_reached K)) : FnOk P w K mg base CX0 8 f fd P_G_stage_within (sp_G_stage_within G) := by
  refine F.ok sc_G_stage_within (fun vs H Q E h => ?_) (fun cdv A outer s H vs Q E hr h => ?_)
  · obtain ⟨p, t, kept, Ss, S, D, k, n, so, rfl, _⟩ := h
    rfl
  · obtain ⟨p, t, kept, Ss, S, D, k, n, so, rfl, hG, hk, hS, hD, hr1, hz, hm, hn, s1, s2, hO, hn1, hn2, q⟩ := h
    obtain ⟨dx, pk, ps, ds, h1, h2, h3, h4, h5⟩ := hG.ex
    obtain ⟨d0, i1, a0, b0, i2, i3, i4⟩ := h5 k S hS
    have hkl : k < kept.length := (List.getElem?_eq_some_iff.mp hk).1
    have ek : ((k : Int) + 1 - 1) = (k : Int) := by omega
    refine ⟨_, (pss_cons (ps_expr (pe_callO o_check_deed hr (pa_cons pe_int (pa_cons (pe_len T.n_len (pe_fld (pv 0) rfl)) (pa_cons (pv 1) pa_nil)))))
      (pss_cons (ps_set (i := 4) sc_G_stage_within.nd rfl (Or.inl rfl) (pe_callO o_year_of hr (pa_cons (pe_ix ix_list (pe_fld (pv 0) rfl) (pe_op op_sub (pv 1) pe_int) (fun _ _ => rfl)) pa_nil)))
      (pss_cons (ps_expr (pe_callO o_check_season hr (pa_cons (pe_ix ix_tup (pv 4) pe_int (fun _ _ => rfl)) (pa_cons (pe_len T.n_len (pe_ix ix_tup (pv 4) pe_int (fun _ _ => rfl))) (pa_cons (pv 2) (pa_cons (pv 3) pa_nil))))))
      (pss_one (ps_ret (pe_ix ix_tup (pe_callO o_reached hr (pa_cons (pe_ix ix_list (pe_fld (pv 0) rfl) (pe_op op_sub (pv 1) pe_int) (fun _ _ => rfl)) (pa_cons (pe_ix ix_tup (pv 4) pe_int (fun _ _ => rfl)) (pa_cons (pv 2) (pa_cons (pv 3) pa_nil))))) pe_int (fun _ _ => rfl))))))), ?_⟩
    refine ⟨_, rfl, p, G, dx, _, _, rfl, h1, TG.cl, TG.nK, gF_kept _ _, pk, _, rfl, .inl (SqL.of h2), _, rfl, _, _, _, rfl, by omega, by omega, ?_⟩
    refine ⟨_, rfl, p, G, dx, _, _, rfl, h1, TG.cl, TG.nK, gF_kept _ _, _, rfl, _, _, rfl, rfl, pk, _, _, _, rfl, rfl, SqL.of h2, (by rw [ek]; exact atI_nat hk), t, D, rfl, hD, fun H1 u l ts s1' hu hl hS1 => ?_⟩
    have el : (ts.map V.ref).length = D.row.length := by rw [List.length_map, hS1.len]
    refine ⟨_, rfl, u, _, _, _, rfl, rfl, SqT.of hu, rfl, _, rfl, u, _, _, _, rfl, rfl, SqT.of hu, rfl, l, _, rfl, .inl (SqL.of hl), _, rfl, _, rfl, _, _, _, _, rfl, by omega, by omega, by omega, by rw [el]; omega, ?_⟩
    refine ⟨_, rfl, p, G, dx, _, _, rfl, s1' _ _ h1, TG.cl, TG.nS, gF_stages _ _, _, rfl, _, _, rfl, rfl, ps, _, _, _, rfl, rfl, SqL.of (s1' _ _ h3), (by rw [ek]; exact atI_nat (by rw [List.getElem?_map, i1]; rfl)), _, rfl, u, _, _, _, rfl, rfl, SqT.of hu, rfl, _, rfl, _, rfl, ?_⟩
    refine ⟨d0, l, S, ts, D.row, n, so, a0, b0, rfl, s1' _ _ i2, s1' _ _ i3, s1' _ _ i4, SqL.of hl, hS1, hr1, hz, hO, hn1, hn2, by omega, fun H2 v d' b' s2' fv fd' fb' hv hd' hb' => ?_⟩
    exact ⟨v, _, _, _, rfl, rfl, SqT.of hv, rfl, q H2 d' a0 b' (s1'.trans s2') (s1'.free fd') (s1'.free fb') hd' (s2' _ _ (s1' _ _ i3)) hb'⟩
abbrev s_G_keep : Stmt := inClass (top 57) 5
abbrev N_G_keep : List Str := ["self", "deed", "stage"]
abbrev P_G_keep : List Str := ["self", "deed", "stage"]
theorem sc_G_keep : FnScope N_G_keep P_G_keep (defScope s_G_keep) := mk9
/-! Ground.keep -/
def sp_G_keep (G : Addr) : Sp := fun vs H Q _ => ∃ (p pk ps d a b t : Addr) (kept : List V) (Ss : List Stage) (S : Stage) (ok : Addr → Prop), vs = [.ref p, .ref t, .ref d] ∧ GroundX G ok H p pk ps kept Ss ∧ kept.length ≤ 1000 ∧ Ss.length ≤ 1000 ∧ H d = some (.dK (stageK a b S.found S.taken)) ∧ H a = some (.lst (S.needs.map V.int)) ∧ H b = some (.lst (S.heats.map V.int)) ∧ a ≠ pk ∧ a ≠ ps ∧ b ≠ pk ∧ b ≠ ps ∧ ok a ∧ ok b ∧
  ∀ H', Keep2 pk ps H H' → GroundX G ok H' p pk ps (kept ++ [.ref t]) (Ss ++ [S]) → Q .non H'
theorem ok_G_keep (F : Fun K "keep" "Ground.keep" s_G_keep f fd) (T : Txt K mg) (TG : GCls K mg G) : FnOk P w K mg base CX0 1 f fd P_G_keep (sp_G_keep G) := by
  refine F.ok sc_G_keep (fun vs H Q E h => ?_) (fun cdv A outer s H vs Q E hr h => ?_)
  · obtain ⟨p, pk, ps, d, a, b, t, kept, Ss, S, ok, rfl, _⟩ := h
    rfl
  · obtain ⟨p, pk, ps, d, a, b, t, kept, Ss, S, ok, rfl, hG, l1, l2, g1, g2, g3, n1, n2, n3, n4, oa, ob, q⟩ := h
    obtain ⟨dx, ds, h1, h2, h3, h4, h5⟩ := id hG.ex
    have hne := hG.ne
    refine ⟨_, (pss_cons (ps_expr (pe_bm PySem.F.plainAttrs_list PySem.F.slot_list_append PySem.F.type_list_append mt_append (pe_fld (pv 0) rfl) (pa_cons (pv 1) pa_nil)))
      (pss_one (ps_expr (pe_bm PySem.F.plainAttrs_list PySem.F.slot_list_append PySem.F.type_list_append mt_append (pe_fld (pv 0) rfl) (pa_cons (pv 2) pa_nil))))), ?_⟩
    refine ⟨_, rfl, p, G, dx, _, _, rfl, h1, TG.cl, TG.nK, gF_kept _ _, .inl ⟨rfl, _, SqL.of h2⟩, _, rfl, pk, _, _, rfl, rfl, h2, sz1000 (by omega), ?_⟩
    have h1' : (upd H pk (.lst (kept ++ [.ref t]))) p = some (.ins G dx (gF pk ps)) := (upd_ne (ne_of h1 h2 (by intro z; cases z))).trans h1
    have h3' : (upd H pk (.lst (kept ++ [.ref t]))) ps = some (.lst (ds.map V.ref)) := (upd_ne (Ne.symm hne)).trans h3
    refine ⟨_, rfl, p, G, dx, _, _, rfl, h1', TG.cl, TG.nS, gF_stages _ _, .inl ⟨rfl, _, SqL.of h3'⟩, _, rfl, ps, _, _, rfl, rfl, h3', sz1000 (by rw [List.length_map]; omega), ?_⟩
    have k : Keep2 pk ps H (upd (upd H pk (.lst (kept ++ [.ref t]))) ps (.lst (ds.map V.ref ++ [.ref d]))) := fun b o m1 m2 e => by rw [upd_ne m2, upd_ne m1]; exact e
    exact q _ k (hG.push k ((upd_ne hne).trans upd_same) (fun ds' e => by have z := HO.lst.inj (Option.some.inj (h3.symm.trans e)); rw [← z]; exact upd_same) g1 g2 g3 n1 n2 n3 n4 oa ob)
abbrev s_G_pass_seasons : Stmt := inClass (top 57) 6
abbrev N_G_pass_seasons : List Str := ["self", "deed", "again", "behind"]
abbrev P_G_pass_seasons : List Str := ["self", "deed"]
theorem sc_G_pass_seasons : FnScope N_G_pass_seasons P_G_pass_seasons (defScope s_G_pass_seasons) := mk9
/-! Ground.pass_seasons -/
def sp_G_pass_seasons (G : Addr) : Sp := fun vs H Q _ => ∃ (p pk ps t : Addr) (kept : List V) (Ss : List Stage) (S : Stage) (D : Deed) (ok : Addr → Prop), vs = [.ref p, .ref t] ∧ GroundX G ok H p pk ps kept Ss ∧ (∀ b, H b = none → ok b) ∧ Ss.getLast? = some S ∧ kept.length < 300 ∧ Ss.length ≤ 1000 ∧ DeedAt H t D ∧ D.row.length ≤ 1000 ∧ (∀ z ∈ D.row, 0 ≤ z.2 ∧ z.2 ≤ 1000000) ∧ (D.more : Int) + 1 ≤ 1000000000000000000 ∧ HeatsOk S.needs S.heats ∧ 1 ≤ S.needs.length ∧ S.needs.length ≤ 1000 ∧
  ∀ (H' : Hp) (u : Addr), Keep2 pk ps H H' → GroundX G ok H' p pk ps (kept ++ [.ref t]) (Ss ++ [reachS S D.row D.more D.row.length]) → H' u = some (.tup [.int (untilL S.needs S.heats D.row D.more D.row.length).room, .int (untilL S.needs S.heats D.row D.more D.row.length).heat]) → Q (.ref u) H'
theorem ok_G_pass_seasons (F : Fun K "pass_seasons" "Ground.pass_seasons" s_G_pass_seasons f fd) (T : Txt K mg) (TG : GCls K mg G) (om_last_stage : OkM P w K mg base G "last_stage" P_G_last_stage 1 (sp_G_last_stage G)) (om_keep : OkM P w K mg base G "keep" P_G_keep 1 (sp_G_keep G)) (o_check_room_for_deed : Ok P w K mg base "check_room_for_deed" P_check_room_for_deed 1 sp_check_room_for_deed) (o_year_of : Ok P w K mg base "year_of" P_year_of 1 sp_year_of) (o_reached : Ok P w K mg base "reached" P_reached 7 (sp_reached K)) : FnOk P w K mg base CX0 8 f fd P_G_pass_seasons (sp_G_pass_seasons G) := by
  refine F.ok sc_G_pass_seasons (fun vs H Q E h => ?_) (fun cdv A outer s H vs Q E hr h => ?_)
  · obtain ⟨p, pk, ps, t, kept, Ss, S, D, ok, rfl, _⟩ := h
    rfl
  · obtain ⟨p, pk, ps, t, kept, Ss, S, D, ok, rfl, hG, hok, hl, l1, l2, hD, hr1, hz, hm, hO, hn1, hn2, q⟩ := h
    obtain ⟨dx, ds, h1, h2, h3, h4, h5⟩ := id hG.ex
    refine ⟨_, (pss_cons (ps_expr (pe_callO o_check_room_for_deed hr (pa_cons (pe_len T.n_len (pe_fld (pv 0) rfl)) pa_nil)))
      (pss_cons (ps_set (i := 2) sc_G_pass_seasons.nd rfl (Or.inl rfl) (pe_callO o_year_of hr (pa_cons (pv 1) pa_nil)))
      (pss_cons (ps_set (i := 3) sc_G_pass_seasons.nd rfl (Or.inl rfl) (pe_callO o_reached hr (pa_cons (pe_meth0O om_last_stage TG.cl hr (pv 0)) (pa_cons (pe_ix ix_tup (pv 2) pe_int (fun _ _ => rfl)) (pa_cons (pe_ix ix_tup (pv 2) pe_int (fun _ _ => rfl)) (pa_cons (pe_len T.n_len (pe_ix ix_tup (pv 2) pe_int (fun _ _ => rfl))) pa_nil))))))
      (pss_cons (ps_expr (pe_methO om_keep TG.cl hr (pv 0) (pa_cons (pv 1) (pa_cons (pe_ix ix_tup (pv 3) pe_int (fun _ _ => rfl)) pa_nil))))
      (pss_one (ps_ret (pe_tup (pa_cons (pe_ix ix_tup (pv 3) pe_int (fun _ _ => rfl)) (pa_cons (pe_ix ix_tup (pv 3) pe_int (fun _ _ => rfl)) pa_nil))))))))), ?_⟩
    refine ⟨_, rfl, p, G, dx, _, _, rfl, h1, TG.cl, TG.nK, gF_kept _ _, pk, _, rfl, .inl (SqL.of h2), _, rfl, by omega, ?_⟩
    refine ⟨_, rfl, t, D, rfl, hD, fun H1 u l ts s1 hu1 hl1 hS1 => ?_⟩
    have hG1 := hG.same s1
    refine ⟨_, rfl, p, dx, _, rfl, s1 _ _ h1, gN, p, kept, Ss, S, _, rfl, hG1.y, hl, fun d a b oa ob e1 e2 e3 => ?_⟩
    refine ⟨_, rfl, u, _, _, _, rfl, rfl, SqT.of hu1, rfl, _, rfl, u, _, _, _, rfl, rfl, SqT.of hu1, rfl, _, rfl, u, _, _, _, rfl, rfl, SqT.of hu1, rfl, l, _, rfl, .inl (SqL.of hl1), ?_⟩
    have el : ((ts.map V.ref).length : Int) = (D.row.length : Int) := by rw [List.length_map, hS1.len]
    refine ⟨d, l, S, ts, D.row, D.more, D.row.length, a, b, congrArg (fun z : Int => [V.ref d, V.ref l, V.int ((D.more : Int) + 1), V.int z]) el, e1, e2, e3, SqL.of hl1, hS1, hr1, hz, hO, hn1, hn2, hm, fun H2 v d2 b2 s2 fv fd2 fb2 hv hd2 hb2 => ?_⟩
    have hG2 := hG1.same s2
    obtain ⟨dx2, ds2, i1, i2, i3, _⟩ := id hG1.ex
    refine ⟨_, rfl, p, dx, _, rfl, s2 _ _ (s1 _ _ h1), gN, _, rfl, _, rfl, v, _, _, _, rfl, rfl, SqT.of hv, rfl, p, pk, ps, d2, a, b2, t, kept, Ss, reachS S D.row D.more D.row.length, ok, rfl, hG2, by omega, l2, hd2, s2 _ _ e2, hb2, oa.1, oa.2.1, Ne.symm (ne_of_none i2 fb2), Ne.symm (ne_of_none i3 fb2), oa.2.2, hok _ (s1.free fb2), fun H3 k3 hG3 => ?_⟩
    have hv3 := k3 v _ (ne_of hv (s2 _ _ i2) (by intro z; cases z)) (ne_of hv (s2 _ _ i3) (by intro z; cases z)) hv
    refine ⟨_, rfl, v, _, _, _, rfl, rfl, SqT.of hv3, rfl, _, rfl, v, _, _, _, rfl, rfl, SqT.of hv3, rfl, sz9, fun x fx => ?_⟩
    exact q _ x ((((s1.trans s2).keep2 pk ps).trans k3).trans ((Same.upd fx).keep2 pk ps)) (hG3.same (Same.upd fx)) upd_same
abbrev s_G_warm : Stmt := inClass (top 57) 7
abbrev N_G_warm : List Str := ["self", "amount"]
abbrev P_G_warm : List Str := ["self", "amount"]
theorem sc_G_warm : FnScope N_G_warm P_G_warm (defScope s_G_warm) := mk9
/-! Ground.warm -/
def sp_G_warm (G : Addr) : Sp := fun vs H Q _ => ∃ (p pk ps : Addr) (kept : List V) (Ss : List Stage) (S : Stage) (m : Int) (ok : Addr → Prop), vs = [.ref p, .int m] ∧ GroundX G ok H p pk ps kept Ss ∧ (∀ b, H b = none → ok b) ∧ Ss.getLast? = some S ∧ kept.length < 300 ∧ Ss.length ≤ 1000 ∧ 0 ≤ m ∧ m ≤ 1000000 ∧ HeatsOk S.needs S.heats ∧ 1 ≤ S.needs.length ∧ S.needs.length ≤ 1000 ∧
  ∀ (H' : Hp) (t : Addr), Keep2 pk ps H H' → H t = none → H' t = some (.tup [.str (kindS true), .int m]) → GroundX G ok H' p pk ps (kept ++ [.ref t]) (Ss ++ [reachS S [(true, m)] 0 1]) → Q (.int (untilL S.needs S.heats [(true, m)] 0 1).room) H'
theorem ok_G_warm (F : Fun K "warm" "Ground.warm" s_G_warm f fd) (T : Txt K mg) (TG : GCls K mg G) (o_check_amount : Ok P w K mg base "check_amount" P_check_amount 1 sp_check_amount) (om_pass_seasons : OkM P w K mg base G "pass_seasons" P_G_pass_seasons 8 (sp_G_pass_seasons G)) : FnOk P w K mg base CX0 9 f fd P_G_warm (sp_G_warm G) := by
  refine F.ok sc_G_warm (fun vs H Q E h => ?_) (fun cdv A outer s H vs Q E hr h => ?_)
  · obtain ⟨p, pk, ps, kept, Ss, S, m, ok, rfl, _⟩ := h
    rfl
  · obtain ⟨p, pk, ps, kept, Ss, S, m, ok, rfl, hG, hok, hl, l1, l2, m0, m1, hO, hn1, hn2, q⟩ := h
    obtain ⟨dx, ds, h1, h2, h3, _⟩ := id hG.ex
    refine ⟨_, (pss_cons (ps_expr (pe_callO o_check_amount hr (pa_cons (pv 1) pa_nil)))
      (pss_one (ps_ret (pe_ix ix_tup (pe_methO om_pass_seasons TG.cl hr (pv 0) (pa_cons (pe_tup (pa_cons pe_str (pa_cons (pv 1) pa_nil))) pa_nil)) pe_int (fun _ _ => rfl))))), ?_⟩
    refine ⟨_, rfl, m, rfl, m0, m1, ?_⟩
    refine ⟨_, rfl, p, dx, _, rfl, h1, gN, _, rfl, sz9, fun t ft => ?_⟩
    have s1 := Same.upd (o := .tup [.str (kindS true), .int m]) ft
    refine ⟨p, pk, ps, t, kept, Ss, S, .sea (true, m), ok, rfl, hG.same s1, fun b e => hok b (s1.free e), hl, l1, l2, upd_same, by show 1 ≤ 1000; decide, fun z hz => ?_, by show (0 : Int) + 1 ≤ _; decide, hO, hn1, hn2, fun H2 u k2 hG2 hu => ?_⟩
    · have hz : z = (true, m) := by simpa [Deed.row] using hz
      rw [hz]; exact ⟨m0, m1⟩
    · have ht2 := k2 t _ (Ne.symm (ne_of_none h2 ft)) (Ne.symm (ne_of_none h3 ft)) upd_same
      exact ⟨u, _, _, _, rfl, rfl, SqT.of hu, rfl, q _ t ((s1.keep2 pk ps).trans k2) ft ht2 hG2⟩
abbrev s_G_cold : Stmt := inClass (top 57) 8
abbrev N_G_cold : List Str := ["self", "amount"]
abbrev P_G_cold : List Str := ["self", "amount"]
theorem sc_G_cold : FnScope N_G_cold P_G_cold (defScope s_G_cold) := mk9
/-! Ground.cold -/
def sp_G_cold (G : Addr) : Sp := fun vs H Q _ => ∃ (p pk ps : Addr) (kept : List V) (Ss : List Stage) (S : Stage) (m : Int) (ok : Addr → Prop), vs = [.ref p, .int m] ∧ GroundX G ok H p pk ps kept Ss ∧ (∀ b, H b = none → ok b) ∧ Ss.getLast? = some S ∧ kept.length < 300 ∧ Ss.length ≤ 1000 ∧ 0 ≤ m ∧ m ≤ 1000000 ∧ HeatsOk S.needs S.heats ∧ 1 ≤ S.needs.length ∧ S.needs.length ≤ 1000 ∧
  ∀ (H' : Hp) (t : Addr), Keep2 pk ps H H' → H t = none → H' t = some (.tup [.str (kindS false), .int m]) → GroundX G ok H' p pk ps (kept ++ [.ref t]) (Ss ++ [reachS S [(false, m)] 0 1]) → Q (.int (untilL S.needs S.heats [(false, m)] 0 1).heat) H'
theorem ok_G_cold (F : Fun K "cold" "Ground.cold" s_G_cold f fd) (T : Txt K mg) (TG : GCls K mg G) (o_check_amount : Ok P w K mg base "check_amount" P_check_amount 1 sp_check_amount) (om_pass_seasons : OkM P w K mg base G "pass_seasons" P_G_pass_seasons 8 (sp_G_pass_seasons G)) : FnOk P w K mg base CX0 9 f fd P_G_cold (sp_G_cold G) := by
  refine F.ok sc_G_cold (fun vs H Q E h => ?_) (fun cdv A outer s H vs Q E hr h => ?_)
  · obtain ⟨p, pk, ps, kept, Ss, S, m, ok, rfl, _⟩ := h
    rfl
  · obtain ⟨p, pk, ps, kept, Ss, S, m, ok, rfl, hG, hok, hl, l1, l2, m0, m1, hO, hn1, hn2, q⟩ := h
    obtain ⟨dx, ds, h1, h2, h3, _⟩ := id hG.ex
    refine ⟨_, (pss_cons (ps_expr (pe_callO o_check_amount hr (pa_cons (pv 1) pa_nil)))
      (pss_one (ps_ret (pe_ix ix_tup (pe_methO om_pass_seasons TG.cl hr (pv 0) (pa_cons (pe_tup (pa_cons pe_str (pa_cons (pv 1) pa_nil))) pa_nil)) pe_int (fun _ _ => rfl))))), ?_⟩
    refine ⟨_, rfl, m, rfl, m0, m1, ?_⟩
    refine ⟨_, rfl, p, dx, _, rfl, h1, gN, _, rfl, sz9, fun t ft => ?_⟩
    have s1 := Same.upd (o := .tup [.str (kindS false), .int m]) ft
    refine ⟨p, pk, ps, t, kept, Ss, S, .sea (false, m), ok, rfl, hG.same s1, fun b e => hok b (s1.free e), hl, l1, l2, upd_same, by show 1 ≤ 1000; decide, fun z hz => ?_, by show (0 : Int) + 1 ≤ _; decide, hO, hn1, hn2, fun H2 u k2 hG2 hu => ?_⟩
    · have hz : z = (false, m) := by simpa [Deed.row] using hz
      rw [hz]; exact ⟨m0, m1⟩
    · have ht2 := k2 t _ (Ne.symm (ne_of_none h2 ft)) (Ne.symm (ne_of_none h3 ft)) upd_same
      exact ⟨u, _, _, _, rfl, rfl, SqT.of hu, rfl, q _ t ((s1.keep2 pk ps).trans k2) ft ht2 hG2⟩
abbrev s_G_years : Stmt := inClass (top 57) 9
abbrev N_G_years : List Str := ["self", "year", "times"]
abbrev P_G_years : List Str := ["self", "year", "times"]
theorem sc_G_years : FnScope N_G_years P_G_years (defScope s_G_years) := mk9
/-! Ground.years -/
def sp_G_years (K : W.Frag) (G : Addr) : Sp := fun vs H Q _ => ∃ (p pk ps py : Addr) (kept : List V) (Ss : List Stage) (S : Stage) (ts : List Addr) (ss : List (Bool × Int)) (n : Nat) (ok : Addr → Prop), vs = [.ref p, .ref py, .int ((n : Int) + 1)] ∧ GroundX G ok H p pk ps kept Ss ∧ (∀ b, H b = none → ok b) ∧ Ss.getLast? = some S ∧ kept.length < 300 ∧ Ss.length ≤ 1000 ∧ SqL K H py (ts.map V.ref) ∧ SeasAt H ts ss ∧ (∀ z ∈ ss, 0 ≤ z.2 ∧ z.2 ≤ 1000000) ∧ 1 ≤ ss.length ∧ ss.length ≤ 12 ∧ (n : Int) + 1 ≤ 1000000000000000000 ∧ HeatsOk S.needs S.heats ∧ 1 ≤ S.needs.length ∧ S.needs.length ≤ 1000 ∧
  ∀ (H' : Hp) (t u : Addr), Keep2 pk ps H H' → H t = none → DeedAt H' t (.yrs ss n) → GroundX G ok H' p pk ps (kept ++ [.ref t]) (Ss ++ [reachS S ss n ss.length]) → H' u = some (.tup [.int (untilL S.needs S.heats ss n ss.length).room, .int (untilL S.needs S.heats ss n ss.length).heat]) → Q (.ref u) H'
theorem ok_G_years (F : Fun K "years" "Ground.years" s_G_years f fd) (T : Txt K mg) (TG : GCls K mg G) (o_check_year : Ok P w K mg base "check_year" P_check_year 2 (sp_check_year K)) (o_check_times : Ok P w K mg base "check_times" P_check_times 1 sp_check_times) (om_pass_seasons : OkM P w K mg base G "pass_seasons" P_G_pass_seasons 8 (sp_G_pass_seasons G)) : FnOk P w K mg base CX0 9 f fd P_G_years (sp_G_years K G) := by
  refine F.ok sc_G_years (fun vs H Q E h => ?_) (fun cdv A outer s H vs Q E hr h => ?_)
  · obtain ⟨p, pk, ps, py, kept, Ss, S, ts, ss, n, ok, rfl, _⟩ := h
    rfl
  · obtain ⟨p, pk, ps, py, kept, Ss, S, ts, ss, n, ok, rfl, hG, hok, hl, l1, l2, hY, hS, hz, y1, y2, hn, hO, hn1, hn2, q⟩ := h
    obtain ⟨dx, ds, h1, h2, h3, _⟩ := id hG.ex
    refine ⟨_, (pss_cons (ps_expr (pe_callO o_check_year hr (pa_cons (pv 1) pa_nil)))
      (pss_cons (ps_expr (pe_callO o_check_times hr (pa_cons (pv 2) pa_nil)))
      (pss_one (ps_ret (pe_methO om_pass_seasons TG.cl hr (pv 0) (pa_cons (pe_tup (pa_cons pe_str (pa_cons (pe_callTy call_tuple_of (by rfl) T.n_tuple (by decide +kernel) (pa_cons (pv 1) pa_nil)) (pa_cons (pv 2) pa_nil)))) pa_nil)))))), ?_⟩
    refine ⟨_, rfl, py, ts, ss, rfl, hY, hS, hz, y1, y2, ?_⟩
    refine ⟨_, rfl, _, rfl, by omega, hn, ?_⟩
    refine ⟨_, rfl, p, dx, _, rfl, h1, gN, _, rfl, py, _, rfl, .inl ⟨hY, fun t0 f0 => ⟨_, rfl, sz9, fun t ft => ?_⟩⟩⟩
    have s0 := Same.upd (o := .tup (ts.map V.ref)) f0
    have s1 := s0.trans (Same.upd (o := .tup [.str "years", .ref t0, .int ((n : Int) + 1)]) ft)
    have hD : DeedAt (upd (upd H t0 (.tup (ts.map V.ref))) t (.tup [.str "years", .ref t0, .int ((n : Int) + 1)])) t (.yrs ss n) := ⟨t0, ts, upd_same, Same.upd ft _ _ upd_same, hS.same s1⟩
    have ft' : H t = none := s0.free ft
    refine ⟨p, pk, ps, t, kept, Ss, S, .yrs ss n, ok, rfl, hG.same s1, fun b e => hok b (s1.free e), hl, l1, l2, hD, by show ss.length ≤ 1000; omega, hz, hn, hO, hn1, hn2, fun H2 u k2 hG2 hu => ?_⟩
    refine q _ t u ((s1.keep2 pk ps).trans k2) ft' ?_ hG2 hu
    have kt : ∀ b ys, (upd (upd H t0 (.tup (ts.map V.ref))) t (.tup [.str "years", .ref t0, .int ((n : Int) + 1)])) b = some (.tup ys) → H2 b = some (.tup ys) := fun b ys e => k2 b _ (ne_of e (s1 _ _ h2) (by intro e; cases e)) (ne_of e (s1 _ _ h3) (by intro e; cases e)) e
    obtain ⟨u', ts', d1, d2, d3⟩ := hD
    exact ⟨u', ts', kt _ _ d1, kt _ _ d2, d3.tup kt⟩
abbrev s_G_lay : Stmt := inClass (top 57) 10
abbrev N_G_lay : List Str := ["self", "need", "stage", "needs"]
abbrev P_G_lay : List Str := ["self", "need"]
theorem sc_G_lay : FnScope N_G_lay P_G_lay (defScope s_G_lay) := mk9
/-! Ground.lay -/
def sp_G_lay (G : Addr) : Sp := fun vs H Q _ => ∃ (p pk ps : Addr) (kept : List V) (Ss : List Stage) (S S0 : Stage) (m : Int) (ok : Addr → Prop), vs = [.ref p, .int m] ∧ GroundX G ok H p pk ps kept Ss ∧ (∀ b, H b = none → ok b) ∧ Ss.getLast? = some S ∧ Ss[0]? = some S0 ∧ kept.length < 300 ∧ Ss.length ≤ 1000 ∧ 1 ≤ m ∧ m ≤ 200 ∧ S.needs.length < S0.needs.length + 20 ∧ S.heats.length = S.needs.length ∧ S.needs.length ≤ 1000 ∧
  ∀ (H' : Hp) (t : Addr), Keep2 pk ps H H' → H t = none → H' t = some (.tup [.str "lay", .int m]) → GroundX G ok H' p pk ps (kept ++ [.ref t]) (Ss ++ [⟨S.needs ++ [m], S.heats ++ [0], S.found, S.taken⟩]) → Q (.int ((S.needs.length : Int) + 1)) H'
theorem ok_G_lay (F : Fun K "lay" "Ground.lay" s_G_lay f fd) (T : Txt K mg) (TG : GCls K mg G) (om_last_stage : OkM P w K mg base G "last_stage" P_G_last_stage 1 (sp_G_last_stage G)) (om_keep : OkM P w K mg base G "keep" P_G_keep 1 (sp_G_keep G)) (o_check_need : Ok P w K mg base "check_need" P_check_need 1 sp_check_need) (o_check_laid : Ok P w K mg base "check_laid" P_check_laid 1 sp_check_laid) (o_check_room_for_deed : Ok P w K mg base "check_room_for_deed" P_check_room_for_deed 1 sp_check_room_for_deed) (o_stage_of : Ok P w K mg base "stage_of" P_stage_of 1 sp_stage_of) : FnOk P w K mg base CX0 2 f fd P_G_lay (sp_G_lay G) := by
  refine F.ok sc_G_lay (fun vs H Q E h => ?_) (fun cdv A outer s H vs Q E hr h => ?_)
  · obtain ⟨p, pk, ps, kept, Ss, S, S0, m, ok, rfl, _⟩ := h
    rfl
  · obtain ⟨p, pk, ps, kept, Ss, S, S0, m, ok, rfl, hG, hok, hl, h0, l1, l2, m0, m1, hn, hh, hn2, q⟩ := h
    obtain ⟨dx, ds, h1, h2, h3, h4, h5⟩ := id hG.ex
    obtain ⟨d0, i1, _, a0, b0, i2, i3, _⟩ := h5 0 S0 h0
    refine ⟨_, (pss_cons (ps_expr (pe_callO o_check_need hr (pa_cons (pv 1) pa_nil)))
      (pss_cons (ps_set (i := 2) sc_G_lay.nd rfl (Or.inl rfl) (pe_meth0O om_last_stage TG.cl hr (pv 0)))
      (pss_cons (ps_expr (pe_callO o_check_laid hr (pa_cons (pe_op op_sub (pe_len T.n_len (pe_dget (hu_of hr) (pv 2) pe_str (fun _ _ => rfl))) (pe_len T.n_len (pe_dget (hu_of hr) (pe_ix ix_list (pe_fld (pv 0) rfl) pe_int (fun _ _ => rfl)) pe_str (fun _ _ => rfl)))) pa_nil)))
      (pss_cons (ps_expr (pe_callO o_check_room_for_deed hr (pa_cons (pe_len T.n_len (pe_fld (pv 0) rfl)) pa_nil)))
      (pss_cons (ps_set (i := 3) sc_G_lay.nd rfl (Or.inl rfl) (pe_op op_cat (pe_dget (hu_of hr) (pv 2) pe_str (fun _ _ => rfl)) (pe_lst (pa_cons (pv 1) pa_nil))))
      (pss_cons (ps_expr (pe_methO om_keep TG.cl hr (pv 0) (pa_cons (pe_tup (pa_cons pe_str (pa_cons (pv 1) pa_nil))) (pa_cons (pe_callO o_stage_of hr (pa_cons (pv 3) (pa_cons (pe_op op_cat (pe_dget (hu_of hr) (pv 2) pe_str (fun _ _ => rfl)) (pe_lst (pa_cons pe_int pa_nil))) (pa_cons (pe_dget (hu_of hr) (pv 2) pe_str (fun _ _ => rfl)) (pa_cons (pe_dget (hu_of hr) (pv 2) pe_str (fun _ _ => rfl)) pa_nil))))) pa_nil))))
      (pss_one (ps_ret (pe_len T.n_len (pv 3)))))))))), ?_⟩
    refine ⟨_, rfl, m, rfl, m0, m1, ?_⟩
    refine ⟨_, rfl, p, dx, _, rfl, h1, gN, p, kept, Ss, S, _, rfl, hG.y, hl, fun d a b oa ob e1 e2 e3 => ?_⟩
    have dn : ∀ {H' : Hp}, Same H H' → DGet H' d (.str "needs") (some (.ref a)) := fun {H'} s => by have z := DGet.k (k := Sum.inr "needs") (s _ _ e1); rw [stage_needs] at z; exact z
    have dh : ∀ {H' : Hp}, Same H H' → DGet H' d (.str "heats") (some (.ref b)) := fun {H'} s => by have z := DGet.k (k := Sum.inr "heats") (s _ _ e1); rw [stage_heats] at z; exact z
    have df : ∀ {H' : Hp}, Same H H' → DGet H' d (.str "found") (some (.int S.found)) := fun {H'} s => by have z := DGet.k (k := Sum.inr "found") (s _ _ e1); rw [stage_found] at z; exact z
    have dt : ∀ {H' : Hp}, Same H H' → DGet H' d (.str "taken") (some (.int S.taken)) := fun {H'} s => by have z := DGet.k (k := Sum.inr "taken") (s _ _ e1); rw [stage_taken] at z; exact z
    refine ⟨_, rfl, d, _, rfl, dn (Same.refl _), a, _, rfl, .inl (SqL.of e2), _, rfl, p, G, dx, _, _, rfl, h1, TG.cl, TG.nS, gF_stages _ _, ps, _, _, _, rfl, rfl, SqL.of h3, (atI_nat (j := 0) (by rw [List.getElem?_map, i1]; rfl)), d0, _, rfl, (by have z := DGet.k (k := Sum.inr "needs") i2; rw [stage_needs] at z; exact z), a0, _, rfl, .inl (SqL.of i3), _, _, rfl, rfl, _, rfl, by rw [List.length_map, List.length_map]; omega, ?_⟩
    refine ⟨_, rfl, p, G, dx, _, _, rfl, h1, TG.cl, TG.nK, gF_kept _ _, pk, _, rfl, .inl (SqL.of h2), _, rfl, by omega, ?_⟩
    -- the new lists
    refine ⟨_, rfl, d, _, rfl, dn (Same.refl _), _, rfl, sz9, fun c1 f1 => ?_⟩
    have s1 := Same.upd (o := .lst [.int m]) f1
    refine ⟨a, c1, _, _, rfl, rfl, s1 _ _ e2, upd_same, sz1000' (by rw [List.length_map]; show S.needs.length + 1 ≤ 100000; omega), fun an fn => ?_⟩
    have s2 := s1.trans (Same.upd (o := .lst (S.needs.map V.int ++ [.int m])) fn)
    have hn2' : (upd (upd H c1 (.lst [.int m])) an (.lst (S.needs.map V.int ++ [.int m]))) an = some (.lst ((S.needs ++ [m]).map V.int)) := by rw [upd_same, List.map_append]; rfl
    have fn' : H an = none := s1.free fn
    generalize upd (upd H c1 (.lst [.int m])) an (.lst (S.needs.map V.int ++ [.int m])) = H2 at s2 hn2' ⊢
    refine ⟨_, rfl, p, dx, _, rfl, s2 _ _ h1, gN, _, rfl, sz9, fun t ft => ?_⟩
    have s3 := s2.trans (Same.upd (o := .tup [.str "lay", .int m]) ft)
    have ft' : H t = none := s2.free ft
    have ht3 : (upd H2 t (.tup [.str "lay", .int m])) t = some (.tup [.str "lay", .int m]) := upd_same
    have hn3 := Same.upd (o := .tup [.str "lay", .int m]) ft _ _ hn2'
    generalize upd H2 t (.tup [.str "lay", .int m]) = H3 at s3 ht3 hn3 ⊢
    refine ⟨_, rfl, _, rfl, d, _, rfl, dh s3, sz9, fun c2 f2 => ?_⟩
    have s4 := Same.upd (o := .lst [.int 0]) f2
    refine ⟨b, c2, _, _, rfl, rfl, s4 _ _ (s3 _ _ e3), upd_same, sz1000' (by rw [List.length_map]; show S.heats.length + 1 ≤ 100000; omega), fun bn fb => ?_⟩
    have s5 := s4.trans (Same.upd (o := .lst (S.heats.map V.int ++ [.int 0])) fb)
    have hb5 : (upd (upd H3 c2 (.lst [.int 0])) bn (.lst (S.heats.map V.int ++ [.int 0]))) bn = some (.lst ((S.heats ++ [0]).map V.int)) := by rw [upd_same, List.map_append]; rfl
    have fb' : H bn = none := s3.free (s4.free fb)
    generalize upd (upd H3 c2 (.lst [.int 0])) bn (.lst (S.heats.map V.int ++ [.int 0])) = H5 at s5 hb5 ⊢
    have s05 := s3.trans s5
    refine ⟨_, rfl, d, _, rfl, df s05, _, rfl, d, _, rfl, dt s05, an, bn, S.found, S.taken, rfl, fun H6 d6 s6 f6 h6 => ?_⟩
    have s06 := s05.trans s6
    have hG6 := hG.same s06
    refine ⟨p, pk, ps, d6, an, bn, t, kept, Ss, ⟨S.needs ++ [m], S.heats ++ [0], S.found, S.taken⟩, ok, rfl, hG6, by omega, l2, h6, s6 _ _ (s5 _ _ hn3), s6 _ _ hb5, Ne.symm (ne_of_none h2 fn'), Ne.symm (ne_of_none h3 fn'), Ne.symm (ne_of_none h2 fb'), Ne.symm (ne_of_none h3 fb'), hok _ fn', hok _ fb', fun H7 k7 hG7 => ?_⟩
    have kk := (s06.keep2 pk ps).trans k7
    have ht7 := k7 t _ (Ne.symm (ne_of_none h2 ft')) (Ne.symm (ne_of_none h3 ft')) (s6 _ _ (s5 _ _ ht3))
    have hn7 := k7 an _ (Ne.symm (ne_of_none h2 fn')) (Ne.symm (ne_of_none h3 fn')) (s6 _ _ (s5 _ _ hn3))
    refine ⟨_, rfl, an, _, rfl, .inl (SqL.of hn7), ?_⟩
    rw [show (((S.needs ++ [m]).map V.int).length : Int) = (S.needs.length : Int) + 1 by rw [List.length_map, List.length_append]; rfl]
    exact q _ t kk ft' ht7 hG7
abbrev s_G_heats : Stmt := inClass (top 57) 13
abbrev N_G_heats : List Str := ["self"]
abbrev P_G_heats : List Str := ["self"]
theorem sc_G_heats : FnScope N_G_heats P_G_heats (defScope s_G_heats) := mk9
/-! Ground.heats -/
def sp_G_heats (G : Addr) : Sp := fun vs H Q _ => ∃ (p : Addr) (kept : List V) (Ss : List Stage) (S : Stage), vs = [.ref p] ∧ GroundAt G H p kept Ss ∧ Ss.getLast? = some S ∧ ∀ (H' : Hp) (l : Addr), Same H H' → H l = none → H' l = some (.lst (S.heats.map V.int)) → Q (.ref l) H'
theorem ok_G_heats (F : Fun K "heats" "Ground.heats" s_G_heats f fd) (T : Txt K mg) (TG : GCls K mg G) (om_last_stage : OkM P w K mg base G "last_stage" P_G_last_stage 1 (sp_G_last_stage G)) : FnOk P w K mg base CX0 2 f fd P_G_heats (sp_G_heats G) := by
  refine F.ok sc_G_heats (fun vs H Q E h => ?_) (fun cdv A outer s H vs Q E hr h => ?_)
  · obtain ⟨p, kept, Ss, S, rfl, _⟩ := h
    rfl
  · obtain ⟨p, kept, Ss, S, rfl, hG, hl, q⟩ := h
    refine ⟨_, (pss_one (ps_ret (pe_list T.n_list (pe_dget (hu_of hr) (pe_meth0O om_last_stage TG.cl hr (pv 0)) pe_str (fun _ _ => rfl))))), ?_⟩
    obtain ⟨dx, pk, ps, ds, h1, h2, h3, h4, h5⟩ := hG.ex
    refine ⟨_, rfl, p, dx, _, rfl, h1, gN, p, kept, Ss, S, fun _ => True, rfl, hG.y, hl, fun d a b _ _ e1 e2 e3 => ?_⟩
    refine ⟨d, _, rfl, (by have z := DGet.k (k := Sum.inr "heats") e1; rw [stage_heats] at z; exact z), b, _, rfl, .inl (SqL.of e3), fun l hl' => q _ l (Same.upd hl') hl' upd_same⟩
abbrev s_G_heats_within : Stmt := inClass (top 57) 23
abbrev N_G_heats_within : List Str := ["self", "deed", "at_year", "season"]
abbrev P_G_heats_within : List Str := ["self", "deed", "at_year", "season"]
theorem sc_G_heats_within : FnScope N_G_heats_within P_G_heats_within (defScope s_G_heats_within) := mk9
/-! Ground.heats_within -/
def sp_G_heats_within (G : Addr) : Sp := fun vs H Q _ => ∃ (p t : Addr) (kept : List V) (Ss : List Stage) (S : Stage) (D : Deed) (k n so : Nat), vs = [.ref p, .int ((k : Int) + 1), .int ((n : Int) + 1), .int (so : Int)] ∧ GroundAt G H p kept Ss ∧ kept[k]? = some (.ref t) ∧ Ss[k]? = some S ∧ DeedAt H t D ∧ D.row.length ≤ 1000 ∧ (∀ z ∈ D.row, 0 ≤ z.2 ∧ z.2 ≤ 1000000) ∧ (D.more : Int) + 1 ≤ 1000000000000000000 ∧ n ≤ D.more ∧ 1 ≤ so ∧ so ≤ D.row.length ∧ HeatsOk S.needs S.heats ∧ 1 ≤ S.needs.length ∧ S.needs.length ≤ 1000 ∧
  ∀ (H' : Hp) (b : Addr), Same H H' → H b = none → H' b = some (.lst ((reachS S D.row n so).heats.map V.int)) → Q (.ref b) H'
theorem ok_G_heats_within (F : Fun K "heats_within" "Ground.heats_within" s_G_heats_within f fd) (T : Txt K mg) (TG : GCls K mg G) (om_stage_within : OkM P w K mg base G "stage_within" P_G_stage_within 8 (sp_G_stage_within G)) : FnOk P w K mg base CX0 9 f fd P_G_heats_within (sp_G_heats_within G) := by
  refine F.ok sc_G_heats_within (fun vs H Q E h => ?_) (fun cdv A outer s H vs Q E hr h => ?_)
  · obtain ⟨p, t, kept, Ss, S, D, k, n, so, rfl, _⟩ := h
    rfl
  · obtain ⟨p, t, kept, Ss, S, D, k, n, so, rfl, hG, hk, hS, hD, hr1, hz, hm, hn, s1, s2, hO, hn1, hn2, q⟩ := h
    obtain ⟨dx, pk, ps, ds, h1, _⟩ := id hG.ex
    refine ⟨_, (pss_one (ps_ret (pe_dget (hu_of hr) (pe_methO om_stage_within TG.cl hr (pv 0) (pa_cons (pv 1) (pa_cons (pv 2) (pa_cons (pv 3) pa_nil)))) pe_str (fun _ _ => rfl)))), ?_⟩
    refine ⟨_, rfl, p, dx, _, rfl, h1, gN, _, rfl, _, rfl, _, rfl, p, t, kept, Ss, S, D, k, n, so, rfl, hG, hk, hS, hD, hr1, hz, hm, hn, s1, s2, hO, hn1, hn2, fun H1 d a b s1' fd' fb e1 e2 e3 => ?_⟩
    exact ⟨d, _, rfl, (by have z := DGet.k (k := Sum.inr "heats") e1; rw [stage_heats] at z; exact z), q H1 b s1' fb e3⟩
abbrev s_at : Stmt := top 59
abbrev N_at : List Str := ["_law_script", "_law_k"]
abbrev P_at : List Str := ["_law_script", "_law_k"]
theorem sc_at : FnScope N_at P_at (defScope s_at) := mk9
/-! _law_at -/
def sp_at (K : W.Frag) : Sp := fun vs H Q _ => ∃ (a : Addr) (ns : List Int) (k : Nat), vs = [.ref a, .int k] ∧ SqL K H a (ns.map V.int) ∧ Q (.int (ns.getD k 0)) H
theorem ok_at (F : Fun K "_law_at" "_law_at" s_at f fd) (T : Txt K mg) : FnOk P w K mg base CX0 1 f fd P_at (sp_at K) := by
  refine F.ok sc_at (fun vs H Q E h => ?_) (fun cdv A outer s H vs Q E hr h => ?_)
  · obtain ⟨a, ns, k, rfl, _⟩ := h
    rfl
  · obtain ⟨a, ns, k, rfl, hS, q⟩ := h
    refine ⟨_, (pss_cons (ps_if (pt_cmpR op_lt (pv 1) (pe_len T.n_len (pv 0)) (nomark _))
        (pss_one (ps_ret (pe_ix ix_list (pv 0) (pv 1) (fun _ _ => rfl))))
        pss_nil)
      (pss_one (ps_ret pe_int))), ?_⟩
    refine ⟨_, rfl, _, rfl, a, _, rfl, .inl hS, _, _, rfl, rfl, _, rfl, ?_⟩
    refine ite2 (fun hc => ?_) (fun hc => ?_)
    · have hc : (k : Int) < ((ns.map V.int).length : Int) := by simpa using hc
      rw [List.length_map] at hc
      exact ⟨_, rfl, _, rfl, a, _, _, _, rfl, rfl, hS, atI_int (by omega), q⟩
    · have hc : ¬ (k : Int) < ((ns.map V.int).length : Int) := by simpa using hc
      rw [List.length_map] at hc
      have e : ns.getD k 0 = 0 := by rw [List.getD_eq_getElem?_getD, List.getElem?_eq_none (by omega)]; rfl
      rw [e] at q
      exact q
abbrev s_whole : Stmt := top 60
abbrev N_whole : List Str := ["_law_found"]
abbrev P_whole : List Str := ["_law_found"]
theorem sc_whole : FnScope N_whole P_whole (defScope s_whole) := mk9
/-! _law_whole -/
def sp_whole : Sp := fun vs H Q _ => ∃ (i : Int), vs = [.int i] ∧ Q (.bl true) H
theorem ok_whole (F : Fun K "_law_whole" "_law_whole" s_whole f fd) (T : Txt K mg) : FnOk P w K mg base CX0 1 f fd P_whole sp_whole := by
  refine F.ok sc_whole (fun vs H Q E h => ?_) (fun cdv A outer s H vs Q E hr h => ?_)
  · obtain ⟨i, rfl, _⟩ := h
    rfl
  · obtain ⟨i, rfl, q⟩ := h
    refine ⟨_, (pss_one (ps_ret (pe_and (pe_isinst T.n_isinstance (pv 0) (pe_ty T.n_int)) (pe_one (pe_not (pe_isinst T.n_isinstance (pv 0) (pe_ty T.n_bool))))))), ?_⟩
    refine ⟨_, rfl, _, _, _, true, rfl, .int i, .inl ⟨_, rfl, kit_ii _⟩, _, rfl, ?_⟩
    refine iteT ?_
    exact ⟨_, rfl, _, _, _, false, rfl, .int i, .inl ⟨_, rfl, kit_ib _⟩, _, rfl, q⟩
abbrev s_numbers : Stmt := top 61
abbrev N_numbers : List Str := ["_law_found", "_law_due", "_law_k"]
abbrev P_numbers : List Str := ["_law_found", "_law_due"]
theorem sc_numbers : FnScope N_numbers P_numbers (defScope s_numbers) := mk9
/-! _law_numbers -/
def sp_numbers (K : W.Frag) : Sp := fun vs H Q _ => ∃ (a b : Addr) (ns : List Int), vs = [.ref a, .ref b] ∧ H a = some (.lst (ns.map V.int)) ∧ SqL K H b (ns.map V.int) ∧ ns.length ≤ 100000 ∧ Q (.bl true) H
theorem ok_numbers (F : Fun K "_law_numbers" "_law_numbers" s_numbers f fd) (T : Txt K mg) (o_whole : Ok P w K mg base "_law_whole" P_whole 1 sp_whole) : FnOk P w K mg base CX0 2 f fd P_numbers (sp_numbers K) := by
  refine F.ok sc_numbers (fun vs H Q E h => ?_) (fun cdv A outer s H vs Q E hr h => ?_)
  · obtain ⟨a, b, ns, rfl, _⟩ := h
    rfl
  · obtain ⟨a, b, ns, rfl, hA, hB, hn, q⟩ := h
    refine ⟨_, (pss_cons (ps_if (PW.pt (pw_or (pt_not (pt_val (pe_isinst T.n_isinstance (pv 0) (pe_ty T.n_list)))) (pw_or1 (pt_cmpR op_ne (pe_len T.n_len (pv 0)) (pe_len T.n_len (pv 1)) (nomark _)))))
        (pss_one (ps_ret pe_bl))
        pss_nil)
      (pss_cons (ps_for PassesOwn.never rfl (pi_range1 (by rfl) T.n_range (pa_cons (pe_len T.n_len (pv 1)) pa_nil)) (pg_name (i := 2) sc_numbers.nd rfl (Or.inl rfl))
        (pss_one (ps_if (PW.pt (pw_or (pt_not (pt_val (pe_callO o_whole hr (pa_cons (pe_ix ix_list (pv 0) (pv 2) (fun _ _ => rfl)) pa_nil)))) (pw_or1 (pt_cmpR op_ne (pe_ix ix_list (pv 0) (pv 2) (fun _ _ => rfl)) (pe_ix ix_list (pv 1) (pv 2) (fun _ _ => rfl)) (nomark _)))))
          (pss_one (ps_ret pe_bl))
          pss_nil)))
      (pss_one (ps_ret pe_bl)))), ?_⟩
    refine ⟨_, rfl, _, _, _, true, rfl, .lst hA, .inl ⟨_, rfl, kit_ll _⟩, _, rfl, ?_⟩
    refine iteF ?_
    refine ⟨_, rfl, a, _, rfl, .inl (SqL.of hA), _, rfl, b, _, rfl, .inl hB, rfl, _, rfl, ?_⟩
    refine iteNS rfl ?_
    refine ⟨_, rfl, b, _, rfl, .inl hB, _, rfl, by omega, by rw [List.length_map]; omega, ?_⟩
    refine for_range (n := ((ns.map V.int).length : Int).toNat) (fun i σ H2 => (∃ v, σ = [some (.ref a), some (.ref b), v]) ∧ H2 = H) ⟨⟨none, rfl⟩, rfl⟩ ?_ ?_
    · rintro i σ H2 hi ⟨⟨v, rfl⟩, rfl⟩
      rw [List.length_map] at hi
      have hi' : i < ns.length := by omega
      have e0 : (0 : Int) + (i : Int) = (i : Int) := by omega
      rw [e0]
      refine ⟨_, rfl, _, rfl, a, _, _, _, rfl, rfl, SqL.of hA, atI_int hi', ⟨_, rfl, _, rfl, ?_⟩⟩
      refine iteF ?_
      refine ⟨_, rfl, _, rfl, a, _, _, _, rfl, rfl, SqL.of hA, atI_int hi', _, rfl, _, rfl, b, _, _, _, rfl, rfl, hB, atI_int hi', rfl, _, rfl, ?_⟩
      refine iteNS rfl ?_
      exact ⟨⟨_, rfl⟩, rfl⟩
    · rintro σ H2 ⟨_, rfl⟩
      exact q
abbrev s_told : Stmt := top 62
abbrev N_told : List Str := ["_law_found", "_law_due", "_law_k"]
abbrev P_told : List Str := ["_law_found", "_law_due"]
theorem sc_told : FnScope N_told P_told (defScope s_told) := mk9
/-! _law_told -/
def sp_told (K : W.Frag) : Sp := fun vs H Q _ => ∃ (a b : Addr) (ns : List Int), vs = [.ref a, .ref b] ∧ H a = some (.tup (ns.map V.int)) ∧ (SqL K H b (ns.map V.int) ∨ SqT K H b (ns.map V.int)) ∧ ns.length ≤ 1000 ∧ Q (.bl true) H
theorem ok_told (F : Fun K "_law_told" "_law_told" s_told f fd) (T : Txt K mg) (o_whole : Ok P w K mg base "_law_whole" P_whole 1 sp_whole) : FnOk P w K mg base CX0 2 f fd P_told (sp_told K) := by
  refine F.ok sc_told (fun vs H Q E h => ?_) (fun cdv A outer s H vs Q E hr h => ?_)
  · obtain ⟨a, b, ns, rfl, _⟩ := h
    rfl
  · obtain ⟨a, b, ns, rfl, hA, hB, hn, q⟩ := h
    refine ⟨_, (pss_cons (ps_if (PW.pt (pw_or (pt_not (pt_val (pe_isinst T.n_isinstance (pv 0) (pe_ty T.n_tuple)))) (pw_or1 (pt_cmpR op_ne (pe_len T.n_len (pv 0)) (pe_len T.n_len (pv 1)) (nomark _)))))
        (pss_one (ps_ret pe_bl))
        pss_nil)
      (pss_cons (ps_for PassesOwn.never rfl (pi_range1 (by rfl) T.n_range (pa_cons (pe_len T.n_len (pv 1)) pa_nil)) (pg_name (i := 2) sc_told.nd rfl (Or.inl rfl))
        (pss_one (ps_if (PW.pt (pw_or (pt_not (pt_val (pe_callO o_whole hr (pa_cons (pe_ix ix_tup (pv 0) (pv 2) (fun _ _ => rfl)) pa_nil)))) (pw_or1 (pt_cmpR op_ne (pe_ix ix_tup (pv 0) (pv 2) (fun _ _ => rfl)) (pe_ix ix_seq (pv 1) (pv 2) (fun _ _ => rfl)) (nomark _)))))
          (pss_one (ps_ret pe_bl))
          pss_nil)))
      (pss_one (ps_ret pe_bl)))), ?_⟩
    refine ⟨_, rfl, _, _, _, true, rfl, .tup hA, .inl ⟨_, rfl, kit_tt _⟩, _, rfl, ?_⟩
    refine iteF ?_
    refine ⟨_, rfl, a, _, rfl, .inr (SqT.of hA), _, rfl, b, _, rfl, hB, rfl, _, rfl, ?_⟩
    refine iteNS rfl ?_
    refine ⟨_, rfl, b, _, rfl, hB, _, rfl, by omega, by rw [List.length_map]; omega, ?_⟩
    refine for_range (n := ((ns.map V.int).length : Int).toNat) (fun i σ H2 => (∃ v, σ = [some (.ref a), some (.ref b), v]) ∧ H2 = H) ⟨⟨none, rfl⟩, rfl⟩ ?_ ?_
    · rintro i σ H2 hi ⟨⟨v, rfl⟩, rfl⟩
      rw [List.length_map] at hi
      have hi' : i < ns.length := by omega
      have e0 : (0 : Int) + (i : Int) = (i : Int) := by omega
      rw [e0]
      refine ⟨_, rfl, _, rfl, a, _, _, _, rfl, rfl, SqT.of hA, atI_int hi', ⟨_, rfl, _, rfl, ?_⟩⟩
      refine iteF ?_
      refine ⟨_, rfl, _, rfl, a, _, _, _, rfl, rfl, SqT.of hA, atI_int hi', _, rfl, _, rfl, ?_⟩
      have fin : (if (!decide (ns.getD i 0 = ns.getD i 0)) = true then False else True) := iteNS rfl trivial
      rcases hB with hB | hB
      · refine .inl ⟨b, _, _, _, rfl, rfl, hB, atI_int hi', rfl, _, rfl, ?_⟩
        refine iteNS rfl ?_
        exact ⟨⟨_, rfl⟩, rfl⟩
      · refine .inr (.inl ⟨b, _, _, _, rfl, rfl, hB, atI_int hi', rfl, _, rfl, ?_⟩)
        refine iteNS rfl ?_
        exact ⟨⟨_, rfl⟩, rfl⟩
    · rintro σ H2 ⟨_, rfl⟩
      exact q
abbrev s_row : Stmt := top 63
abbrev N_row : List Str := ["_law_cell", "_law_many", "_law_base", "_law_row_here", "_law_rest", "_law_k", "_law_one"]
abbrev P_row : List Str := ["_law_cell", "_law_many", "_law_base"]
theorem sc_row : FnScope N_row P_row (defScope s_row) := mk9
/-! _law_row -/
def sp_row : Sp := fun vs H Q _ => ∃ (cell base : Int) (many : Nat), vs = [.int cell, .int many, .int base] ∧ many ≤ 1000 ∧ 0 < base ∧ base < 1073741824 ∧
  ∀ (p : Addr) (fs : List Int), H p = none → fs.length = many → (∀ x ∈ fs, 0 ≤ x ∧ x < base) → Q (.ref p) (upd H p (.lst (fs.map V.int)))
theorem ok_row (F : Fun K "_law_row" "_law_row" s_row f fd) (T : Txt K mg) : FnOk P w K mg base CX0 1 f fd P_row sp_row := by
  refine F.ok sc_row (fun vs H Q E h => ?_) (fun cdv A outer s H vs Q E hr h => ?_)
  · obtain ⟨cell, bs, many, rfl, _⟩ := h
    rfl
  · obtain ⟨cell, bs, many, rfl, hm, hb0, hb1, q⟩ := h
    refine ⟨_, (pss_cons (ps_set (i := 3) sc_row.nd rfl (Or.inl rfl) (pe_lst pa_nil))
      (pss_cons (ps_set (i := 4) sc_row.nd rfl (Or.inl rfl) (pe_op op_fdiv (pv 0) pe_int))
      (pss_cons (ps_for PassesOwn.never rfl (pi_range1 (by rfl) T.n_range (pa_cons (pv 1) pa_nil)) (pg_name (i := 5) sc_row.nd rfl (Or.inl rfl))
        (pss_one (ps_if (pt_cmpR op_eq (pe_op op_mod (pv 0) pe_int) pe_int (nomark _))
          (pss_cons (ps_expr (pe_bm PySem.F.plainAttrs_list PySem.F.slot_list_append PySem.F.type_list_append mt_append (pv 3) (pa_cons (pe_op op_mod (pv 4) (pv 2)) pa_nil)))
          (pss_one (ps_set (i := 4) sc_row.nd rfl (Or.inl rfl) (pe_op op_fdiv (pv 4) (pv 2)))))
          (pss_cons (ps_set (i := 6) sc_row.nd rfl (Or.inl rfl) (pe_op op_mod (pe_op op_add (pe_op op_add (pe_op op_mul (pv 0) pe_int) (pe_op op_mul (pv 5) pe_int)) pe_int) pe_int))
          (pss_one (ps_expr (pe_bm PySem.F.plainAttrs_list PySem.F.slot_list_append PySem.F.type_list_append mt_append (pv 3) (pa_cons (pe_op op_mod (pe_op op_mod (pe_op op_add (pe_op op_mul (pv 6) (pv 6)) (pe_op op_mul (pv 5) pe_int)) pe_int) (pv 2)) pa_nil))))))))
      (pss_one (ps_ret (pv 3)))))), ?_⟩
    refine ⟨sz9, fun p hp => ?_⟩
    refine ⟨_, rfl, _, _, rfl, rfl, ⟨by decide, by decide⟩, ?_⟩
    refine ⟨_, rfl, _, rfl, by omega, by omega, ?_⟩
    refine for_range (n := (many : Int).toNat) (fun i σ H2 => ∃ (fs : List Int) (rest : Int) (k one : Option V), σ = [some (.int cell), some (.int many), some (.int bs), some (.ref p), some (.int rest), k, one] ∧ H2 = upd H p (.lst (fs.map V.int)) ∧ fs.length = i ∧ ∀ x ∈ fs, 0 ≤ x ∧ x < bs)
      ⟨[], _, _, _, rfl, rfl, rfl, by simp⟩ ?_ ?_
    · rintro i σ H2 hi ⟨fs, rest, k, one, rfl, rfl, hl, hx⟩
      have grow : ∀ z : Int, 0 ≤ z → z < bs → (∀ x ∈ fs ++ [z], 0 ≤ x ∧ x < bs) := fun z h0 h1 x hx' => by
        rcases List.mem_append.mp hx' with h | h
        · exact hx x h
        · have : x = z := by simpa using h
          subst this; exact ⟨h0, h1⟩
      have eqH : ∀ z : Int, upd (upd H p (.lst (fs.map V.int))) p (.lst (fs.map V.int ++ [.int z])) = upd H p (.lst ((fs ++ [z]).map V.int)) := fun z => by rw [upd_upd, List.map_append]; rfl
      refine ⟨_, rfl, _, _, rfl, rfl, (by show (0 : Int) < 3; decide), rfl, _, rfl, ?_⟩
      refine ite2 (fun _ => ?_) (fun _ => ?_)
      · refine ⟨_, rfl, .inl ⟨rfl, _, SqL.of upd_same⟩, _, rfl, _, rfl, _, _, rfl, rfl, hb0, p, _, _, rfl, rfl, upd_same, sz1000 (by rw [List.length_map]; omega), ?_⟩
        refine ⟨_, rfl, _, rfl, _, _, rfl, rfl, ⟨hb0, hb1⟩, ?_⟩
        rw [eqH]
        exact ⟨_, _, _, _, rfl, rfl, by rw [List.length_append, hl]; rfl, grow _ (Int.emod_nonneg _ (by omega)) (Int.emod_lt_of_pos _ hb0)⟩
      · refine ⟨_, rfl, _, _, rfl, rfl, .inr ⟨by decide, by decide⟩, _, rfl, _, _, rfl, rfl, .inr ⟨by decide, by decide⟩, _, _, rfl, rfl, _, _, rfl, rfl, _, _, rfl, rfl, (by show (0 : Int) < 2147483647; decide), ?_⟩
        refine ⟨_, rfl, .inl ⟨rfl, _, SqL.of upd_same⟩, ?_⟩
        refine ⟨_, rfl, _, rfl, _, _, rfl, rfl, .inl ⟨?_, ?_⟩, _, rfl, _, _, rfl, rfl, .inr ⟨by decide, by decide⟩, _, _, rfl, rfl, _, _, rfl, rfl, (by show (0 : Int) < 2147483629; decide), _, rfl, _, _, rfl, rfl, hb0, p, _, _, rfl, rfl, upd_same, sz1000 (by rw [List.length_map]; omega), ?_⟩
        · exact Int.lt_of_lt_of_le (by decide) (Int.emod_nonneg _ (by decide))
        · exact Int.lt_trans (Int.emod_lt_of_pos _ (by decide)) (by decide)
        · rw [eqH]
          exact ⟨_, _, _, _, rfl, rfl, by rw [List.length_append, hl]; rfl, grow _ (Int.emod_nonneg _ (by omega)) (Int.emod_lt_of_pos _ hb0)⟩
    · rintro σ H2 ⟨fs, rest, k, one, rfl, rfl, hl, hx⟩
      exact ⟨_, rfl, q p fs hp (by omega) hx⟩
abbrev s_beds : Stmt := top 64
abbrev N_beds : List Str := ["_law_script", "_law_cell", "_law_many", "_law_needs", "_law_figures", "_law_heats"]
abbrev P_beds : List Str := ["_law_script"]
theorem sc_beds : FnScope N_beds P_beds (defScope s_beds) := mk9
/-! _law_beds -/
def sp_beds (K : W.Frag) : Sp := fun vs H Q _ => ∃ (a : Addr) (ns : List Int), vs = [.ref a] ∧ SqL K H a (ns.map V.int) ∧
  ∀ (H' : Hp) (l pn ph : Addr) (needs heats : List Int), Same H H' → H l = none → H pn = none → H ph = none → l ≠ pn → l ≠ ph → pn ≠ ph →
    H' l = some (.lst [.ref pn, .ref ph]) → H' pn = some (.lst (needs.map V.int)) → H' ph = some (.lst (heats.map V.int)) → Beds needs heats → needs.length ≤ 30 → Q (.ref l) H'
theorem ok_beds (F : Fun K "_law_beds" "_law_beds" s_beds f fd) (T : Txt K mg) (o_at : Ok P w K mg base "_law_at" P_at 1 (sp_at K)) (o_row : Ok P w K mg base "_law_row" P_row 1 sp_row) : FnOk P w K mg base CX0 2 f fd P_beds (sp_beds K) := by
  refine F.ok sc_beds (fun vs H Q E h => ?_) (fun cdv A outer s H vs Q E hr h => ?_)
  · obtain ⟨a, ns, rfl, _⟩ := h
    rfl
  · obtain ⟨a, ns, rfl, hS, q⟩ := h
    refine ⟨_, (pss_cons (ps_set (i := 1) sc_beds.nd rfl (Or.inl rfl) (pe_callO o_at hr (pa_cons (pv 0) (pa_cons pe_int pa_nil))))
      (pss_cons (ps_set (i := 2) sc_beds.nd rfl (Or.inl rfl) (pe_op op_add pe_int (pe_op op_mod (pv 1) pe_int)))
      (pss_cons (ps_set (i := 3) sc_beds.nd rfl (Or.inr rfl) (pe_comp rfl (CompScope.of (T := ["_law_figure"]) (js := []) (defScope s_beds).names N_beds rfl rfl rfl (by decide +kernel)) (pi_list (pe_callO o_row hr (pa_cons (pe_callO o_at hr (pa_cons (pv 0) (pa_cons pe_int pa_nil))) (pa_cons (pv 2) (pa_cons (pe_ix ix_list (pe_lst (pa_cons pe_int (pa_cons pe_int (pa_cons pe_int pa_nil)))) (pe_op op_mod (pe_op op_fdiv (pv 1) pe_int) pe_int) (fun _ _ => rfl)) pa_nil))))) (fun _ _ _ _ => ⟨(pg_name (i := 0) (by show List.Nodup (["_law_figure"] : List Str); decide +kernel) rfl (Or.inl rfl)), pif_nil, (pe_op op_add pe_int (pv 0))⟩)))
      (pss_cons (ps_set (i := 4) sc_beds.nd rfl (Or.inr rfl) (pe_callO o_row hr (pa_cons (pe_callO o_at hr (pa_cons (pv 0) (pa_cons pe_int pa_nil))) (pa_cons (pv 2) (pa_cons pe_int pa_nil)))))
      (pss_cons (ps_setC (i := 5) rfl sc_beds.nd rfl rfl (CompScope.of (T := ["_law_k"]) (js := [3, 4]) (defScope s_beds).names N_beds rfl rfl rfl (by decide +kernel)) (pi_range1 (by rfl) T.n_range (pa_cons (pv 2) pa_nil)) (fun _ _ _ _ => ⟨(pg_name (i := 0) (by show List.Nodup (["_law_k", "_law_needs", "_law_figures"] : List Str); decide +kernel) rfl (Or.inl rfl)), pif_nil, (pe_op op_mod (pe_ix (ix_listK K) (pv 2) (pv 0) (fun _ _ => rfl)) (pe_op op_add (pe_ix (ix_listK K) (pv 1) (pv 0) (fun _ _ => rfl)) pe_int))⟩))
      (pss_cons (ps_if (pt_cmpR op_eq (pe_op op_mod (pe_op op_fdiv (pv 1) pe_int) pe_int) pe_int (nomark _))
        (pss_one (ps_set (i := 5) sc_beds.nd rfl (Or.inl rfl) (pe_op op_rep (pe_lst (pa_cons pe_int pa_nil)) (pv 2))))
        pss_nil)
      (pss_cons (ps_if (pt_cmpR op_eq (pe_op op_mod (pe_op op_fdiv (pv 1) pe_int) pe_int) pe_int (nomark _))
        (pss_one (ps_set (i := 5) sc_beds.nd rfl (Or.inl rfl) (pe_list T.n_list (pv 3))))
        pss_nil)
      (pss_one (ps_ret (pe_lst (pa_cons (pv 3) (pa_cons (pv 5) pa_nil)))))))))))), ?_⟩
    -- cell, many
    refine ⟨_, rfl, a, ns, 0, rfl, hS, ?_⟩
    refine ⟨_, rfl, _, _, rfl, rfl, (by show (0 : Int) < 30; decide), _, _, rfl, rfl, ?_⟩
    obtain ⟨n, en, hn1, hn2⟩ := many_nat (ns.getD 0 0) 30 (by decide)
    have hn3 : n ≤ 30 := by omega
    -- needs
    refine ⟨_, rfl, a, ns, 1, rfl, hS, _, rfl, sz9, fun p0 f0 => ?_⟩
    obtain ⟨bs, eb, hb0, hb1⟩ := base_at (ns.getD 0 0 / 30)
    refine ⟨_, rfl, _, _, rfl, rfl, ⟨by decide, by decide⟩, _, _, rfl, rfl, (by show (0 : Int) < 3; decide), p0, _, _, _, rfl, rfl, SqL.of upd_same, eb, ?_⟩
    refine ⟨_, bs, n, congrArg (fun z => [V.int _, V.int z, V.int _]) en, by omega, hb0, by omega, fun pr fs fr hfl hfx => ⟨pr, rfl, ⟨_, SqL.of upd_same⟩, fun pn fn => ?_⟩⟩
    have s2 : Same H (upd (upd H p0 (.lst [.int 3, .int 12, .int 200])) pr (.lst (fs.map V.int))) := (Same.upd f0).trans (Same.upd fr)
    have npr : pr ≠ pn := fun e => by rw [e] at fn; rw [upd_same] at fn; cases fn
    refine comp_list (xs := fs.map V.int) (fun i σ H2 => (∃ v, σ = [v]) ∧ H2 = upd (upd (upd H p0 (.lst [.int 3, .int 12, .int 200])) pr (.lst (fs.map V.int))) pn (.lst ((fs.take i).map fun x => V.int (1 + x)))) ?_ ?_ ?_ ?_
    · exact ⟨⟨none, rfl⟩, by rw [List.take_zero]; rfl⟩
    · rintro i σ H2 _ ⟨_, rfl⟩
      exact SqL.of (by rw [upd_ne npr]; exact upd_same)
    · rintro i x σ H2 hx ⟨⟨v, rfl⟩, rfl⟩
      obtain ⟨hi, rfl⟩ := getI_some hx
      refine compT_one ?_
      refine ⟨_, rfl, _, _, rfl, rfl, _, upd_same, sz1000 (by rw [List.length_map, List.length_take]; omega), ⟨_, rfl⟩, ?_⟩
      rw [upd_upd, take_map_succ (f := fun x => V.int (1 + x)) hi]
    rintro σ0 H3 ⟨_, e3⟩
    rw [List.length_map, List.take_length] at e3
    generalize eN : fs.map (fun x => 1 + x) = needs at *
    have eV : (fs.map fun x => V.int (1 + x)) = needs.map V.int := by rw [← eN, List.map_map]; rfl
    rw [eV] at e3
    have hnl : needs.length = n := by rw [← eN, List.length_map, hfl]
    have hnx : ∀ i, i < needs.length → 1 ≤ needs.getD i 0 ∧ needs.getD i 0 ≤ 200 := fun i hi => by
      rw [hnl, ← hfl] at hi
      rw [← eN, getD_map hi]
      have := hfx _ (getD_mem hi)
      omega
    have fpn : H pn = none := s2.free fn
    have s3 : Same H H3 := by rw [e3]; exact s2.trans (Same.upd fn)
    have h3n : H3 pn = some (.lst (needs.map V.int)) := by rw [e3]; exact upd_same
    clear e3
    -- figures
    refine ⟨_, rfl, a, ns, 2, rfl, s3.seq hS, _, rfl, _, 201, n, congrArg (fun z => [V.int _, V.int z, V.int _]) en, by omega, by decide, by decide, fun pf gs fpf hgl hgx => ?_⟩
    have s4 : Same H3 (upd H3 pf (.lst (gs.map V.int))) := Same.upd fpf
    -- heats
    refine ⟨_, rfl, _, rfl, by omega, by omega, fun ph fph => ?_⟩
    have hpf : pf ≠ ph := fun e => by rw [e, upd_same] at fph; cases fph
    have h4n : (upd H3 pf (.lst (gs.map V.int))) pn = some (.lst (needs.map V.int)) := s4 _ _ h3n
    have hpn : pn ≠ ph := ne_of_none h4n fph
    refine comp_range (fun i σ H2 => (∃ v, σ = [v, some (.ref pn), some (.ref pf)]) ∧ H2 = upd (upd H3 pf (.lst (gs.map V.int))) ph (.lst ((List.range i).map fun k => V.int (gs.getD k 0 % (needs.getD k 0 + 1))))) ?_ ?_ ?_
    · exact ⟨⟨none, rfl⟩, rfl⟩
    · rintro i σ H2 hi ⟨⟨v, rfl⟩, rfl⟩
      have hi' : i < n := by omega
      have e0 : (0 : Int) + (i : Int) = (i : Int) := by omega
      rw [e0]
      refine compT_one ?_
      refine ⟨_, rfl, _, rfl, pf, _, _, _, rfl, rfl, SqL.of (by rw [upd_ne hpf]; exact upd_same), atI_int (by omega), _, rfl, _, rfl, pn, _, _, _, rfl, rfl, SqL.of (by rw [upd_ne hpn]; exact h4n), atI_int (by omega), _, _, rfl, rfl, _, _, rfl, rfl, ?_, _, upd_same, sz1000 (by rw [List.length_map, List.length_range]; omega), ⟨_, rfl⟩, ?_⟩
      · have := hnx i (by omega)
        show (0 : Int) < needs.getD i 0 + 1
        omega
      · rw [upd_upd, range_map_succ (f := fun k => V.int (gs.getD k 0 % (needs.getD k 0 + 1)))]
    rintro σ1 H5 ⟨_, e5⟩
    rw [show ((1 + ns.getD 0 0 % 30 : Int)).toNat = n by omega] at e5
    generalize eH : (List.range n).map (fun k => gs.getD k 0 % (needs.getD k 0 + 1)) = heats at *
    have eV : ((List.range n).map fun k => V.int (gs.getD k 0 % (needs.getD k 0 + 1))) = heats.map V.int := by rw [← eH, List.map_map]; rfl
    rw [eV] at e5
    have hB : Beds needs heats := ⟨by rw [← eH, hnl]; simp, by omega, by omega, hnx, fun i hi => by
      have h1 := hnx i hi
      rw [← eH, getD_rangeMap (by omega)]
      exact ⟨Int.emod_nonneg _ (by omega), by have := Int.emod_lt_of_pos (gs.getD i 0) (show 0 < needs.getD i 0 + 1 by omega); omega⟩⟩
    have s5 : Same H3 H5 := by rw [e5]; exact s4.trans (Same.upd fph)
    have h5n : H5 pn = some (.lst (needs.map V.int)) := s5 _ _ h3n
    have h5h : H5 ph = some (.lst (heats.map V.int)) := by rw [e5]; exact upd_same
    have fhh : H3 ph = none := s4.free fph
    clear e5 eV eH
    -- what stands behind both ifs: heats at some address, new since H3
    have fin : ∀ (H6 : Hp) (ph : Addr) (heats : List Int), Same H3 H6 → H3 ph = none → H6 ph = some (.lst (heats.map V.int)) → Beds needs heats → ∀ l, H6 l = none → Q (.ref l) (upd H6 l (.lst [.ref pn, .ref ph])) := fun H6 ph heats s6 f6 h6 B l fl => by
      have h6n : H6 pn = some (.lst (needs.map V.int)) := s6 _ _ h3n
      have n1 : pn ≠ l := ne_of_none h6n fl
      have n2 : ph ≠ l := ne_of_none h6 fl
      have n3 : pn ≠ ph := ne_of_none h3n f6
      exact q _ l pn ph needs heats ((s3.trans s6).trans (Same.upd fl)) ((s3.trans s6).free fl) fpn (s3.free f6) (Ne.symm n1) (Ne.symm n2) n3 upd_same (by rw [upd_ne n1]; exact h6n) (by rw [upd_ne n2]; exact h6) B (by omega)
    have B0 : Beds needs (List.replicate n 0) := ⟨by simp [hnl], hB.lo, hB.hi, hnx, fun i hi => by
      have h1 := hnx i hi
      have : (List.replicate n (0 : Int)).getD i 0 = 0 := by simp [List.getD_eq_getElem?_getD, List.getElem?_replicate, show i < n by omega]
      rw [this]
      omega⟩
    have B1 : Beds needs needs := ⟨rfl, hB.lo, hB.hi, hnx, fun i hi => by have := hnx i hi; omega⟩
    -- the second if and the end, from any heats
    have second : ∀ (H6 : Hp) (ph : Addr) (heats : List Int), Same H3 H6 → H3 ph = none → H6 ph = some (.lst (heats.map V.int)) → Beds needs heats →
        (∀ l, H6 l = none → Q (.ref l) (upd H6 l (.lst [.ref pn, .ref ph]))) ∧ ∀ l, H6 l = none → ∀ l', upd H6 l (.lst (needs.map V.int)) l' = none → Q (.ref l') (upd (upd H6 l (.lst (needs.map V.int))) l' (.lst [.ref pn, .ref l])) := fun H6 ph heats s6 f6 h6 B =>
      ⟨fin H6 ph heats s6 f6 h6 B, fun l fl l' fl' => fin _ l needs (s6.trans (Same.upd fl)) (s6.free fl) upd_same B1 l' fl'⟩
    refine ⟨_, rfl, _, _, rfl, rfl, ⟨by decide, by decide⟩, _, _, rfl, rfl, (by show (0 : Int) < 4; decide), rfl, _, rfl, ?_⟩
    refine ite2 (fun _ => ?_) (fun _ => ?_)
    · -- heats = [0] * many
      refine ⟨sz9, fun p6 f6 => ?_⟩
      refine ⟨_, rfl, p6, _, _, rfl, rfl, upd_same, ?_, ?_, ?_, fun p7 f7 => ?_⟩
      · omega
      · omega
      · rw [show ((1 + ns.getD 0 0 % 30 : Int)).toNat = n by omega]
        exact sz1000' (by show 1 * n ≤ 100000; omega)
      have e7 : (List.replicate ((1 + ns.getD 0 0 % 30 : Int)).toNat [V.int 0]).flatten = (List.replicate n (0 : Int)).map V.int := by
        rw [show ((1 + ns.getD 0 0 % 30 : Int)).toNat = n by omega]
        simp
      rw [e7]
      have s7 : Same H3 (upd (upd H5 p6 (.lst [.int 0])) p7 (.lst ((List.replicate n (0 : Int)).map V.int))) := (s5.trans (Same.upd f6)).trans (Same.upd f7)
      have f7' : H3 p7 = none := (s5.trans (Same.upd f6)).free f7
      obtain ⟨z1, z2⟩ := second _ p7 (List.replicate n 0) s7 f7' upd_same B0
      refine ⟨_, rfl, _, _, rfl, rfl, ⟨by decide, by decide⟩, _, _, rfl, rfl, (by show (0 : Int) < 4; decide), rfl, _, rfl, ?_⟩
      refine ite2 (fun _ => ?_) (fun _ => ?_)
      · refine ⟨_, rfl, pn, _, rfl, .inl (SqL.of (s7 _ _ h3n)), fun l fl => ?_⟩
        exact ⟨_, rfl, _, rfl, sz9, fun l' fl' => z2 l fl l' fl'⟩
      · exact ⟨_, rfl, _, rfl, sz9, fun l' fl' => z1 l' fl'⟩
    · obtain ⟨z1, z2⟩ := second H5 ph heats s5 fhh h5h hB
      refine ⟨_, rfl, _, _, rfl, rfl, ⟨by decide, by decide⟩, _, _, rfl, rfl, (by show (0 : Int) < 4; decide), rfl, _, rfl, ?_⟩
      refine ite2 (fun _ => ?_) (fun _ => ?_)
      · refine ⟨_, rfl, pn, _, rfl, .inl (SqL.of h5n), fun l fl => ?_⟩
        exact ⟨_, rfl, _, rfl, sz9, fun l' fl' => z2 l fl l' fl'⟩
      · exact ⟨_, rfl, _, rfl, sz9, fun l' fl' => z1 l' fl'⟩
abbrev s_amount : Stmt := top 65
abbrev N_amount : List Str := ["_law_cell", "_law_scale", "_law_free"]
abbrev P_amount : List Str := ["_law_cell", "_law_scale"]
theorem sc_amount : FnScope N_amount P_amount (defScope s_amount) := mk9
/-! _law_amount -/
def sp_amount : Sp := fun vs H Q _ => ∃ (cell scale : Int), vs = [.int cell, .int scale] ∧ 1 ≤ scale ∧ scale ≤ 999999 ∧ ∀ (m : Int) (H' : Hp), 0 ≤ m → m ≤ 1000000 → Same H H' → Q (.int m) H'
theorem amount_at (z scale : Int) (h1 : 1 ≤ scale) (h2 : scale ≤ 999999) : ∃ b : Int, atI [V.int 0, V.int 1, V.int scale, V.int (scale + 1), V.int 1000000, V.int 999999, V.int (scale - 1)] (z % 7) = some (.int b) ∧ 0 ≤ b ∧ b ≤ 1000000 := by
  have h3 := Int.emod_nonneg z (show (7 : Int) ≠ 0 by decide)
  have h4 := Int.emod_lt_of_pos z (show (0 : Int) < 7 by decide)
  have h5 : z % 7 = 0 ∨ z % 7 = 1 ∨ z % 7 = 2 ∨ z % 7 = 3 ∨ z % 7 = 4 ∨ z % 7 = 5 ∨ z % 7 = 6 := by omega
  rcases h5 with e | e | e | e | e | e | e <;> rw [e]
  · exact ⟨0, rfl, by decide, by decide⟩
  · exact ⟨1, rfl, by decide, by decide⟩
  · exact ⟨scale, rfl, by omega, by omega⟩
  · exact ⟨scale + 1, rfl, by omega, by omega⟩
  · exact ⟨1000000, rfl, by decide, by decide⟩
  · exact ⟨999999, rfl, by decide, by decide⟩
  · exact ⟨scale - 1, rfl, by omega, by omega⟩
theorem ok_amount (F : Fun K "_law_amount" "_law_amount" s_amount f fd) (T : Txt K mg) : FnOk P w K mg base CX0 1 f fd P_amount sp_amount := by
  refine F.ok sc_amount (fun vs H Q E h => ?_) (fun cdv A outer s H vs Q E hr h => ?_)
  · obtain ⟨cell, scale, rfl, _⟩ := h
    rfl
  · obtain ⟨cell, scale, rfl, h1, h2, q⟩ := h
    refine ⟨_, (pss_cons (ps_set (i := 2) sc_amount.nd rfl (Or.inl rfl) (pe_op op_fdiv (pv 0) pe_int))
      (pss_cons (ps_if (pt_cmpR op_eq (pe_op op_mod (pv 0) pe_int) pe_int (nomark _))
        (pss_one (ps_ret (pe_op op_mod (pv 2) pe_int)))
        pss_nil)
      (pss_cons (ps_if (pt_cmpR op_eq (pe_op op_mod (pv 0) pe_int) pe_int (nomark _))
        (pss_one (ps_ret (pe_ix ix_list (pe_lst (pa_cons pe_int (pa_cons pe_int (pa_cons (pv 1) (pa_cons (pe_op op_add (pv 1) pe_int) (pa_cons pe_int (pa_cons pe_int (pa_cons (pe_op op_sub (pv 1) pe_int) pa_nil)))))))) (pe_op op_mod (pv 2) pe_int) (fun _ _ => rfl))))
        pss_nil)
      (pss_cons (ps_if (pt_cmpR op_eq (pe_op op_mod (pv 0) pe_int) pe_int (nomark _))
        (pss_one (ps_ret (pe_op op_mod (pv 2) (pe_op op_add (pv 1) pe_int))))
        pss_nil)
      (pss_one (ps_ret (pe_op op_mod (pv 2) (pe_op op_add (pe_op op_fdiv (pv 1) pe_int) pe_int)))))))), ?_⟩
    refine ⟨_, rfl, _, _, rfl, rfl, ⟨by decide, by decide⟩, ?_⟩
    refine ⟨_, rfl, _, _, rfl, rfl, (by show (0 : Int) < 5; decide), rfl, _, rfl, ?_⟩
    refine ite2 (fun _ => ?_) (fun _ => ?_)
    · refine ⟨_, rfl, _, _, rfl, rfl, (by show (0 : Int) < 1000001; decide), q _ H (Int.emod_nonneg _ (by decide)) ?_ (Same.refl H)⟩
      have := Int.emod_lt_of_pos (cell / 5) (show (0 : Int) < 1000001 by decide)
      omega
    refine ⟨_, rfl, _, _, rfl, rfl, (by show (0 : Int) < 5; decide), rfl, _, rfl, ?_⟩
    refine ite2 (fun _ => ?_) (fun _ => ?_)
    · obtain ⟨b, eb, b1, b2⟩ := amount_at (cell / 5) scale h1 h2
      refine ⟨_, rfl, _, rfl, _, _, rfl, rfl, _, rfl, _, _, rfl, rfl, sz9, fun p hp => ?_⟩
      exact ⟨_, rfl, _, _, rfl, rfl, (by show (0 : Int) < 7; decide), p, _, _, _, rfl, rfl, SqL.of upd_same, eb, q b _ b1 b2 (Same.upd hp)⟩
    refine ⟨_, rfl, _, _, rfl, rfl, (by show (0 : Int) < 5; decide), rfl, _, rfl, ?_⟩
    refine ite2 (fun _ => ?_) (fun _ => ?_)
    · refine ⟨_, rfl, _, rfl, _, _, rfl, rfl, _, _, rfl, rfl, (by show (0 : Int) < scale + 1; omega), q _ H (Int.emod_nonneg _ (by omega)) ?_ (Same.refl H)⟩
      have := Int.emod_lt_of_pos (cell / 5) (show (0 : Int) < scale + 1 by omega)
      omega
    · refine ⟨_, rfl, _, rfl, _, _, rfl, rfl, ⟨by decide, by decide⟩, _, _, rfl, rfl, _, _, rfl, rfl, (by show (0 : Int) < scale / 8 + 2; omega), q _ H (Int.emod_nonneg _ (by omega)) ?_ (Same.refl H)⟩
      have := Int.emod_lt_of_pos (cell / 5) (show (0 : Int) < scale / 8 + 2 by omega)
      omega
abbrev s_season : Stmt := top 66
abbrev N_season : List Str := ["_law_cell", "_law_scale"]
abbrev P_season : List Str := ["_law_cell", "_law_scale"]
theorem sc_season : FnScope N_season P_season (defScope s_season) := mk9
/-! _law_season -/
def sp_season : Sp := fun vs H Q _ => ∃ (cell scale : Int), vs = [.int cell, .int scale] ∧ 1 ≤ scale ∧ scale ≤ 999999 ∧
  ∀ (H' : Hp) (t : Addr) (z : Bool × Int), Same H H' → H t = none → 0 ≤ z.2 → z.2 ≤ 1000000 → H' t = some (.tup [.str (kindS z.1), .int z.2]) → Q (.ref t) H'
theorem kind_at (z : Int) : ∃ b : Bool, atI [V.str "warm", V.str "cold"] (z % 2) = some (.str (kindS b)) := by
  have h3 := Int.emod_nonneg z (show (2 : Int) ≠ 0 by decide)
  have h4 := Int.emod_lt_of_pos z (show (0 : Int) < 2 by decide)
  have h5 : z % 2 = 0 ∨ z % 2 = 1 := by omega
  rcases h5 with e | e <;> rw [e]
  · exact ⟨true, rfl⟩
  · exact ⟨false, rfl⟩
theorem ok_season (F : Fun K "_law_season" "_law_season" s_season f fd) (T : Txt K mg) (o_amount : Ok P w K mg base "_law_amount" P_amount 1 sp_amount) : FnOk P w K mg base CX0 2 f fd P_season sp_season := by
  refine F.ok sc_season (fun vs H Q E h => ?_) (fun cdv A outer s H vs Q E hr h => ?_)
  · obtain ⟨cell, scale, rfl, _⟩ := h
    rfl
  · obtain ⟨cell, scale, rfl, h1, h2, q⟩ := h
    refine ⟨_, (pss_one (ps_ret (pe_tup (pa_cons (pe_ix ix_list (pe_lst (pa_cons pe_str (pa_cons pe_str pa_nil))) (pe_op op_mod (pv 0) pe_int) (fun _ _ => rfl)) (pa_cons (pe_callO o_amount hr (pa_cons (pe_op op_fdiv (pv 0) pe_int) (pa_cons (pv 1) pa_nil))) pa_nil))))), ?_⟩
    obtain ⟨b, eb⟩ := kind_at cell
    refine ⟨sz9, fun p hp => ⟨_, rfl, _, _, rfl, rfl, (by show (0 : Int) < 2; decide), p, _, _, _, rfl, rfl, SqL.of upd_same, eb, ?_⟩⟩
    refine ⟨_, rfl, _, _, rfl, rfl, ⟨by decide, by decide⟩, _, rfl, _, _, rfl, h1, h2, fun m H2 m0 m1 s2 => ⟨sz9, fun t ft => ?_⟩⟩
    have s3 : Same H H2 := (Same.upd hp).trans s2
    exact q _ t (b, m) (s3.trans (Same.upd ft)) (s3.free ft) m0 m1 upd_same
abbrev s_seasons : Stmt := top 67
abbrev N_seasons : List Str := ["_law_cell", "_law_many", "_law_scale"]
abbrev P_seasons : List Str := ["_law_cell", "_law_many", "_law_scale"]
theorem sc_seasons : FnScope N_seasons P_seasons (defScope s_seasons) := mk9
/-! _law_seasons -/
def sp_seasons : Sp := fun vs H Q _ => ∃ (cell scale : Int) (many : Nat), vs = [.int cell, .int many, .int scale] ∧ many ≤ 1000 ∧ 1 ≤ scale ∧ scale ≤ 999999 ∧
  ∀ (H' : Hp) (p : Addr) (ts : List Addr) (ss : List (Bool × Int)), Same H H' → H p = none → ss.length = many → (∀ z ∈ ss, 0 ≤ z.2 ∧ z.2 ≤ 1000000) → H' p = some (.lst (ts.map V.ref)) → SeasAt H' ts ss → Q (.ref p) H'
theorem ok_seasons (F : Fun K "_law_seasons" "_law_seasons" s_seasons f fd) (T : Txt K mg) (o_row : Ok P w K mg base "_law_row" P_row 1 sp_row) (o_season : Ok P w K mg base "_law_season" P_season 2 sp_season) : FnOk P w K mg base CX0 3 f fd P_seasons sp_seasons := by
  refine F.ok sc_seasons (fun vs H Q E h => ?_) (fun cdv A outer s H vs Q E hr h => ?_)
  · obtain ⟨cell, scale, many, rfl, _⟩ := h
    rfl
  · obtain ⟨cell, scale, many, rfl, hm, h1, h2, q⟩ := h
    refine ⟨_, (pss_one (ps_ret (pe_comp rfl (CompScope.of (T := ["_law_figure"]) (js := [2]) (defScope s_seasons).names N_seasons rfl rfl rfl (by decide +kernel)) (pi_list (pe_callO o_row hr (pa_cons (pv 0) (pa_cons (pv 1) (pa_cons pe_int pa_nil))))) (fun _ _ _ _ => ⟨(pg_name (i := 0) (by show List.Nodup (["_law_figure", "_law_scale"] : List Str); decide +kernel) rfl (Or.inl rfl)), pif_nil, (pe_callO o_season hr (pa_cons (pv 0) (pa_cons (pv 1) pa_nil)))⟩)))), ?_⟩
    refine ⟨_, rfl, _, rfl, _, _, many, rfl, hm, by decide, by decide, fun pr fs fr hfl hfx => ⟨pr, rfl, ⟨_, SqL.of upd_same⟩, fun p fp => ?_⟩⟩
    have fp' : H p = none := (Same.upd fr).free fp
    refine comp_list (xs := fs.map V.int) (fun i σ H2 => (∃ v, σ = [v, some (.int scale)]) ∧ ∃ (ts : List Addr) (ss : List (Bool × Int)), Same (upd H pr (.lst (fs.map V.int))) H2 ∧ ss.length = i ∧ (∀ z ∈ ss, 0 ≤ z.2 ∧ z.2 ≤ 1000000) ∧ H2 p = some (.lst (ts.map V.ref)) ∧ SeasAt H2 ts ss) ?_ ?_ ?_ ?_
    · exact ⟨⟨none, rfl⟩, [], [], Same.upd fp, rfl, by simp, upd_same, SeasAt.nil _⟩
    · rintro i σ H2 _ ⟨_, ts, ss, s2, _⟩
      exact s2.seq (SqL.of upd_same)
    · rintro i x σ H2 hx ⟨⟨v, rfl⟩, ts, ss, s2, hl, hz, h2p, hS⟩
      obtain ⟨hi, rfl⟩ := getI_some hx
      refine compT_one ?_
      refine ⟨_, rfl, _, rfl, _, _, rfl, h1, h2, fun H3 t z s3 ft z0 z1 ht => ?_⟩
      have h3p := s3 _ _ h2p
      have ntp : t ≠ p := Ne.symm (ne_of_none h2p ft)
      refine ⟨_, h3p, sz1000 (by rw [List.length_map, hS.len]; omega), ⟨_, rfl⟩, ts ++ [t], ss ++ [z], (s2.trans s3).set fp, by rw [List.length_append, hl]; rfl, fun y hy => ?_, ?_, ?_⟩
      · rcases List.mem_append.mp hy with h | h
        · exact hz y h
        · have : y = z := by simpa using h
          subst this
          exact ⟨z0, z1⟩
      · rw [upd_same, List.map_append]; rfl
      · have S3 : SeasAt H3 (ts ++ [t]) (ss ++ [z]) := (hS.same s3).snoc ht
        refine ⟨S3.len, fun j y e => ?_⟩
        obtain ⟨t', e1, e2⟩ := S3.at' j y e
        exact ⟨t', e1, by rw [upd_ne (ne_of e2 h3p (by intro z; cases z))]; exact e2⟩
    · rintro σ H2 ⟨_, ts, ss, s2, hl, hz, h2p, hS⟩
      rw [List.length_map] at hl
      exact q H2 p ts ss ((Same.upd fr).trans s2) fp' (by omega) hz h2p hS
abbrev s_go : Stmt := top 68
abbrev N_go : List Str := ["_law_needs", "_law_heats", "_law_season_here", "_law_left", "_law_place", "_law_part"]
abbrev P_go : List Str := ["_law_needs", "_law_heats", "_law_season_here"]
theorem sc_go : FnScope N_go P_go (defScope s_go) := mk9
/-! _law_go -/
def sp_go (K : W.Frag) : Sp := fun vs H Q _ => ∃ (a b t : Addr) (needs heats : List Int) (z : Bool × Int), vs = [.ref a, .ref b, .ref t] ∧ SqL K H a (needs.map V.int) ∧ H b = some (.lst (heats.map V.int)) ∧ H t = some (.tup [.str (kindS z.1), .int z.2]) ∧ a ≠ b ∧ HeatsOk needs heats ∧ 1 ≤ needs.length ∧ needs.length ≤ 1000 ∧
  0 ≤ z.2 ∧ Q (.int (seasLeft needs heats z)) (upd H b (.lst ((seasL needs heats z).map V.int)))
theorem ok_go (F : Fun K "_law_go" "_law_go" s_go f fd) (T : Txt K mg) : FnOk P w K mg base CX0 1 f fd P_go (sp_go K) := by
  refine F.ok sc_go (fun vs H Q E h => ?_) (fun cdv A outer s H vs Q E hr h => ?_)
  · obtain ⟨a, b, t, needs, heats, z, rfl, _⟩ := h
    rfl
  · obtain ⟨a, b, t, needs, heats, z, rfl, hA, hB, hT, nab, hO, hn1, hn, h0, q⟩ := h
    refine ⟨_, (pss_cons (ps_set (i := 3) sc_go.nd rfl (Or.inl rfl) (pe_ix ix_tup (pv 2) pe_int (fun _ _ => rfl)))
      (pss_cons (ps_set (i := 4) sc_go.nd rfl (Or.inl rfl) (pe_op op_sub (pe_len T.n_len (pv 0)) pe_int))
      (pss_cons (ps_while PassesOwn.never (PW.pt (pw_and (pt_cmpR op_gt (pv 3) pe_int (nomark _)) (pw_and1 (pt_cmpR op_ge (pv 4) pe_int (nomark _)))))
        (pss_cons (ps_if (pt_cmpR op_eq (pe_ix ix_tup (pv 2) pe_int (fun _ _ => rfl)) pe_str (nomark _))
          (pss_cons (ps_set (i := 5) sc_go.nd rfl (Or.inl rfl) (pe_min (by rfl) T.n_min (pv 3) (pe_op op_sub (pe_ix ix_list (pv 0) (pv 4) (fun _ _ => rfl)) (pe_ix ix_list (pv 1) (pv 4) (fun _ _ => rfl)))))
          (pss_one (ps_asg (pe_op op_add (pe_ix ix_list (pv 1) (pv 4) (fun _ _ => rfl)) (pv 5)) (pg_sub (pv 1) (pv 4) set_list))))
          (pss_cons (ps_set (i := 5) sc_go.nd rfl (Or.inl rfl) (pe_min (by rfl) T.n_min (pv 3) (pe_ix ix_list (pv 1) (pv 4) (fun _ _ => rfl))))
          (pss_one (ps_asg (pe_op op_sub (pe_ix ix_list (pv 1) (pv 4) (fun _ _ => rfl)) (pv 5)) (pg_sub (pv 1) (pv 4) set_list)))))
        (pss_cons (ps_set (i := 3) sc_go.nd rfl (Or.inl rfl) (pe_op op_sub (pv 3) (pv 5)))
        (pss_one (ps_set (i := 4) sc_go.nd rfl (Or.inl rfl) (pe_op op_sub (pv 4) pe_int))))))
      (pss_one (ps_ret (pv 3)))))), ?_⟩
    have hl := hO.len
    have hrl := limG_len hl z
    have hr0 := limG_lo hO z
    have ntb : t ≠ b := ne_of hT hB (by intro z; cases z)
    have hT2 : ∀ o, (upd H b o) t = some (.tup [.str (kindS z.1), .int z.2]) := fun o => by rw [upd_ne ntb]; exact hT
    refine ⟨_, rfl, t, _, _, _, rfl, rfl, SqT.of hT, rfl, ?_⟩
    refine ⟨_, rfl, a, _, rfl, .inl hA, _, _, rfl, rfl, ?_⟩
    refine ⟨fun μ σ H2 => ∃ (k : Nat) (pl : Int) (v : Option V), μ = k ∧ k ≤ needs.length ∧ pl = (k : Int) - 1 ∧ σ = [some (.ref a), some (.ref b), some (.ref t), some (.int (leftAt (limG needs heats z) z.2 k)), some (.int pl), v] ∧
      H2 = upd H b (.lst ((goL needs heats z k).map V.int)), ⟨_, needs.length, ((needs.map V.int).length : Int) - 1, none, rfl, Nat.le_refl _, ?_, ?_, ?_⟩, ?_⟩
    · show ((needs.map V.int).length : Int) - 1 = _
      rw [List.length_map]
    · have : leftAt (limG needs heats z) z.2 needs.length = z.2 := by
        unfold leftAt; rw [← hrl, List.drop_length]; show max 0 (z.2 - 0) = z.2; omega
      rw [this]; rfl
    · rw [goL_start hl, upd_self hB]
    rintro μ σ H2 ⟨k, pl, v, rfl, hk, epl, rfl, rfl⟩
    refine ⟨_, rfl, _, _, rfl, rfl, _, rfl, ?_⟩
    have fin : (leftAt (limG needs heats z) z.2 μ ≤ 0 ∨ μ = 0) → Q (.int (leftAt (limG needs heats z) z.2 μ)) (upd H b (.lst ((goL needs heats z μ).map V.int))) := fun hs => by
      obtain ⟨e1, e2⟩ := goL_fin hO z hk hs
      rw [e1, e2]
      exact q
    refine ite2 (fun hc => ?_) (fun hc => ?_)
    · have hl0 : 0 < leftAt (limG needs heats z) z.2 μ := of_decide_eq_true hc
      refine ⟨_, rfl, _, _, rfl, rfl, _, rfl, ?_⟩
      refine ite2 (fun hc => ?_) (fun hc => ?_)
      · have hp0 : 0 ≤ pl := of_decide_eq_true hc
        obtain ⟨j, rfl⟩ : ∃ j, μ = j + 1 := ⟨μ - 1, by omega⟩
        have ej : pl = (j : Int) := by omega
        subst ej
        have hj : j < needs.length := by omega
        refine ⟨fun σ' H' => ∃ m', m' < j + 1 ∧ _, fun σ' H' h => h, ?_⟩
        have gj : (goL needs heats z (j + 1)).getD j 0 = heats.getD j 0 := by
          rw [goL_at hj, if_neg (by omega)]; unfold heldG; split <;> omega
        have es : shareAt (limG needs heats z) z.2 j = min (leftAt (limG needs heats z) z.2 (j + 1)) ((limG needs heats z).getD j 0) := rfl
        have el := leftAt_step (a := z.2) (show j < (limG needs heats z).length by omega) (hr0 j (by omega))
        have hgl := goL_len needs heats z (j + 1)
        refine ⟨_, rfl, t, _, _, _, rfl, rfl, SqT.of (hT2 _), rfl, rfl, _, rfl, ?_⟩
        rw [kind_warm]
        refine ite2 (fun hb => ?_) (fun hb => ?_)
        · have hlim : (limG needs heats z).getD j 0 = needs.getD j 0 - heats.getD j 0 := by unfold limG; rw [if_pos hb, rooms_at hl hj]
          refine ⟨_, rfl, _, rfl, _, rfl, a, _, _, _, rfl, rfl, hA.off nab, atI_int hj, _, rfl, _, rfl, b, _, _, _, rfl, rfl, SqL.of upd_same, atI_int (by omega), _, _, rfl, rfl, _, _, rfl, ?_⟩
          have ep : (if needs.getD j 0 - (goL needs heats z (j + 1)).getD j 0 < leftAt (limG needs heats z) z.2 (j + 1) then needs.getD j 0 - (goL needs heats z (j + 1)).getD j 0 else leftAt (limG needs heats z) z.2 (j + 1)) = shareAt (limG needs heats z) z.2 j := by
            rw [es, hlim, gj]; split <;> omega
          rw [ep]
          refine ⟨_, rfl, _, rfl, b, _, _, _, rfl, rfl, SqL.of upd_same, atI_int (by omega), _, rfl, _, _, rfl, rfl, _, rfl, _, rfl, b, _, _, j, rfl, rfl, upd_same, ixN_nat (by simpa using hgl ▸ hj), ?_⟩
          refine ⟨_, rfl, _, rfl, _, _, rfl, rfl, ?_⟩
          refine ⟨_, rfl, _, _, rfl, rfl, ?_⟩
          refine ⟨j, by omega, j, _, some (.int (shareAt (limG needs heats z) z.2 j)), rfl, by omega, rfl, ?_, ?_⟩
          · rw [el]; rfl
          · rw [setI, upd_upd, gj, ← goL_set hj]
            unfold heldG
            rw [if_pos hb]
        · have hlim : (limG needs heats z).getD j 0 = heats.getD j 0 := by unfold limG; rw [if_neg hb]
          refine ⟨_, rfl, _, rfl, _, rfl, b, _, _, _, rfl, rfl, SqL.of upd_same, atI_int (by omega), _, _, rfl, ?_⟩
          have ep : (if (goL needs heats z (j + 1)).getD j 0 < leftAt (limG needs heats z) z.2 (j + 1) then (goL needs heats z (j + 1)).getD j 0 else leftAt (limG needs heats z) z.2 (j + 1)) = shareAt (limG needs heats z) z.2 j := by
            rw [es, hlim, gj]; split <;> omega
          rw [ep]
          refine ⟨_, rfl, _, rfl, b, _, _, _, rfl, rfl, SqL.of upd_same, atI_int (by omega), _, rfl, _, _, rfl, rfl, _, rfl, _, rfl, b, _, _, j, rfl, rfl, upd_same, ixN_nat (by simpa using hgl ▸ hj), ?_⟩
          refine ⟨_, rfl, _, rfl, _, _, rfl, rfl, ?_⟩
          refine ⟨_, rfl, _, _, rfl, rfl, ?_⟩
          refine ⟨j, by omega, j, _, some (.int (shareAt (limG needs heats z) z.2 j)), rfl, by omega, rfl, ?_, ?_⟩
          · rw [el]; rfl
          · rw [setI, upd_upd, gj, ← goL_set hj]
            unfold heldG
            rw [if_neg hb]
      · have hp0 : ¬ 0 ≤ pl := fun h => hc (decide_eq_true h)
        exact ⟨_, rfl, fin (.inr (by omega))⟩
    · have hl0 : ¬ 0 < leftAt (limG needs heats z) z.2 μ := fun h => hc (decide_eq_true h)
      exact iteF ⟨_, rfl, fin (.inl (by omega))⟩
abbrev s_step : Stmt := top 69
abbrev N_step : List Str := ["_law_full", "_law_heat", "_law_season_here"]
abbrev P_step : List Str := ["_law_full", "_law_heat", "_law_season_here"]
theorem sc_step : FnScope N_step P_step (defScope s_step) := mk9
/-! _law_step -/
def sp_step (K : W.Frag) : Sp := fun vs H Q _ => ∃ (full h : Int) (t : Addr) (z : Bool × Int), vs = [.int full, .int h, .ref t] ∧ H t = some (.tup [.str (kindS z.1), .int z.2]) ∧ Q (.int (stepH full h z)) H
theorem ok_step (F : Fun K "_law_step" "_law_step" s_step f fd) (T : Txt K mg) : FnOk P w K mg base CX0 1 f fd P_step (sp_step K) := by
  refine F.ok sc_step (fun vs H Q E h => ?_) (fun cdv A outer s H vs Q E hr h => ?_)
  · obtain ⟨full, h, t, z, rfl, _⟩ := h
    rfl
  · obtain ⟨full, h, t, z, rfl, hT, q⟩ := h
    refine ⟨_, (pss_cons (ps_if (pt_cmpR op_eq (pe_ix ix_tup (pv 2) pe_int (fun _ _ => rfl)) pe_str (nomark _))
        (pss_one (ps_ret (pe_min (by rfl) T.n_min (pv 0) (pe_op op_add (pv 1) (pe_ix ix_tup (pv 2) pe_int (fun _ _ => rfl))))))
        pss_nil)
      (pss_one (ps_ret (pe_max (by rfl) T.n_max pe_int (pe_op op_sub (pv 1) (pe_ix ix_tup (pv 2) pe_int (fun _ _ => rfl))))))), ?_⟩
    have hT' := SqT.of (K := K) hT
    refine ⟨_, rfl, t, _, _, _, rfl, rfl, hT', rfl, rfl, _, rfl, ?_⟩
    rw [kind_warm]
    unfold stepH at q
    cases e : z.1 with
    | true =>
      rw [e, if_pos rfl] at q
      refine iteT ?_
      refine ⟨_, rfl, _, rfl, _, rfl, t, _, _, _, rfl, rfl, hT', rfl, _, _, rfl, rfl, _, _, rfl, ?_⟩
      rw [show (if h + z.2 < full then h + z.2 else full) = min full (h + z.2) by split <;> omega]
      exact q
    | false =>
      rw [e, if_neg (by simp)] at q
      refine iteF ?_
      refine ⟨_, rfl, _, rfl, t, _, _, _, rfl, rfl, hT', rfl, _, _, rfl, rfl, _, _, rfl, ?_⟩
      rw [show (if (0 : Int) < h - z.2 then h - z.2 else 0) = max 0 (h - z.2) by split <;> omega]
      exact q
abbrev s_steps : Stmt := top 70
abbrev N_steps : List Str := ["_law_full", "_law_heat", "_law_seasons_here", "_law_season_here"]
abbrev P_steps : List Str := ["_law_full", "_law_heat", "_law_seasons_here"]
theorem sc_steps : FnScope N_steps P_steps (defScope s_steps) := mk9
/-! _law_steps -/
def sp_steps (K : W.Frag) : Sp := fun vs H Q _ => ∃ (full h : Int) (p : Addr) (ts : List Addr) (ss : List (Bool × Int)), vs = [.int full, .int h, .ref p] ∧ SqL K H p (ts.map V.ref) ∧ SeasAt H ts ss ∧ Q (.int (stepsH full h ss)) H
theorem ok_steps (F : Fun K "_law_steps" "_law_steps" s_steps f fd) (T : Txt K mg) (o_step : Ok P w K mg base "_law_step" P_step 1 (sp_step K)) : FnOk P w K mg base CX0 2 f fd P_steps (sp_steps K) := by
  refine F.ok sc_steps (fun vs H Q E h => ?_) (fun cdv A outer s H vs Q E hr h => ?_)
  · obtain ⟨full, h, p, ts, ss, rfl, _⟩ := h
    rfl
  · obtain ⟨full, h, p, ts, ss, rfl, hP, hS, q⟩ := h
    refine ⟨_, (pss_cons (ps_for PassesOwn.never rfl (pi_list (pv 2)) (pg_name (i := 3) sc_steps.nd rfl (Or.inl rfl))
        (pss_one (ps_set (i := 1) sc_steps.nd rfl (Or.inl rfl) (pe_callO o_step hr (pa_cons (pv 0) (pa_cons (pv 1) (pa_cons (pv 3) pa_nil)))))))
      (pss_one (ps_ret (pv 1)))), ?_⟩
    refine ⟨_, rfl, p, rfl, ⟨_, hP⟩, ?_⟩
    refine for_list (xs := ts.map V.ref) (fun i σ H2 => (∃ v, σ = [some (.int full), some (.int (stepsH full h (ss.take i))), some (.ref p), v]) ∧ H2 = H) ⟨⟨none, rfl⟩, rfl⟩ (fun i σ H2 _ z => z.2 ▸ hP) ?_ ?_
    · rintro i x σ H2 hx ⟨⟨v, rfl⟩, rfl⟩
      obtain ⟨t, z, rfl, hz, ht⟩ := hS.item hx
      refine ⟨_, rfl, _, rfl, _, rfl, _, _, t, z, rfl, ht, ?_⟩
      exact ⟨⟨_, by rw [take_snoc hz, stepsH_snoc]; rfl⟩, rfl⟩
    · rintro σ H2 ⟨⟨v, rfl⟩, rfl⟩
      rw [List.length_map, hS.len, List.take_length]
      exact ⟨_, rfl, q⟩
abbrev s_add : Stmt := top 71
abbrev N_add : List Str := ["_law_seasons_here", "_law_total", "_law_season_here"]
abbrev P_add : List Str := ["_law_seasons_here"]
theorem sc_add : FnScope N_add P_add (defScope s_add) := mk9
/-! _law_add -/
def sp_add (K : W.Frag) : Sp := fun vs H Q _ => ∃ (p : Addr) (ts : List Addr) (ss : List (Bool × Int)), vs = [.ref p] ∧ SqL K H p (ts.map V.ref) ∧ SeasAt H ts ss ∧ ∀ H', Same H H' → Q (.int (addS ss)) H'
theorem ok_add (F : Fun K "_law_add" "_law_add" s_add f fd) (T : Txt K mg) : FnOk P w K mg base CX0 1 f fd P_add (sp_add K) := by
  refine F.ok sc_add (fun vs H Q E h => ?_) (fun cdv A outer s H vs Q E hr h => ?_)
  · obtain ⟨p, ts, ss, rfl, _⟩ := h
    rfl
  · obtain ⟨p, ts, ss, rfl, hP, hS, q⟩ := h
    refine ⟨_, (pss_cons (ps_set (i := 1) sc_add.nd rfl (Or.inl rfl) pe_int)
      (pss_cons (ps_for PassesOwn.never rfl (pi_list (pv 0)) (pg_name (i := 2) sc_add.nd rfl (Or.inl rfl))
        (pss_one (ps_set (i := 1) sc_add.nd rfl (Or.inl rfl) (pe_op op_add (pv 1) (pe_ix ix_list (pe_lst (pa_cons (pe_ix ix_tup (pv 2) pe_int (fun _ _ => rfl)) (pa_cons (pe_un un_neg (pe_ix ix_tup (pv 2) pe_int (fun _ _ => rfl))) pa_nil))) (pe_callTy call_int1 (by rfl) T.n_int (by decide +kernel) (pa_cons (pe_cmpR op_eq (pe_ix ix_tup (pv 2) pe_int (fun _ _ => rfl)) pe_str (nomark _)) pa_nil)) (fun _ _ => rfl))))))
      (pss_one (ps_ret (pv 1))))), ?_⟩
    refine ⟨_, rfl, p, rfl, ⟨_, hP⟩, ?_⟩
    refine for_list (xs := ts.map V.ref) (fun i σ H2 => (∃ v, σ = [some (.ref p), some (.int (addS (ss.take i))), v]) ∧ Same H H2) ⟨⟨none, rfl⟩, Same.refl H⟩ (fun i σ H2 _ z => z.2.seq hP) ?_ ?_
    · rintro i x σ H2 hx ⟨⟨v, rfl⟩, s2⟩
      obtain ⟨t, z, rfl, hz, ht⟩ := hS.item hx
      have ht2 := SqT.of (K := K) (s2 _ _ ht)
      refine ⟨_, rfl, _, rfl, t, _, _, _, rfl, rfl, ht2, rfl, _, rfl, t, _, _, _, rfl, rfl, ht2, rfl, _, rfl, sz9, fun c hc => ?_⟩
      refine ⟨_, rfl, t, _, _, _, rfl, rfl, (Same.upd hc).tup ht2, rfl, rfl, .inr ⟨_, rfl, ?_⟩⟩
      refine ⟨c, _, _, _, rfl, rfl, SqL.of upd_same, (?_ : _ = some (V.int (if z.1 = true then z.2 else -z.2))), _, _, rfl, rfl, ?_⟩
      · rw [kind_cold]
        cases z.1 <;> rfl
      · exact ⟨⟨_, by rw [take_snoc hz, addS_snoc]; rfl⟩, s2.trans (Same.upd hc)⟩
    · rintro σ H2 ⟨⟨v, rfl⟩, s2⟩
      rw [List.length_map, hS.len, List.take_length]
      exact ⟨_, rfl, q _ s2⟩
abbrev s_far : Stmt := top 72
abbrev N_far : List Str := ["_law_needs", "_law_heats", "_law_year", "_law_many", "_law_some", "_law_sums", "_law_add_here", "_law_bed", "_law_full", "_law_heat", "_law_low", "_law_high"]
abbrev P_far : List Str := ["_law_needs", "_law_heats", "_law_year", "_law_many", "_law_some"]
theorem sc_far : FnScope N_far P_far (defScope s_far) := mk9
/-! _law_far -/
def sp_far (K : W.Frag) : Sp := fun vs H Q _ => ∃ (a b c : Addr) (needs heats : List Int) (ts : List Addr) (ss : List (Bool × Int)) (many so : Nat), vs = [.ref a, .ref b, .ref c, .int many, .int so] ∧ SqL K H a (needs.map V.int) ∧ SqL K H b (heats.map V.int) ∧ SqL K H c (ts.map V.ref) ∧ SeasAt H ts ss ∧ HeatsOk needs heats ∧ needs.length ≤ 1000 ∧ (∀ z ∈ ss, 0 ≤ z.2) ∧ ss.length ≤ 1000 ∧ (many : Int) < 2 ^ 63 ∧
  ∀ (H' : Hp) (p : Addr), Same H H' → H p = none → H' p = some (.lst ((farL needs heats ss many so).map V.int)) → Q (.ref p) H'
theorem ok_far (F : Fun K "_law_far" "_law_far" s_far f fd) (T : Txt K mg) (o_add : Ok P w K mg base "_law_add" P_add 1 (sp_add K)) (o_steps : Ok P w K mg base "_law_steps" P_steps 2 (sp_steps K)) : FnOk P w K mg base CX0 3 f fd P_far (sp_far K) := by
  refine F.ok sc_far (fun vs H Q E h => ?_) (fun cdv A outer s H vs Q E hr h => ?_)
  · obtain ⟨a, b, c, needs, heats, ts, ss, many, some', rfl, _⟩ := h
    rfl
  · obtain ⟨a, b, c, needs, heats, ts, ss, many, so, rfl, hA, hB, hC, hS, hO, hn, hz, hsl, hm, q⟩ := h
    refine ⟨_, (pss_cons (ps_set (i := 5) sc_far.nd rfl (Or.inr rfl) (pe_lst pa_nil))
      (pss_cons (ps_set (i := 6) sc_far.nd rfl (Or.inl rfl) (pe_callO o_add hr (pa_cons (pv 2) pa_nil)))
      (pss_cons (ps_for PassesOwn.never rfl (pi_range1 (by rfl) T.n_range (pa_cons (pe_len T.n_len (pv 0)) pa_nil)) (pg_name (i := 7) sc_far.nd rfl (Or.inl rfl))
        (pss_cons (ps_set (i := 8) sc_far.nd rfl (Or.inl rfl) (pe_sum (by rfl) T.n_sum (pe_slice sl_list (pv 0) (po_some (pv 7)) po_none)))
        (pss_cons (ps_set (i := 9) sc_far.nd rfl (Or.inl rfl) (pe_sum (by rfl) T.n_sum (pe_slice sl_list (pv 1) (po_some (pv 7)) po_none)))
        (pss_cons (ps_if (pt_cmpR op_gt (pv 3) pe_int (nomark _))
          (pss_cons (ps_set (i := 10) sc_far.nd rfl (Or.inl rfl) (pe_callO o_steps hr (pa_cons (pv 8) (pa_cons pe_int (pa_cons (pv 2) pa_nil)))))
          (pss_cons (ps_set (i := 11) sc_far.nd rfl (Or.inl rfl) (pe_callO o_steps hr (pa_cons (pv 8) (pa_cons (pv 8) (pa_cons (pv 2) pa_nil)))))
          (pss_one (ps_set (i := 9) sc_far.nd rfl (Or.inl rfl) (pe_ix ix_list (pe_sorted T.n_sorted (pe_lst (pa_cons (pv 10) (pa_cons (pe_op op_add (pe_callO o_steps hr (pa_cons (pv 8) (pa_cons (pv 9) (pa_cons (pv 2) pa_nil)))) (pe_op op_mul (pe_op op_sub (pv 3) pe_int) (pv 6))) (pa_cons (pv 11) pa_nil))))) pe_int (fun _ _ => rfl))))))
          pss_nil)
        (pss_one (ps_expr (pe_bm PySem.F.plainAttrs_list PySem.F.slot_list_append PySem.F.type_list_append mt_append (pv 5) (pa_cons (pe_callO o_steps hr (pa_cons (pv 8) (pa_cons (pv 9) (pa_cons (pe_slice sl_list (pv 2) po_none (po_some (pv 4))) pa_nil)))) pa_nil))))))))
      (pss_cons (ps_expr (pe_bm PySem.F.plainAttrs_list PySem.F.slot_list_append PySem.F.type_list_append mt_append (pv 5) (pa_cons pe_int pa_nil)))
      (pss_one (ps_ret (pe_comp rfl (CompScope.of (T := ["_law_bed"]) (js := [5]) (defScope s_far).names N_far rfl rfl rfl (by decide +kernel)) (pi_range1 (by rfl) T.n_range (pa_cons (pe_len T.n_len (pv 0)) pa_nil)) (fun _ _ _ _ => ⟨(pg_name (i := 0) (by show List.Nodup (["_law_bed", "_law_sums"] : List Str); decide +kernel) rfl (Or.inl rfl)), pif_nil, (pe_op op_sub (pe_ix (ix_listK K) (pv 1) (pv 0) (fun _ _ => rfl)) (pe_ix (ix_listK K) (pv 1) (pe_op op_add (pv 0) pe_int) (fun _ _ => rfl)))⟩)))))))), ?_⟩
    refine ⟨sz9, fun ps fps => ?_⟩
    have s0 := Same.upd (o := .lst []) fps
    refine ⟨_, rfl, c, ts, ss, rfl, s0.seq hC, hS.same s0, fun H1 s1 => ?_⟩
    have s01 := s0.trans s1
    have nps : ∀ {c : Addr} {o : HO}, H c = Option.some o → c ≠ ps := fun {c o} h => ne_of_none h fps
    refine ⟨_, rfl, a, _, rfl, .inl (s01.seq hA), _, rfl, by omega, by rw [List.length_map]; omega, ?_⟩
    rw [show ((needs.map V.int).length : Int).toNat = needs.length by rw [List.length_map]; omega]
    refine for_range (n := needs.length) (fun i σ H2 => (∃ v7 v8 v9 v10 v11, σ = [some (.ref a), some (.ref b), some (.ref c), some (.int many), some (.int so), some (.ref ps), some (.int (addS ss)), v7, v8, v9, v10, v11]) ∧ Same H H2 ∧ H2 ps = some (.lst (((List.range i).map fun j => down (farL needs heats ss many so) j).map V.int))) ?_ ?_ ?_
    · exact ⟨⟨none, none, none, none, none, rfl⟩, s01, s1 _ _ upd_same⟩
    · rintro i σ H2 hi ⟨⟨v7, v8, v9, v10, v11, rfl⟩, s2, hps⟩
      have e0 : (0 : Int) + (i : Int) = (i : Int) := by omega
      rw [e0]
      have hl := hO.len
      have dN := (⟨rfl, fun i hi => by have a := hO.lo i hi; have b := hO.hi i hi; omega, fun i hi => Int.le_refl _⟩ : HeatsOk needs needs).down i (by omega)
      have dH := hO.down i (by omega)
      refine ⟨_, rfl, _, rfl, _, rfl, a, _, rfl, s2.seq hA, fun c1 f1 => ?_⟩
      have e1 : cutV (needs.map V.int) (some (i : Int)) none = (needs.drop i).map V.int := by rw [cut_dropG, List.map_drop]
      have s3 := Same.upd (o := .lst (cutV (needs.map V.int) (some (i : Int)) none)) f1
      refine ⟨c1, needs.drop i, rfl, SqL.of (by rw [← e1]; exact upd_same), ?_⟩
      refine ⟨_, rfl, _, rfl, _, rfl, b, _, rfl, s3.seq (s2.seq hB), fun c2 f2 => ?_⟩
      have e2 : cutV (heats.map V.int) (some (i : Int)) none = (heats.drop i).map V.int := by rw [cut_dropG, List.map_drop]
      have s4 := Same.upd (o := .lst (cutV (heats.map V.int) (some (i : Int)) none)) f2
      refine ⟨c2, heats.drop i, rfl, SqL.of (by rw [← e2]; exact upd_same), ?_⟩
      have s24 := s2.trans (s3.trans s4)
      have hps4 := s4 _ _ (s3 _ _ hps)
      dsimp only [gName]
      refine seq_cut (fun σ' H' => (∃ v10 v11, σ' = [some (.ref a), some (.ref b), some (.ref c), some (.int many), some (.int so), some (.ref ps), some (.int (addS ss)), some (.int i), some (.int (down needs i)), some (.int (yearsH (down needs i) (down heats i) ss many)), v10, v11]) ∧ Same H H' ∧ H' ps = some (.lst (((List.range i).map fun j => down (farL needs heats ss many so) j).map V.int))) (fun nx hnx => ?_) ?_
      · refine ⟨_, rfl, _, _, rfl, rfl, _, rfl, ?_⟩
        refine ite2 (fun hc => ?_) (fun hc => ?_)
        · have hc : (0 : Int) < (many : Int) := of_decide_eq_true hc
          obtain ⟨n, rfl⟩ : ∃ n, many = n + 1 := ⟨many - 1, by omega⟩
          have hmul : CMul (((n + 1 : Nat) : Int) - 1) (addS ss) := .inl ⟨by omega, by omega⟩
          have okR : stepsH (down needs i) 0 ss ≤ stepsH (down needs i) (down needs i) ss := stepsH_mono ss dN.1
          refine ⟨_, rfl, _, rfl, _, _, c, ts, ss, rfl, s24.seq hC, hS.same s24, ?_⟩
          refine ⟨_, rfl, _, rfl, _, rfl, _, _, c, ts, ss, rfl, s24.seq hC, hS.same s24, ?_⟩
          refine ⟨_, rfl, _, rfl, _, rfl, _, rfl, _, _, c, ts, ss, rfl, s24.seq hC, hS.same s24, _, rfl, _, _, rfl, rfl, _, rfl, _, _, rfl, rfl, hmul, _, _, rfl, rfl, _, rfl, sz9, fun p hp => ?_⟩
          refine ⟨p, [stepsH (down needs i) 0 ss, stepsH (down needs i) (down heats i) ss + (((n + 1 : Nat) : Int) - 1) * addS ss, stepsH (down needs i) (down needs i) ss], rfl, SqL.of upd_same, by show 3 < 64; decide, fun c3 ns' hc3 hper hord => ?_⟩
          obtain ⟨u, v, rfl⟩ := sorted_three hper hord okR
          refine ⟨c3, _, _, _, rfl, rfl, SqL.of upd_same, rfl, hnx _ _ ⟨⟨some (.int (stepsH (down needs i) 0 ss)), some (.int (stepsH (down needs i) (down needs i) ss)), ?_⟩, s24.trans ((Same.upd hp).trans (Same.upd hc3)), Same.upd hc3 _ _ (Same.upd hp _ _ hps4)⟩⟩
          rw [yearsH_mid dN.1 hz dH.1 dH.2 n, show ((n + 1 : Nat) : Int) - 1 = (n : Int) by omega]
          rfl
        · have hc : ¬ (0 : Int) < (many : Int) := fun h => hc (decide_eq_true h)
          have hm0 : many = 0 := by omega
          subst hm0
          exact hnx _ _ ⟨⟨_, _, rfl⟩, s24, hps4⟩
      rintro _ H5 ⟨⟨v10, v11, rfl⟩, s5, hps5⟩
      refine ⟨_, rfl, .inl ⟨rfl, _, SqL.of hps5⟩, _, rfl, _, rfl, _, rfl, _, rfl, _, rfl, c, _, rfl, s5.seq hC, fun c4 f4 => ?_⟩
      have e4 : cutV (ts.map V.ref) none (some (so : Int)) = (ts.take so).map V.ref := by rw [cut_takeG, List.map_take]
      have s6 := Same.upd (o := .lst (cutV (ts.map V.ref) none (some (so : Int)))) f4
      refine ⟨_, _, c4, ts.take so, ss.take so, rfl, SqL.of (by rw [← e4]; exact upd_same), ((hS.same s5).same s6).take so, ps, _, _, rfl, rfl, s6 _ _ hps5, sz1000 (by simp only [List.length_map, List.length_range]; omega), ?_⟩
      refine ⟨⟨_, _, _, _, _, rfl⟩, (s5.trans s6).set fps, ?_⟩
      rw [upd_same, ← down_far hO hz many so (by omega), List.range_succ, List.map_append, List.map_append]
      rfl
    · rintro σ H2 ⟨⟨v7, v8, v9, v10, v11, rfl⟩, s2, hps⟩
      have hl := hO.len
      have hfl : (farL needs heats ss many so).length = needs.length := (farL_ok hO ss many so).len
      refine ⟨_, rfl, .inl ⟨rfl, _, SqL.of hps⟩, ps, _, _, rfl, rfl, hps, sz1000 (by simp only [List.length_map, List.length_range]; omega), ?_⟩
      have hps3 : upd H2 ps (.lst (((List.range needs.length).map fun j => down (farL needs heats ss many so) j).map V.int ++ [.int 0])) ps = some (.lst (((List.range (needs.length + 1)).map fun j => down (farL needs heats ss many so) j).map V.int)) := by
        rw [upd_same, List.range_succ, List.map_append, List.map_append]
        show _ = some (HO.lst (_ ++ [.int (down (farL needs heats ss many so) needs.length)]))
        rw [down_end (Nat.le_of_eq hfl)]
      have s3 : Same H (upd H2 ps (.lst (((List.range needs.length).map fun j => down (farL needs heats ss many so) j).map V.int ++ [.int 0]))) := s2.set fps
      refine ⟨_, rfl, a, _, rfl, .inl (s3.seq hA), _, rfl, by omega, by rw [List.length_map]; omega, fun pc fpc => ?_⟩
      have npc : ps ≠ pc := ne_of_none hps3 fpc
      refine comp_range (fun i σ H4 => (∃ v, σ = [v, some (.ref ps)]) ∧ H4 = upd (upd H2 ps (.lst (((List.range needs.length).map fun j => down (farL needs heats ss many so) j).map V.int ++ [.int 0]))) pc (.lst ((List.range i).map fun j => V.int (down (farL needs heats ss many so) j - down (farL needs heats ss many so) (j + 1))))) ?_ ?_ ?_
      · exact ⟨⟨none, rfl⟩, rfl⟩
      · rintro i σ H4 hi ⟨⟨v, rfl⟩, rfl⟩
        have hi' : i < needs.length := by rw [List.length_map] at hi; omega
        have e0 : (0 : Int) + (i : Int) = (i : Int) := by omega
        rw [e0]
        have gt : ∀ k, k < needs.length + 1 → atI (((List.range (needs.length + 1)).map fun j => down (farL needs heats ss many so) j).map V.int) (k : Int) = some (.int (down (farL needs heats ss many so) k)) := fun k hk => atI_nat (by
          rw [List.getElem?_map, List.getElem?_map, List.getElem?_range hk]; rfl)
        refine compT_one ?_
        have hq := SqL.of (K := K) (show upd (upd H2 ps (.lst (((List.range needs.length).map fun j => down (farL needs heats ss many so) j).map V.int ++ [.int 0]))) pc (.lst ((List.range i).map fun j => V.int (down (farL needs heats ss many so) j - down (farL needs heats ss many so) (j + 1)))) ps = _ by rw [upd_ne npc]; exact hps3)
        refine ⟨_, rfl, _, rfl, ps, _, _, _, rfl, rfl, hq, gt i (by omega), _, rfl, _, rfl, _, _, rfl, rfl, ps, _, _, _, rfl, rfl, hq, (by rw [show (i : Int) + 1 = ((i + 1 : Nat) : Int) by omega]; exact gt (i + 1) (by omega)), _, _, rfl, rfl, _, upd_same, sz1000 (by rw [List.length_map, List.length_range]; omega), ⟨_, rfl⟩, ?_⟩
        rw [upd_upd, List.range_succ, List.map_append]; rfl
      · rintro σ H4 ⟨_, rfl⟩
        rw [show ((needs.map V.int).length : Int).toNat = needs.length by rw [List.length_map]; omega]
        refine q _ pc (s3.trans (Same.upd fpc)) (none_of s3 fpc) ?_
        rw [upd_same]
        have := down_diff hfl
        have e : ((List.range needs.length).map fun j => V.int (down (farL needs heats ss many so) j - down (farL needs heats ss many so) (j + 1))) = ((List.range needs.length).map fun j => down (farL needs heats ss many so) j - down (farL needs heats ss many so) (j + 1)).map V.int := by rw [List.map_map]; rfl
        rw [e, this]
abbrev s_again : Stmt := top 73
abbrev N_again : List Str := ["_law_needs", "_law_heats", "_law_year", "_law_times", "_law_sums", "_law_left", "_law_ahead", "_law_lost", "_law_season_here", "_law_at_here"]
abbrev P_again : List Str := ["_law_needs", "_law_heats", "_law_year", "_law_times"]
theorem sc_again : FnScope N_again P_again (defScope s_again) := mk9
/-! _law_again -/
def sp_again (K : W.Frag) : Sp := fun vs H Q _ => ∃ (a b c : Addr) (needs heats : List Int) (ts : List Addr) (ss : List (Bool × Int)) (n : Nat), vs = [.ref a, .ref b, .ref c, .int (n : Int)] ∧ SqL K H a (needs.map V.int) ∧ H b = some (.lst (heats.map V.int)) ∧ H c = some (.tup (ts.map V.ref)) ∧ SeasAt H ts ss ∧ a ≠ b ∧ HeatsOk needs heats ∧ 1 ≤ needs.length ∧ needs.length ≤ 1000 ∧ (∀ z ∈ ss, 0 ≤ z.2) ∧ (n : Int) ≤ 1000000000000000000 ∧
  ∀ (H' : Hp) (p : Addr), Keep b H H' → H' b = some (.lst ((yearsL needs heats ss n).heats.map V.int)) → H p = none → H' p = some (.lst ([(yearsL needs heats ss n).room, (yearsL needs heats ss n).heat].map V.int)) → Q (.ref p) H'
theorem ok_again (F : Fun K "_law_again" "_law_again" s_again f fd) (T : Txt K mg) (o_go : Ok P w K mg base "_law_go" P_go 1 (sp_go K)) : FnOk P w K mg base CX0 2 f fd P_again (sp_again K) := by
  refine F.ok sc_again (fun vs H Q E h => ?_) (fun cdv A outer s H vs Q E hr h => ?_)
  · obtain ⟨a, b, c, needs, heats, ts, ss, n, rfl, _⟩ := h
    rfl
  · obtain ⟨a, b, c, needs, heats, ts, ss, n, rfl, hA, hB, hC, hS, nab, hO, hn1, hn, hz, hnn, q⟩ := h
    refine ⟨_, (pss_cons (ps_set (i := 4) sc_again.nd rfl (Or.inl rfl) (pe_lst (pa_cons pe_int (pa_cons pe_int pa_nil))))
      (pss_cons (ps_set (i := 5) sc_again.nd rfl (Or.inl rfl) (pv 3))
      (pss_cons (ps_while PassesOwn.never (pt_cmpR op_gt (pv 5) pe_int (nomark _))
        (pss_cons (ps_set (i := 6) sc_again.nd rfl (Or.inl rfl) (pe_list T.n_list (pv 1)))
        (pss_cons (ps_set (i := 7) sc_again.nd rfl (Or.inl rfl) (pe_lst (pa_cons pe_int (pa_cons pe_int pa_nil))))
        (pss_cons (ps_for PassesOwn.never rfl (pi_tup (pv 2)) (pg_name (i := 8) sc_again.nd rfl (Or.inl rfl))
          (pss_cons (ps_set (i := 9) sc_again.nd rfl (Or.inl rfl) (pe_callTy call_int1 (by rfl) T.n_int (by decide +kernel) (pa_cons (pe_cmpR op_eq (pe_ix ix_tup (pv 8) pe_int (fun _ _ => rfl)) pe_str (nomark _)) pa_nil)))
          (pss_one (ps_asg (pe_op op_add (pe_ix ix_list (pv 7) (pv 9) (fun _ _ => rfl)) (pe_callO o_go hr (pa_cons (pv 0) (pa_cons (pv 1) (pa_cons (pv 8) pa_nil))))) (pg_sub (pv 7) (pv 9) set_list)))))
        (pss_cons (ps_if (pt_cmpR (op_eqI (hr.units0)) (pv 1) (pv 6) (nomark _))
          (pss_one (ps_ret (pe_lst (pa_cons (pe_op op_add (pe_ix ix_list (pv 4) pe_int (fun _ _ => rfl)) (pe_op op_mul (pv 5) (pe_ix ix_list (pv 7) pe_int (fun _ _ => rfl)))) (pa_cons (pe_op op_add (pe_ix ix_list (pv 4) pe_int (fun _ _ => rfl)) (pe_op op_mul (pv 5) (pe_ix ix_list (pv 7) pe_int (fun _ _ => rfl)))) pa_nil)))))
          pss_nil)
        (pss_cons (ps_set (i := 4) sc_again.nd rfl (Or.inl rfl) (pe_lst (pa_cons (pe_op op_add (pe_ix ix_list (pv 4) pe_int (fun _ _ => rfl)) (pe_ix ix_list (pv 7) pe_int (fun _ _ => rfl))) (pa_cons (pe_op op_add (pe_ix ix_list (pv 4) pe_int (fun _ _ => rfl)) (pe_ix ix_list (pv 7) pe_int (fun _ _ => rfl))) pa_nil))))
        (pss_one (ps_set (i := 5) sc_again.nd rfl (Or.inl rfl) (pe_op op_sub (pv 5) pe_int)))))))))
      (pss_one (ps_ret (pv 4)))))), ?_⟩
    refine ⟨sz9, fun pu0 fu0 => ?_⟩
    refine ⟨_, rfl, ?_⟩
    refine while_by (fun σ H2 => ∃ (j : Nat) (pu : Addr) (v6 v7 v8 v9 : Option V), j ≤ n ∧ Keep b H H2 ∧ H pu = none ∧ H2 b = some (.lst ((yearsL needs heats ss j).heats.map V.int)) ∧ H2 pu = some (.lst ([(yearsL needs heats ss j).room, (yearsL needs heats ss j).heat].map V.int)) ∧
      σ = [some (.ref a), some (.ref b), some (.ref c), some (.int n), some (.ref pu), some (.int ((n : Int) - j)), v6, v7, v8, v9]) (fun σ _ => match σ with | [_, _, _, _, _, some (.int i), _, _, _, _] => i.toNat | _ => 0) ?_ ?_ ?_
    · exact ⟨0, pu0, none, none, none, none, Nat.zero_le _, (Same.upd fu0).keep b, fu0, Same.upd fu0 _ _ hB, upd_same, congrArg (fun z : Int => [some (V.ref a), some (V.ref b), some (V.ref c), some (V.int n), some (V.ref pu0), some (V.int z), none, none, none, none]) (show (n : Int) = (n : Int) - ((0 : Nat) : Int) by omega)⟩
    · rintro σ H2 ⟨j, pu, v6, v7, v8, v9, hj, k2, fu, h2b, h2u, rfl⟩
      refine ⟨_, rfl, _, _, rfl, rfl, _, rfl, ?_⟩
      refine ite2 (fun hc => ?_) (fun hc => ?_)
      · have hlt : (0 : Int) < (n : Int) - j := of_decide_eq_true hc
        have hjn : j < n := by omega
        -- ahead, lost
        refine ⟨_, rfl, b, _, rfl, .inl (SqL.of h2b), fun pa fa => ?_⟩
        refine ⟨sz9, fun pl fl => ?_⟩
        have fl2 : H2 pl = none := (Same.upd fa).free fl
        have s3 := (Same.upd (o := .lst ((yearsL needs heats ss j).heats.map V.int)) fa).trans (Same.upd (o := .lst [.int 0, .int 0]) fl)
        have npa : pa ≠ pl := fun e => by rw [← e, upd_same] at fl; cases fl
        have nbl : b ≠ pl := ne_of_none h2b fl2
        have nba : b ≠ pa := ne_of_none h2b fa
        have nul : pu ≠ pl := ne_of_none h2u fl2
        have nub : pu ≠ b := by rintro rfl; rw [hB] at fu; cases fu
        have hY := yearsL_ok hO ss j
        generalize eH3 : upd (upd H2 pa (.lst ((yearsL needs heats ss j).heats.map V.int))) pl (.lst [.int 0, .int 0]) = H3 at *
        have h3b := s3 _ _ h2b
        have h3u := s3 _ _ h2u
        have h3a : H3 pa = some (.lst ((yearsL needs heats ss j).heats.map V.int)) := by rw [← eH3, upd_ne npa]; exact upd_same
        have h3l : H3 pl = some (.lst [.int 0, .int 0]) := by rw [← eH3]; exact upd_same
        have k3 := k2.trans (s3.keep b)
        have fl0 : H pl = none := by
          cases e : H pl with
          | none => rfl
          | some o =>
            exfalso
            by_cases eb : pl = b
            · exact nbl eb.symm
            · rw [k2 _ _ eb e] at fl2; cases fl2
        clear eH3
        have kept : ∀ {H4 : Hp}, (∀ x o, x ≠ b → x ≠ pl → H3 x = some o → H4 x = some o) → Keep b H H4 := fun {H4} k x o nx h => k x o nx (ne_of_none h fl0) (k3 x o nx h)
        refine ⟨_, rfl, c, rfl, ⟨_, SqT.of (k3 _ _ (ne_of hC hB (by intro z; cases z)) hC)⟩, ?_⟩
        refine for_tup (xs := ts.map V.ref) (fun i σ H4 => ∃ (v8 v9 : Option V), σ = [some (.ref a), some (.ref b), some (.ref c), some (.int n), some (.ref pu), some (.int ((n : Int) - j)), some (.ref pa), some (.ref pl), v8, v9] ∧ (∀ x o, x ≠ b → x ≠ pl → H3 x = some o → H4 x = some o) ∧
          H4 b = some (.lst (((ss.take i).foldl (stepS needs) (yearsL needs heats ss j)).heats.map V.int)) ∧ H4 pl = some (.lst ([((ss.take i).foldl (stepS needs) (yearsL needs heats ss j)).room - (yearsL needs heats ss j).room, ((ss.take i).foldl (stepS needs) (yearsL needs heats ss j)).heat - (yearsL needs heats ss j).heat].map V.int))) ?_ ?_ ?_ ?_
        · refine ⟨_, _, rfl, fun x o _ _ h => h, by rw [List.take_zero]; exact h3b, ?_⟩
          rw [List.take_zero, h3l]
          show some (HO.lst [.int 0, .int 0]) = some (HO.lst [.int ((yearsL needs heats ss j).room - (yearsL needs heats ss j).room), .int ((yearsL needs heats ss j).heat - (yearsL needs heats ss j).heat)])
          rw [Int.sub_self, Int.sub_self]
        · rintro i σ H4 _ ⟨_, _, _, k4, _⟩
          exact SqT.of ((kept k4) _ _ (ne_of hC hB (by intro z; cases z)) hC)
        · rintro i x σ H4 hx ⟨v8, v9, rfl, k4, h4b, h4l⟩
          obtain ⟨t, z, rfl, ez, e2⟩ := hS.item hx
          have hzz := hz z (List.mem_of_getElem? ez)
          have hOk := fold_ok (ss.take i) _ hY
          have hst : (ss.take (i + 1)).foldl (stepS needs) (yearsL needs heats ss j) = stepS needs ((ss.take i).foldl (stepS needs) (yearsL needs heats ss j)) z := by rw [take_snoc ez, fold_snoc]
          rw [hst]
          generalize (ss.take i).foldl (stepS needs) (yearsL needs heats ss j) = R at *
          generalize yearsL needs heats ss j = S at *
          have h4t := (kept k4) _ _ (ne_of e2 hB (by intro z; cases z)) e2
          have h4n := (kept k4).seq hA nab
          refine ⟨_, rfl, t, _, _, _, rfl, rfl, SqT.of h4t, rfl, rfl, .inr ⟨_, rfl, ?_⟩⟩
          rw [kind_cold]
          obtain ⟨zb, zm⟩ := z
          have h5l : ∀ o, (upd H4 b o) pl = some (.lst ([R.room - S.room, R.heat - S.heat].map V.int)) := fun o => by rw [upd_ne (Ne.symm nbl)]; exact h4l
          have k5 : ∀ (o o' : HO) x u, x ≠ b → x ≠ pl → H3 x = some u → (upd (upd H4 b o) pl o') x = some u := fun o o' x u n1 n2 h => by rw [upd_ne n2, upd_ne n1]; exact k4 x u n1 n2 h
          cases zb with
          | true =>
            refine ⟨_, rfl, _, rfl, pl, _, _, _, rfl, rfl, SqL.of h4l, rfl, _, rfl, _, rfl, _, rfl, a, b, t, needs, R.heats, (true, zm), rfl, h4n, h4b, h4t, nab, hOk, hn1, hn, hzz, _, _, rfl, rfl, _, rfl, _, rfl, pl, _, _, 0, rfl, rfl, h5l _, rfl, ?_⟩
            refine ⟨_, _, rfl, k5 _ _, by rw [upd_ne nbl]; exact upd_same, upd_same.trans ?_⟩
            show some (HO.lst [.int (R.room - S.room + seasLeft needs R.heats (true, zm)), .int (R.heat - S.heat)]) = some (HO.lst [.int (R.room + seasLeft needs R.heats (true, zm) - S.room), .int (R.heat - S.heat)])
            rw [show R.room - S.room + seasLeft needs R.heats (true, zm) = R.room + seasLeft needs R.heats (true, zm) - S.room by omega]
          | false =>
            refine ⟨_, rfl, _, rfl, pl, _, _, _, rfl, rfl, SqL.of h4l, rfl, _, rfl, _, rfl, _, rfl, a, b, t, needs, R.heats, (false, zm), rfl, h4n, h4b, h4t, nab, hOk, hn1, hn, hzz, _, _, rfl, rfl, _, rfl, _, rfl, pl, _, _, 1, rfl, rfl, h5l _, rfl, ?_⟩
            refine ⟨_, _, rfl, k5 _ _, by rw [upd_ne nbl]; exact upd_same, upd_same.trans ?_⟩
            show some (HO.lst [.int (R.room - S.room), .int (R.heat - S.heat + seasLeft needs R.heats (false, zm))]) = some (HO.lst [.int (R.room - S.room), .int (R.heat + seasLeft needs R.heats (false, zm) - S.heat)])
            rw [show R.heat - S.heat + seasLeft needs R.heats (false, zm) = R.heat + seasLeft needs R.heats (false, zm) - S.heat by omega]
        · rintro σ H4 ⟨v8, v9, rfl, k4, h4b, h4l⟩
          have el : ss.take (ts.map V.ref).length = ss := List.take_of_length_le (by rw [List.length_map, hS.len]; exact Nat.le_refl _)
          rw [el] at h4b h4l
          have h4b : H4 b = some (.lst ((yearsL needs heats ss (j + 1)).heats.map V.int)) := h4b
          have h4l : H4 pl = some (.lst ([(yearsL needs heats ss (j + 1)).room - (yearsL needs heats ss j).room, (yearsL needs heats ss (j + 1)).heat - (yearsL needs heats ss j).heat].map V.int)) := h4l
          have h4a := k4 _ _ (Ne.symm nba) npa h3a
          have h4u := k4 _ _ nub nul h3u
          have hY1 := yearsL_ok hO ss (j + 1)
          refine ⟨_, rfl, _, rfl, b, pa, _, _, rfl, rfl, SqL.of h4b, SqL.of h4a, by rw [hY1.len, hY.len], _, rfl, ?_⟩
          refine ite2 (fun he => ?_) (fun he => ?_)
          · have he := of_decide_eq_true he
            obtain ⟨y1, y2, y3⟩ := years_same hO hz he (n - j)
            rw [show j + (n - j) = n by omega] at y1 y2 y3
            rw [show (((n - j : Nat) : Nat) : Int) = (n : Int) - j by omega] at y2 y3
            rw [y1, y2, y3, ← he] at q
            have hmul : ∀ y : Int, CMul ((n : Int) - j) y := fun y => .inl ⟨by omega, by omega⟩
            refine ⟨_, rfl, pu, _, _, _, rfl, rfl, SqL.of h4u, rfl, _, rfl, _, rfl, pl, _, _, _, rfl, rfl, SqL.of h4l, rfl, _, _, rfl, rfl, hmul _, _, _, rfl, rfl, ?_⟩
            refine ⟨_, rfl, pu, _, _, _, rfl, rfl, SqL.of h4u, rfl, _, rfl, _, rfl, pl, _, _, _, rfl, rfl, SqL.of h4l, rfl, _, _, rfl, rfl, hmul _, _, _, rfl, rfl, ?_⟩
            refine ⟨sz9, fun pr fr => ?_⟩
            have fr0 : H pr = none := by
              cases e : H pr with
              | none => rfl
              | some o =>
                exfalso
                by_cases eb : pr = b
                · rw [eb, h4b] at fr; cases fr
                · rw [(kept k4) _ _ eb e] at fr; cases fr
            exact q _ pr ((kept k4).trans ((Same.upd fr).keep b)) (Same.upd fr _ _ h4b) fr0 upd_same
          · refine ⟨_, rfl, pu, _, _, _, rfl, rfl, SqL.of h4u, rfl, _, rfl, pl, _, _, _, rfl, rfl, SqL.of h4l, rfl, _, _, rfl, rfl, ?_⟩
            refine ⟨_, rfl, pu, _, _, _, rfl, rfl, SqL.of h4u, rfl, _, rfl, pl, _, _, _, rfl, rfl, SqL.of h4l, rfl, _, _, rfl, rfl, ?_⟩
            refine ⟨sz9, fun pr fr => ?_⟩
            have fr0 : H pr = none := by
              cases e : H pr with
              | none => rfl
              | some o =>
                exfalso
                by_cases eb : pr = b
                · rw [eb, h4b] at fr; cases fr
                · rw [(kept k4) _ _ eb e] at fr; cases fr
            refine ⟨_, rfl, _, _, rfl, rfl, ⟨j + 1, pr, _, _, _, _, hjn, (kept k4).trans ((Same.upd fr).keep b), fr0, Same.upd fr _ _ h4b, upd_same.trans ?_, congrArg (fun z : Int => [some (V.ref a), some (V.ref b), some (V.ref c), some (V.int n), some (V.ref pr), some (V.int z), some (V.ref pa), some (V.ref pl), v8, v9]) (show (n : Int) - j - 1 = (n : Int) - ((j + 1 : Nat) : Int) by omega)⟩, ?_⟩
            · show some (HO.lst [.int ((yearsL needs heats ss j).room + ((yearsL needs heats ss (j + 1)).room - (yearsL needs heats ss j).room)), .int ((yearsL needs heats ss j).heat + ((yearsL needs heats ss (j + 1)).heat - (yearsL needs heats ss j).heat))]) = _
              rw [show (yearsL needs heats ss j).room + ((yearsL needs heats ss (j + 1)).room - (yearsL needs heats ss j).room) = (yearsL needs heats ss (j + 1)).room by omega, show (yearsL needs heats ss j).heat + ((yearsL needs heats ss (j + 1)).heat - (yearsL needs heats ss j).heat) = (yearsL needs heats ss (j + 1)).heat by omega]
              rfl
            · show ((n : Int) - j - 1).toNat < ((n : Int) - j).toNat
              omega
      · have hlt : ¬ (0 : Int) < (n : Int) - j := fun c => hc (decide_eq_true c)
        obtain rfl : j = n := by omega
        exact ⟨_, rfl, q _ pu k2 h2b fu h2u⟩
    · rintro σ H1 Q1 Q2 m ⟨v, hv, i, j, e1, e2, b, e3, q⟩
      exact ⟨v, hv, i, j, e1, e2, b, e3, m _ _ q⟩
abbrev s_deed : Stmt := top 74
abbrev N_deed : List Str := ["_law_cell", "_law_scale", "_law_pick", "_law_rest", "_law_kind", "_law_many", "_law_times"]
abbrev P_deed : List Str := ["_law_cell", "_law_scale"]
theorem sc_deed : FnScope N_deed P_deed (defScope s_deed) := mk9
/-! _law_deed -/
def sp_deed : Sp := fun vs H Q _ => ∃ (cell scale : Int), vs = [.int cell, .int scale] ∧ 1 ≤ scale ∧ scale ≤ 999999 ∧
  ∀ (H' : Hp) (t : Addr) (A : Act), Same H H' → H t = none → A.Fit → ActAt H' t A → Q (.ref t) H'
theorem deed_lay (r : Int) : ∃ m : Int, atI [V.int (1 + r % 200), V.int (1 + r % 9)] (r / 200 % 2) = some (.int m) ∧ 1 ≤ m ∧ m ≤ 200 := by
  have h3 := Int.emod_nonneg (r / 200) (show (2 : Int) ≠ 0 by decide)
  have h4 := Int.emod_lt_of_pos (r / 200) (show (0 : Int) < 2 by decide)
  have a1 := Int.emod_nonneg r (show (200 : Int) ≠ 0 by decide)
  have a2 := Int.emod_lt_of_pos r (show (0 : Int) < 200 by decide)
  have a3 := Int.emod_nonneg r (show (9 : Int) ≠ 0 by decide)
  have a4 := Int.emod_lt_of_pos r (show (0 : Int) < 9 by decide)
  have h5 : r / 200 % 2 = 0 ∨ r / 200 % 2 = 1 := by omega
  rcases h5 with e | e <;> rw [e]
  · exact ⟨_, rfl, by omega, by omega⟩
  · exact ⟨_, rfl, by omega, by omega⟩
theorem deed_times (k r : Int) : ∃ m : Nat, atI [V.int 1, V.int 2, V.int 3, V.int (10 ^ 18), V.int (1 + r % 40), V.int (1 + r % 10 ^ 18)] (k % 6) = some (.int ((m : Int) + 1)) ∧ (m : Int) + 1 ≤ 1000000000000000000 := by
  have h3 := Int.emod_nonneg k (show (6 : Int) ≠ 0 by decide)
  have h4 := Int.emod_lt_of_pos k (show (0 : Int) < 6 by decide)
  have a1 := Int.emod_nonneg r (show (40 : Int) ≠ 0 by decide)
  have a2 := Int.emod_lt_of_pos r (show (0 : Int) < 40 by decide)
  have a3 := Int.emod_nonneg r (show (10 ^ 18 : Int) ≠ 0 by decide)
  have a4 := Int.emod_lt_of_pos r (show (0 : Int) < 10 ^ 18 by decide)
  have mk : ∀ x : Int, 1 ≤ x → x ≤ 1000000000000000000 → ∃ m : Nat, (some (V.int x) : Option V) = some (.int ((m : Int) + 1)) ∧ (m : Int) + 1 ≤ 1000000000000000000 := fun x h1 h2 => ⟨(x - 1).toNat, by rw [show (((x - 1).toNat : Nat) : Int) + 1 = x by omega], by omega⟩
  have h5 : k % 6 = 0 ∨ k % 6 = 1 ∨ k % 6 = 2 ∨ k % 6 = 3 ∨ k % 6 = 4 ∨ k % 6 = 5 := by omega
  rcases h5 with e | e | e | e | e | e <;> rw [e]
  · exact mk 1 (by omega) (by omega)
  · exact mk 2 (by omega) (by omega)
  · exact mk 3 (by omega) (by omega)
  · exact mk (10 ^ 18) (by decide) (by decide)
  · exact mk (1 + r % 40) (by omega) (by omega)
  · exact mk (1 + r % 10 ^ 18) (by omega) (by omega)
theorem deed_div (k : Int) (h : 3 < k % 6) : atI [V.int 40, V.int (10 ^ 18)] (k % 6 - 4) = some (.int 40) ∨ atI [V.int 40, V.int (10 ^ 18)] (k % 6 - 4) = some (.int (10 ^ 18)) := by
  have h4 := Int.emod_lt_of_pos k (show (0 : Int) < 6 by decide)
  have h5 : k % 6 = 4 ∨ k % 6 = 5 := by omega
  rcases h5 with e | e <;> rw [e]
  · exact .inl rfl
  · exact .inr rfl
theorem ok_deed (F : Fun K "_law_deed" "_law_deed" s_deed f fd) (T : Txt K mg) (o_amount : Ok P w K mg base "_law_amount" P_amount 1 sp_amount) (o_seasons : Ok P w K mg base "_law_seasons" P_seasons 3 sp_seasons) : FnOk P w K mg base CX0 4 f fd P_deed sp_deed := by
  refine F.ok sc_deed (fun vs H Q E h => ?_) (fun cdv A outer s H vs Q E hr h => ?_)
  · obtain ⟨cell, scale, rfl, _⟩ := h
    rfl
  · obtain ⟨cell, scale, rfl, h1, h2, q⟩ := h
    refine ⟨_, (pss_cons (ps_set (i := 2) sc_deed.nd rfl (Or.inl rfl) (pe_op op_mod (pv 0) pe_int))
      (pss_cons (ps_set (i := 3) sc_deed.nd rfl (Or.inl rfl) (pe_op op_fdiv (pv 0) pe_int))
      (pss_cons (ps_if (pt_cmpR op_lt (pv 2) pe_int (nomark _))
        (pss_one (ps_ret (pe_tup (pa_cons pe_str (pa_cons (pe_callO o_amount hr (pa_cons (pv 3) (pa_cons (pv 1) pa_nil))) pa_nil)))))
        pss_nil)
      (pss_cons (ps_if (pt_cmpR op_lt (pv 2) pe_int (nomark _))
        (pss_one (ps_ret (pe_tup (pa_cons pe_str (pa_cons (pe_callO o_amount hr (pa_cons (pv 3) (pa_cons (pv 1) pa_nil))) pa_nil)))))
        pss_nil)
      (pss_cons (ps_if (pt_cmpR op_eq (pv 2) pe_int (nomark _))
        (pss_one (ps_ret (pe_tup (pa_cons pe_str (pa_cons (pe_ix ix_list (pe_lst (pa_cons (pe_op op_add pe_int (pe_op op_mod (pv 3) pe_int)) (pa_cons (pe_op op_add pe_int (pe_op op_mod (pv 3) pe_int)) pa_nil))) (pe_op op_mod (pe_op op_fdiv (pv 3) pe_int) pe_int) (fun _ _ => rfl)) pa_nil)))))
        pss_nil)
      (pss_cons (ps_set (i := 4) sc_deed.nd rfl (Or.inl rfl) (pe_op op_mod (pv 3) pe_int))
      (pss_cons (ps_set (i := 5) sc_deed.nd rfl (Or.inl rfl) (pe_op op_add pe_int (pe_op op_mod (pe_op op_fdiv (pv 3) pe_int) pe_int)))
      (pss_cons (ps_set (i := 3) sc_deed.nd rfl (Or.inl rfl) (pe_op op_fdiv (pv 3) pe_int))
      (pss_cons (ps_set (i := 6) sc_deed.nd rfl (Or.inl rfl) (pe_ix ix_list (pe_lst (pa_cons pe_int (pa_cons pe_int (pa_cons pe_int (pa_cons (pe_op op_pow pe_int pe_int) (pa_cons (pe_op op_add pe_int (pe_op op_mod (pv 3) pe_int)) (pa_cons (pe_op op_add pe_int (pe_op op_mod (pv 3) (pe_op op_pow pe_int pe_int))) pa_nil))))))) (pv 4) (fun _ _ => rfl)))
      (pss_cons (ps_if (pt_cmpR op_gt (pv 4) pe_int (nomark _))
        (pss_one (ps_set (i := 3) sc_deed.nd rfl (Or.inl rfl) (pe_op op_fdivB (pv 3) (pe_ix ix_list (pe_lst (pa_cons pe_int (pa_cons (pe_op op_pow pe_int pe_int) pa_nil))) (pe_op op_sub (pv 4) pe_int) (fun _ _ => rfl)))))
        pss_nil)
      (pss_cons (ps_if (pt_cmpR op_eq (pv 3) pe_int (nomark _))
        (pss_one (ps_set (i := 3) sc_deed.nd rfl (Or.inl rfl) (pe_op op_add (pe_op op_mul pe_int (pv 0)) pe_int)))
        pss_nil)
      (pss_one (ps_ret (pe_tup (pa_cons pe_str (pa_cons (pe_callTy call_tuple_of (by rfl) T.n_tuple (by decide +kernel) (pa_cons (pe_callO o_seasons hr (pa_cons (pv 3) (pa_cons (pv 5) (pa_cons (pv 1) pa_nil)))) pa_nil)) (pa_cons (pv 6) pa_nil))))))))))))))))), ?_⟩
    refine ⟨_, rfl, _, _, rfl, rfl, (by show (0 : Int) < 7; decide), ?_⟩
    refine ⟨_, rfl, _, _, rfl, rfl, ⟨by decide, by decide⟩, ?_⟩
    refine ⟨_, rfl, _, _, rfl, rfl, _, rfl, ?_⟩
    refine ite2 (fun _ => ?_) (fun _ => ?_)
    · refine ⟨_, rfl, _, rfl, _, _, rfl, h1, h2, fun m H2 m0 m1 s2 => ⟨sz9, fun t ft => ?_⟩⟩
      exact q _ t (.sea (true, m)) (s2.trans (Same.upd ft)) (s2.free ft) ⟨m0, m1⟩ upd_same
    refine ⟨_, rfl, _, _, rfl, rfl, _, rfl, ?_⟩
    refine ite2 (fun _ => ?_) (fun _ => ?_)
    · refine ⟨_, rfl, _, rfl, _, _, rfl, h1, h2, fun m H2 m0 m1 s2 => ⟨sz9, fun t ft => ?_⟩⟩
      exact q _ t (.sea (false, m)) (s2.trans (Same.upd ft)) (s2.free ft) ⟨m0, m1⟩ upd_same
    refine ⟨_, rfl, rfl, _, rfl, ?_⟩
    refine ite2 (fun _ => ?_) (fun _ => ?_)
    · obtain ⟨m, em, m0, m1⟩ := deed_lay (cell / 7)
      refine ⟨_, rfl, _, _, rfl, rfl, (by show (0 : Int) < 200; decide), _, _, rfl, rfl, _, rfl, _, _, rfl, rfl, (by show (0 : Int) < 9; decide), _, _, rfl, rfl, sz9, fun p hp => ?_⟩
      refine ⟨_, rfl, _, _, rfl, rfl, ⟨by decide, by decide⟩, _, _, rfl, rfl, (by show (0 : Int) < 2; decide), p, _, _, _, rfl, rfl, SqL.of upd_same, em, sz9, fun t ft => ?_⟩
      exact q _ t (.lay m) ((Same.upd hp).trans (Same.upd ft)) ((Same.upd hp).free ft) ⟨m0, m1⟩ upd_same
    -- years
    obtain ⟨n, en, hn1, hn12⟩ : ∃ n : Nat, 1 + cell / 7 / 6 % 12 = (n : Int) ∧ 1 ≤ n ∧ n ≤ 12 := by
      have h1 := Int.emod_nonneg (cell / 7 / 6) (show (12 : Int) ≠ 0 by decide)
      have h2 := Int.emod_lt_of_pos (cell / 7 / 6) (show (0 : Int) < 12 by decide)
      exact ⟨(1 + cell / 7 / 6 % 12).toNat, by omega, by omega, by omega⟩
    refine ⟨_, rfl, _, _, rfl, rfl, (by show (0 : Int) < 6; decide), ?_⟩
    refine ⟨_, rfl, _, _, rfl, rfl, ⟨by decide, by decide⟩, _, _, rfl, rfl, (by show (0 : Int) < 12; decide), _, _, rfl, rfl, ?_⟩
    refine ⟨_, rfl, _, _, rfl, rfl, ⟨by decide, by decide⟩, ?_⟩
    obtain ⟨m, em, hm⟩ := deed_times (cell / 7) (cell / 7 / 72)
    refine ⟨_, _, rfl, rfl, ⟨by decide, by decide, by decide⟩, _, rfl, _, _, rfl, rfl, (by show (0 : Int) < 40; decide), _, _, rfl, rfl, _, rfl, _, _, rfl, rfl, ⟨by decide, by decide, by decide⟩, _, _, rfl, rfl, (by show (0 : Int) < 10 ^ 18; decide), _, _, rfl, rfl, sz9, fun p1 f1 => ?_⟩
    refine ⟨_, rfl, p1, _, _, _, rfl, rfl, SqL.of upd_same, em, ?_⟩
    dsimp only [gName]
    refine seq_cut (fun σ' H' => ∃ r : Int, Same H H' ∧ σ' = [some (.int cell), some (.int scale), some (.int (cell % 7)), some (.int r), some (.int (cell / 7 % 6)), some (.int (1 + cell / 7 / 6 % 12)), some (.int ((m : Int) + 1))]) (fun nx hnx => ?_) ?_
    · refine ⟨_, rfl, _, _, rfl, rfl, _, rfl, ?_⟩
      refine ite2 (fun hc => ?_) (fun _ => hnx _ _ ⟨_, Same.upd f1, rfl⟩)
      have hc : (3 : Int) < cell / 7 % 6 := of_decide_eq_true hc
      refine ⟨_, rfl, _, _, rfl, rfl, ⟨by decide, by decide, by decide⟩, sz9, fun p2 f2 => ?_⟩
      rcases deed_div (cell / 7) hc with e | e
      · exact ⟨_, rfl, _, _, rfl, rfl, p2, _, _, _, rfl, rfl, SqL.of upd_same, e, _, _, rfl, rfl, ⟨by decide, by decide +kernel⟩, hnx _ _ ⟨_, (Same.upd f1).trans (Same.upd f2), rfl⟩⟩
      · exact ⟨_, rfl, _, _, rfl, rfl, p2, _, _, _, rfl, rfl, SqL.of upd_same, e, _, _, rfl, rfl, ⟨by decide, by decide +kernel⟩, hnx _ _ ⟨_, (Same.upd f1).trans (Same.upd f2), rfl⟩⟩
    rintro _ H1 ⟨r, s1, rfl⟩
    refine seq_cut (fun σ' H' => ∃ r : Int, Same H H' ∧ σ' = [some (.int cell), some (.int scale), some (.int (cell % 7)), some (.int r), some (.int (cell / 7 % 6)), some (.int (1 + cell / 7 / 6 % 12)), some (.int ((m : Int) + 1))]) (fun nx hnx => ?_) ?_
    · refine ⟨_, rfl, rfl, _, rfl, ?_⟩
      refine ite2 (fun hc => ?_) (fun _ => hnx _ _ ⟨_, s1, rfl⟩)
      exact ⟨_, rfl, _, _, rfl, rfl, .inl ⟨by decide, by decide⟩, _, _, rfl, rfl, hnx _ _ ⟨_, s1, rfl⟩⟩
    rintro _ H2 ⟨r2, s2, rfl⟩
    refine ⟨_, rfl, _, rfl, _, rfl, _, _, n, congrArg (fun z => [V.int _, V.int z, V.int _]) en, by omega, h1, h2, fun H3 p3 ts ss s3 f3 hl hz hp hS => ?_⟩
    refine ⟨p3, _, rfl, .inl ⟨SqL.of hp, fun u fu => ⟨_, rfl, sz9, fun t ft => ?_⟩⟩⟩
    have s5 := (Same.upd (o := .tup (ts.map V.ref)) fu).trans (Same.upd (o := .tup [.str "years", .ref u, .int ((m : Int) + 1)]) ft)
    exact q _ t (.yrs ss m) ((s2.trans s3).trans s5) ((s2.trans s3).free ((Same.upd fu).free ft)) ⟨by omega, by omega, hz, hm⟩ ⟨u, ts, upd_same, Same.upd ft _ _ upd_same, hS.same s5⟩
abbrev s_do : Stmt := top 75
abbrev N_do : List Str := ["_law_ground", "_law_deed_here"]
abbrev P_do : List Str := ["_law_ground", "_law_deed_here"]
theorem sc_do : FnScope N_do P_do (defScope s_do) := mk9
/-! _law_do -/
def sp_do (G : Addr) : Sp := fun vs H Q _ => ∃ (p pk ps t : Addr) (kept : List V) (Ss : List Stage) (S S0 : Stage) (A : Act) (ok : Addr → Prop), vs = [.ref p, .ref t] ∧ GroundX G ok H p pk ps kept Ss ∧ (∀ b, H b = none → ok b) ∧ Ss.getLast? = some S ∧ Ss[0]? = some S0 ∧ kept.length < 300 ∧ Ss.length ≤ 1000 ∧ ActAt H t A ∧ A.Fit ∧ (A.isLay = true → S.needs.length < S0.needs.length + 20) ∧ HeatsOk S.needs S.heats ∧ 1 ≤ S.needs.length ∧ S.needs.length ≤ 1000 ∧
  ∀ (H' : Hp) (v : V) (u : Addr), Keep2 pk ps H H' → H u = none → ActAt H' u A → Told H' v S A → GroundX G ok H' p pk ps (kept ++ [.ref u]) (Ss ++ [doS S A]) → Q v H'
theorem ok_do (F : Fun K "_law_do" "_law_do" s_do f fd) (T : Txt K mg) (TG : GCls K mg G) (om_warm : OkM P w K mg base G "warm" P_G_warm 9 (sp_G_warm G)) (om_cold : OkM P w K mg base G "cold" P_G_cold 9 (sp_G_cold G)) (om_lay : OkM P w K mg base G "lay" P_G_lay 2 (sp_G_lay G)) (om_years : OkM P w K mg base G "years" P_G_years 9 (sp_G_years K G)) : FnOk P w K mg base CX0 10 f fd P_do (sp_do G) := by
  refine F.ok sc_do (fun vs H Q E h => ?_) (fun cdv A outer s H vs Q E hr h => ?_)
  · obtain ⟨p, pk, ps, t, kept, Ss, S, S0, B, ok, rfl, _⟩ := h
    rfl
  · obtain ⟨p, pk, ps, t, kept, Ss, S, S0, B, ok, rfl, hG, hok, hl, h0, l1, l2, hA, hF, hy, hO, hn1, hn2, q⟩ := h
    obtain ⟨dx, ds, h1, h2, h3, _⟩ := id hG.ex
    refine ⟨_, (pss_cons (ps_if (pt_cmpR op_eq (pe_ix ix_tup (pv 1) pe_int (fun _ _ => rfl)) pe_str (nomark _))
        (pss_one (ps_ret (pe_methO om_warm TG.cl hr (pv 0) (pa_cons (pe_ix ix_tup (pv 1) pe_int (fun _ _ => rfl)) pa_nil))))
        pss_nil)
      (pss_cons (ps_if (pt_cmpR op_eq (pe_ix ix_tup (pv 1) pe_int (fun _ _ => rfl)) pe_str (nomark _))
        (pss_one (ps_ret (pe_methO om_cold TG.cl hr (pv 0) (pa_cons (pe_ix ix_tup (pv 1) pe_int (fun _ _ => rfl)) pa_nil))))
        pss_nil)
      (pss_cons (ps_if (pt_cmpR op_eq (pe_ix ix_tup (pv 1) pe_int (fun _ _ => rfl)) pe_str (nomark _))
        (pss_one (ps_ret (pe_methO om_lay TG.cl hr (pv 0) (pa_cons (pe_ix ix_tup (pv 1) pe_int (fun _ _ => rfl)) pa_nil))))
        pss_nil)
      (pss_one (ps_ret (pe_methO om_years TG.cl hr (pv 0) (pa_cons (pe_list T.n_list (pe_ix ix_tup (pv 1) pe_int (fun _ _ => rfl))) (pa_cons (pe_ix ix_tup (pv 1) pe_int (fun _ _ => rfl)) pa_nil)))))))), ?_⟩
    cases B with
    | sea z =>
      obtain ⟨zb, zm⟩ := z
      obtain ⟨z0, z1⟩ : 0 ≤ zm ∧ zm ≤ 1000000 := hF
      refine ⟨_, rfl, t, _, _, _, rfl, rfl, SqT.of hA, rfl, rfl, _, rfl, ?_⟩
      rw [kind_warm]
      cases zb with
      | true =>
        refine iteT ?_
        refine ⟨_, rfl, p, dx, _, rfl, h1, gN, _, rfl, t, _, _, _, rfl, rfl, SqT.of hA, rfl, p, pk, ps, _, _, S, zm, ok, rfl, hG, hok, hl, l1, l2, z0, z1, hO, hn1, hn2, fun H' u k f1 h1 X1 => ?_⟩
        exact q H' _ u k f1 h1 (congrArg V.int (room_warm S.needs S.heats zm)) X1
      | false =>
        refine iteF ?_
        refine ⟨_, rfl, t, _, _, _, rfl, rfl, SqT.of hA, rfl, rfl, _, rfl, ?_⟩
        rw [kind_cold]
        refine iteT ?_
        refine ⟨_, rfl, p, dx, _, rfl, h1, gN, _, rfl, t, _, _, _, rfl, rfl, SqT.of hA, rfl, p, pk, ps, _, _, S, zm, ok, rfl, hG, hok, hl, l1, l2, z0, z1, hO, hn1, hn2, fun H' u k f1 h1 X1 => ?_⟩
        exact q H' _ u k f1 h1 (congrArg V.int (heat_cold S.needs S.heats zm)) X1
    | lay m =>
      obtain ⟨m0, m1⟩ : 1 ≤ m ∧ m ≤ 200 := hF
      refine ⟨_, rfl, t, _, _, _, rfl, rfl, SqT.of hA, rfl, rfl, _, rfl, ?_⟩
      refine ite2 (fun h => absurd (V.str.inj (of_decide_eq_true h)) (by decide +kernel)) (fun _ => ?_)
      refine ⟨_, rfl, t, _, _, _, rfl, rfl, SqT.of hA, rfl, rfl, _, rfl, ?_⟩
      refine ite2 (fun h => absurd (V.str.inj (of_decide_eq_true h)) (by decide +kernel)) (fun _ => ?_)
      refine ⟨_, rfl, t, _, _, _, rfl, rfl, SqT.of hA, rfl, rfl, _, rfl, ?_⟩
      refine ite2 (fun _ => ?_) (fun h => absurd (decide_eq_true rfl) h)
      refine ⟨_, rfl, p, dx, _, rfl, h1, gN, _, rfl, t, _, _, _, rfl, rfl, SqT.of hA, rfl, p, pk, ps, _, _, S, S0, m, ok, rfl, hG, hok, hl, h0, l1, l2, m0, m1, hy rfl, hO.len, hn2, fun H' u k f1 h1 X1 => ?_⟩
      exact q H' _ u k f1 h1 rfl X1
    | yrs ss n =>
      obtain ⟨y1, y2, y3, y4⟩ : 1 ≤ ss.length ∧ ss.length ≤ 12 ∧ (∀ z ∈ ss, 0 ≤ z.2 ∧ z.2 ≤ 1000000) ∧ (n : Int) + 1 ≤ 1000000000000000000 := hF
      obtain ⟨u', ts, a1, a2, a3⟩ := hA
      refine ⟨_, rfl, t, _, _, _, rfl, rfl, SqT.of a1, rfl, rfl, _, rfl, ?_⟩
      refine ite2 (fun h => absurd (V.str.inj (of_decide_eq_true h)) (by decide +kernel)) (fun _ => ?_)
      refine ⟨_, rfl, t, _, _, _, rfl, rfl, SqT.of a1, rfl, rfl, _, rfl, ?_⟩
      refine ite2 (fun h => absurd (V.str.inj (of_decide_eq_true h)) (by decide +kernel)) (fun _ => ?_)
      refine ⟨_, rfl, t, _, _, _, rfl, rfl, SqT.of a1, rfl, rfl, _, rfl, ?_⟩
      refine ite2 (fun h => absurd (V.str.inj (of_decide_eq_true h)) (by decide +kernel)) (fun _ => ?_)
      refine ⟨_, rfl, p, dx, _, rfl, h1, gN, _, rfl, t, _, _, _, rfl, rfl, SqT.of a1, rfl, u', _, rfl, .inr (SqT.of a2), fun l fl => ?_⟩
      have s1 := Same.upd (o := .lst (ts.map V.ref)) fl
      refine ⟨_, rfl, t, _, _, _, rfl, rfl, SqT.of (s1 _ _ a1), rfl, ?_⟩
      refine ⟨p, pk, ps, l, kept, Ss, S, ts, ss, n, ok, rfl, hG.same s1, fun b e => hok b (s1.free e), hl, l1, l2, SqL.of upd_same, a3.same s1, y3, y1, y2, y4, hO, hn1, hn2, fun H' u v k f1 hD X1 hv => ?_⟩
      rw [until_years] at hv
      exact q H' _ u ((s1.keep2 pk ps).trans k) (s1.free f1) hD ⟨v, rfl, hv⟩ X1
abbrev s_done : Stmt := top 76
abbrev N_done : List Str := ["_law_needs", "_law_heats", "_law_balance", "_law_deed_here", "_law_left", "_law_at_here", "_law_sums", "_law_season_here"]
abbrev P_done : List Str := ["_law_needs", "_law_heats", "_law_balance", "_law_deed_here"]
theorem sc_done : FnScope N_done P_done (defScope s_done) := mk9
/-! _law_done -/
def sp_done (K : W.Frag) : Sp := fun vs H Q _ => ∃ (a b c t : Addr) (S : Stage) (s0 : Int) (A : Act), vs = [.ref a, .ref b, .ref c, .ref t] ∧ H a = some (.lst (S.needs.map V.int)) ∧ H b = some (.lst (S.heats.map V.int)) ∧ H c = some (.lst [.int s0, .int S.found, .int S.taken]) ∧ ActAt H t A ∧ A.Fit ∧ a ≠ b ∧ a ≠ c ∧ b ≠ c ∧ HeatsOk S.needs S.heats ∧ 1 ≤ S.needs.length ∧ S.needs.length ≤ 999 ∧
  ∀ (H' : Hp) (p : Addr), KeepL [a, b, c] H H' → H p = none → H' a = some (.lst ((doS S A).needs.map V.int)) → H' b = some (.lst ((doS S A).heats.map V.int)) → H' c = some (.lst [.int s0, .int (doS S A).found, .int (doS S A).taken]) → H' p = some (.lst ((dueL S A).map V.int)) → Q (.ref p) H'
theorem ok_done (F : Fun K "_law_done" "_law_done" s_done f fd) (T : Txt K mg) (o_go : Ok P w K mg base "_law_go" P_go 1 (sp_go K)) (o_again : Ok P w K mg base "_law_again" P_again 2 (sp_again K)) : FnOk P w K mg base CX0 3 f fd P_done (sp_done K) := by
  refine F.ok sc_done (fun vs H Q E h => ?_) (fun cdv A outer s H vs Q E hr h => ?_)
  · obtain ⟨a, b, c, t, S, s0, B, rfl, _⟩ := h
    rfl
  · obtain ⟨a, b, c, t, S, s0, B, rfl, hA, hB, hC, hT, hF, nab, nac, nbc, hO, hn1, hn2, q⟩ := h
    have hl := hO.len
    refine ⟨_, (pss_cons (ps_if (pt_cmpR op_eq (pe_ix ix_tup (pv 3) pe_int (fun _ _ => rfl)) pe_str (nomark _))
        (pss_cons (ps_expr (pe_bm PySem.F.plainAttrs_list PySem.F.slot_list_append PySem.F.type_list_append mt_append (pv 0) (pa_cons (pe_ix ix_tup (pv 3) pe_int (fun _ _ => rfl)) pa_nil)))
        (pss_cons (ps_expr (pe_bm PySem.F.plainAttrs_list PySem.F.slot_list_append PySem.F.type_list_append mt_append (pv 1) (pa_cons pe_int pa_nil)))
        (pss_one (ps_ret (pe_lst (pa_cons (pe_len T.n_len (pv 0)) pa_nil))))))
        pss_nil)
      (pss_cons (ps_if (pt_cmpR op_ne (pe_ix ix_tup (pv 3) pe_int (fun _ _ => rfl)) pe_str (nomark _))
        (pss_cons (ps_set (i := 4) sc_done.nd rfl (Or.inl rfl) (pe_callO o_go hr (pa_cons (pv 0) (pa_cons (pv 1) (pa_cons (pv 3) pa_nil)))))
        (pss_cons (ps_set (i := 5) sc_done.nd rfl (Or.inl rfl) (pe_op op_add pe_int (pe_callTy call_int1 (by rfl) T.n_int (by decide +kernel) (pa_cons (pe_cmpR op_eq (pe_ix ix_tup (pv 3) pe_int (fun _ _ => rfl)) pe_str (nomark _)) pa_nil))))
        (pss_cons (ps_asg (pe_op op_sub (pe_op op_add (pe_ix ix_list (pv 2) (pv 5) (fun _ _ => rfl)) (pe_ix ix_tup (pv 3) pe_int (fun _ _ => rfl))) (pv 4)) (pg_sub (pv 2) (pv 5) set_list))
        (pss_one (ps_ret (pe_lst (pa_cons (pv 4) pa_nil)))))))
        pss_nil)
      (pss_cons (ps_set (i := 6) sc_done.nd rfl (Or.inl rfl) (pe_callO o_again hr (pa_cons (pv 0) (pa_cons (pv 1) (pa_cons (pe_ix ix_tup (pv 3) pe_int (fun _ _ => rfl)) (pa_cons (pe_ix ix_tup (pv 3) pe_int (fun _ _ => rfl)) pa_nil))))))
      (pss_cons (ps_for PassesOwn.never rfl (pi_tup (pe_ix ix_tup (pv 3) pe_int (fun _ _ => rfl))) (pg_name (i := 7) sc_done.nd rfl (Or.inl rfl))
        (pss_cons (ps_set (i := 5) sc_done.nd rfl (Or.inl rfl) (pe_op op_add pe_int (pe_callTy call_int1 (by rfl) T.n_int (by decide +kernel) (pa_cons (pe_cmpR op_eq (pe_ix ix_tup (pv 7) pe_int (fun _ _ => rfl)) pe_str (nomark _)) pa_nil))))
        (pss_one (ps_asg (pe_op op_add (pe_ix ix_list (pv 2) (pv 5) (fun _ _ => rfl)) (pe_op op_mul (pe_ix ix_tup (pv 3) pe_int (fun _ _ => rfl)) (pe_ix ix_tup (pv 7) pe_int (fun _ _ => rfl)))) (pg_sub (pv 2) (pv 5) set_list)))))
      (pss_cons (ps_asg (pe_op op_sub (pe_ix ix_list (pv 2) pe_int (fun _ _ => rfl)) (pe_ix ix_list (pv 6) pe_int (fun _ _ => rfl))) (pg_sub (pv 2) pe_int set_list))
      (pss_cons (ps_asg (pe_op op_sub (pe_ix ix_list (pv 2) pe_int (fun _ _ => rfl)) (pe_ix ix_list (pv 6) pe_int (fun _ _ => rfl))) (pg_sub (pv 2) pe_int set_list))
      (pss_one (ps_ret (pv 6))))))))), ?_⟩
    cases B with
    | lay m =>
      have hT : H t = some (.tup [.str "lay", .int m]) := hT
      refine ⟨_, rfl, t, _, _, _, rfl, rfl, SqT.of hT, rfl, rfl, _, rfl, ?_⟩
      refine ite2 (fun _ => ?_) (fun h => absurd (decide_eq_true rfl) h)
      refine ⟨_, rfl, .inl ⟨rfl, _, SqL.of hA⟩, _, rfl, t, _, _, _, rfl, rfl, SqT.of hT, rfl, a, _, _, rfl, rfl, hA, sz1000 (by rw [List.length_map]; omega), ?_⟩
      have h1b : (upd H a (.lst (S.needs.map V.int ++ [.int m]))) b = some (.lst (S.heats.map V.int)) := (upd_ne (Ne.symm nab)).trans hB
      refine ⟨_, rfl, .inl ⟨rfl, _, SqL.of h1b⟩, b, _, _, rfl, rfl, h1b, sz1000 (by rw [List.length_map]; omega), ?_⟩
      have h2a : (upd (upd H a (.lst (S.needs.map V.int ++ [.int m]))) b (.lst (S.heats.map V.int ++ [.int 0]))) a = some (.lst ((S.needs ++ [m]).map V.int)) := by rw [upd_ne nab, upd_same, List.map_append]; rfl
      refine ⟨_, rfl, a, _, rfl, .inl (SqL.of h2a), sz9, fun p fp => ?_⟩
      have h2b : (upd (upd H a (.lst (S.needs.map V.int ++ [.int m]))) b (.lst (S.heats.map V.int ++ [.int 0]))) b = some (.lst ((S.heats ++ [0]).map V.int)) := by rw [upd_same, List.map_append]; rfl
      have h2c : (upd (upd H a (.lst (S.needs.map V.int ++ [.int m]))) b (.lst (S.heats.map V.int ++ [.int 0]))) c = some (.lst [.int s0, .int S.found, .int S.taken]) := by rw [upd_ne (Ne.symm nbc), upd_ne (Ne.symm nac)]; exact hC
      have k2 : KeepL [a, b, c] H (upd (upd H a (.lst (S.needs.map V.int ++ [.int m]))) b (.lst (S.heats.map V.int ++ [.int 0]))) := (keepL_upd (by simp)).trans (keepL_upd (by simp))
      generalize upd (upd H a (.lst (S.needs.map V.int ++ [.int m]))) b (.lst (S.heats.map V.int ++ [.int 0])) = H2 at h2a h2b h2c k2 fp ⊢
      have s3 := Same.upd (o := .lst [.int (((S.needs ++ [m]).map V.int).length : Int)]) fp
      refine q _ p (k2.trans (s3.keepL _)) (k2.free (fun x hx => ?_) fp) (s3 _ _ h2a) (s3 _ _ h2b) (s3 _ _ h2c) (upd_same.trans ?_)
      · rcases List.mem_cons.mp hx with rfl | hx
        · exact ⟨_, h2a⟩
        rcases List.mem_cons.mp hx with rfl | hx
        · exact ⟨_, h2b⟩
        obtain rfl : x = c := by simpa using hx
        exact ⟨_, h2c⟩
      · show some (HO.lst [.int (((S.needs ++ [m]).map V.int).length : Int)]) = some (HO.lst [.int ((S.needs.length : Int) + 1)])
        rw [show (((S.needs ++ [m]).map V.int).length : Int) = (S.needs.length : Int) + 1 by rw [List.length_map, List.length_append]; rfl]
    | sea z =>
      obtain ⟨zb, zm⟩ := z
      obtain ⟨z0, z1⟩ : 0 ≤ zm ∧ zm ≤ 1000000 := hF
      have hT : H t = some (.tup [.str (kindS zb), .int zm]) := hT
      refine ⟨_, rfl, t, _, _, _, rfl, rfl, SqT.of hT, rfl, rfl, _, rfl, ?_⟩
      rw [kind_lay]
      refine iteF ?_
      refine ⟨_, rfl, t, _, _, _, rfl, rfl, SqT.of hT, rfl, rfl, _, rfl, ?_⟩
      rw [kind_years]
      refine iteT ?_
      refine ⟨_, rfl, _, rfl, _, rfl, a, b, t, S.needs, S.heats, (zb, zm), rfl, SqL.of hA, hB, hT, nab, hO, hn1, by omega, z0, ?_⟩
      have h1a : (upd H b (.lst ((seasL S.needs S.heats (zb, zm)).map V.int))) a = some (.lst (S.needs.map V.int)) := (upd_ne nab).trans hA
      have h1b : (upd H b (.lst ((seasL S.needs S.heats (zb, zm)).map V.int))) b = some (.lst ((seasL S.needs S.heats (zb, zm)).map V.int)) := upd_same
      have h1c : (upd H b (.lst ((seasL S.needs S.heats (zb, zm)).map V.int))) c = some (.lst [.int s0, .int S.found, .int S.taken]) := (upd_ne (Ne.symm nbc)).trans hC
      have h1t := keepT_upd (o := .lst ((seasL S.needs S.heats (zb, zm)).map V.int)) hB _ _ hT
      have k1 : KeepL [a, b, c] H (upd H b (.lst ((seasL S.needs S.heats (zb, zm)).map V.int))) := keepL_upd (by simp)
      generalize upd H b (.lst ((seasL S.needs S.heats (zb, zm)).map V.int)) = H1 at h1a h1b h1c h1t k1 ⊢
      refine ⟨_, rfl, t, _, _, _, rfl, rfl, SqT.of h1t, rfl, rfl, .inr ⟨_, rfl, ?_⟩⟩
      rw [kind_cold]
      have fin : ∀ (o : List V) (p : Addr), (upd H1 c (.lst o)) p = none → o = [.int s0, .int (doS S (.sea (zb, zm))).found, .int (doS S (.sea (zb, zm))).taken] → (doS S (.sea (zb, zm))).needs = S.needs → (doS S (.sea (zb, zm))).heats = seasL S.needs S.heats (zb, zm) → Q (.ref p) (upd (upd H1 c (.lst o)) p (.lst [.int (seasLeft S.needs S.heats (zb, zm))])) := fun o p fp eo e1 e2 => by
        have k2 : KeepL [a, b, c] H (upd H1 c (.lst o)) := k1.trans (keepL_upd (by simp))
        have h2a : (upd H1 c (.lst o)) a = some (.lst (S.needs.map V.int)) := (upd_ne nac).trans h1a
        have h2b : (upd H1 c (.lst o)) b = some (.lst ((seasL S.needs S.heats (zb, zm)).map V.int)) := (upd_ne nbc).trans h1b
        have h2c : (upd H1 c (.lst o)) c = some (.lst o) := upd_same
        have s3 := Same.upd (o := .lst [.int (seasLeft S.needs S.heats (zb, zm))]) fp
        refine q _ p (k2.trans (s3.keepL _)) (k2.free (fun x hx => ?_) fp) (by rw [e1]; exact s3 _ _ h2a) (by rw [e2]; exact s3 _ _ h2b) (by rw [← eo]; exact s3 _ _ h2c) upd_same
        rcases List.mem_cons.mp hx with rfl | hx
        · exact ⟨_, h2a⟩
        rcases List.mem_cons.mp hx with rfl | hx
        · exact ⟨_, h2b⟩
        obtain rfl : x = c := by simpa using hx
        exact ⟨_, h2c⟩
      cases zb with
      | true =>
        refine ⟨_, _, rfl, rfl, ?_⟩
        refine ⟨_, rfl, _, rfl, c, _, _, _, rfl, rfl, SqL.of h1c, rfl, _, rfl, t, _, _, _, rfl, rfl, SqT.of h1t, rfl, _, _, rfl, rfl, _, rfl, _, _, rfl, rfl, _, rfl, _, rfl, c, _, _, 1, rfl, rfl, h1c, rfl, ?_⟩
        refine ⟨_, rfl, sz9, fun p fp => ?_⟩
        refine fin _ p fp ?_ (by rw [do_warm]) (by rw [do_warm])
        rw [do_warm]; rfl
      | false =>
        refine ⟨_, _, rfl, rfl, ?_⟩
        refine ⟨_, rfl, _, rfl, c, _, _, _, rfl, rfl, SqL.of h1c, rfl, _, rfl, t, _, _, _, rfl, rfl, SqT.of h1t, rfl, _, _, rfl, rfl, _, rfl, _, _, rfl, rfl, _, rfl, _, rfl, c, _, _, 2, rfl, rfl, h1c, rfl, ?_⟩
        refine ⟨_, rfl, sz9, fun p fp => ?_⟩
        refine fin _ p fp ?_ (by rw [do_cold]) (by rw [do_cold])
        rw [do_cold]; rfl
    | yrs ss n =>
      obtain ⟨y1, y2, y3, y4⟩ : 1 ≤ ss.length ∧ ss.length ≤ 12 ∧ (∀ z ∈ ss, 0 ≤ z.2 ∧ z.2 ≤ 1000000) ∧ (n : Int) + 1 ≤ 1000000000000000000 := hF
      obtain ⟨u, ts, a1, a2, a3⟩ := hT
      refine ⟨_, rfl, t, _, _, _, rfl, rfl, SqT.of a1, rfl, rfl, _, rfl, ?_⟩
      refine ite2 (fun h => absurd (V.str.inj (of_decide_eq_true h)) (by decide +kernel)) (fun _ => ?_)
      refine ⟨_, rfl, t, _, _, _, rfl, rfl, SqT.of a1, rfl, rfl, _, rfl, ?_⟩
      refine iteNS rfl ?_
      refine ⟨_, rfl, _, rfl, _, rfl, t, _, _, _, rfl, rfl, SqT.of a1, rfl, _, rfl, t, _, _, _, rfl, rfl, SqT.of a1, rfl, a, b, u, S.needs, S.heats, ts, ss, n + 1, rfl, SqL.of hA, hB, a2, a3, nab, hO, hn1, by omega, fun z hz => (y3 z hz).1, by omega, fun H1 p k1 h1b fp h1p => ?_⟩
      have kt1 : KeepT H H1 := fun x xs e => k1 _ _ (ne_of e hB (by intro z; cases z)) e
      have h1t := kt1 _ _ a1
      have h1u := kt1 _ _ a2
      have h1s := a3.tup kt1
      have h1a := k1 _ _ nab hA
      have h1c := k1 _ _ (Ne.symm nbc) hC
      have npc : p ≠ c := Ne.symm (ne_of_none hC fp)
      have nbp : b ≠ p := ne_of_none hB fp
      have nap : a ≠ p := ne_of_none hA fp
      have kL1 : KeepL [a, b, c] H H1 := fun x o nx e => k1 x o (fun z => nx (by simp [z])) e
      refine ⟨_, rfl, t, _, _, _, rfl, rfl, SqT.of h1t, rfl, u, rfl, ⟨_, SqT.of h1u⟩, ?_⟩
      refine for_tup (xs := ts.map V.ref) (fun i σ H2 => ∃ (v5 v7 : Option V), σ = [some (.ref a), some (.ref b), some (.ref c), some (.ref t), none, v5, some (.ref p), v7] ∧ Keep c H1 H2 ∧ H2 c = some (.lst [.int s0, .int (S.found + ((n : Int) + 1) * amtOf true (ss.take i)), .int (S.taken + ((n : Int) + 1) * amtOf false (ss.take i))])) ?_ ?_ ?_ ?_
      · refine ⟨none, none, rfl, Keep.refl _ _, ?_⟩
        show H1 c = some (.lst [.int s0, .int (S.found + ((n : Int) + 1) * 0), .int (S.taken + ((n : Int) + 1) * 0)])
        rw [Int.mul_zero, Int.add_zero, Int.add_zero]
        exact h1c
      · rintro i σ H2 _ ⟨_, _, _, k2, _⟩
        exact SqT.of (k2 _ _ (ne_of h1u h1c (by intro z; cases z)) h1u)
      · rintro i x σ H2 hx ⟨v5, v7, rfl, k2, h2c⟩
        obtain ⟨tz, z, rfl, ez, e2⟩ := h1s.item hx
        have h2z := k2 _ _ (ne_of e2 h1c (by intro z; cases z)) e2
        have h2t := k2 _ _ (ne_of h1t h1c (by intro z; cases z)) h1t
        refine ⟨_, rfl, tz, _, _, _, rfl, rfl, SqT.of h2z, rfl, rfl, .inr ⟨_, rfl, ?_⟩⟩
        rw [kind_cold]
        rw [amtOf_snoc (b := true) ez, amtOf_snoc (b := false) ez]
        generalize amtOf true (ss.take i) = x1 at *
        generalize amtOf false (ss.take i) = x2 at *
        obtain ⟨zb, zm⟩ := z
        cases zb with
        | true =>
          refine ⟨_, _, rfl, rfl, ?_⟩
          refine ⟨_, rfl, _, rfl, c, _, _, _, rfl, rfl, SqL.of h2c, rfl, _, rfl, t, _, _, _, rfl, rfl, SqT.of h2t, rfl, _, rfl, tz, _, _, _, rfl, rfl, SqT.of h2z, rfl, _, _, rfl, rfl, .inl ⟨by omega, by omega⟩, _, _, rfl, rfl, _, rfl, _, rfl, c, _, _, 1, rfl, rfl, h2c, rfl, ?_⟩
          refine ⟨_, _, rfl, k2.trans Keep.upd, upd_same.trans ?_⟩
          show some (HO.lst [.int s0, .int (S.found + ((n : Int) + 1) * x1 + ((n : Int) + 1) * zm), .int (S.taken + ((n : Int) + 1) * x2)]) = some (HO.lst [.int s0, .int (S.found + ((n : Int) + 1) * (x1 + zm)), .int (S.taken + ((n : Int) + 1) * (x2 + 0))])
          rw [Int.mul_add, Int.add_zero, Int.add_assoc]
        | false =>
          refine ⟨_, _, rfl, rfl, ?_⟩
          refine ⟨_, rfl, _, rfl, c, _, _, _, rfl, rfl, SqL.of h2c, rfl, _, rfl, t, _, _, _, rfl, rfl, SqT.of h2t, rfl, _, rfl, tz, _, _, _, rfl, rfl, SqT.of h2z, rfl, _, _, rfl, rfl, .inl ⟨by omega, by omega⟩, _, _, rfl, rfl, _, rfl, _, rfl, c, _, _, 2, rfl, rfl, h2c, rfl, ?_⟩
          refine ⟨_, _, rfl, k2.trans Keep.upd, upd_same.trans ?_⟩
          show some (HO.lst [.int s0, .int (S.found + ((n : Int) + 1) * x1), .int (S.taken + ((n : Int) + 1) * x2 + ((n : Int) + 1) * zm)]) = some (HO.lst [.int s0, .int (S.found + ((n : Int) + 1) * (x1 + 0)), .int (S.taken + ((n : Int) + 1) * (x2 + zm))])
          rw [Int.mul_add ((n : Int) + 1) x2 zm, Int.add_zero, Int.add_assoc]
      · rintro σ H2 ⟨v5, v7, rfl, k2, h2c⟩
        have el : ss.take (ts.map V.ref).length = ss := List.take_of_length_le (by rw [List.length_map, a3.len]; exact Nat.le_refl _)
        rw [el] at h2c
        have h2p := k2 _ _ npc h1p
        refine ⟨_, rfl, c, _, _, _, rfl, rfl, SqL.of h2c, rfl, _, rfl, p, _, _, _, rfl, rfl, SqL.of h2p, rfl, _, _, rfl, rfl, _, rfl, c, _, _, 1, rfl, rfl, h2c, rfl, ?_⟩
        have h3c : ∀ o, (upd H2 c o) c = some o := fun o => upd_same
        have h3p : ∀ o, (upd H2 c o) p = _ := fun o => (upd_ne npc).trans h2p
        refine ⟨_, rfl, c, _, _, _, rfl, rfl, SqL.of (h3c _), rfl, _, rfl, p, _, _, _, rfl, rfl, SqL.of (h3p _), rfl, _, _, rfl, rfl, _, rfl, c, _, _, 2, rfl, rfl, h3c _, rfl, ?_⟩
        refine ⟨_, rfl, ?_⟩
        rw [upd_upd]
        have kc : ∀ o, KeepL [a, b, c] H (upd H2 c o) := fun o => kL1.trans (KeepL.trans (fun x u nx e => k2 x u (fun z => nx (by simp [z])) e) (keepL_upd (by simp)))
        refine q _ p (kc _) fp ?_ ?_ ?_ ?_
        · rw [upd_ne nac]; exact k2 _ _ nac h1a
        · rw [upd_ne nbc, do_yrs]; exact k2 _ _ nbc h1b
        · rw [upd_same, do_yrs]; rfl
        · exact (upd_ne npc).trans h2p
abbrev s_fits : Stmt := top 77
abbrev N_fits : List Str := ["_law_found", "_law_deed_here", "_law_due"]
abbrev P_fits : List Str := ["_law_found", "_law_deed_here", "_law_due"]
theorem sc_fits : FnScope N_fits P_fits (defScope s_fits) := mk9
/-! _law_fits -/
def sp_fits (K : W.Frag) : Sp := fun vs H Q _ => ∃ (v : V) (t p : Addr) (S : Stage) (A : Act), vs = [v, .ref t, .ref p] ∧ ActAt H t A ∧ Told H v S A ∧ H p = some (.lst ((dueL S A).map V.int)) ∧ Q (.bl true) H
theorem ok_fits (F : Fun K "_law_fits" "_law_fits" s_fits f fd) (T : Txt K mg) (o_whole : Ok P w K mg base "_law_whole" P_whole 1 sp_whole) (o_told : Ok P w K mg base "_law_told" P_told 2 (sp_told K)) : FnOk P w K mg base CX0 3 f fd P_fits (sp_fits K) := by
  refine F.ok sc_fits (fun vs H Q E h => ?_) (fun cdv A outer s H vs Q E hr h => ?_)
  · obtain ⟨v, t, p, S, B, rfl, _⟩ := h
    rfl
  · obtain ⟨v, t, p, S, B, rfl, hA, hT, hp, q⟩ := h
    refine ⟨_, (pss_cons (ps_if (pt_cmpR op_eq (pe_ix ix_tup (pv 1) pe_int (fun _ _ => rfl)) pe_str (nomark _))
        (pss_one (ps_ret (pe_callO o_told hr (pa_cons (pv 0) (pa_cons (pv 2) pa_nil)))))
        pss_nil)
      (pss_one (ps_ret (pe_and (pe_callO o_whole hr (pa_cons (pv 0) pa_nil)) (pe_one (pe_cmpR op_eq (pv 0) (pe_ix ix_list (pv 2) pe_int (fun _ _ => rfl)) (nomark _))))))), ?_⟩
    cases B with
    | sea z =>
      obtain rfl := hT
      refine ⟨_, rfl, t, _, _, _, rfl, rfl, SqT.of hA, rfl, rfl, _, rfl, ?_⟩
      refine ite2 (fun h => absurd h (by rw [kind_years]; decide)) (fun _ => ?_)
      refine ⟨_, rfl, _, rfl, _, rfl, ?_⟩
      refine iteT ?_
      refine ⟨_, rfl, _, rfl, p, _, _, _, rfl, rfl, SqL.of hp, rfl, rfl, ?_⟩
      rw [decide_eq_true rfl]
      exact q
    | lay m =>
      obtain rfl := hT
      refine ⟨_, rfl, t, _, _, _, rfl, rfl, SqT.of hA, rfl, rfl, _, rfl, ?_⟩
      refine ite2 (fun h => absurd (V.str.inj (of_decide_eq_true h)) (by decide +kernel)) (fun _ => ?_)
      refine ⟨_, rfl, _, rfl, _, rfl, ?_⟩
      refine iteT ?_
      refine ⟨_, rfl, _, rfl, p, _, _, _, rfl, rfl, SqL.of hp, rfl, rfl, ?_⟩
      rw [decide_eq_true rfl]
      exact q
    | yrs ss n =>
      obtain ⟨u, rfl, hu⟩ := hT
      obtain ⟨u', ts, h1, h2, h3⟩ := hA
      refine ⟨_, rfl, t, _, _, _, rfl, rfl, SqT.of h1, rfl, rfl, _, rfl, ?_⟩
      refine ite2 (fun _ => ?_) (fun h => absurd (decide_eq_true rfl) h)
      exact ⟨_, rfl, _, rfl, u, p, dueL S (.yrs ss n), rfl, hu, .inl (SqL.of hp), by show 2 ≤ 1000; decide, q⟩
abbrev s_pair : Stmt := top 78
abbrev N_pair : List Str := ["_law_script", "_law_scale", "_law_kind", "_law_amount_here", "_law_more", "_law_cell", "_law_others", "_law_at_here", "_law_times", "_law_made", "_law_one"]
abbrev P_pair : List Str := ["_law_script", "_law_scale"]
theorem sc_pair : FnScope N_pair P_pair (defScope s_pair) := mk9
/-! _law_pair -/
def LeA : Act → Act → Prop
  | .sea z, .sea y => LeZ z y
  | .lay m, .lay k => m = k
  | .yrs ss n, .yrs yy m => n = m ∧ LeR ss yy
  | _, _ => False
theorem LeA.refl (A : Act) : LeA A A := by
  cases A with
  | sea z => exact LeZ.refl z
  | lay m => exact rfl
  | yrs ss n => exact ⟨rfl, LeR.refl ss⟩
theorem LeR.ins {ss : List (Bool × Int)} {pl : Nat} {x y : Int} (h : x ≤ y) : LeR (ss.take pl ++ [(true, x)] ++ ss.drop pl) (ss.take pl ++ [(true, y)] ++ ss.drop pl) := by
  refine ⟨by simp, fun i z w e1 e2 => ?_⟩
  rw [List.append_assoc] at e1 e2
  by_cases h1 : i < (ss.take pl).length
  · rw [List.getElem?_append_left h1] at e1 e2
    rw [e1] at e2; cases e2; exact LeZ.refl z
  · rw [List.getElem?_append_right (by omega)] at e1 e2
    generalize i - (ss.take pl).length = j at e1 e2
    cases j with
    | zero => cases e1; cases e2; exact ⟨rfl, fun _ => h, fun z => by cases z⟩
    | succ j =>
      have e1 : (ss.drop pl)[j]? = some z := e1
      have e2 : (ss.drop pl)[j]? = some w := e2
      rw [e1] at e2; cases e2; exact LeZ.refl z
def sp_pair (K : W.Frag) : Sp := fun vs H Q _ => ∃ (a : Addr) (ns : List Int) (scale : Int), vs = [.ref a, .int scale] ∧ SqL K H a (ns.map V.int) ∧ 1 ≤ scale ∧ scale ≤ 999999 ∧
  ∀ (H' : Hp) (p t1 t2 : Addr) (A1 A2 : Act), Same H H' → H p = none → H' p = some (.lst [.ref t1, .ref t2]) → ActAt H' t1 A1 → ActAt H' t2 A2 → A1.Fit → A2.Fit → LeA A1 A2 → Q (.ref p) H'
theorem more_at (k z : Int) : ∃ b : Int, atI [V.int (1 + k % 1000), V.int (1 + k % 1000000)] (z % 2) = some (.int b) ∧ 1 ≤ b ∧ b ≤ 1000000 := by
  have h3 := Int.emod_nonneg z (show (2 : Int) ≠ 0 by decide)
  have h4 := Int.emod_lt_of_pos z (show (0 : Int) < 2 by decide)
  have a1 := Int.emod_nonneg k (show (1000 : Int) ≠ 0 by decide)
  have a2 := Int.emod_lt_of_pos k (show (0 : Int) < 1000 by decide)
  have a3 := Int.emod_nonneg k (show (1000000 : Int) ≠ 0 by decide)
  have a4 := Int.emod_lt_of_pos k (show (0 : Int) < 1000000 by decide)
  have h5 : z % 2 = 0 ∨ z % 2 = 1 := by omega
  rcases h5 with e | e <;> rw [e]
  · exact ⟨_, rfl, by omega, by omega⟩
  · exact ⟨_, rfl, by omega, by omega⟩
theorem times_at (k z : Int) : ∃ n : Nat, atI [V.int (1 + k % 40), V.int (10 ^ 18)] (z % 2) = some (.int ((n : Int) + 1)) ∧ (n : Int) + 1 ≤ 1000000000000000000 := by
  have h3 := Int.emod_nonneg z (show (2 : Int) ≠ 0 by decide)
  have h4 := Int.emod_lt_of_pos z (show (0 : Int) < 2 by decide)
  have a1 := Int.emod_nonneg k (show (40 : Int) ≠ 0 by decide)
  have a2 := Int.emod_lt_of_pos k (show (0 : Int) < 40 by decide)
  have h5 : z % 2 = 0 ∨ z % 2 = 1 := by omega
  have mk : ∀ x : Int, 1 ≤ x → x ≤ 1000000000000000000 → ∃ m : Nat, (some (V.int x) : Option V) = some (.int ((m : Int) + 1)) ∧ (m : Int) + 1 ≤ 1000000000000000000 := fun x h1 h2 => ⟨(x - 1).toNat, by rw [show (((x - 1).toNat : Nat) : Int) + 1 = x by omega], by omega⟩
  rcases h5 with e | e <;> rw [e]
  · exact mk (1 + k % 40) (by omega) (by omega)
  · exact mk (10 ^ 18) (by decide) (by decide)
theorem ok_pair (F : Fun K "_law_pair" "_law_pair" s_pair f fd) (T : Txt K mg) (o_at : Ok P w K mg base "_law_at" P_at 1 (sp_at K)) (o_amount : Ok P w K mg base "_law_amount" P_amount 1 sp_amount) (o_seasons : Ok P w K mg base "_law_seasons" P_seasons 3 sp_seasons) : FnOk P w K mg base CX0 4 f fd P_pair (sp_pair K) := by
  refine F.ok sc_pair (fun vs H Q E h => ?_) (fun cdv A outer s H vs Q E hr h => ?_)
  · obtain ⟨a, ns, scale, rfl, _⟩ := h
    rfl
  · obtain ⟨a, ns, scale, rfl, hS, h1, h2, q⟩ := h
    refine ⟨_, (pss_cons (ps_set (i := 2) sc_pair.nd rfl (Or.inl rfl) (pe_callO o_at hr (pa_cons (pv 0) (pa_cons pe_int pa_nil))))
      (pss_cons (ps_set (i := 3) sc_pair.nd rfl (Or.inl rfl) (pe_callO o_amount hr (pa_cons (pe_callO o_at hr (pa_cons (pv 0) (pa_cons pe_int pa_nil))) (pa_cons (pv 1) pa_nil))))
      (pss_cons (ps_set (i := 4) sc_pair.nd rfl (Or.inl rfl) (pe_min (by rfl) T.n_min pe_int (pe_op op_add (pv 3) (pe_ix ix_list (pe_lst (pa_cons (pe_op op_add pe_int (pe_op op_mod (pe_op op_fdiv (pv 2) pe_int) pe_int)) (pa_cons (pe_op op_add pe_int (pe_op op_mod (pe_op op_fdiv (pv 2) pe_int) pe_int)) pa_nil))) (pe_op op_mod (pe_op op_fdiv (pv 2) pe_int) pe_int) (fun _ _ => rfl)))))
      (pss_cons (ps_if (pt_cmpR op_eq (pe_op op_mod (pv 2) pe_int) pe_int (nomark _))
        (pss_one (ps_ret (pe_lst (pa_cons (pe_tup (pa_cons pe_str (pa_cons (pv 3) pa_nil))) (pa_cons (pe_tup (pa_cons pe_str (pa_cons (pv 4) pa_nil))) pa_nil)))))
        pss_nil)
      (pss_cons (ps_set (i := 5) sc_pair.nd rfl (Or.inl rfl) (pe_callO o_at hr (pa_cons (pv 0) (pa_cons pe_int pa_nil))))
      (pss_cons (ps_set (i := 6) sc_pair.nd rfl (Or.inl rfl) (pe_callO o_seasons hr (pa_cons (pe_callO o_at hr (pa_cons (pv 0) (pa_cons pe_int pa_nil))) (pa_cons (pe_op op_mod (pv 5) pe_int) (pa_cons (pv 1) pa_nil)))))
      (pss_cons (ps_set (i := 7) sc_pair.nd rfl (Or.inl rfl) (pe_op op_mod (pe_op op_fdiv (pv 5) pe_int) (pe_op op_add (pe_len T.n_len (pv 6)) pe_int)))
      (pss_cons (ps_set (i := 8) sc_pair.nd rfl (Or.inl rfl) (pe_ix ix_list (pe_lst (pa_cons (pe_op op_add pe_int (pe_op op_mod (pe_op op_fdiv (pv 5) pe_int) pe_int)) (pa_cons (pe_op op_pow pe_int pe_int) pa_nil))) (pe_op op_mod (pe_op op_fdiv (pv 5) pe_int) pe_int) (fun _ _ => rfl)))
      (pss_cons (ps_set (i := 9) sc_pair.nd rfl (Or.inl rfl) (pe_lst pa_nil))
      (pss_cons (ps_for PassesOwn.never rfl (pi_list (pe_lst (pa_cons (pv 3) (pa_cons (pv 4) pa_nil)))) (pg_name (i := 10) sc_pair.nd rfl (Or.inl rfl))
        (pss_one (ps_expr (pe_bm PySem.F.plainAttrs_list PySem.F.slot_list_append PySem.F.type_list_append mt_append (pv 9) (pa_cons (pe_tup (pa_cons pe_str (pa_cons (pe_callTy call_tuple_of (by rfl) T.n_tuple (by decide +kernel) (pa_cons (pe_op op_cat (pe_op op_cat (pe_slice sl_list (pv 6) po_none (po_some (pv 7))) (pe_lst (pa_cons (pe_tup (pa_cons pe_str (pa_cons (pv 10) pa_nil))) pa_nil))) (pe_slice sl_list (pv 6) (po_some (pv 7)) po_none)) pa_nil)) (pa_cons (pv 8) pa_nil)))) pa_nil)))))
      (pss_one (ps_ret (pv 9))))))))))))), ?_⟩
    refine ⟨_, rfl, a, ns, 3, rfl, hS, ?_⟩
    generalize ns.getD 3 0 = kd
    refine ⟨_, rfl, a, ns, 4, rfl, hS, _, rfl, _, _, rfl, h1, h2, fun m H1 m0 m1 s1 => ?_⟩
    obtain ⟨b, eb, b1, b2⟩ := more_at (kd / 4) (kd / 2)
    refine ⟨_, rfl, _, rfl, _, _, rfl, rfl, ⟨by decide, by decide⟩, _, _, rfl, rfl, (by show (0 : Int) < 1000; decide), _, _, rfl, rfl, _, rfl, _, _, rfl, rfl, ⟨by decide, by decide⟩, _, _, rfl, rfl, (by show (0 : Int) < 1000000; decide), _, _, rfl, rfl, sz9, fun p1 f1 => ⟨_, rfl, _, _, rfl, rfl, ⟨by decide, by decide⟩, _, _, rfl, rfl, (by show (0 : Int) < 2; decide), p1, _, _, _, rfl, rfl, SqL.of upd_same, eb, _, _, rfl, rfl, _, _, rfl, ?_⟩⟩
    have s2 := s1.trans (Same.upd (o := .lst [V.int (1 + kd / 4 % 1000), V.int (1 + kd / 4 % 1000000)]) f1)
    generalize upd H1 p1 _ = H2 at s2 ⊢
    try dsimp only [gName]
    obtain ⟨mo, emo, hmo1, hmo2⟩ : ∃ mo : Int, (if m + b < 1000000 then m + b else 1000000) = mo ∧ m ≤ mo ∧ mo ≤ 1000000 := ⟨_, rfl, by split <;> omega, by split <;> omega⟩
    rw [emo]
    by_cases hk2 : decide (V.int (kd % 2) = V.int 0) = true
    · refine ⟨_, rfl, _, _, rfl, rfl, (by show (0 : Int) < 2; decide), rfl, _, rfl, ?_⟩
      refine ite2 (fun _ => ?_) (fun h => absurd hk2 h)
      refine ⟨_, rfl, sz9, fun t1 f1 => ⟨_, rfl, sz9, fun t2 f2 => ⟨sz9, fun p fp => ?_⟩⟩⟩
      have w1 := Same.upd (o := .tup [.str (kindS true), .int m]) f1
      have w2 := Same.upd (o := .tup [.str (kindS true), .int mo]) f2
      have w3 := Same.upd (o := .lst [.ref t1, .ref t2]) fp
      exact q _ p t1 t2 (.sea (true, m)) (.sea (true, mo)) (s2.trans ((w1.trans w2).trans w3)) (s2.free (w1.free (w2.free fp))) upd_same (w3 _ _ (w2 _ _ upd_same)) (w3 _ _ upd_same) ⟨m0, m1⟩ ⟨by show 0 ≤ mo; omega, hmo2⟩ ⟨rfl, fun _ => hmo1, fun z => by cases z⟩
    refine seq_in fun D1 hx => ?_
    refine ⟨_, rfl, _, _, rfl, rfl, (by show (0 : Int) < 2; decide), rfl, _, rfl, ?_⟩
    refine ite2 (fun h => absurd h hk2) (fun _ => ?_)
    refine hx _ _ ?_
    refine seq_in fun D1 hx => ?_
    refine ⟨_, rfl, a, ns, 5, rfl, s2.seq hS, ?_⟩
    refine hx _ _ ?_
    generalize ns.getD 5 0 = cl
    obtain ⟨n, en, hn4⟩ : ∃ n : Nat, cl % 4 = (n : Int) ∧ n ≤ 3 := by
      have r1 := Int.emod_nonneg cl (show (4 : Int) ≠ 0 by decide)
      have r2 := Int.emod_lt_of_pos cl (show (0 : Int) < 4 by decide)
      exact ⟨(cl % 4).toNat, by omega, by omega⟩
    refine seq_in fun D1 hx => ?_
    refine ⟨_, rfl, a, ns, 6, rfl, s2.seq hS, _, rfl, _, _, rfl, rfl, (by show (0 : Int) < 4; decide), _, rfl, _, _, n, congrArg (fun z => [V.int _, V.int z, V.int _]) en, by omega, h1, h2, fun H3 po ts ss s3 fo hl hz hpo hSe => ?_⟩
    refine hx _ _ ?_
    have hts := hSe.len
    refine seq_in fun D1 hx => ?_
    refine ⟨_, rfl, _, _, rfl, rfl, ⟨by decide, by decide⟩, _, rfl, po, _, rfl, .inl (SqL.of hpo), _, _, rfl, rfl, _, _, rfl, rfl, (by show (0 : Int) < ((ts.map V.ref).length : Int) + 1; omega), ?_⟩
    refine hx _ _ ?_
    obtain ⟨pl, epl, hpl⟩ : ∃ pl : Nat, cl / 4 % (((ts.map V.ref).length : Int) + 1) = (pl : Int) ∧ pl ≤ ts.length := by
      have r1 := Int.emod_nonneg (cl / 4) (show (((ts.map V.ref).length : Int) + 1) ≠ 0 by omega)
      have r2 := Int.emod_lt_of_pos (cl / 4) (show (0 : Int) < ((ts.map V.ref).length : Int) + 1 by omega)
      rw [List.length_map] at r1 r2 ⊢
      exact ⟨(cl / 4 % ((ts.length : Int) + 1)).toNat, by omega, by omega⟩
    try dsimp only
    rw [epl]
    obtain ⟨k, ek, hk⟩ := times_at (cl / 16) (cl / 640)
    refine seq_in fun D1 hx => ?_
    refine ⟨_, rfl, _, _, rfl, rfl, ⟨by decide, by decide⟩, _, _, rfl, rfl, (by show (0 : Int) < 40; decide), _, _, rfl, rfl, _, _, rfl, rfl, ⟨by decide, by decide, by decide⟩, sz9, fun p4 f4 => ⟨_, rfl, _, _, rfl, rfl, ⟨by decide, by decide⟩, _, _, rfl, rfl, (by show (0 : Int) < 2; decide), p4, _, _, _, rfl, rfl, SqL.of upd_same, ek, ?_⟩⟩
    refine hx _ _ ?_
    have s4 := Same.upd (o := .lst [V.int (1 + cl / 16 % 40), V.int (10 ^ 18)]) f4
    have s04 := (s2.trans s3).trans s4
    have h4o := s4 _ _ hpo
    have hS4 := hSe.same s4
    refine seq_in fun D1 hx => ?_
    refine ⟨sz9, fun pm fm => ?_⟩
    refine hx _ _ ?_
    have s5 := Same.upd (o := .lst []) fm
    have h5m := upd_same (H := upd H3 p4 (.lst [V.int (1 + cl / 16 % 40), V.int (10 ^ 18)])) (a := pm) (o := .lst [])
    have h5o := s5 _ _ h4o
    have hS5 := hS4.same s5
    have fm0 : H pm = none := s04.free fm
    have nom : po ≠ pm := ne_of_none h4o fm
    have s05 : Same H _ := s04.trans s5
    have ec1 : cutV (ts.map V.ref) none (some (pl : Int)) = (ts.take pl).map V.ref := by rw [cut_takeG, List.map_take]
    have ec2 : cutV (ts.map V.ref) (some (pl : Int)) none = (ts.drop pl).map V.ref := by rw [cut_dropG, List.map_drop]
    have hSt : SeasAt _ (ts.take pl) (ss.take pl) := hS5.take pl
    have hSd : SeasAt _ (ts.drop pl) (ss.drop pl) := hS5.drop pl
    refine seq_in fun D1 hx => ?_
    refine ⟨_, rfl, _, rfl, sz9, fun pq fq => ⟨pq, rfl, ⟨_, SqL.of upd_same⟩, ?_⟩⟩
    have s6 := Same.upd (o := .lst [.int m, .int mo]) fq
    have h6m := s6 _ _ h5m
    have npq : pq ≠ pm := Ne.symm (ne_of_none h5m fq)
    refine for_list (xs := [.int m, .int mo]) (fun i σ H' => ∃ (v10 : Option V) (us : List Addr), σ = [some (.ref a), some (.int scale), some (.int kd), some (.int m), some (.int mo), some (.int cl), some (.ref po), some (.int (pl : Int)), some (.int ((k : Int) + 1)), some (.ref pm), v10] ∧ Keep pm (upd (upd H3 p4 (.lst [V.int (1 + cl / 16 % 40), V.int (10 ^ 18)])) pm (.lst [])) H' ∧ H' pq = some (.lst [.int m, .int mo]) ∧ us.length = i ∧ H' pm = some (.lst (us.map V.ref)) ∧ ∀ (j : Nat) (u : Addr) (x : Int), us[j]? = some u → [m, mo][j]? = some x → ActAt H' u (.yrs (ss.take pl ++ [(true, x)] ++ ss.drop pl) k)) ?_ ?_ ?_ ?_
    · exact ⟨none, [], rfl, s6.keep pm, upd_same, rfl, h6m, fun j u x e => by cases e⟩
    · rintro i σ H' _ ⟨_, _, _, _, e, _⟩
      exact SqL.of e
    · rintro i y σ H7 hy ⟨v10, us, rfl, k7, h7q, hul, h7m, hus⟩
      obtain ⟨x, rfl, ex⟩ : ∃ x, y = .int x ∧ [m, mo][i]? = some x := by
        match i, hy with
        | 0, hy => cases hy; exact ⟨m, rfl, rfl⟩
        | 1, hy => cases hy; exact ⟨mo, rfl, rfl⟩
        | i + 2, hy => cases hy
      have hi2 : i < 2 := (List.getElem?_eq_some_iff.mp ex).1
      have h7o := k7 _ _ nom h5o
      have hSt7 := k7.seas hSt h5m
      have hSd7 := k7.seas hSd h5m
      refine ⟨_, rfl, .inl ⟨rfl, _, SqL.of h7m⟩, _, rfl, _, rfl, _, rfl, po, _, rfl, SqL.of h7o, fun q1 g1 => ?_⟩
      have v1 := Same.upd (o := .lst (cutV (ts.map V.ref) none (some (pl : Int)))) g1
      refine ⟨_, rfl, sz9, fun tw fw => ?_⟩
      have v2 := Same.upd (o := .tup [.str (kindS true), .int x]) fw
      refine ⟨sz9, fun q2 g2 => ?_⟩
      have v3 := Same.upd (o := .lst [.ref tw]) g2
      refine ⟨q1, q2, _, _, rfl, rfl, v3 _ _ (v2 _ _ upd_same), upd_same, ?_, fun q3 g3 => ?_⟩
      · rw [ec1]
        refine sz1000' ?_
        simp only [List.length_map, List.length_take, List.length_cons, List.length_nil, List.length_append]
        omega
      have v4 := Same.upd (o := .lst (cutV (ts.map V.ref) none (some (pl : Int)) ++ [V.ref tw])) g3
      have v14 := ((v1.trans v2).trans v3).trans v4
      refine ⟨_, rfl, _, rfl, _, rfl, po, _, rfl, SqL.of (v14 _ _ h7o), fun q4 g4 => ?_⟩
      have v5 := Same.upd (o := .lst (cutV (ts.map V.ref) (some (pl : Int)) none)) g4
      refine ⟨q3, q4, _, _, rfl, rfl, v5 _ _ upd_same, upd_same, ?_, fun q5 g5 => ?_⟩
      · rw [ec1, ec2]
        refine sz1000' ?_
        simp only [List.length_append, List.length_map, List.length_take, List.length_drop, List.length_cons, List.length_nil]
        omega
      have v6 := Same.upd (o := .lst ((cutV (ts.map V.ref) none (some (pl : Int)) ++ [V.ref tw]) ++ cutV (ts.map V.ref) (some (pl : Int)) none)) g5
      have v16 := (v14.trans v5).trans v6
      have eL : ((cutV (ts.map V.ref) none (some (pl : Int)) ++ [V.ref tw]) ++ cutV (ts.map V.ref) (some (pl : Int)) none) = ((ts.take pl ++ [tw]) ++ ts.drop pl).map V.ref := by rw [ec1, ec2, List.map_append, List.map_append]; rfl
      refine ⟨q5, _, rfl, .inl ⟨SqL.of upd_same, fun u fu => ⟨_, rfl, sz9, fun t ft => ?_⟩⟩⟩
      have v7 := Same.upd (o := .tup ((cutV (ts.map V.ref) none (some (pl : Int)) ++ [V.ref tw]) ++ cutV (ts.map V.ref) (some (pl : Int)) none)) fu
      have v8 := Same.upd (o := .tup [.str "years", .ref u, .int ((k : Int) + 1)]) ft
      have v18 := (v16.trans v7).trans v8
      have h8m := v18 _ _ h7m
      refine ⟨pm, _, _, rfl, rfl, h8m, sz1000 (by rw [List.length_map]; omega), ?_⟩
      have kt := keepT_upd (o := .lst (us.map V.ref ++ [.ref t])) h8m
      have hA : ActAt _ t (.yrs (ss.take pl ++ [(true, x)] ++ ss.drop pl) k) := ⟨u, ts.take pl ++ [tw] ++ ts.drop pl, upd_same, (v8 _ _ upd_same).trans (by rw [eL]), ((hSt7.same v18).append ⟨rfl, fun j z e => match j, e with
        | 0, e => by cases e; exact ⟨tw, rfl, v8 _ _ (v7 _ _ (v6 _ _ (v5 _ _ (v4 _ _ (v3 _ _ upd_same)))))⟩
        | j + 1, e => by cases e⟩).append (hSd7.same v18)⟩
      refine ⟨_, us ++ [t], rfl, k7.trans ((v18.keep pm).trans Keep.upd), ?_, by rw [List.length_append, hul]; rfl, by rw [upd_same, List.map_append]; rfl, fun j u' x' e1 e2 => ?_⟩
      · rw [upd_ne npq]; exact v18 _ _ h7q
      · rcases snoc_at e1 with ⟨hj, e1⟩ | ⟨rfl, rfl⟩
        · exact ((hus j u' x' e1 e2).same v18).tup kt
        · rw [hul, ex] at e2; cases e2
          exact hA.tup kt
    rintro σ H7 ⟨v10, us, rfl, k7, h7q, hul, h7m, hus⟩
    refine hx _ _ ?_
    obtain ⟨u1, u2, rfl⟩ : ∃ u1 u2, us = [u1, u2] := by
      match us, hul with
      | [x, y], _ => exact ⟨x, y, rfl⟩
    have fit : ∀ x : Int, 0 ≤ x → x ≤ 1000000 → (Act.yrs (ss.take pl ++ [(true, x)] ++ ss.drop pl) k).Fit := fun x x0 x1 => by
      refine ⟨by simp; omega, ?_, fun z hz' => ?_, hk⟩
      · simp only [List.length_append, List.length_take, List.length_drop, List.length_cons, List.length_nil]
        omega
      · simp only [List.mem_append, List.mem_singleton] at hz'
        rcases hz' with (h | h) | h
        · exact hz z (List.mem_of_mem_take h)
        · rw [h]; exact ⟨x0, x1⟩
        · exact hz z (List.mem_of_mem_drop h)
    exact ⟨_, rfl, q _ pm u1 u2 _ _ (fun b o e => k7 _ _ (ne_of_none e fm0) (s5 _ _ (s04 _ _ e))) fm0 h7m (hus 0 u1 m rfl rfl) (hus 1 u2 mo rfl rfl) (fit m m0 m1) (fit mo (by omega) hmo2) ⟨rfl, LeR.ins hmo1⟩⟩
abbrev s_within : Stmt := top 79
abbrev N_within : List Str := ["_law_deed_here", "_law_cell"]
abbrev P_within : List Str := ["_law_deed_here", "_law_cell"]
theorem sc_within : FnScope N_within P_within (defScope s_within) := mk9
/-! _law_within -/
def sp_within : Sp := fun vs H Q _ => ∃ (t : Addr) (cell : Int) (A : Act), vs = [.ref t, .int cell] ∧ ActAt H t A ∧ A.Fit ∧ ∀ (H' : Hp) (p : Addr) (m so : Nat), Same H H' → H p = none → H' p = some (.lst [.int ((m : Int) + 1), .int (so : Int)]) → (∀ ss n, A = .yrs ss n → m ≤ n ∧ 1 ≤ so ∧ so ≤ ss.length) → Q (.ref p) H'
theorem ten_at (c : Int) : ∃ b : Int, atI [V.int 10, V.int (10 ^ 18)] (c % 2) = some (.int b) ∧ 0 < b := by
  have h3 := Int.emod_nonneg c (show (2 : Int) ≠ 0 by decide)
  have h4 := Int.emod_lt_of_pos c (show (0 : Int) < 2 by decide)
  have h5 : c % 2 = 0 ∨ c % 2 = 1 := by omega
  rcases h5 with e | e <;> rw [e]
  · exact ⟨10, rfl, by decide⟩
  · exact ⟨10 ^ 18, rfl, by decide⟩
theorem ok_within (F : Fun K "_law_within" "_law_within" s_within f fd) (T : Txt K mg) : FnOk P w K mg base CX0 1 f fd P_within sp_within := by
  refine F.ok sc_within (fun vs H Q E h => ?_) (fun cdv A outer s H vs Q E hr h => ?_)
  · obtain ⟨t, cell, B, rfl, _⟩ := h
    rfl
  · obtain ⟨t, cell, B, rfl, hA, hF, q⟩ := h
    refine ⟨_, (pss_cons (ps_if (pt_cmpR op_eq (pe_ix ix_tup (pv 0) pe_int (fun _ _ => rfl)) pe_str (nomark _))
        (pss_one (ps_ret (pe_lst (pa_cons (pe_op op_add pe_int (pe_op op_mod (pe_op op_fdiv (pv 1) pe_int) (pe_min (by rfl) T.n_min (pe_ix ix_tup (pv 0) pe_int (fun _ _ => rfl)) (pe_ix ix_list (pe_lst (pa_cons pe_int (pa_cons (pe_op op_pow pe_int pe_int) pa_nil))) (pe_op op_mod (pv 1) pe_int) (fun _ _ => rfl))))) (pa_cons (pe_op op_add pe_int (pe_op op_mod (pe_op op_fdiv (pv 1) pe_int) (pe_len T.n_len (pe_ix ix_tup (pv 0) pe_int (fun _ _ => rfl))))) pa_nil)))))
        pss_nil)
      (pss_one (ps_ret (pe_lst (pa_cons pe_int (pa_cons pe_int pa_nil)))))), ?_⟩
    have other : (∀ ss n, B ≠ .yrs ss n) → ∃ r, H t = some (.tup (.str (actN B) :: r)) := fun _ => hA.head
    cases B with
    | yrs ss n =>
      obtain ⟨y1, y2, y3, y4⟩ : 1 ≤ ss.length ∧ ss.length ≤ 12 ∧ (∀ z ∈ ss, 0 ≤ z.2 ∧ z.2 ≤ 1000000) ∧ (n : Int) + 1 ≤ 1000000000000000000 := hF
      obtain ⟨u, ts, a1, a2, a3⟩ := hA
      have hl := a3.len
      refine ⟨_, rfl, t, _, _, _, rfl, rfl, SqT.of a1, rfl, rfl, _, rfl, ?_⟩
      refine ite2 (fun _ => ?_) (fun h => absurd (decide_eq_true rfl) h)
      obtain ⟨b, eb, hb⟩ := ten_at cell
      refine ⟨_, rfl, _, _, rfl, rfl, ⟨by decide, by decide⟩, _, rfl, t, _, _, _, rfl, rfl, SqT.of a1, rfl, _, _, rfl, rfl, ⟨by decide, by decide, by decide⟩, sz9, fun p1 f1 => ⟨_, rfl, _, _, rfl, rfl, (by show (0 : Int) < 2; decide), p1, _, _, _, rfl, rfl, SqL.of upd_same, eb, _, _, rfl, ?_⟩⟩
      have s1 := Same.upd (o := .lst [V.int 10, V.int (10 ^ 18)]) f1
      have hmin : (0 : Int) < (if b < (n : Int) + 1 then b else (n : Int) + 1) := by split <;> omega
      have hmm : (if b < (n : Int) + 1 then b else (n : Int) + 1) ≤ (n : Int) + 1 := by split <;> omega
      refine ⟨_, _, rfl, rfl, hmin, _, _, rfl, rfl, _, rfl, _, _, rfl, rfl, ⟨by decide, by decide⟩, _, rfl, t, _, _, _, rfl, rfl, SqT.of (s1 _ _ a1), rfl, u, _, rfl, .inr (SqT.of (s1 _ _ a2)), _, _, rfl, rfl, (by rw [List.length_map]; show (0 : Int) < (ts.length : Int); omega), _, _, rfl, rfl, sz9, fun p fp => ?_⟩
      try dsimp only
      generalize (if b < (n : Int) + 1 then b else (n : Int) + 1) = mn at hmin hmm ⊢
      have r1 := Int.emod_nonneg (cell / 2) (Int.ne_of_gt hmin)
      have r2 := Int.emod_lt_of_pos (cell / 2) hmin
      have r3 := Int.emod_nonneg (cell / 3) (show ((ts.map V.ref).length : Int) ≠ 0 by rw [List.length_map]; omega)
      have r4 := Int.emod_lt_of_pos (cell / 3) (show (0 : Int) < ((ts.map V.ref).length : Int) by rw [List.length_map]; omega)
      rw [List.length_map] at r3 r4 ⊢
      generalize cell / 2 % mn = c1 at r1 r2 ⊢
      generalize cell / 3 % (ts.length : Int) = c2 at r3 r4 ⊢
      refine q _ p c1.toNat (1 + c2).toNat (s1.trans (Same.upd fp)) (s1.free fp) ?_ (fun ss' n' e => ?_)
      · rw [upd_same, show ((c1.toNat : Nat) : Int) + 1 = 1 + c1 by omega, show (((1 + c2).toNat : Nat) : Int) = 1 + c2 by omega]
      · cases e
        exact ⟨by omega, by omega, by omega⟩
    | sea z =>
      obtain ⟨r, e⟩ := other (by intro ss n h; cases h)
      refine ⟨_, rfl, t, _, _, _, rfl, rfl, SqT.of e, atI_nat (j := 0) rfl, rfl, _, rfl, ?_⟩
      rw [actN_years]
      refine iteF ?_
      exact ⟨sz9, fun p fp => q _ p 0 1 (Same.upd fp) fp upd_same (fun ss n h => by cases h)⟩
    | lay z =>
      obtain ⟨r, e⟩ := other (by intro ss n h; cases h)
      refine ⟨_, rfl, t, _, _, _, rfl, rfl, SqT.of e, atI_nat (j := 0) rfl, rfl, _, rfl, ?_⟩
      rw [actN_years]
      refine iteF ?_
      exact ⟨sz9, fun p fp => q _ p 0 1 (Same.upd fp) fp upd_same (fun ss n h => by cases h)⟩
abbrev s_no_less : Stmt := top 80
abbrev N_no_less : List Str := ["_law_less", "_law_more", "_law_k"]
abbrev P_no_less : List Str := ["_law_less", "_law_more"]
theorem sc_no_less : FnScope N_no_less P_no_less (defScope s_no_less) := mk9
/-! _law_no_less -/
def sp_no_less (K : W.Frag) : Sp := fun vs H Q _ => ∃ (a b : Addr) (xs ys : List Int), vs = [.ref a, .ref b] ∧ SqL K H a (xs.map V.int) ∧ SqL K H b (ys.map V.int) ∧ ys.length = xs.length ∧ xs.length ≤ 1000 ∧ (∀ i, i < xs.length → xs.getD i 0 ≤ ys.getD i 0) ∧ Q (.bl true) H
theorem ok_no_less (F : Fun K "_law_no_less" "_law_no_less" s_no_less f fd) (T : Txt K mg) : FnOk P w K mg base CX0 1 f fd P_no_less (sp_no_less K) := by
  refine F.ok sc_no_less (fun vs H Q E h => ?_) (fun cdv A outer s H vs Q E hr h => ?_)
  · obtain ⟨a, b, xs, ys, rfl, _⟩ := h
    rfl
  · obtain ⟨a, b, xs, ys, rfl, hA, hB, hl, h1000, hle, q⟩ := h
    refine ⟨_, (pss_cons (ps_for PassesOwn.never rfl (pi_range1 (by rfl) T.n_range (pa_cons (pe_len T.n_len (pv 0)) pa_nil)) (pg_name (i := 2) sc_no_less.nd rfl (Or.inl rfl))
        (pss_one (ps_if (pt_cmpR op_lt (pe_ix ix_list (pv 1) (pv 2) (fun _ _ => rfl)) (pe_ix ix_list (pv 0) (pv 2) (fun _ _ => rfl)) (nomark _))
          (pss_one (ps_ret pe_bl))
          pss_nil)))
      (pss_one (ps_ret pe_bl))), ?_⟩
    refine ⟨_, rfl, a, _, rfl, .inl hA, _, rfl, by omega, by rw [List.length_map]; omega, ?_⟩
    refine for_range (n := ((xs.map V.int).length : Int).toNat) (fun i σ H2 => (∃ v, σ = [some (.ref a), some (.ref b), v]) ∧ H2 = H) ⟨⟨none, rfl⟩, rfl⟩ ?_ ?_
    · rintro i σ H2 hi ⟨⟨v, rfl⟩, rfl⟩
      rw [List.length_map] at hi
      have hi' : i < xs.length := by omega
      rw [show (0 : Int) + (i : Int) = (i : Int) by omega]
      refine ⟨_, rfl, _, rfl, b, _, _, _, rfl, rfl, hB, atI_int (by omega), _, rfl, _, rfl, a, _, _, _, rfl, rfl, hA, atI_int hi', _, _, rfl, rfl, _, rfl, ?_⟩
      have := hle i hi'
      refine ite2 (fun h => absurd (of_decide_eq_true h) (by omega)) (fun _ => ?_)
      exact ⟨⟨_, rfl⟩, rfl⟩
    · rintro σ H2 ⟨_, rfl⟩
      exact q
abbrev s_law : Stmt := top 81
abbrev N_law : List Str := ["_law_script", "_law_needs", "_law_heats", "_law_grounds", "_law_states", "_law_deeds", "_law_k", "_law_place", "_law_inner", "_law_at_here", "_law_deed_here", "_law_now", "_law_ahead", "_law_due"]
abbrev P_law : List Str := ["_law_script"]
theorem sc_law : FnScope N_law P_law (defScope s_law) := mk9
/-! law -/
def sp_law (K : W.Frag) : Sp := fun vs H Q _ => ∃ (a : Addr) (ns : List Int), vs = [.ref a] ∧ SqL K H a (ns.map V.int) ∧ ns.length ≤ 63 ∧ ∀ H', Q (.bl true) H'
structure LeS (S T : Stage) : Prop where
  needs : S.needs = T.needs
  le : LeL S.needs.length S.heats T.heats
theorem far_heats (S : Stage) (ss : List (Bool × Int)) (n so : Nat) : (reachS S ss n so).heats = farL S.needs S.heats ss n so := rfl
theorem LeR.one {z y : Bool × Int} (h : LeZ z y) : LeR [z] [y] := ⟨rfl, fun i a b e1 e2 => by
  match i, e1, e2 with
  | 0, e1, e2 => cases e1; cases e2; exact h
  | k + 1, e1, e2 => simp at e1⟩
theorem LeS.do {S T : Stage} (hS : S.Ok) (hT : T.Ok) (h : LeS S T) {A B : Act} (l : LeA A B) : LeS (doS S A) (doS T B) := by
  have e := h.needs
  have hT' : HeatsOk S.needs T.heats := by rw [e]; exact hT.heats
  cases A with
  | sea z =>
    cases B with
    | sea y =>
      refine ⟨e, ?_⟩
      show LeL S.needs.length (farL S.needs S.heats [z] 0 1) (farL T.needs T.heats [y] 0 1)
      rw [← e]
      exact far_mono hS.heats hT' h.le (LeR.one l) 0 1
    | lay m => exact l.elim
    | yrs ss n => exact l.elim
  | lay m =>
    cases B with
    | sea y => exact l.elim
    | lay k =>
      have l : m = k := l
      subst l
      have h1 := hS.heats.len
      have h2 := hT'.len
      refine ⟨by show S.needs ++ [m] = T.needs ++ [m]; rw [e], fun i hi => ?_⟩
      have hi : i < (S.needs ++ [m]).length := hi
      rw [List.length_append] at hi
      have hi : i < S.needs.length + 1 := hi
      show (S.heats ++ [0]).getD i 0 ≤ (T.heats ++ [0]).getD i 0
      by_cases h3 : i < S.needs.length
      · rw [getD_app (by omega), getD_app (by omega)]; exact h.le i h3
      · rw [getD_appR (by omega), getD_appR (by omega), show i - S.heats.length = i - T.heats.length by omega]; exact Int.le_refl _
    | yrs ss n => exact l.elim
  | yrs ss n =>
    cases B with
    | sea y => exact l.elim
    | lay k => exact l.elim
    | yrs yy m =>
      obtain ⟨l1, l2⟩ : n = m ∧ LeR ss yy := l
      subst l1
      refine ⟨e, ?_⟩
      show LeL S.needs.length (farL S.needs S.heats ss n ss.length) (farL T.needs T.heats yy n yy.length)
      rw [← e, ← l2.len]
      exact far_mono hS.heats hT' h.le l2 n ss.length
def Act.isY : Act → Bool
  | .yrs _ _ => true
  | _ => false
theorem actN_isY (A : Act) : decide (V.str (actN A) = V.str "years") = A.isY := by
  rw [actN_years]
  cases A <;> rfl
theorem LeA.isY {A B : Act} (h : LeA A B) : B.isY = A.isY := by
  cases A <;> cases B <;> first | rfl | exact h.elim
theorem isY_ex {A : Act} (h : A.isY = true) : ∃ ss n, A = .yrs ss n := by
  cases A with
  | sea z => cases h
  | lay m => cases h
  | yrs ss n => exact ⟨ss, n, rfl⟩
theorem run_lens (S : Stage) : ∀ As : List Act, (runS S As).needs.length ≤ S.needs.length + As.length := by
  intro As
  induction As using snoc_ind with
  | h0 => exact Nat.le_refl _
  | hs As A ih =>
    rw [runS_snoc, do_len, List.length_append]
    show _ ≤ S.needs.length + (As.length + 1)
    split <;> omega
structure PairAt (H : Hp) (p : Addr) (A B : Act) : Prop where
  ex : ∃ t1 t2, H p = some (.lst [.ref t1, .ref t2]) ∧ ActAt H t1 A ∧ ActAt H t2 B
  fit1 : A.Fit
  fit2 : B.Fit
  le : LeA A B
theorem PairAt.keep {H H' : Hp} {p : Addr} {A B : Act} (h : PairAt H p A B) (kt : KeepT H H') (kp : ∀ o, H p = some o → H' p = some o) : PairAt H' p A B := by
  obtain ⟨t1, t2, h1, h2, h3⟩ := h.ex
  exact ⟨⟨t1, t2, kp _ h1, h2.tup kt, h3.tup kt⟩, h.fit1, h.fit2, h.le⟩
structure Side (G : Addr) (H : Hp) (W : List Addr) (S0 : Stage) (x pk ps a b c : Addr) (As : List Act) : Prop where
  ex : ∃ ts : List Addr, GroundX G (fun b => b ∉ W) H x pk ps (ts.map V.ref) (histS S0 As) ∧ ActsAt H ts As ∧ H a = some (.lst ((runS S0 As).needs.map V.int)) ∧ H b = some (.lst ((runS S0 As).heats.map V.int)) ∧ H c = some (.lst [.int 0, .int (runS S0 As).found, .int (runS S0 As).taken])
  fit : ∀ A ∈ As, A.Fit
theorem Side.keep {G : Addr} {H H' : Hp} {W : List Addr} {S0 : Stage} {x pk ps a b c : Addr} {As : List Act} {L : List Addr} (h : Side G H W S0 x pk ps a b c As) (k : KeepL L H H') (hl : ∀ b ∈ L, ∃ xs, H b = some (.lst xs)) (hW : ∀ b ∈ L, b ∈ W) (n : ∀ d ∈ [pk, ps, a, b, c], d ∉ L) : Side G H' W S0 x pk ps a b c As := by
  obtain ⟨ts, X, T, ha, hb, hc⟩ := h.ex
  have kt := k.tups hl
  exact ⟨⟨ts, X.keepL k hl (n _ (by simp)) (n _ (by simp)) (fun b e z => e (hW b z)), T.tup kt, k _ _ (n _ (by simp)) ha, k _ _ (n _ (by simp)) hb, k _ _ (n _ (by simp)) hc⟩, h.fit⟩
theorem Side.same {G : Addr} {H H' : Hp} {W : List Addr} {S0 : Stage} {x pk ps a b c : Addr} {As : List Act} (h : Side G H W S0 x pk ps a b c As) (s : Same H H') : Side G H' W S0 x pk ps a b c As :=
  h.keep (L := []) (s.keepL _) (by simp) (by simp) (by simp)
theorem Side.lists {G : Addr} {H : Hp} {W : List Addr} {S0 : Stage} {x pk ps a b c : Addr} {As : List Act} (h : Side G H W S0 x pk ps a b c As) : ∀ d ∈ [pk, ps, a, b, c], ∃ xs, H d = some (.lst xs) := by
  obtain ⟨ts, X, T, ha, hb, hc⟩ := h.ex
  obtain ⟨_, _, _, g2, g3, _⟩ := X.ex
  intro d hd
  simp only [List.mem_cons, List.not_mem_nil, or_false] at hd
  rcases hd with rfl | rfl | rfl | rfl | rfl
  · exact ⟨_, g2⟩
  · exact ⟨_, g3⟩
  · exact ⟨_, ha⟩
  · exact ⟨_, hb⟩
  · exact ⟨_, hc⟩
theorem Side.weak {G : Addr} {H : Hp} {W W' : List Addr} {S0 : Stage} {x pk ps a b c : Addr} {As : List Act} (h : Side G H W S0 x pk ps a b c As) (hw : ∀ b, b ∈ W' → b ∈ W) : Side G H W' S0 x pk ps a b c As := by
  obtain ⟨ts, X, r⟩ := h.ex
  exact ⟨⟨ts, X.weak fun b e z => e (hw b z), r⟩, h.fit⟩
theorem Side.fresh {G : Addr} {H : Hp} {W : List Addr} {S0 : Stage} {x pk ps a b c q : Addr} {As : List Act} (h : Side G H W S0 x pk ps a b c As) (f : H q = none) : Side G H (W ++ [q]) S0 x pk ps a b c As := by
  obtain ⟨ts, X, r⟩ := h.ex
  refine ⟨⟨ts, (X.fresh f).weak fun b ⟨e1, e2⟩ z => ?_, r⟩, h.fit⟩
  rcases List.mem_append.mp z with z | z
  · exact e1 z
  · exact e2 (by simpa using z)
theorem GroundX.self {G : Addr} {ok : Addr → Prop} {H : Hp} {p pk ps : Addr} {kept : List V} {Ss : List Stage} (h : GroundX G ok H p pk ps kept Ss) : GroundX G (fun b => (ok b ∧ b ≠ pk ∧ b ≠ ps) ∧ ∃ o, H b = some o) H p pk ps kept Ss := by
  obtain ⟨dx, ds, h1, h2, h3, h4, h5⟩ := h.ex
  refine ⟨h.ne, dx, ds, h1, h2, h3, h4, fun i S e => ?_⟩
  obtain ⟨d, e1, e2, a, b, e3, e4, e5, m1, m2, m3, m4, m5, m6⟩ := h5 i S e
  exact ⟨d, e1, e2, a, b, e3, e4, e5, m1, m2, m3, m4, ⟨⟨m5, m1, m2⟩, _, e4⟩, ⟨m6, m3, m4⟩, _, e5⟩
structure News (H0 H : Hp) (L : List Addr) : Prop where
  nd : L.Nodup
  new : ∀ b ∈ L, H0 b = none
  lst : ∀ b ∈ L, ∃ o, H b = some o
theorem News.nil (H0 H : Hp) : News H0 H [] := ⟨List.nodup_nil, by simp, by simp⟩
theorem News.same {H0 H H' : Hp} {L : List Addr} (h : News H0 H L) (s : Same H H') : News H0 H' L := ⟨h.nd, h.new, fun b hb => let ⟨o, e⟩ := h.lst b hb; ⟨o, s _ _ e⟩⟩
theorem News.snoc {H0 H H' : Hp} {L : List Addr} {c : Addr} {o : HO} (h : News H0 H L) (s0 : Same H0 H) (s : Same H H') (f : H c = none) (e : H' c = some o) : News H0 H' (L ++ [c]) := by
  refine ⟨?_, fun b hb => ?_, fun b hb => ?_⟩
  · rw [List.nodup_append]
    refine ⟨h.nd, by simp, fun b hb d hd z => ?_⟩
    obtain rfl : d = c := by simpa using hd
    obtain ⟨u, g⟩ := h.lst b hb
    rw [z, f] at g; cases g
  · rcases List.mem_append.mp hb with hb | hb
    · exact h.new b hb
    · obtain rfl : b = c := by simpa using hb
      exact s0.free f
  · rcases List.mem_append.mp hb with hb | hb
    · obtain ⟨u, g⟩ := h.lst b hb
      exact ⟨u, s _ _ g⟩
    · obtain rfl : b = c := by simpa using hb
      exact ⟨o, e⟩
theorem News.out {H0 H : Hp} {L : List Addr} (h : News H0 H L) {b : Addr} (f : H b = none) : b ∉ L := fun z => by
  obtain ⟨o, e⟩ := h.lst b z
  rw [f] at e; cases e
theorem News.old {H0 H : Hp} {L : List Addr} (h : News H0 H L) {b : Addr} {o : HO} (f : H0 b = some o) : b ∉ L := fun z => by
  rw [h.new b z] at f; cases f
theorem News.app {H0 H H' : Hp} {L M : List Addr} (h : News H0 H L) (s0 : Same H0 H) (s : Same H H') (nd : M.Nodup) (f : ∀ b ∈ M, H b = none) (e : ∀ b ∈ M, ∃ o, H' b = some o) : News H0 H' (L ++ M) := by
  refine ⟨?_, fun b hb => ?_, fun b hb => ?_⟩
  · rw [List.nodup_append]
    refine ⟨h.nd, nd, fun b hb d hd z => ?_⟩
    obtain ⟨u, g⟩ := h.lst b hb
    rw [z, f d hd] at g; cases g
  · rcases List.mem_append.mp hb with hb | hb
    · exact h.new b hb
    · exact s0.free (f b hb)
  · rcases List.mem_append.mp hb with hb | hb
    · obtain ⟨u, g⟩ := h.lst b hb
      exact ⟨u, s _ _ g⟩
    · exact e b hb
theorem News.cat {H0 H H1 H' : Hp} {L M : List Addr} (h : News H0 H L) (m : News H1 H' M) (s0 : Same H0 H) (s : Same H H1) (s1 : Same H1 H') : News H0 H' (L ++ M) :=
  h.app s0 (s.trans s1) m.nd (fun b hb => s.free (m.new b hb)) m.lst
theorem not_app {L M : List Addr} {b : Addr} (h1 : b ∉ L) (h2 : b ∉ M) : b ∉ L ++ M := fun z => by
  rcases List.mem_append.mp z with z | z
  · exact h1 z
  · exact h2 z
theorem ok_law (F : Fun K "law" "law" s_law f fd) (T : Txt K mg) (TG : GCls K mg G) (o_at : Ok P w K mg base "_law_at" P_at 1 (sp_at K)) (o_numbers : Ok P w K mg base "_law_numbers" P_numbers 2 (sp_numbers K)) (o_beds : Ok P w K mg base "_law_beds" P_beds 2 (sp_beds K)) (o_far : Ok P w K mg base "_law_far" P_far 3 (sp_far K)) (o_deed : Ok P w K mg base "_law_deed" P_deed 4 sp_deed) (o_do : Ok P w K mg base "_law_do" P_do 10 (sp_do G)) (o_done : Ok P w K mg base "_law_done" P_done 3 (sp_done K)) (o_fits : Ok P w K mg base "_law_fits" P_fits 3 (sp_fits K)) (o_pair : Ok P w K mg base "_law_pair" P_pair 4 (sp_pair K)) (o_within : Ok P w K mg base "_law_within" P_within 1 sp_within) (o_no_less : Ok P w K mg base "_law_no_less" P_no_less 1 (sp_no_less K))
    (oi_two : OkI P w K mg base G P_G___init__ 2 (sp_G_init K G) []) (om_heats : OkM P w K mg base G "heats" P_G_heats 2 (sp_G_heats G)) (om_heats_within : OkM P w K mg base G "heats_within" P_G_heats_within 9 (sp_G_heats_within G)) : FnOk P w K mg base CX0 11 f fd P_law (sp_law K) := by
  refine F.ok sc_law (fun vs H Q E h => ?_) (fun cdv A outer s H vs Q E hr h => ?_)
  · obtain ⟨a, ns, rfl, _⟩ := h
    rfl
  · obtain ⟨a, ns, rfl, hS, hlen, q⟩ := h
    refine ⟨_, (pss_cons (ps_asg (pe_callO o_beds hr (pa_cons (pv 0) pa_nil)) (pg_tupL (n := 2) (by rfl) (pgs_cons (pg_name (i := 1) sc_law.nd rfl (Or.inr rfl)) (pgs_cons (pg_name (i := 2) sc_law.nd rfl (Or.inl rfl)) pgs_nil))))
      (pss_cons (ps_set (i := 3) sc_law.nd rfl (Or.inl rfl) (pe_lst (pa_cons (pe_makeO oi_two .nil hr TG.mgG (pa_cons (pe_list T.n_list (pv 1)) (pa_cons (pe_list T.n_list (pv 2)) pa_nil))) (pa_cons (pe_makeO oi_two .nil hr TG.mgG (pa_cons (pe_list T.n_list (pv 1)) (pa_cons (pe_list T.n_list (pv 2)) pa_nil))) pa_nil))))
      (pss_cons (ps_set (i := 4) sc_law.nd rfl (Or.inl rfl) (pe_lst (pa_cons (pe_lst (pa_cons (pe_list T.n_list (pv 1)) (pa_cons (pe_list T.n_list (pv 2)) (pa_cons (pe_lst (pa_cons pe_int (pa_cons pe_int (pa_cons pe_int pa_nil)))) pa_nil)))) (pa_cons (pe_lst (pa_cons (pe_list T.n_list (pv 1)) (pa_cons (pe_list T.n_list (pv 2)) (pa_cons (pe_lst (pa_cons pe_int (pa_cons pe_int (pa_cons pe_int pa_nil)))) pa_nil)))) pa_nil))))
      (pss_cons (ps_setC (i := 5) rfl sc_law.nd rfl rfl (CompScope.of (T := ["_law_cell"]) (js := [1]) (defScope s_law).names N_law rfl rfl rfl (by decide +kernel)) (pi_list (pe_slice sl_list (pv 0) (po_some pe_int) (po_some pe_int))) (fun _ _ _ _ => ⟨(pg_name (i := 0) (by show List.Nodup (["_law_cell", "_law_needs"] : List Str); decide +kernel) rfl (Or.inl rfl)), pif_nil, (pe_op op_rep (pe_lst (pa_cons (pe_callO o_deed hr (pa_cons (pv 0) (pa_cons (pe_sumK K (by rfl) T.n_sum (pv 1)) pa_nil))) pa_nil)) pe_int)⟩))
      (pss_cons (ps_expr (pe_bm PySem.F.plainAttrs_list PySem.F.slot_list_insert PySem.F.type_list_insert mt_insert (pv 5) (pa_cons (pe_op op_mod (pe_callO o_at hr (pa_cons (pv 0) (pa_cons pe_int pa_nil))) (pe_op op_add (pe_len T.n_len (pv 5)) pe_int)) (pa_cons (pe_callO o_pair hr (pa_cons (pv 0) (pa_cons (pe_sum (by rfl) T.n_sum (pv 1)) pa_nil))) pa_nil))))
      (pss_cons (ps_for PassesOwn.never rfl (pi_range1 (by rfl) T.n_range (pa_cons (pe_len T.n_len (pv 5)) pa_nil)) (pg_name (i := 6) sc_law.nd rfl (Or.inl rfl))
        (pss_cons (ps_set (i := 7) sc_law.nd rfl (Or.inl rfl) (pe_callO o_within hr (pa_cons (pe_ix ix_list (pe_ix ix_list (pv 5) (pv 6) (fun _ _ => rfl)) pe_int (fun _ _ => rfl)) (pa_cons (pe_callO o_at hr (pa_cons (pv 0) (pa_cons (pe_op op_add pe_int (pv 6)) pa_nil))) pa_nil))))
        (pss_cons (ps_set (i := 8) sc_law.nd rfl (Or.inl rfl) (pe_lst pa_nil))
        (pss_cons (ps_for PassesOwn.never rfl (pi_range1 (by rfl) T.n_range (pa_cons pe_int pa_nil)) (pg_name (i := 9) sc_law.nd rfl (Or.inl rfl))
          (pss_cons (ps_set (i := 10) sc_law.nd rfl (Or.inl rfl) (pe_ix ix_list (pe_ix ix_list (pv 5) (pv 6) (fun _ _ => rfl)) (pv 9) (fun _ _ => rfl)))
          (pss_cons (ps_set (i := 11) sc_law.nd rfl (Or.inl rfl) (pe_ix ix_list (pv 4) (pv 9) (fun _ _ => rfl)))
          (pss_cons (ps_set (i := 12) sc_law.nd rfl (Or.inl rfl) (pe_list T.n_list (pe_ix ix_list (pv 11) pe_int (fun _ _ => rfl))))
          (pss_cons (ps_set (i := 13) sc_law.nd rfl (Or.inl rfl) (pe_callO o_done hr (pa_cons (pe_ix ix_list (pv 11) pe_int (fun _ _ => rfl)) (pa_cons (pe_ix ix_list (pv 11) pe_int (fun _ _ => rfl)) (pa_cons (pe_ix ix_list (pv 11) pe_int (fun _ _ => rfl)) (pa_cons (pv 10) pa_nil))))))
          (pss_cons (ps_if (pt_not (pt_val (pe_callO o_fits hr (pa_cons (pe_callO o_do hr (pa_cons (pe_ix ix_list (pv 3) (pv 9) (fun _ _ => rfl)) (pa_cons (pv 10) pa_nil))) (pa_cons (pv 10) (pa_cons (pv 13) pa_nil))))))
            (pss_one (ps_ret pe_bl))
            pss_nil)
          (pss_cons (ps_if (pt_not (pt_val (pe_callO o_numbers hr (pa_cons (pe_meth0O om_heats TG.cl hr (pe_ix ix_list (pv 3) (pv 9) (fun _ _ => rfl))) (pa_cons (pe_ix ix_list (pv 11) pe_int (fun _ _ => rfl)) pa_nil)))))
            (pss_one (ps_ret pe_bl))
            pss_nil)
          (pss_one (ps_if (pt_cmpR op_eq (pe_ix ix_tup (pv 10) pe_int (fun _ _ => rfl)) pe_str (nomark _))
            (pss_cons (ps_expr (pe_bm PySem.F.plainAttrs_list PySem.F.slot_list_append PySem.F.type_list_append mt_append (pv 8) (pa_cons (pe_methO om_heats_within TG.cl hr (pe_ix ix_list (pv 3) (pv 9) (fun _ _ => rfl)) (pa_cons (pe_op op_add (pv 6) pe_int) (pa_cons (pe_ix ix_list (pv 7) pe_int (fun _ _ => rfl)) (pa_cons (pe_ix ix_list (pv 7) pe_int (fun _ _ => rfl)) pa_nil)))) pa_nil)))
            (pss_one (ps_if (pt_not (pt_val (pe_callO o_numbers hr (pa_cons (pe_ix ix_list (pv 8) (pv 9) (fun _ _ => rfl)) (pa_cons (pe_callO o_far hr (pa_cons (pe_ix ix_list (pv 11) pe_int (fun _ _ => rfl)) (pa_cons (pv 12) (pa_cons (pe_list T.n_list (pe_ix ix_tup (pv 10) pe_int (fun _ _ => rfl))) (pa_cons (pe_op op_sub (pe_ix ix_list (pv 7) pe_int (fun _ _ => rfl)) pe_int) (pa_cons (pe_ix ix_list (pv 7) pe_int (fun _ _ => rfl)) pa_nil)))))) pa_nil)))))
              (pss_one (ps_ret pe_bl))
              pss_nil)))
            pss_nil)))))))))
        (pss_cons (ps_if (pt_not (pt_val (pe_callO o_no_less hr (pa_cons (pe_meth0O om_heats TG.cl hr (pe_ix ix_list (pv 3) pe_int (fun _ _ => rfl))) (pa_cons (pe_meth0O om_heats TG.cl hr (pe_ix ix_list (pv 3) pe_int (fun _ _ => rfl))) pa_nil)))))
          (pss_one (ps_ret pe_bl))
          pss_nil)
        (pss_one (ps_if (PW.pt (pw_and (pt_cmpR (op_neNil hr.units0) (pv 8) (pe_lst pa_nil) (nomark _)) (pw_and1 (pt_not (pt_val (pe_callO o_no_less hr (pa_cons (pe_ix ix_list (pv 8) pe_int (fun _ _ => rfl)) (pa_cons (pe_ix ix_list (pv 8) pe_int (fun _ _ => rfl)) pa_nil))))))))
          (pss_one (ps_ret pe_bl))
          pss_nil)))))))
      (pss_one (ps_ret pe_bl)))))))), ?_⟩
    refine ⟨_, rfl, a, ns, rfl, hS, fun H1 l pn ph needs heats s1 fl fpn fph d1 d2 d3 hl hn hh B h30 => ?_⟩
    refine ⟨l, _, rfl, SqL.of hl, rfl, _, _, rfl, _, _, rfl, rfl, ?_⟩
    have hBs := B.sum
    have hBl := B.len
    have hBlo := B.lo
    clear fl fpn fph d1 d2 d3 hl
    -- two grounds
    refine ⟨_, rfl, pn, _, rfl, .inl (SqL.of hn), fun c1 f1 => ?_⟩
    have u1 := Same.upd (o := .lst (needs.map V.int)) f1
    have e1 : (upd H1 c1 (.lst (needs.map V.int))) c1 = some (.lst (needs.map V.int)) := upd_same
    generalize upd H1 c1 (.lst (needs.map V.int)) = I1 at u1 e1 ⊢
    refine ⟨_, rfl, ph, _, rfl, .inl (SqL.of (u1 _ _ hh)), fun c2 f2 => ?_⟩
    have u2 := Same.upd (o := .lst (heats.map V.int)) f2
    have e2 : (upd I1 c2 (.lst (heats.map V.int))) c2 = some (.lst (heats.map V.int)) := upd_same
    generalize upd I1 c2 (.lst (heats.map V.int)) = I2 at u2 e2 ⊢
    refine init_of (u2 _ _ e1) e2 B h30 fun H3 x0 pk0 ps0 s3 fk0 fs0 X0 => ?_
    have s13 := (u1.trans u2).trans s3
    refine ⟨_, rfl, pn, _, rfl, .inl (SqL.of (s13 _ _ hn)), fun c3 f3 => ?_⟩
    have u3 := Same.upd (o := .lst (needs.map V.int)) f3
    have e3 : (upd H3 c3 (.lst (needs.map V.int))) c3 = some (.lst (needs.map V.int)) := upd_same
    generalize upd H3 c3 (.lst (needs.map V.int)) = I3 at u3 e3 ⊢
    refine ⟨_, rfl, ph, _, rfl, .inl (SqL.of (u3 _ _ (s13 _ _ hh))), fun c4 f4 => ?_⟩
    have u4 := Same.upd (o := .lst (heats.map V.int)) f4
    have e4 : (upd I3 c4 (.lst (heats.map V.int))) c4 = some (.lst (heats.map V.int)) := upd_same
    generalize upd I3 c4 (.lst (heats.map V.int)) = I4 at u4 e4 ⊢
    refine init_of (u4 _ _ e3) e4 B h30 fun H4 x1 pk1 ps1 s4 fk1 fs1 X1 => ?_
    refine ⟨sz9, fun pg fg => ?_⟩
    have sg := Same.upd (o := .lst [.ref x0, .ref x1]) fg
    have h5g : (upd H4 pg (.lst [.ref x0, .ref x1])) pg = some (.lst [.ref x0, .ref x1]) := upd_same
    generalize upd H4 pg (.lst [.ref x0, .ref x1]) = H5 at sg h5g ⊢
    have s34 := (u3.trans u4).trans s4
    have s35 := s34.trans sg
    have s15 := s13.trans s35
    have h5n := s15 _ _ hn
    have h5h := s15 _ _ hh
    -- the states
    refine ⟨_, rfl, pn, _, rfl, .inl (SqL.of h5n), fun a0 fa0 => ?_⟩
    have v1 := Same.upd (o := .lst (needs.map V.int)) fa0
    have g1 : (upd H5 a0 (.lst (needs.map V.int))) a0 = some (.lst (needs.map V.int)) := upd_same
    generalize upd H5 a0 (.lst (needs.map V.int)) = J1 at v1 g1 ⊢
    refine ⟨_, rfl, ph, _, rfl, .inl (SqL.of (v1 _ _ h5h)), fun b0 fb0 => ?_⟩
    have v2 := Same.upd (o := .lst (heats.map V.int)) fb0
    have g2 : (upd J1 b0 (.lst (heats.map V.int))) b0 = some (.lst (heats.map V.int)) := upd_same
    generalize upd J1 b0 (.lst (heats.map V.int)) = J2 at v2 g2 ⊢
    refine ⟨sz9, fun z0 fz0 => ?_⟩
    have v3 := Same.upd (o := .lst [.int 0, .int 0, .int 0]) fz0
    have g3 : (upd J2 z0 (.lst [.int 0, .int 0, .int 0])) z0 = some (.lst [.int 0, .int 0, .int 0]) := upd_same
    generalize upd J2 z0 (.lst [.int 0, .int 0, .int 0]) = J3 at v3 g3 ⊢
    refine ⟨sz9, fun q0 fq0 => ?_⟩
    have v4 := Same.upd (o := .lst [.ref a0, .ref b0, .ref z0]) fq0
    have g4 : (upd J3 q0 (.lst [.ref a0, .ref b0, .ref z0])) q0 = some (.lst [.ref a0, .ref b0, .ref z0]) := upd_same
    generalize upd J3 q0 (.lst [.ref a0, .ref b0, .ref z0]) = J4 at v4 g4 ⊢
    have v14 := ((v1.trans v2).trans v3).trans v4
    refine ⟨_, rfl, pn, _, rfl, .inl (SqL.of (v14 _ _ h5n)), fun a1 fa1 => ?_⟩
    have v5 := Same.upd (o := .lst (needs.map V.int)) fa1
    have g5 : (upd J4 a1 (.lst (needs.map V.int))) a1 = some (.lst (needs.map V.int)) := upd_same
    generalize upd J4 a1 (.lst (needs.map V.int)) = J5 at v5 g5 ⊢
    refine ⟨_, rfl, ph, _, rfl, .inl (SqL.of (v5 _ _ (v14 _ _ h5h))), fun b1 fb1 => ?_⟩
    have v6 := Same.upd (o := .lst (heats.map V.int)) fb1
    have g6 : (upd J5 b1 (.lst (heats.map V.int))) b1 = some (.lst (heats.map V.int)) := upd_same
    generalize upd J5 b1 (.lst (heats.map V.int)) = J6 at v6 g6 ⊢
    refine ⟨sz9, fun z1 fz1 => ?_⟩
    have v7 := Same.upd (o := .lst [.int 0, .int 0, .int 0]) fz1
    have g7 : (upd J6 z1 (.lst [.int 0, .int 0, .int 0])) z1 = some (.lst [.int 0, .int 0, .int 0]) := upd_same
    generalize upd J6 z1 (.lst [.int 0, .int 0, .int 0]) = J7 at v7 g7 ⊢
    refine ⟨sz9, fun q1 fq1 => ?_⟩
    have v8 := Same.upd (o := .lst [.ref a1, .ref b1, .ref z1]) fq1
    have g8 : (upd J7 q1 (.lst [.ref a1, .ref b1, .ref z1])) q1 = some (.lst [.ref a1, .ref b1, .ref z1]) := upd_same
    generalize upd J7 q1 (.lst [.ref a1, .ref b1, .ref z1]) = J8 at v8 g8 ⊢
    have v58 := ((v5.trans v6).trans v7).trans v8
    have v18 := v14.trans v58
    refine ⟨sz9, fun pt ft => ?_⟩
    have st := Same.upd (o := .lst [.ref q0, .ref q1]) ft
    have h8t : (upd J8 pt (.lst [.ref q0, .ref q1])) pt = some (.lst [.ref q0, .ref q1]) := upd_same
    generalize upd J8 pt (.lst [.ref q0, .ref q1]) = H8 at st h8t ⊢
    have s58 := v18.trans st
    have s18 := s15.trans s58
    -- all that is ever written
    obtain ⟨_, _, _, g0k, g0s, _⟩ := id X0.ex
    obtain ⟨_, _, _, g1k, g1s, _⟩ := id X1.ex
    have nn0 := X0.ne
    have nn1 := X1.ne
    have two : ∀ {H H' : Hp} {p r : Addr}, Same H H' → p ≠ r → H p = none → H r = none → (∃ o, H' p = some o) → (∃ o, H' r = some o) → News H H' [p, r] := fun {H H' p r} s n f1 f2 e1 e2 => by
      refine (News.nil H H).app (Same.refl _) s (by simpa using n) (fun b hb => ?_) (fun b hb => ?_)
      · simp only [List.mem_cons, List.not_mem_nil, or_false] at hb
        rcases hb with rfl | rfl
        · exact f1
        · exact f2
      · simp only [List.mem_cons, List.not_mem_nil, or_false] at hb
        rcases hb with rfl | rfl
        · exact e1
        · exact e2
    have nA : News I2 H3 [pk0, ps0] := two s3 nn0 fk0 fs0 ⟨_, g0k⟩ ⟨_, g0s⟩
    have nB : News I4 H4 [pk1, ps1] := two s4 nn1 fk1 fs1 ⟨_, g1k⟩ ⟨_, g1s⟩
    have nC : News H5 J3 [a0, b0, z0] := (((News.nil H5 H5).snoc (Same.refl _) v1 fa0 g1).snoc v1 v2 fb0 g2).snoc (v1.trans v2) v3 fz0 g3
    have nD : News J4 J7 [a1, b1, z1] := (((News.nil J4 J4).snoc (Same.refl _) v5 fa1 g5).snoc v5 v6 fb1 g6).snoc (v5.trans v6) v7 fz1 g7
    have s38 := s35.trans s58
    have nCD : News H5 H8 ([a0, b0, z0] ++ [a1, b1, z1]) := (nC.cat nD ((v1.trans v2).trans v3) v4 ((v5.trans v6).trans v7)).same (v8.trans st)
    have nBCD : News I4 H8 ([pk1, ps1] ++ ([a0, b0, z0] ++ [a1, b1, z1])) := nB.cat nCD s4 sg s58
    have nW : News I2 H8 ([pk0, ps0] ++ ([pk1, ps1] ++ ([a0, b0, z0] ++ [a1, b1, z1]))) := nA.cat nBCD s3 (u3.trans u4) ((s4.trans sg).trans s58)
    have eC := v1.trans v2
    have ngW : pg ∉ [pk0, ps0] ++ ([pk1, ps1] ++ ([a0, b0, z0] ++ [a1, b1, z1])) := not_app ((nA.same s34).out fg) (not_app (nB.out fg) (nCD.old h5g))
    have s5J3 := (v1.trans v2).trans v3
    have nq0W : q0 ∉ [pk0, ps0] ++ ([pk1, ps1] ++ ([a0, b0, z0] ++ [a1, b1, z1])) := not_app ((nA.same (s35.trans s5J3)).out fq0) (not_app ((nB.same (sg.trans s5J3)).out fq0) (not_app (nC.out fq0) (nD.old g4)))
    have s5J7 := v14.trans ((v5.trans v6).trans v7)
    have nq1W : q1 ∉ [pk0, ps0] ++ ([pk1, ps1] ++ ([a0, b0, z0] ++ [a1, b1, z1])) := not_app ((nA.same (s35.trans s5J7)).out fq1) (not_app ((nB.same (sg.trans s5J7)).out fq1) (not_app ((nC.same (v4.trans ((v5.trans v6).trans v7))).out fq1) (nD.out fq1)))
    have ntW : pt ∉ [pk0, ps0] ++ ([pk1, ps1] ++ ([a0, b0, z0] ++ [a1, b1, z1])) := not_app ((nA.same (s35.trans v18)).out ft) (not_app ((nB.same (sg.trans v18)).out ft) (not_app ((nC.same (v4.trans v58)).out ft) ((nD.same v8).out ft)))
    have nnW := nW.old (u2 _ _ (u1 _ _ hn))
    have nhW := nW.old (u2 _ _ (u1 _ _ hh))
    have side0 : Side G H8 ([pk0, ps0] ++ ([pk1, ps1] ++ ([a0, b0, z0] ++ [a1, b1, z1]))) ⟨needs, heats, 0, 0⟩ x0 pk0 ps0 a0 b0 z0 [] := by
      refine ⟨⟨[], (X0.self.same s38).weak fun b ⟨⟨_, k2, k3⟩, o, e⟩ => not_app (by simp [k2, k3]) (nBCD.old ((u3.trans u4) _ _ e)), ActsAt.nil _, (v58.trans st) _ _ (v4 _ _ (v3 _ _ (v2 _ _ g1))), (v58.trans st) _ _ (v4 _ _ (v3 _ _ g2)), (v58.trans st) _ _ (v4 _ _ g3)⟩, by simp⟩
    have side1 : Side G H8 ([pk0, ps0] ++ ([pk1, ps1] ++ ([a0, b0, z0] ++ [a1, b1, z1]))) ⟨needs, heats, 0, 0⟩ x1 pk1 ps1 a1 b1 z1 [] := by
      refine ⟨⟨[], (X1.self.same (sg.trans s58)).weak fun b ⟨⟨k1, k2, k3⟩, o, e⟩ => not_app ((nA.same (u3.trans u4)).out k1) (not_app (by simp [k2, k3]) (nCD.old (sg _ _ e))), ActsAt.nil _, st _ _ (v8 _ _ (v7 _ _ (v6 _ _ g5))), st _ _ (v8 _ _ (v7 _ _ g6)), st _ _ (v8 _ _ g7)⟩, by simp⟩
    have nd := nW.nd
    have sub0 : ∀ b ∈ [pk0, ps0, a0, b0, z0], b ∈ [pk0, ps0] ++ ([pk1, ps1] ++ ([a0, b0, z0] ++ [a1, b1, z1])) := fun b hb => by
      simp only [List.mem_cons, List.mem_append, List.not_mem_nil, or_false] at hb ⊢
      grind
    have sub1 : ∀ b ∈ [pk1, ps1, a1, b1, z1], b ∈ [pk0, ps0] ++ ([pk1, ps1] ++ ([a0, b0, z0] ++ [a1, b1, z1])) := fun b hb => by
      simp only [List.mem_cons, List.mem_append, List.not_mem_nil, or_false] at hb ⊢
      grind
    have wl : ∀ b ∈ [pk0, ps0] ++ ([pk1, ps1] ++ ([a0, b0, z0] ++ [a1, b1, z1])), b ∈ [pk0, ps0, a0, b0, z0] ∨ b ∈ [pk1, ps1, a1, b1, z1] := fun b hb => by
      simp only [List.mem_cons, List.mem_append, List.not_mem_nil, or_false] at hb ⊢
      grind
    have nd' : (pk0 ≠ ps0 ∧ pk0 ≠ a0 ∧ pk0 ≠ b0 ∧ pk0 ≠ z0 ∧ ps0 ≠ a0 ∧ ps0 ≠ b0 ∧ ps0 ≠ z0 ∧ a0 ≠ b0 ∧ a0 ≠ z0 ∧ b0 ≠ z0) ∧ (pk1 ≠ ps1 ∧ pk1 ≠ a1 ∧ pk1 ≠ b1 ∧ pk1 ≠ z1 ∧ ps1 ≠ a1 ∧ ps1 ≠ b1 ∧ ps1 ≠ z1 ∧ a1 ≠ b1 ∧ a1 ≠ z1 ∧ b1 ≠ z1) ∧ (∀ b ∈ [pk1, ps1, a1, b1, z1], b ∉ [pk0, ps0, a0, b0, z0]) := by
      simp only [List.nodup_append, List.nodup_cons, List.mem_cons, List.mem_append, List.not_mem_nil, or_false, not_or] at nd
      refine ⟨?_, ?_, fun b hb => ?_⟩
      · grind
      · grind
      · simp only [List.mem_cons, List.not_mem_nil, or_false, not_or] at hb ⊢
        grind
    obtain ⟨d0s, d1s, cross⟩ := nd'
    have cross' : ∀ b ∈ [pk0, ps0, a0, b0, z0], b ∉ [pk1, ps1, a1, b1, z1] := fun b hb z => cross b z hb
    have h8q0 := (v58.trans st) _ _ g4
    have h8q1 := st _ _ g8
    have h8g := s58 _ _ h5g
    have h8n := s18 _ _ hn
    have h8h := s18 _ _ hh
    have s08 := s1.trans s18
    have naW : ∀ o, H a = some o → a ∉ [pk0, ps0] ++ ([pk1, ps1] ++ ([a0, b0, z0] ++ [a1, b1, z1])) := fun o e => nW.old (u2 _ _ (u1 _ _ (s1 _ _ e)))
    clear nA nB nC nD nCD nBCD nW nd X0 X1 g0k g0s g1k g1s eC s5J3 s5J7 two
    clear u1 u2 u3 u4 v1 v2 v3 v4 v5 v6 v7 v8 v14 v58 v18 e1 e2 e3 e4 g1 g2 g3 g4 g5 g6 g7 g8 f1 f2 f3 f4 fa0 fb0 fz0 fq0 fa1 fb1 fz1 fq1 ft fk0 fs0 fk1 fs1 fg s3 s4 s13 s34 s35 s15 s38 s58 st sg
    generalize hW : [pk0, ps0] ++ ([pk1, ps1] ++ ([a0, b0, z0] ++ [a1, b1, z1])) = W at *
    -- the deeds
    refine ⟨_, rfl, _, rfl, _, rfl, a, _, rfl, s08.seq hS, fun pc fc => ?_⟩
    obtain ⟨cells, ec, hcl⟩ := cut_ints ns (some 8) (some 18)
    have hcl10 : cells.length ≤ 10 := by
      have := congrArg List.length ec
      rw [List.length_map] at this
      rw [← this]
      unfold cutV
      rw [List.length_take]
      rw [show (some 18 : Option Int) = some ((18 : Nat) : Int) from rfl, show (some 8 : Option Int) = some ((8 : Nat) : Int) from rfl, HT.sIx_nat, HT.sIx_nat]
      omega
    have s9 := Same.upd (o := .lst (cutV (ns.map V.int) (some 8) (some 18))) fc
    have h9c : (upd H8 pc (.lst (cutV (ns.map V.int) (some 8) (some 18)))) pc = some (.lst (cells.map V.int)) := by rw [upd_same, ec]
    generalize upd H8 pc (.lst (cutV (ns.map V.int) (some 8) (some 18))) = H9 at s9 h9c ⊢
    refine ⟨pc, rfl, ⟨_, SqL.of h9c⟩, fun pd fpd => ?_⟩
    refine comp_list (xs := cells.map V.int) (fun i σ H' => (∃ v, σ = [v, some (.ref pn)]) ∧ Same H9 H' ∧ ∃ es : List Addr, es.length = i ∧ H' pd = some (.lst (es.map V.ref)) ∧ ∀ e ∈ es, e ≠ pd ∧ H9 e = none ∧ ∃ A B, PairAt H' e A B) ?_ ?_ ?_ ?_
    · exact ⟨⟨none, rfl⟩, Same.upd fpd, [], rfl, upd_same, by simp⟩
    · rintro i σ H' _ ⟨_, sx, _⟩
      exact SqL.of (sx _ _ h9c)
    · rintro i y σ H10 hy ⟨⟨v, rfl⟩, s10, es, hel, h10d, hes⟩
      obtain ⟨hil, rfl⟩ := getI_some hy
      refine compT_one ?_
      refine ⟨_, rfl, _, rfl, pn, _, rfl, SqL.of (s10 _ _ (s9 _ _ h8n)), _, _, rfl, hBs.1, by omega, fun H11 t A s11 ft hF hA11 => ?_⟩
      refine ⟨sz9, fun p1 fp1 => ?_⟩
      have s12 := Same.upd (o := .lst [.ref t]) fp1
      have e12 : (upd H11 p1 (.lst [.ref t])) p1 = some (.lst [.ref t]) := upd_same
      generalize upd H11 p1 (.lst [.ref t]) = H12 at s12 e12 ⊢
      refine ⟨p1, 2, _, rfl, rfl, e12, by decide, by decide, (by show 1 * 2 ≤ _; decide), fun p2 fp2 => ?_⟩
      have e13 : (upd H12 p2 (.lst (List.replicate (2 : Int).toNat [V.ref t]).flatten)) p2 = some (.lst [.ref t, .ref t]) := upd_same
      have s13 := Same.upd (o := .lst (List.replicate (2 : Int).toNat [V.ref t]).flatten) fp2
      generalize upd H12 p2 (.lst (List.replicate (2 : Int).toNat [V.ref t]).flatten) = H13 at s13 e13 ⊢
      have s1013 := (s11.trans s12).trans s13
      have h13d := s1013 _ _ h10d
      have f2 : H10 p2 = none := (s11.trans s12).free fp2
      have np2 : p2 ≠ pd := Ne.symm (ne_of_none h10d f2)
      refine ⟨_, h13d, sz1000 (by rw [List.length_map]; omega), ⟨_, rfl⟩, (s10.trans s1013).set fpd, es ++ [p2], by rw [List.length_append, hel]; rfl, by rw [upd_same, List.map_append]; rfl, fun e he => ?_⟩
      have kt := keepT_upd (o := .lst (es.map V.ref ++ [V.ref p2])) h13d
      rcases List.mem_append.mp he with he | he
      · obtain ⟨n1, n2, A', B', PP⟩ := hes e he
        exact ⟨n1, n2, A', B', PP.keep (s1013.keepT.trans kt) (fun o g => by rw [upd_ne n1]; exact s1013 _ _ g)⟩
      · obtain rfl : e = p2 := by simpa using he
        refine ⟨np2, s10.free f2, A, A, ⟨⟨t, t, by rw [upd_ne np2]; exact e13, ?_, ?_⟩, hF, hF, LeA.refl A⟩⟩
        · exact (hA11.same (s12.trans s13)).tup kt
        · exact (hA11.same (s12.trans s13)).tup kt
    rintro σ H10 ⟨_, s10, es, hel, h10d, hes⟩
    rw [List.length_map] at hel
    have h10n := s10 _ _ (s9 _ _ h8n)
    -- the pair goes in
    have h10S : SqL K H10 a (ns.map V.int) := (s08.trans (s9.trans s10)).seq hS
    refine ⟨_, rfl, .inl ⟨rfl, _, SqL.of h10d⟩, _, rfl, a, ns, 7, rfl, h10S, _, rfl, pd, _, rfl, .inl (SqL.of h10d), ?_⟩
    rw [List.length_map]
    have hpos : (0 : Int) < (es.length : Int) + 1 := by omega
    refine ⟨_, _, rfl, rfl, _, _, rfl, rfl, hpos, _, rfl, _, rfl, pn, _, rfl, SqL.of h10n, a, ns, _, rfl, h10S, hBs.1, by omega, fun H11 p t1 t2 A1 A2 s11 fp hp hA1 hA2 F1 F2 le => ?_⟩
    have h11d := s11 _ _ h10d
    have r0 := Int.emod_nonneg (ns.getD 7 0) (Int.ne_of_gt hpos)
    have r1 := Int.emod_lt_of_pos (ns.getD 7 0) hpos
    refine ⟨pd, _, _, _, rfl, rfl, h11d, r0, by rw [List.length_map]; omega, by rw [List.length_map]; omega, ?_⟩
    generalize (ns.getD 7 0 % ((es.length : Int) + 1)).toNat = kq
    rw [show (es.map V.ref).take kq ++ [V.ref p] ++ (es.map V.ref).drop kq = (es.take kq ++ [p] ++ es.drop kq).map V.ref by rw [List.map_append, List.map_append, List.map_take, List.map_drop]; rfl]
    have hfl : (es.take kq ++ [p] ++ es.drop kq).length = es.length + 1 := by
      simp only [List.length_append, List.length_take, List.length_drop, List.length_singleton]
      omega
    have fpd10 : H9 p = none := s10.free fp
    have npd : p ≠ pd := Ne.symm (ne_of_none h10d fp)
    have s912 : Same H9 (upd H11 pd (.lst ((es.take kq ++ [p] ++ es.drop kq).map V.ref))) := (s10.trans s11).set fpd
    have kt12 := keepT_upd (o := .lst ((es.take kq ++ [p] ++ es.drop kq).map V.ref)) h11d
    have hfs : ∀ e ∈ es.take kq ++ [p] ++ es.drop kq, e ≠ pd ∧ H9 e = none ∧ ∃ A B, PairAt (upd H11 pd (.lst ((es.take kq ++ [p] ++ es.drop kq).map V.ref))) e A B := fun e he => by
      have he : e ∈ es ∨ e = p := by
        simp only [List.mem_append, List.mem_singleton] at he
        rcases he with (he | he) | he
        · exact .inl (List.mem_of_mem_take he)
        · exact .inr he
        · exact .inl (List.mem_of_mem_drop he)
      rcases he with he | rfl
      · obtain ⟨n1, n2, A', B', PP⟩ := hes e he
        exact ⟨n1, n2, A', B', PP.keep (s11.keepT.trans kt12) (fun o g => by rw [upd_ne n1]; exact s11 _ _ g)⟩
      · exact ⟨npd, fpd10, A1, A2, ⟨t1, t2, by rw [upd_ne npd]; exact hp, hA1.tup kt12, hA2.tup kt12⟩, F1, F2, le⟩
    have h12d : (upd H11 pd (.lst ((es.take kq ++ [p] ++ es.drop kq).map V.ref))) pd = some (.lst ((es.take kq ++ [p] ++ es.drop kq).map V.ref)) := upd_same
    have hfl11 : (es.take kq ++ [p] ++ es.drop kq).length ≤ 11 := by omega
    generalize es.take kq ++ [p] ++ es.drop kq = fs at *
    generalize upd H11 pd (.lst (fs.map V.ref)) = H12 at s912 hfs h12d ⊢
    have d12_0 := (side0.same s9).same s912
    have d12_1 := (side1.same s9).same s912
    have alW : ∀ {H' : Hp} {As0 As1 : List Act}, Side G H' W ⟨needs, heats, 0, 0⟩ x0 pk0 ps0 a0 b0 z0 As0 → Side G H' W ⟨needs, heats, 0, 0⟩ x1 pk1 ps1 a1 b1 z1 As1 → ∀ b, H' b = none → b ∉ W := fun {H' As0 As1} d0 d1 b e z => by
      rcases wl b z with z | z
      · obtain ⟨xs, g⟩ := d0.lists b z
        rw [e] at g; cases g
      · obtain ⟨xs, g⟩ := d1.lists b z
        rw [e] at g; cases g
    have o9 := alW (side0.same s9) (side1.same s9)
    have ndW : pd ∉ W := o9 pd fpd
    have s812 := s9.trans s912
    have h12g := s812 _ _ h8g
    have h12t := s812 _ _ h8t
    have h12q0 := s812 _ _ h8q0
    have h12q1 := s812 _ _ h8q1
    have s012 := s08.trans s812
    have hSq : ∀ {H' : Hp}, KeepL W H12 H' → SqL K H' a (ns.map V.int) := fun {H'} k => ((s012.keepL _).trans k).seq hS naW
    clear side0 side1 s9 s912 s812 h9c hes h10d h11d s10 s11 h10n h10S hA1 hA2 hp kt12 fp fpd10 npd fc fpd
    -- deed by deed
    refine ⟨_, rfl, pd, _, rfl, .inl (SqL.of h12d), _, rfl, by omega, by rw [List.length_map]; omega, ?_⟩
    have oS0 : Stage.Ok ⟨needs, heats, 0, 0⟩ := B.stage
    refine for_range (n := ((fs.map V.ref).length : Int).toNat) (fun i σ H' => ∃ (v6 v7 v8 v9 v10 v11 v12 v13 : Option V) (As Bs : List Act), σ = [some (.ref a), some (.ref pn), some (.ref ph), some (.ref pg), some (.ref pt), some (.ref pd), v6, v7, v8, v9, v10, v11, v12, v13] ∧ As.length = i ∧ Bs.length = i ∧ KeepL W H12 H' ∧ Side G H' W ⟨needs, heats, 0, 0⟩ x0 pk0 ps0 a0 b0 z0 As ∧ Side G H' W ⟨needs, heats, 0, 0⟩ x1 pk1 ps1 a1 b1 z1 Bs ∧ LeS (runS ⟨needs, heats, 0, 0⟩ As) (runS ⟨needs, heats, 0, 0⟩ Bs)) ?_ ?_ ?_
    · exact ⟨_, _, _, _, _, _, _, _, [], [], rfl, rfl, rfl, KeepL.refl _ _, d12_0, d12_1, rfl, LeL.refl _ _⟩
    · rintro i σ H13 hi ⟨v6, v7, v8, v9, v10, v11, v12, v13, As, Bs, rfl, hAl, hBl', k13, d0', d1', le⟩
      rw [List.length_map] at hi
      have hi' : i < fs.length := by omega
      rw [show (0 : Int) + (i : Int) = (i : Int) by omega]
      have l12 : ∀ b ∈ W, ∃ xs, H12 b = some (.lst xs) := fun b hb => by
        rcases wl b hb with z | z
        · exact d12_0.lists b z
        · exact d12_1.lists b z
      obtain ⟨npd, f9, A, B', PP⟩ := hfs fs[i] (List.getElem_mem hi')
      have PP := PP.keep (k13.tups l12) (fun o e => k13 _ _ (o9 _ f9) e)
      obtain ⟨t1, t2, et, hA1, hA2⟩ := PP.ex
      have h13d := k13 _ _ ndW h12d
      have at_i : atI (fs.map V.ref) (i : Int) = some (.ref fs[i]) := atI_nat (by rw [List.getElem?_map, List.getElem?_eq_getElem hi']; rfl)
      have F1 := PP.fit1
      have F2 := PP.fit2
      have leA := PP.le
      generalize fs[i] = e at *
      have neW := o9 _ f9
      -- where to look
      refine ⟨_, rfl, _, rfl, pd, _, _, _, rfl, rfl, SqL.of h13d, at_i, e, _, _, _, rfl, rfl, SqL.of et, rfl, _, rfl, _, rfl, _, _, rfl, rfl, a, ns, 8 + i, ?_, hSq k13, t1, _, A, rfl, hA1, F1, fun H14 pp m so s14 fpp hpp hb => ?_⟩
      · show [V.ref a, V.int (8 + (i : Int))] = [V.ref a, V.int ((8 + i : Nat) : Int)]
        rw [show (8 : Int) + (i : Int) = ((8 + i : Nat) : Int) by omega]
      have h14d := s14 _ _ h13d
      have h14e := s14 _ _ et
      have d0 := d0'.same s14
      have d1 := d1'.same s14
      have k14 := k13.trans (s14.keepL W)
      have oS := runS_ok oS0 As d0.fit
      have oT := runS_ok oS0 Bs d1.fit
      have npW : pp ∉ W := alW d0' d1' pp fpp
      refine ⟨sz9, fun pi fpi => ?_⟩
      have niW : pi ∉ W := alW d0 d1 pi fpi
      have s15 := Same.upd (o := .lst []) fpi
      have e15 : (upd H14 pi (.lst [])) pi = some (.lst (([] : List Addr).map V.ref)) := upd_same
      have d0 := (d0.fresh fpi).same s15
      have d1 := (d1.fresh fpi).same s15
      have npi : pp ≠ pi := ne_of_none hpp fpi
      have ndi : pd ≠ pi := ne_of_none h14d fpi
      have nei : e ≠ pi := ne_of_none h14e fpi
      have ngi : pg ≠ pi := ne_of_none (k14 _ _ ngW h12g) fpi
      have nti : pt ≠ pi := ne_of_none (k14 _ _ ntW h12t) fpi
      have nq0i : q0 ≠ pi := ne_of_none (k14 _ _ nq0W h12q0) fpi
      have nq1i : q1 ≠ pi := ne_of_none (k14 _ _ nq1W h12q1) fpi
      have k15 := k14.trans (s15.keepL W)
      have h15p := s15 _ _ hpp
      have hA15 := hA1.same (s14.trans s15)
      have hB15 := hA2.same (s14.trans s15)
      have h15e := s15 _ _ h14e
      generalize upd H14 pi (.lst []) = H15 at s15 e15 d0 d1 k15 h15p hA15 hB15 h15e ⊢
      have out : ∀ b, b ∉ W → b ≠ pi → b ∉ W ++ [pi] := fun b n1 n2 z => by
        rcases List.mem_append.mp z with z | z
        · exact n1 z
        · exact n2 (by simpa using z)
      have l15 : ∀ {H' : Hp} {Cs Ds : List Act} {is : List Addr}, Side G H' (W ++ [pi]) ⟨needs, heats, 0, 0⟩ x0 pk0 ps0 a0 b0 z0 Cs → Side G H' (W ++ [pi]) ⟨needs, heats, 0, 0⟩ x1 pk1 ps1 a1 b1 z1 Ds → H' pi = some (.lst (is.map V.ref)) → ∀ b ∈ W ++ [pi], ∃ xs, H' b = some (.lst xs) := fun {H' Cs Ds is} d0 d1 hp b hb => by
        rcases List.mem_append.mp hb with z | z
        · rcases wl b z with z | z
          · exact d0.lists b z
          · exact d1.lists b z
        · obtain rfl : b = pi := by simpa using z
          exact ⟨_, hp⟩
      generalize hRL : (fun j : Nat => if j = 0 then (reachS (runS ⟨needs, heats, 0, 0⟩ As) A.deed.row m so).heats else (reachS (runS ⟨needs, heats, 0, 0⟩ Bs) B'.deed.row m so).heats) = RL
      have hbd : ∀ D : Act, LeA A D → D.isY = true → m ≤ D.deed.more ∧ 1 ≤ so ∧ so ≤ D.deed.row.length := fun D l y => by
        obtain ⟨yy, n', rfl⟩ := isY_ex y
        obtain ⟨ss, n, rfl⟩ := isY_ex (l.isY.symm.trans y)
        obtain ⟨z1, z2, z3⟩ := hb ss n rfl
        obtain ⟨l1, l2⟩ : n = n' ∧ LeR ss yy := l
        exact ⟨by show m ≤ n'; omega, z2, by show so ≤ yy.length; rw [← l2.len]; exact z3⟩
      -- both grounds
      refine ⟨_, rfl, by decide, by decide, ?_⟩
      refine for_range (n := (2 : Int).toNat) (fun j σ H' => ∃ (v9 v10 v11 v12 v13 : Option V) (As' Bs' : List Act) (is : List Addr), σ = [some (.ref a), some (.ref pn), some (.ref ph), some (.ref pg), some (.ref pt), some (.ref pd), some (.int (i : Int)), some (.ref pp), some (.ref pi), v9, v10, v11, v12, v13] ∧ KeepL (W ++ [pi]) H15 H' ∧ Side G H' (W ++ [pi]) ⟨needs, heats, 0, 0⟩ x0 pk0 ps0 a0 b0 z0 As' ∧ Side G H' (W ++ [pi]) ⟨needs, heats, 0, 0⟩ x1 pk1 ps1 a1 b1 z1 Bs' ∧ (j = 0 → As' = As ∧ Bs' = Bs) ∧ (j = 1 → As' = As ++ [A] ∧ Bs' = Bs) ∧ (2 ≤ j → As' = As ++ [A] ∧ Bs' = Bs ++ [B']) ∧ H' pi = some (.lst (is.map V.ref)) ∧ is.length = (if A.isY = true then j else 0) ∧ ∀ q b, is[q]? = some b → H' b = some (.lst ((RL q).map V.int)) ∧ b ∉ W ++ [pi]) ?_ ?_ ?_
      · exact ⟨v9, v10, v11, v12, v13, As, Bs, [], rfl, KeepL.refl _ _, d0, d1, fun _ => ⟨rfl, rfl⟩, by omega, by omega, e15, by split <;> rfl, fun q b h => by simp at h⟩
      · rintro j σ H16 hj ⟨v9, v10, v11, v12, v13, As', Bs', is, rfl, k16, D0, D1, c0, c1, _, h16i, isl, his⟩
        have hj : j < 2 := hj
        rw [show (0 : Int) + (j : Int) = (j : Int) by omega]
        have kt16 := k16.tups (l15 d0 d1 e15)
        obtain ⟨x, pk, ps, sa, sb, sz, qq, Cs, D, t, ax, aq, at_t, h16q, hD16, hF, hY, dd, hCl, hR, hDb, subj, uneq, cont⟩ : ∃ x pk ps sa sb sz qq Cs D t, atI [V.ref x0, V.ref x1] (j : Int) = some (.ref x) ∧ atI [V.ref q0, V.ref q1] (j : Int) = some (.ref qq) ∧ atI [V.ref t1, V.ref t2] (j : Int) = some (.ref t) ∧ H16 qq = some (.lst [.ref sa, .ref sb, .ref sz]) ∧ ActAt H16 t D ∧ D.Fit ∧ D.isY = A.isY ∧ Side G H16 (W ++ [pi]) ⟨needs, heats, 0, 0⟩ x pk ps sa sb sz Cs ∧ Cs.length = i ∧ RL j = (reachS (runS ⟨needs, heats, 0, 0⟩ Cs) D.deed.row m so).heats ∧ (D.isY = true → m ≤ D.deed.more ∧ 1 ≤ so ∧ so ≤ D.deed.row.length) ∧ (∀ b ∈ [pk, ps, sa, sb, sz], b ∈ W) ∧ (pk ≠ ps ∧ pk ≠ sa ∧ pk ≠ sb ∧ pk ≠ sz ∧ ps ≠ sa ∧ ps ≠ sb ∧ ps ≠ sz ∧ sa ≠ sb ∧ sa ≠ sz ∧ sb ≠ sz) ∧
            ∀ (H' : Hp), KeepL ([pk, ps, sa, sb, sz] ++ [pi]) H16 H' → Side G H' (W ++ [pi]) ⟨needs, heats, 0, 0⟩ x pk ps sa sb sz (Cs ++ [D]) → ∃ As'' Bs'', Side G H' (W ++ [pi]) ⟨needs, heats, 0, 0⟩ x0 pk0 ps0 a0 b0 z0 As'' ∧ Side G H' (W ++ [pi]) ⟨needs, heats, 0, 0⟩ x1 pk1 ps1 a1 b1 z1 Bs'' ∧ (j + 1 = 0 → As'' = As ∧ Bs'' = Bs) ∧ (j + 1 = 1 → As'' = As ++ [A] ∧ Bs'' = Bs) ∧ (2 ≤ j + 1 → As'' = As ++ [A] ∧ Bs'' = Bs ++ [B']) := by
          have li := l15 D0 D1 h16i
          have h2 : j = 0 ∨ j = 1 := by omega
          rcases h2 with rfl | rfl
          · obtain ⟨rfl, rfl⟩ := c0 rfl
            refine ⟨x0, pk0, ps0, a0, b0, z0, q0, As', A, t1, rfl, rfl, rfl, k16 _ _ (out _ nq0W nq0i) (s15 _ _ (k14 _ _ nq0W h12q0)), hA15.tup kt16, F1, rfl, D0, hAl, by rw [← hRL]; rfl, hbd A (LeA.refl A), sub0, d0s, fun H' k d' => ⟨_, _, d', D1.keep k (fun b hb => ?_) (fun b hb => ?_) (fun b hb z => ?_), by omega, fun _ => ⟨rfl, rfl⟩, by omega⟩⟩
            · rcases List.mem_append.mp hb with z | z
              · exact li b (List.mem_append_left _ (sub0 b z))
              · exact li b (List.mem_append_right _ z)
            · rcases List.mem_append.mp hb with z | z
              · exact List.mem_append_left _ (sub0 b z)
              · exact List.mem_append_right _ z
            · rcases List.mem_append.mp z with z | z
              · exact cross b hb z
              · obtain rfl : b = pi := by simpa using z
                exact niW (sub1 b hb)
          · obtain ⟨rfl, rfl⟩ := c1 rfl
            refine ⟨x1, pk1, ps1, a1, b1, z1, q1, Bs', B', t2, rfl, rfl, rfl, k16 _ _ (out _ nq1W nq1i) (s15 _ _ (k14 _ _ nq1W h12q1)), hB15.tup kt16, F2, leA.isY, D1, hBl', by rw [← hRL]; rfl, hbd B' leA, sub1, d1s, fun H' k d' => ⟨_, _, D0.keep k (fun b hb => ?_) (fun b hb => ?_) (fun b hb z => ?_), d', by omega, by omega, fun _ => ⟨rfl, rfl⟩⟩⟩
            · rcases List.mem_append.mp hb with z | z
              · exact li b (List.mem_append_left _ (sub1 b z))
              · exact li b (List.mem_append_right _ z)
            · rcases List.mem_append.mp hb with z | z
              · exact List.mem_append_left _ (sub1 b z)
              · exact List.mem_append_right _ z
            · rcases List.mem_append.mp z with z | z
              · exact cross' b hb z
              · obtain rfl : b = pi := by simpa using z
                exact niW (sub0 b hb)
        obtain ⟨ts, X, TT, ha, hb', hz⟩ := dd.ex
        have hTl := TT.len
        have oC := runS_ok oS0 Cs dd.fit
        have hCn := run_lens ⟨needs, heats, 0, 0⟩ Cs
        have hCn : (runS ⟨needs, heats, 0, 0⟩ Cs).needs.length ≤ needs.length + Cs.length := hCn
        have hlast := histS_last ⟨needs, heats, 0, 0⟩ Cs
        have hfirst := histS_first ⟨needs, heats, 0, 0⟩ Cs
        generalize eS : runS ⟨needs, heats, 0, 0⟩ Cs = S at *
        have hW16 : ∀ b, H16 b = none → b ∉ W ++ [pi] := fun b f z => by
          obtain ⟨xs, g⟩ := l15 D0 D1 h16i b z
          rw [f] at g; cases g
        have h16d := k16 _ _ (out _ ndW ndi) (k15 _ _ ndW h12d)
        have h16e := k16 _ _ (out _ neW nei) h15e
        have h16t := k16 _ _ (out _ ntW nti) (k15 _ _ ntW h12t)
        have h16g := k16 _ _ (out _ ngW ngi) (k15 _ _ ngW h12g)
        have h16p := k16 _ _ (out _ npW npi) h15p
        have subW : ∀ b ∈ [pk, ps, sa, sb, sz], b ∈ W ++ [pi] := fun b h => List.mem_append_left _ (subj b h)
        have nqW : qq ∉ W ++ [pi] := by
          have h2 : j = 0 ∨ j = 1 := by omega
          rcases h2 with rfl | rfl
          · have : V.ref q0 = .ref qq := Option.some.inj aq
            cases this
            exact out _ nq0W nq0i
          · have : V.ref q1 = .ref qq := Option.some.inj aq
            cases this
            exact out _ nq1W nq1i
        -- the deed, its state
        refine ⟨_, rfl, _, rfl, pd, _, _, _, rfl, rfl, SqL.of h16d, at_i, _, rfl, e, _, _, _, rfl, rfl, SqL.of h16e, at_t, ?_⟩
        refine ⟨_, rfl, _, rfl, pt, _, _, _, rfl, rfl, SqL.of h16t, aq, ?_⟩
        refine ⟨_, rfl, qq, _, _, _, rfl, rfl, SqL.of h16q, rfl, sb, _, rfl, .inl (SqL.of hb'), fun pa fpa => ?_⟩
        have s17 := Same.upd (o := .lst (S.heats.map V.int)) fpa
        have e17 : (upd H16 pa (.lst (S.heats.map V.int))) pa = some (.lst (S.heats.map V.int)) := upd_same
        generalize upd H16 pa (.lst (S.heats.map V.int)) = H17 at s17 e17 ⊢
        have npaW := hW16 pa fpa
        refine ⟨_, rfl, qq, _, _, _, rfl, rfl, SqL.of (s17 _ _ h16q), rfl, _, rfl, qq, _, _, _, rfl, rfl, SqL.of (s17 _ _ h16q), rfl, _, rfl, qq, _, _, _, rfl, rfl, SqL.of (s17 _ _ h16q), rfl, _, rfl, sa, sb, sz, t, S, 0, D, rfl, s17 _ _ ha, s17 _ _ hb', s17 _ _ hz, hD16.same s17, hF, uneq.2.2.2.2.2.2.2.1, uneq.2.2.2.2.2.2.2.2.1, uneq.2.2.2.2.2.2.2.2.2, oC.heats, oC.lo, by omega, fun H18 pw k18 fpw h18a h18b h18z h18w => ?_⟩
        obtain ⟨u1, u2, u3, u4, u5, u6, u7, u8, u9, u10⟩ := uneq
        have l17 : ∀ b ∈ [sa, sb, sz], ∃ xs, H17 b = some (.lst xs) := fun b h => by
          simp only [List.mem_cons, List.not_mem_nil, or_false] at h
          rcases h with rfl | rfl | rfl
          · exact ⟨_, s17 _ _ ha⟩
          · exact ⟨_, s17 _ _ hb'⟩
          · exact ⟨_, s17 _ _ hz⟩
        have sub3 : ∀ b ∈ [sa, sb, sz], b ∈ W ++ [pi] := fun b h => subW b (by simp only [List.mem_cons, List.not_mem_nil, or_false] at h ⊢; grind)
        have nkk : pk ∉ [sa, sb, sz] ∧ ps ∉ [sa, sb, sz] := by
          simp only [List.mem_cons, List.not_mem_nil, or_false, not_or]
          exact ⟨⟨u2, u3, u4⟩, u5, u6, u7⟩
        have X18 := (X.same s17).keepL k18 l17 nkk.1 nkk.2 (fun b e z => e (sub3 b z))
        have kt18 := k18.tups l17
        have o18 : ∀ b o, b ∉ W ++ [pi] → H16 b = some o → H18 b = some o := fun b o n g => k18 _ _ (fun z => n (sub3 b z)) (s17 _ _ g)
        have a18 : ∀ b o, b ∉ [sa, sb, sz] → H16 b = some o → H18 b = some o := fun b o n g => k18 _ _ n (s17 _ _ g)
        have fr18 : ∀ b, H18 b = none → H16 b = none := fun b f => s17.free (k18.free (fun c hc => by
          simp only [List.mem_cons, List.not_mem_nil, or_false] at hc
          rcases hc with rfl | rfl | rfl
          · exact ⟨_, h18a⟩
          · exact ⟨_, h18b⟩
          · exact ⟨_, h18z⟩) f)
        have hD18 := (hD16.same s17).tup kt18
        have h18g := o18 _ _ (out _ ngW ngi) h16g
        have h18q := o18 _ _ nqW h16q
        have npwW := hW16 pw (s17.free fpw)
        -- it is done
        refine ⟨_, rfl, _, rfl, pg, _, _, _, rfl, rfl, SqL.of h18g, ax, _, rfl, x, pk, ps, t, _, _, S, ⟨needs, heats, 0, 0⟩, D, _, rfl, X18, fun b f => hW16 b (fr18 b f), hlast, hfirst, by rw [List.length_map]; omega, by rw [histS_len]; omega, hD18, hF, fun _ => by omega, oC.heats, oC.lo, by omega, fun H19 v u k19 fu hu hv X19 => ?_⟩
        obtain ⟨_, _, _, x2, x3, _⟩ := id X18.ex
        have kt19 := k19.tups x2 x3
        have subk : ∀ b, b ∉ W ++ [pi] → b ≠ pk ∧ b ≠ ps := fun b n => ⟨fun z => n (z ▸ subW pk (by simp)), fun z => n (z ▸ subW ps (by simp))⟩
        have o19 : ∀ b o, b ∉ W ++ [pi] → H18 b = some o → H19 b = some o := fun b o n g => k19 _ _ (subk b n).1 (subk b n).2 g
        have h19g := o19 _ _ (out _ ngW ngi) h18g
        have h19q := o19 _ _ nqW h18q
        have h19a := k19 _ _ (Ne.symm u2) (Ne.symm u5) h18a
        have h19b := k19 _ _ (Ne.symm u3) (Ne.symm u6) h18b
        have h19z := k19 _ _ (Ne.symm u4) (Ne.symm u7) h18z
        have hD19 := hD18.tup kt19
        refine ⟨_, rfl, _, rfl, v, t, pw, S, D, rfl, hD19, hv, o19 _ _ npwW h18w, _, rfl, ?_⟩
        refine iteF ?_
        obtain ⟨dx19, _, g19, _⟩ := id X19.ex
        have X19 : GroundX G (fun b => b ∉ W ++ [pi]) H19 x pk ps ((ts ++ [u]).map V.ref) (histS ⟨needs, heats, 0, 0⟩ (Cs ++ [D])) := by
          rw [List.map_append, histS_snoc, eS]; exact X19
        have hl19 : (histS ⟨needs, heats, 0, 0⟩ (Cs ++ [D])).getLast? = some (doS S D) := by rw [histS_last, runS_snoc, eS]
        have oD := oC.do hF
        have hDn := do_len S D
        have hDl := oD.heats.len
        refine ⟨_, rfl, _, rfl, pg, _, _, _, rfl, rfl, SqL.of h19g, ax, x, dx19, _, rfl, g19, gN, x, _, _, doS S D, rfl, X19.at, hl19, fun H20 l s20 fl h20l => ?_⟩
        refine ⟨_, rfl, qq, _, _, _, rfl, rfl, SqL.of (s20 _ _ h19q), rfl, l, sb, _, rfl, h20l, SqL.of (s20 _ _ h19b), by split at hDn <;> omega, _, rfl, ?_⟩
        refine iteF ?_
        have side20 : Side G H20 (W ++ [pi]) ⟨needs, heats, 0, 0⟩ x pk ps sa sb sz (Cs ++ [D]) := by
          refine ⟨⟨ts ++ [u], X19.same s20, (((((TT.same s17).tup kt18).tup kt19).snoc hu).same s20), ?_, ?_, ?_⟩, fun A' h => ?_⟩
          · rw [runS_snoc, eS]; exact s20 _ _ h19a
          · rw [runS_snoc, eS]; exact s20 _ _ h19b
          · rw [runS_snoc, eS]; exact s20 _ _ h19z
          · rcases List.mem_append.mp h with h | h
            · exact dd.fit A' h
            · obtain rfl : A' = D := by simpa using h
              exact hF
        have kk20 : KeepL [pk, ps, sa, sb, sz] H16 H20 := fun b o n g => by
          simp only [List.mem_cons, List.not_mem_nil, or_false, not_or] at n
          obtain ⟨n1, n2, n3, n4, n5⟩ := n
          exact s20 _ _ (k19 _ _ n1 n2 (a18 _ _ (by simp only [List.mem_cons, List.not_mem_nil, or_false, not_or]; exact ⟨n3, n4, n5⟩) g))
        have npk : pi ∉ [pk, ps, sa, sb, sz] := fun z => niW (subj pi z)
        have h20i := kk20 _ _ npk h16i
        have h20p := kk20 _ _ (fun z => npW (subj pp z)) h16p
        have h20g := s20 _ _ h19g
        have h20q := s20 _ _ h19q
        have hD20 := hD19.same s20
        have h20pa := s20 _ _ (o19 _ _ npaW (k18 _ _ (fun z => npaW (sub3 pa z)) e17))
        obtain ⟨r20, er⟩ := hD20.head
        refine ⟨_, rfl, t, _, _, _, rfl, rfl, SqT.of er, atI_nat (j := 0) rfl, rfl, _, rfl, ?_⟩
        rw [actN_isY]
        have kW20 : KeepL (W ++ [pi]) H15 H20 := k16.trans (kk20.mono subW)
        cases hy : D.isY with
        | false =>
          refine iteF ?_
          obtain ⟨As2, Bs2, D0', D1', w0, w1, w2⟩ := cont H20 (kk20.mono (fun b h => List.mem_append_left _ h)) side20
          refine ⟨_, _, _, _, _, As2, Bs2, is, rfl, kW20, D0', D1', w0, w1, w2, h20i, ?_, fun q b h => ?_⟩
          · rw [isl, ← hY, hy]; rfl
          · obtain ⟨m1, m2⟩ := his q b h
            exact ⟨kk20 _ _ (fun z => m2 (subW b z)) m1, m2⟩
        | true =>
          refine iteT ?_
          have fr20 : ∀ b, H20 b = none → b ∉ W ++ [pi] := fun b f => hW16 b (kk20.free (fun c hc => let ⟨xs, g⟩ := side20.lists c hc; ⟨_, g⟩) f)
          obtain ⟨bd1, bd2, bd3⟩ := hDb hy
          have hAY : A.isY = true := by rw [← hY]; exact hy
          obtain ⟨ss, n, rfl⟩ := isY_ex hy
          obtain ⟨y1, y2, y3, y4⟩ : 1 ≤ ss.length ∧ ss.length ≤ 12 ∧ (∀ z ∈ ss, 0 ≤ z.2 ∧ z.2 ≤ 1000000) ∧ (n : Int) + 1 ≤ 1000000000000000000 := hF
          have bd1 : m ≤ n := bd1
          have bd3 : so ≤ ss.length := bd3
          have hTl' : ts.length = i := by omega
          have k_at : ((ts ++ [u]).map V.ref)[i]? = some (.ref u) := by
            rw [List.getElem?_map, List.getElem?_append_right (by omega), show i - ts.length = 0 by omega]; rfl
          have s_at : (histS ⟨needs, heats, 0, 0⟩ (Cs ++ [.yrs ss n]))[i]? = some S := by
            rw [histS_at _ _ (by rw [List.length_append]; omega), ← hCl, List.take_left, eS]
          have hu20 : DeedAt H20 u (.yrs ss n) := (hu.same s20).deed rfl
          refine ⟨_, rfl, .inl ⟨rfl, _, SqL.of h20i⟩, _, rfl, _, rfl, pg, _, _, _, rfl, rfl, SqL.of h20g, ax, x, dx19, _, rfl, s20 _ _ g19, gN, _, rfl, _, _, rfl, rfl, _, rfl, pp, _, _, _, rfl, rfl, SqL.of h20p, rfl, _, rfl, pp, _, _, _, rfl, rfl, SqL.of h20p, rfl, x, u, _, _, S, .yrs ss n, i, m, so, rfl, (X19.same s20).at, k_at, s_at, hu20, by show ss.length ≤ 1000; omega, y3, y4, bd1, bd2, bd3, oC.heats, oC.lo, by omega, fun H21 lf s21 flf h21f => ?_⟩
          have h21i := s21 _ _ h20i
          have nlf := fr20 lf flf
          have nlfi : lf ≠ pi := fun z => nlf (z ▸ List.mem_append_right _ (by simp))
          have isl : is.length = j := by rw [isl, if_pos hAY]
          refine ⟨pi, _, _, rfl, rfl, h21i, sz1000 (by rw [List.length_map]; omega), ?_⟩
          have k22 : KeepL [pi] H21 (upd H21 pi (.lst (is.map V.ref ++ [.ref lf]))) := keepL_upd (by simp)
          have kt22 := keepT_upd (o := .lst (is.map V.ref ++ [.ref lf])) h21i
          have h22i : (upd H21 pi (.lst (is.map V.ref ++ [.ref lf]))) pi = some (.lst ((is ++ [lf]).map V.ref)) := by rw [upd_same, List.map_append]; rfl
          generalize upd H21 pi (.lst (is.map V.ref ++ [.ref lf])) = H22 at k22 kt22 h22i ⊢
          have one : ∀ {b : Addr}, b ≠ pi → b ∉ [pi] := fun {b} z h => z (by simpa using h)
          have side22 : Side G H22 (W ++ [pi]) ⟨needs, heats, 0, 0⟩ x pk ps sa sb sz (Cs ++ [.yrs ss n]) := (side20.same s21).keep k22 (fun b hb => by obtain rfl : b = pi := (by simpa using hb); exact ⟨_, h21i⟩) (fun b hb => List.mem_append_right _ hb) (fun d hd => one (fun z => niW (subj pi (z ▸ hd))))
          have p22 : ∀ b o, b ≠ pi → H20 b = some o → H22 b = some o := fun b o nb g => k22 _ _ (one nb) (s21 _ _ g)
          have h22f := k22 _ _ (one nlfi) h21f
          have nqi : qq ≠ pi := fun z => nqW (z ▸ List.mem_append_right _ (by simp))
          have npai : pa ≠ pi := fun z => npaW (z ▸ List.mem_append_right _ (by simp))
          have h22q := p22 _ _ nqi h20q
          have h22p := p22 _ _ npi h20p
          have h22pa := p22 _ _ npai h20pa
          have h22sa := p22 _ _ (fun z => niW (subj pi (by simp [← z]))) (s20 _ _ h19a)
          obtain ⟨u', ts', a1, a2, a3⟩ := hD20.tup (s21.keepT.trans kt22)
          have hl' := a3.len
          have at_j : atI ((is ++ [lf]).map V.ref) (j : Int) = some (.ref lf) := atI_nat (by rw [List.getElem?_map, List.getElem?_append_right (by omega), show j - is.length = 0 by omega]; rfl)
          refine ⟨_, rfl, _, rfl, pi, _, _, _, rfl, rfl, SqL.of h22i, at_j, _, rfl, qq, _, _, _, rfl, rfl, SqL.of h22q, rfl, _, rfl, _, rfl, t, _, _, _, rfl, rfl, SqT.of a1, rfl, u', _, rfl, .inr (SqT.of a2), fun lc flc => ?_⟩
          have s23 := Same.upd (o := .lst (ts'.map V.ref)) flc
          have e23 : (upd H22 lc (.lst (ts'.map V.ref))) lc = some (.lst (ts'.map V.ref)) := upd_same
          generalize upd H22 lc (.lst (ts'.map V.ref)) = H23 at s23 e23 ⊢
          refine ⟨_, rfl, pp, _, _, _, rfl, rfl, SqL.of (s23 _ _ h22p), rfl, _, _, rfl, rfl, _, rfl, pp, _, _, _, rfl, rfl, SqL.of (s23 _ _ h22p), rfl, sa, pa, lc, S.needs, S.heats, ts', ss, m, so, ?_, SqL.of (s23 _ _ h22sa), SqL.of (s23 _ _ h22pa), SqL.of e23, a3.same s23, oC.heats, by omega, fun z hz => (y3 z hz).1, by omega, by omega, fun H24 pf s24 fpf h24f => ?_⟩
          · show [V.ref sa, V.ref pa, V.ref lc, V.int ((m : Int) + 1 - 1), V.int (so : Int)] = [V.ref sa, V.ref pa, V.ref lc, V.int (m : Int), V.int (so : Int)]
            rw [show (m : Int) + 1 - 1 = (m : Int) by omega]
          have hfl := (farL_ok oC.heats ss m so).len
          refine ⟨lf, pf, farL S.needs S.heats ss m so, rfl, s24 _ _ (s23 _ _ h22f), SqL.of h24f, by omega, _, rfl, ?_⟩
          refine iteF ?_
          have s2224 := s23.trans s24
          have kk24 : KeepL ([pk, ps, sa, sb, sz] ++ [pi]) H16 H24 := (kk20.mono (fun b h => List.mem_append_left _ h)).trans (((s21.keepL _).trans (k22.mono (fun b h => List.mem_append_right _ h))).trans (s2224.keepL _))
          have sub24 : ∀ b ∈ [pk, ps, sa, sb, sz] ++ [pi], b ∈ W ++ [pi] := fun b h => by
            rcases List.mem_append.mp h with h | h
            · exact subW b h
            · exact List.mem_append_right _ h
          obtain ⟨As2, Bs2, D0', D1', w0, w1, w2⟩ := cont H24 kk24 (side22.same s2224)
          refine ⟨_, _, _, _, _, As2, Bs2, is ++ [lf], rfl, k16.trans (kk24.mono sub24), D0', D1', w0, w1, w2, s2224 _ _ h22i, ?_, fun q b h => ?_⟩
          · rw [List.length_append, isl, if_pos hAY]; rfl
          · rcases snoc_at h with ⟨_, h⟩ | ⟨rfl, rfl⟩
            · obtain ⟨m1, m2⟩ := his q b h
              exact ⟨kk24 _ _ (fun z => m2 (sub24 b z)) m1, m2⟩
            · refine ⟨?_, nlf⟩
              rw [isl, hR]
              exact s2224 _ _ h22f
      · rintro σ H16 ⟨v9, v10, v11, v12, v13, As', Bs', is, rfl, k16, D0, D1, _, _, c2, h16i, isl, his⟩
        obtain ⟨rfl, rfl⟩ := c2 (Nat.le_refl 2)
        have leS := le.do oS oT leA
        rw [← runS_snoc, ← runS_snoc] at leS
        have oS2 := runS_ok oS0 _ D0.fit
        have oT2 := runS_ok oS0 _ D1.fit
        have hln := run_lens ⟨needs, heats, 0, 0⟩ (As ++ [A])
        rw [List.length_append] at hln
        have hln : (runS ⟨needs, heats, 0, 0⟩ (As ++ [A])).needs.length ≤ needs.length + (As.length + 1) := hln
        have h1 := oS2.heats.len
        have h2 := oT2.heats.len
        rw [← leS.needs] at h2
        have h16g := k16 _ _ (out _ ngW ngi) (k15 _ _ ngW h12g)
        obtain ⟨_, X0, _⟩ := D0.ex
        obtain ⟨_, X1, _⟩ := D1.ex
        obtain ⟨dx0, _, g0, _⟩ := id X0.ex
        obtain ⟨dx1, _, g1, _⟩ := id X1.ex
        refine ⟨_, rfl, pg, _, _, _, rfl, rfl, SqL.of h16g, rfl, x0, dx0, _, rfl, g0, gN, x0, _, _, _, rfl, X0.at, histS_last _ _, fun H17 l0 s17 fl0 h17 => ?_⟩
        refine ⟨_, rfl, pg, _, _, _, rfl, rfl, SqL.of (s17 _ _ h16g), rfl, x1, dx1, _, rfl, s17 _ _ g1, gN, x1, _, _, _, rfl, (X1.same s17).at, histS_last _ _, fun H18 l1 s18 fl1 h18 => ?_⟩
        refine ⟨l0, l1, _, _, rfl, SqL.of (s18 _ _ h17), SqL.of h18, by omega, by omega, fun k hk => leS.le k (by omega), _, rfl, ?_⟩
        refine iteF ?_
        have s1618 := s17.trans s18
        refine ⟨_, rfl, sz9, fun pe fe => ?_⟩
        have s19 := Same.upd (o := .lst []) fe
        have e19 : (upd H18 pe (.lst [])) pe = some (.lst []) := upd_same
        generalize upd H18 pe (.lst []) = H19 at s19 e19 ⊢
        have s1619 := s1618.trans s19
        have h19i := s1619 _ _ h16i
        refine ⟨pi, pe, _, rfl, rfl, SqL.of h19i, SqL.of e19, _, rfl, ?_⟩
        have kend : KeepL W H12 H19 := k14.trans ((KeepL.drop (M := [pi]) (L := W) ((s15.keepL _).trans k16) (fun b hb => by obtain rfl : b = pi := (by simpa using hb); exact fpi)).trans (s1619.keepL _))
        have fin : ∀ σ : St, σ = [some (.ref a), some (.ref pn), some (.ref ph), some (.ref pg), some (.ref pt), some (.ref pd), some (.int (i : Int)), some (.ref pp), some (.ref pi), v9, v10, v11, v12, v13] → ∃ (v6 v7 v8 v9 v10 v11 v12 v13 : Option V) (As Bs : List Act), σ = [some (.ref a), some (.ref pn), some (.ref ph), some (.ref pg), some (.ref pt), some (.ref pd), v6, v7, v8, v9, v10, v11, v12, v13] ∧ As.length = i + 1 ∧ Bs.length = i + 1 ∧ KeepL W H12 H19 ∧ Side G H19 W ⟨needs, heats, 0, 0⟩ x0 pk0 ps0 a0 b0 z0 As ∧ Side G H19 W ⟨needs, heats, 0, 0⟩ x1 pk1 ps1 a1 b1 z1 Bs ∧ LeS (runS ⟨needs, heats, 0, 0⟩ As) (runS ⟨needs, heats, 0, 0⟩ Bs) := fun σ e => ⟨_, _, _, _, _, _, _, _, As ++ [A], Bs ++ [B'], e, by rw [List.length_append, hAl]; rfl, by rw [List.length_append, hBl']; rfl, kend, (D0.same s1619).weak (fun b hb => List.mem_append_left _ hb), (D1.same s1619).weak (fun b hb => List.mem_append_left _ hb), leS⟩
        cases hy : A.isY with
        | false =>
          rw [if_neg (by rw [hy]; decide)] at isl
          obtain rfl : is = [] := List.eq_nil_of_length_eq_zero isl
          refine iteF ?_
          exact fin _ rfl
        | true =>
          rw [if_pos hy] at isl
          obtain ⟨ra, rb, rfl⟩ : ∃ ra rb, is = [ra, rb] := by
            match is, isl with
            | [p, r], _ => exact ⟨p, r, rfl⟩
          refine iteT ?_
          obtain ⟨ss, n, rfl⟩ := isY_ex hy
          obtain ⟨yy, n', rfl⟩ := isY_ex (leA.isY.trans hy)
          obtain ⟨l1', l2'⟩ : n = n' ∧ LeR ss yy := leA
          have hra := s1619 _ _ (his 0 ra rfl).1
          have hrb := s1619 _ _ (his 1 rb rfl).1
          rw [← hRL] at hra hrb
          have hra : H19 ra = some (.lst ((farL (runS ⟨needs, heats, 0, 0⟩ As).needs (runS ⟨needs, heats, 0, 0⟩ As).heats ss m so).map V.int)) := hra
          have hrb : H19 rb = some (.lst ((farL (runS ⟨needs, heats, 0, 0⟩ Bs).needs (runS ⟨needs, heats, 0, 0⟩ Bs).heats yy m so).map V.int)) := hrb
          have hT' : HeatsOk (runS ⟨needs, heats, 0, 0⟩ As).needs (runS ⟨needs, heats, 0, 0⟩ Bs).heats := by rw [le.needs]; exact oT.heats
          rw [← le.needs] at hrb
          have hf1 := (farL_ok oS.heats ss m so).len
          have hf2 := (farL_ok hT' yy m so).len
          have hln1 := run_lens ⟨needs, heats, 0, 0⟩ As
          have hln1 : (runS ⟨needs, heats, 0, 0⟩ As).needs.length ≤ needs.length + As.length := hln1
          refine ⟨_, rfl, pi, _, _, _, rfl, rfl, SqL.of h19i, rfl, _, rfl, pi, _, _, _, rfl, rfl, SqL.of h19i, rfl, ra, rb, _, _, rfl, SqL.of hra, SqL.of hrb, by omega, by omega, fun k hk => far_mono oS.heats hT' le.le l2' m so k (by omega), _, rfl, ?_⟩
          refine iteF ?_
          exact fin _ rfl
    · rintro σ H13 ⟨v6, v7, v8, v9, v10, v11, v12, v13, As, Bs, rfl, _⟩
      exact q _
end
theorem len1 {fd : FuncData} {ps : List Str} {us : List Value} (hl : us.length = 1) (h : ∀ a, bindArgs fd ⟨[a], []⟩ = pure (ps.zip [a])) : bindArgs fd ⟨us, []⟩ = pure (ps.zip us) := match us, hl with | [a], _ => h a
theorem len2 {fd : FuncData} {ps : List Str} {us : List Value} (hl : us.length = 2) (h : ∀ a b, bindArgs fd ⟨[a, b], []⟩ = pure (ps.zip [a, b])) : bindArgs fd ⟨us, []⟩ = pure (ps.zip us) := match us, hl with | [a, b], _ => h a b
theorem len3 {fd : FuncData} {ps : List Str} {us : List Value} (hl : us.length = 3) (h : ∀ a b c, bindArgs fd ⟨[a, b, c], []⟩ = pure (ps.zip [a, b, c])) : bindArgs fd ⟨us, []⟩ = pure (ps.zip us) := match us, hl with | [a, b, c], _ => h a b c
theorem len4 {fd : FuncData} {ps : List Str} {us : List Value} (hl : us.length = 4) (h : ∀ a b c d, bindArgs fd ⟨[a, b, c, d], []⟩ = pure (ps.zip [a, b, c, d])) : bindArgs fd ⟨us, []⟩ = pure (ps.zip us) := match us, hl with | [a, b, c, d], _ => h a b c d
theorem len5 {fd : FuncData} {ps : List Str} {us : List Value} (hl : us.length = 5) (h : ∀ a b c d e, bindArgs fd ⟨[a, b, c, d, e], []⟩ = pure (ps.zip [a, b, c, d, e])) : bindArgs fd ⟨us, []⟩ = pure (ps.zip us) := match us, hl with | [a, b, c, d, e], _ => h a b c d e
theorem len6 {fd : FuncData} {ps : List Str} {us : List Value} (hl : us.length = 6) (h : ∀ a b c d e f, bindArgs fd ⟨[a, b, c, d, e, f], []⟩ = pure (ps.zip [a, b, c, d, e, f])) : bindArgs fd ⟨us, []⟩ = pure (ps.zip us) := match us, hl with | [a, b, c, d, e, f], _ => h a b c d e f
theorem all_mk {l : W.OpenLaw} {w : World} {K : W.Frag} {h : Heap} {mg : Str → Option Value} {fa G tD f_x61 f_x49 f_x32 f_x60 f_x50 f_x57 f_x55 f_x47 f_x58 f_x39 f_x42 f_x34 f_x51 f_x7 f_x5 f_x37 f_x0 f_x35 f_x1 f_x43 f_x30 f_x41 f_x9 f_x48 f_x15 f_x29 f_x40 f_x25 f_x13 f_x24 f_x14 f_x10 f_x16 f_x11 f_x23 f_x6 f_x26 f_x33 f_x3 f_x38 f_x36 f_x21 f_x20 f_x45 f_x22 f_x28 f_x62 f_x63 f_x46 f_x52 f_x56 f_x53 f_x54 f_x44 f_x31 f_x18 f_x12 f_x17 f_x27 f_x19 f_x8 f_x4 f_x2 f_law : Addr} {oD : Obj} {nD : Nat} (X : K.In h) (GX : h.Ns mainGlobals mg) (hfa : mg "law" = some (.ref fa))
    {od_x61 an_x61 od_x49 an_x49 od_x32 an_x32 od_x60 an_x60 od_x50 an_x50 od_x57 an_x57 od_x55 an_x55 od_x47 an_x47 od_x58 an_x58 od_x39 an_x39 od_x42 an_x42 od_x34 an_x34 od_x51 an_x51 od_x7 an_x7 od_x5 an_x5 od_x37 an_x37 od_x0 an_x0 od_x35 an_x35 od_x1 an_x1 od_x43 an_x43 od_x30 an_x30 od_x41 an_x41 od_x9 an_x9 od_x48 an_x48 od_x15 an_x15 od_x29 an_x29 od_x40 an_x40 od_x25 an_x25 od_x13 an_x13 od_x24 an_x24 od_x14 an_x14 od_x10 an_x10 od_x16 an_x16 od_x11 an_x11 od_x23 an_x23 od_x6 an_x6 od_x26 an_x26 od_x33 an_x33 od_x3 an_x3 od_x38 an_x38 od_x36 an_x36 od_x21 an_x21 od_x20 an_x20 od_x45 an_x45 od_x22 an_x22 od_x28 an_x28 od_x62 an_x62 od_x63 an_x63 od_x46 an_x46 od_x52 an_x52 od_x56 an_x56 od_x53 an_x53 od_x54 an_x54 od_x44 an_x44 od_x31 an_x31 od_x18 an_x18 od_x12 an_x12 od_x17 an_x17 od_x27 an_x27 od_x19 an_x19 od_x8 an_x8 od_x4 an_x4 od_x2 an_x2 od_law an_law : Option Addr} {sl_x61 sl_x49 sl_x32 sl_x60 sl_x50 sl_x57 sl_x55 sl_x47 sl_x58 sl_x39 sl_x42 sl_x34 sl_x51 sl_x7 sl_x5 sl_x37 sl_x0 sl_x35 sl_x1 sl_x43 sl_x30 sl_x41 sl_x9 sl_x48 sl_x15 sl_x29 sl_x40 sl_x25 sl_x13 sl_x24 sl_x14 sl_x10 sl_x16 sl_x11 sl_x23 sl_x6 sl_x26 sl_x33 sl_x3 sl_x38 sl_x36 sl_x21 sl_x20 sl_x45 sl_x22 sl_x28 sl_x62 sl_x63 sl_x46 sl_x52 sl_x56 sl_x53 sl_x54 sl_x44 sl_x31 sl_x18 sl_x12 sl_x17 sl_x27 sl_x19 sl_x8 sl_x4 sl_x2 sl_law : Array (Option Value)} {oc_x61 kV_x61 dc_x61 pm_x61 cv_x61 ct_x61 oc_x49 kV_x49 dc_x49 pm_x49 cv_x49 ct_x49 oc_x32 kV_x32 dc_x32 pm_x32 cv_x32 ct_x32 oc_x60 kV_x60 dc_x60 pm_x60 cv_x60 ct_x60 oc_x50 kV_x50 dc_x50 pm_x50 cv_x50 ct_x50 oc_x57 kV_x57 dc_x57 pm_x57 cv_x57 ct_x57 oc_x55 kV_x55 dc_x55 pm_x55 cv_x55 ct_x55 oc_x47 kV_x47 dc_x47 pm_x47 cv_x47 ct_x47 oc_x58 kV_x58 dc_x58 pm_x58 cv_x58 ct_x58 oc_x39 kV_x39 dc_x39 pm_x39 cv_x39 ct_x39 oc_x42 kV_x42 dc_x42 pm_x42 cv_x42 ct_x42 oc_x34 kV_x34 dc_x34 pm_x34 cv_x34 ct_x34 oc_x51 kV_x51 dc_x51 pm_x51 cv_x51 ct_x51 oc_x7 kV_x7 dc_x7 pm_x7 cv_x7 ct_x7 oc_x5 kV_x5 dc_x5 pm_x5 cv_x5 ct_x5 oc_x37 kV_x37 dc_x37 pm_x37 cv_x37 ct_x37 oc_x0 kV_x0 dc_x0 pm_x0 cv_x0 ct_x0 oc_x35 kV_x35 dc_x35 pm_x35 cv_x35 ct_x35 oc_x1 kV_x1 dc_x1 pm_x1 cv_x1 ct_x1 oc_x43 kV_x43 dc_x43 pm_x43 cv_x43 ct_x43 oc_x30 kV_x30 dc_x30 pm_x30 cv_x30 ct_x30 oc_x41 kV_x41 dc_x41 pm_x41 cv_x41 ct_x41 oc_x9 kV_x9 dc_x9 pm_x9 cv_x9 ct_x9 oc_x48 kV_x48 dc_x48 pm_x48 cv_x48 ct_x48 oc_x15 kV_x15 dc_x15 pm_x15 cv_x15 ct_x15 oc_x29 kV_x29 dc_x29 pm_x29 cv_x29 ct_x29 oc_x40 kV_x40 dc_x40 pm_x40 cv_x40 ct_x40 oc_x25 kV_x25 dc_x25 pm_x25 cv_x25 ct_x25 oc_x13 kV_x13 dc_x13 pm_x13 cv_x13 ct_x13 oc_x24 kV_x24 dc_x24 pm_x24 cv_x24 ct_x24 oc_x14 kV_x14 dc_x14 pm_x14 cv_x14 ct_x14 oc_x10 kV_x10 dc_x10 pm_x10 cv_x10 ct_x10 oc_x16 kV_x16 dc_x16 pm_x16 cv_x16 ct_x16 oc_x11 kV_x11 dc_x11 pm_x11 cv_x11 ct_x11 oc_x23 kV_x23 dc_x23 pm_x23 cv_x23 ct_x23 oc_x6 kV_x6 dc_x6 pm_x6 cv_x6 ct_x6 oc_x26 kV_x26 dc_x26 pm_x26 cv_x26 ct_x26 oc_x33 kV_x33 dc_x33 pm_x33 cv_x33 ct_x33 oc_x3 kV_x3 dc_x3 pm_x3 cv_x3 ct_x3 oc_x38 kV_x38 dc_x38 pm_x38 cv_x38 ct_x38 oc_x36 kV_x36 dc_x36 pm_x36 cv_x36 ct_x36 oc_x21 kV_x21 dc_x21 pm_x21 cv_x21 ct_x21 oc_x20 kV_x20 dc_x20 pm_x20 cv_x20 ct_x20 oc_x45 kV_x45 dc_x45 pm_x45 cv_x45 ct_x45 oc_x22 kV_x22 dc_x22 pm_x22 cv_x22 ct_x22 oc_x28 kV_x28 dc_x28 pm_x28 cv_x28 ct_x28 oc_x62 kV_x62 dc_x62 pm_x62 cv_x62 ct_x62 oc_x63 kV_x63 dc_x63 pm_x63 cv_x63 ct_x63 oc_x46 kV_x46 dc_x46 pm_x46 cv_x46 ct_x46 oc_x52 kV_x52 dc_x52 pm_x52 cv_x52 ct_x52 oc_x56 kV_x56 dc_x56 pm_x56 cv_x56 ct_x56 oc_x53 kV_x53 dc_x53 pm_x53 cv_x53 ct_x53 oc_x54 kV_x54 dc_x54 pm_x54 cv_x54 ct_x54 oc_x44 kV_x44 dc_x44 pm_x44 cv_x44 ct_x44 oc_x31 kV_x31 dc_x31 pm_x31 cv_x31 ct_x31 oc_x18 kV_x18 dc_x18 pm_x18 cv_x18 ct_x18 oc_x12 kV_x12 dc_x12 pm_x12 cv_x12 ct_x12 oc_x17 kV_x17 dc_x17 pm_x17 cv_x17 ct_x17 oc_x27 kV_x27 dc_x27 pm_x27 cv_x27 ct_x27 oc_x19 kV_x19 dc_x19 pm_x19 cv_x19 ct_x19 oc_x8 kV_x8 dc_x8 pm_x8 cv_x8 ct_x8 oc_x4 kV_x4 dc_x4 pm_x4 cv_x4 ct_x4 oc_x2 kV_x2 dc_x2 pm_x2 cv_x2 ct_x2 oc_law kV_law dc_law pm_law cv_law ct_law : Value}
    {t_MOST_BEDS t_MOST_LAID t_MOST_NEED t_MOST_AMOUNT t_MOST_SEASONS t_MOST_TIMES t_MOST_DEEDS : Tok}
    (aG : W.nsIn K mainGlobals "Ground" = some (some (.ref G)))
    (a_x61 : W.nsIn K mainGlobals "_law_at" = some (some (.ref f_x61))) (l_x61 : K.lookup f_x61 = some ⟨oc_x61, od_x61, .func (W.fnOf "_law_at" "_law_at" (defArgs s_at) (defBody s_at) (defScope s_at) .none kV_x61 dc_x61 pm_x61 an_x61 cv_x61 ct_x61), sl_x61⟩) (c_x61 : W.codeIn K cv_x61 "_law_at" = true) (k_x61 : W.keepIn K (.ref f_x61) = true)
    (a_x49 : W.nsIn K mainGlobals "_law_whole" = some (some (.ref f_x49))) (l_x49 : K.lookup f_x49 = some ⟨oc_x49, od_x49, .func (W.fnOf "_law_whole" "_law_whole" (defArgs s_whole) (defBody s_whole) (defScope s_whole) .none kV_x49 dc_x49 pm_x49 an_x49 cv_x49 ct_x49), sl_x49⟩) (c_x49 : W.codeIn K cv_x49 "_law_whole" = true) (k_x49 : W.keepIn K (.ref f_x49) = true)
    (a_x32 : W.nsIn K mainGlobals "_law_numbers" = some (some (.ref f_x32))) (l_x32 : K.lookup f_x32 = some ⟨oc_x32, od_x32, .func (W.fnOf "_law_numbers" "_law_numbers" (defArgs s_numbers) (defBody s_numbers) (defScope s_numbers) .none kV_x32 dc_x32 pm_x32 an_x32 cv_x32 ct_x32), sl_x32⟩) (c_x32 : W.codeIn K cv_x32 "_law_numbers" = true) (k_x32 : W.keepIn K (.ref f_x32) = true)
    (a_x60 : W.nsIn K mainGlobals "_law_row" = some (some (.ref f_x60))) (l_x60 : K.lookup f_x60 = some ⟨oc_x60, od_x60, .func (W.fnOf "_law_row" "_law_row" (defArgs s_row) (defBody s_row) (defScope s_row) .none kV_x60 dc_x60 pm_x60 an_x60 cv_x60 ct_x60), sl_x60⟩) (c_x60 : W.codeIn K cv_x60 "_law_row" = true) (k_x60 : W.keepIn K (.ref f_x60) = true)
    (a_x50 : W.nsIn K mainGlobals "_law_beds" = some (some (.ref f_x50))) (l_x50 : K.lookup f_x50 = some ⟨oc_x50, od_x50, .func (W.fnOf "_law_beds" "_law_beds" (defArgs s_beds) (defBody s_beds) (defScope s_beds) .none kV_x50 dc_x50 pm_x50 an_x50 cv_x50 ct_x50), sl_x50⟩) (c_x50 : W.codeIn K cv_x50 "_law_beds" = true) (k_x50 : W.keepIn K (.ref f_x50) = true)
    (a_x57 : W.nsIn K mainGlobals "_law_add" = some (some (.ref f_x57))) (l_x57 : K.lookup f_x57 = some ⟨oc_x57, od_x57, .func (W.fnOf "_law_add" "_law_add" (defArgs s_add) (defBody s_add) (defScope s_add) .none kV_x57 dc_x57 pm_x57 an_x57 cv_x57 ct_x57), sl_x57⟩) (c_x57 : W.codeIn K cv_x57 "_law_add" = true) (k_x57 : W.keepIn K (.ref f_x57) = true)
    (a_x55 : W.nsIn K mainGlobals "_law_step" = some (some (.ref f_x55))) (l_x55 : K.lookup f_x55 = some ⟨oc_x55, od_x55, .func (W.fnOf "_law_step" "_law_step" (defArgs s_step) (defBody s_step) (defScope s_step) .none kV_x55 dc_x55 pm_x55 an_x55 cv_x55 ct_x55), sl_x55⟩) (c_x55 : W.codeIn K cv_x55 "_law_step" = true) (k_x55 : W.keepIn K (.ref f_x55) = true)
    (a_x47 : W.nsIn K mainGlobals "_law_steps" = some (some (.ref f_x47))) (l_x47 : K.lookup f_x47 = some ⟨oc_x47, od_x47, .func (W.fnOf "_law_steps" "_law_steps" (defArgs s_steps) (defBody s_steps) (defScope s_steps) .none kV_x47 dc_x47 pm_x47 an_x47 cv_x47 ct_x47), sl_x47⟩) (c_x47 : W.codeIn K cv_x47 "_law_steps" = true) (k_x47 : W.keepIn K (.ref f_x47) = true)
    (a_x58 : W.nsIn K mainGlobals "_law_far" = some (some (.ref f_x58))) (l_x58 : K.lookup f_x58 = some ⟨oc_x58, od_x58, .func (W.fnOf "_law_far" "_law_far" (defArgs s_far) (defBody s_far) (defScope s_far) .none kV_x58 dc_x58 pm_x58 an_x58 cv_x58 ct_x58), sl_x58⟩) (c_x58 : W.codeIn K cv_x58 "_law_far" = true) (k_x58 : W.keepIn K (.ref f_x58) = true)
    (a_x39 : W.nsIn K mainGlobals "_law_amount" = some (some (.ref f_x39))) (l_x39 : K.lookup f_x39 = some ⟨oc_x39, od_x39, .func (W.fnOf "_law_amount" "_law_amount" (defArgs s_amount) (defBody s_amount) (defScope s_amount) .none kV_x39 dc_x39 pm_x39 an_x39 cv_x39 ct_x39), sl_x39⟩) (c_x39 : W.codeIn K cv_x39 "_law_amount" = true) (k_x39 : W.keepIn K (.ref f_x39) = true)
    (a_x42 : W.nsIn K mainGlobals "_law_season" = some (some (.ref f_x42))) (l_x42 : K.lookup f_x42 = some ⟨oc_x42, od_x42, .func (W.fnOf "_law_season" "_law_season" (defArgs s_season) (defBody s_season) (defScope s_season) .none kV_x42 dc_x42 pm_x42 an_x42 cv_x42 ct_x42), sl_x42⟩) (c_x42 : W.codeIn K cv_x42 "_law_season" = true) (k_x42 : W.keepIn K (.ref f_x42) = true)
    (a_x34 : W.nsIn K mainGlobals "_law_seasons" = some (some (.ref f_x34))) (l_x34 : K.lookup f_x34 = some ⟨oc_x34, od_x34, .func (W.fnOf "_law_seasons" "_law_seasons" (defArgs s_seasons) (defBody s_seasons) (defScope s_seasons) .none kV_x34 dc_x34 pm_x34 an_x34 cv_x34 ct_x34), sl_x34⟩) (c_x34 : W.codeIn K cv_x34 "_law_seasons" = true) (k_x34 : W.keepIn K (.ref f_x34) = true)
    (a_x51 : W.nsIn K mainGlobals "_law_deed" = some (some (.ref f_x51))) (l_x51 : K.lookup f_x51 = some ⟨oc_x51, od_x51, .func (W.fnOf "_law_deed" "_law_deed" (defArgs s_deed) (defBody s_deed) (defScope s_deed) .none kV_x51 dc_x51 pm_x51 an_x51 cv_x51 ct_x51), sl_x51⟩) (c_x51 : W.codeIn K cv_x51 "_law_deed" = true) (k_x51 : W.keepIn K (.ref f_x51) = true)
    (a_x7 : W.nsIn K mainGlobals "check_amount" = some (some (.ref f_x7))) (l_x7 : K.lookup f_x7 = some ⟨oc_x7, od_x7, .func (W.fnOf "check_amount" "check_amount" (defArgs s_check_amount) (defBody s_check_amount) (defScope s_check_amount) .none kV_x7 dc_x7 pm_x7 an_x7 cv_x7 ct_x7), sl_x7⟩) (c_x7 : W.codeIn K cv_x7 "check_amount" = true) (k_x7 : W.keepIn K (.ref f_x7) = true)
    (a_x5 : W.findIn K (.ref G) "last_stage" = some (some (.ref f_x5))) (i_x5 : W.isFn K (.ref f_x5) = true) (l_x5 : K.lookup f_x5 = some ⟨oc_x5, od_x5, .func (W.fnOf "last_stage" "Ground.last_stage" (defArgs s_G_last_stage) (defBody s_G_last_stage) (defScope s_G_last_stage) .none kV_x5 dc_x5 pm_x5 an_x5 cv_x5 ct_x5), sl_x5⟩) (c_x5 : W.codeIn K cv_x5 "Ground.last_stage" = true) (k_x5 : W.keepIn K (.ref f_x5) = true)
    (a_x37 : W.findIn K (.ref G) "keep" = some (some (.ref f_x37))) (i_x37 : W.isFn K (.ref f_x37) = true) (l_x37 : K.lookup f_x37 = some ⟨oc_x37, od_x37, .func (W.fnOf "keep" "Ground.keep" (defArgs s_G_keep) (defBody s_G_keep) (defScope s_G_keep) .none kV_x37 dc_x37 pm_x37 an_x37 cv_x37 ct_x37), sl_x37⟩) (c_x37 : W.codeIn K cv_x37 "Ground.keep" = true) (k_x37 : W.keepIn K (.ref f_x37) = true)
    (a_x0 : W.nsIn K mainGlobals "check_room_for_deed" = some (some (.ref f_x0))) (l_x0 : K.lookup f_x0 = some ⟨oc_x0, od_x0, .func (W.fnOf "check_room_for_deed" "check_room_for_deed" (defArgs s_check_room_for_deed) (defBody s_check_room_for_deed) (defScope s_check_room_for_deed) .none kV_x0 dc_x0 pm_x0 an_x0 cv_x0 ct_x0), sl_x0⟩) (c_x0 : W.codeIn K cv_x0 "check_room_for_deed" = true) (k_x0 : W.keepIn K (.ref f_x0) = true)
    (a_x35 : W.nsIn K mainGlobals "year_of" = some (some (.ref f_x35))) (l_x35 : K.lookup f_x35 = some ⟨oc_x35, od_x35, .func (W.fnOf "year_of" "year_of" (defArgs s_year_of) (defBody s_year_of) (defScope s_year_of) .none kV_x35 dc_x35 pm_x35 an_x35 cv_x35 ct_x35), sl_x35⟩) (c_x35 : W.codeIn K cv_x35 "year_of" = true) (k_x35 : W.keepIn K (.ref f_x35) = true)
    (a_x1 : W.nsIn K mainGlobals "shared_from_top" = some (some (.ref f_x1))) (l_x1 : K.lookup f_x1 = some ⟨oc_x1, od_x1, .func (W.fnOf "shared_from_top" "shared_from_top" (defArgs s_shared_from_top) (defBody s_shared_from_top) (defScope s_shared_from_top) .none kV_x1 dc_x1 pm_x1 an_x1 cv_x1 ct_x1), sl_x1⟩) (c_x1 : W.codeIn K cv_x1 "shared_from_top" = true) (k_x1 : W.keepIn K (.ref f_x1) = true)
    (a_x43 : W.nsIn K mainGlobals "warmed" = some (some (.ref f_x43))) (l_x43 : K.lookup f_x43 = some ⟨oc_x43, od_x43, .func (W.fnOf "warmed" "warmed" (defArgs s_warmed) (defBody s_warmed) (defScope s_warmed) .none kV_x43 dc_x43 pm_x43 an_x43 cv_x43 ct_x43), sl_x43⟩) (c_x43 : W.codeIn K cv_x43 "warmed" = true) (k_x43 : W.keepIn K (.ref f_x43) = true)
    (a_x30 : W.nsIn K mainGlobals "chilled" = some (some (.ref f_x30))) (l_x30 : K.lookup f_x30 = some ⟨oc_x30, od_x30, .func (W.fnOf "chilled" "chilled" (defArgs s_chilled) (defBody s_chilled) (defScope s_chilled) .none kV_x30 dc_x30 pm_x30 an_x30 cv_x30 ct_x30), sl_x30⟩) (c_x30 : W.codeIn K cv_x30 "chilled" = true) (k_x30 : W.keepIn K (.ref f_x30) = true)
    (a_x41 : W.nsIn K mainGlobals "passed" = some (some (.ref f_x41))) (l_x41 : K.lookup f_x41 = some ⟨oc_x41, od_x41, .func (W.fnOf "passed" "passed" (defArgs s_passed) (defBody s_passed) (defScope s_passed) .none kV_x41 dc_x41 pm_x41 an_x41 cv_x41 ct_x41), sl_x41⟩) (c_x41 : W.codeIn K cv_x41 "passed" = true) (k_x41 : W.keepIn K (.ref f_x41) = true)
    (a_x9 : W.nsIn K mainGlobals "each_down_to" = some (some (.ref f_x9))) (l_x9 : K.lookup f_x9 = some ⟨oc_x9, od_x9, .func (W.fnOf "each_down_to" "each_down_to" (defArgs s_each_down_to) (defBody s_each_down_to) (defScope s_each_down_to) .none kV_x9 dc_x9 pm_x9 an_x9 cv_x9 ct_x9), sl_x9⟩) (c_x9 : W.codeIn K cv_x9 "each_down_to" = true) (k_x9 : W.keepIn K (.ref f_x9) = true)
    (a_x48 : W.nsIn K mainGlobals "still" = some (some (.ref f_x48))) (l_x48 : K.lookup f_x48 = some ⟨oc_x48, od_x48, .func (W.fnOf "still" "still" (defArgs s_still) (defBody s_still) (defScope s_still) .none kV_x48 dc_x48 pm_x48 an_x48 cv_x48 ct_x48), sl_x48⟩) (c_x48 : W.codeIn K cv_x48 "still" = true) (k_x48 : W.keepIn K (.ref f_x48) = true)
    (a_x15 : W.nsIn K mainGlobals "season_rule" = some (some (.ref f_x15))) (l_x15 : K.lookup f_x15 = some ⟨oc_x15, od_x15, .func (W.fnOf "season_rule" "season_rule" (defArgs s_season_rule) (defBody s_season_rule) (defScope s_season_rule) .none kV_x15 dc_x15 pm_x15 an_x15 cv_x15 ct_x15), sl_x15⟩) (c_x15 : W.codeIn K cv_x15 "season_rule" = true) (k_x15 : W.keepIn K (.ref f_x15) = true)
    (a_x29 : W.nsIn K mainGlobals "applied" = some (some (.ref f_x29))) (l_x29 : K.lookup f_x29 = some ⟨oc_x29, od_x29, .func (W.fnOf "applied" "applied" (defArgs s_applied) (defBody s_applied) (defScope s_applied) .none kV_x29 dc_x29 pm_x29 an_x29 cv_x29 ct_x29), sl_x29⟩) (c_x29 : W.codeIn K cv_x29 "applied" = true) (k_x29 : W.keepIn K (.ref f_x29) = true)
    (a_x40 : W.nsIn K mainGlobals "joined" = some (some (.ref f_x40))) (l_x40 : K.lookup f_x40 = some ⟨oc_x40, od_x40, .func (W.fnOf "joined" "joined" (defArgs s_joined) (defBody s_joined) (defScope s_joined) .none kV_x40 dc_x40 pm_x40 an_x40 cv_x40 ct_x40), sl_x40⟩) (c_x40 : W.codeIn K cv_x40 "joined" = true) (k_x40 : W.keepIn K (.ref f_x40) = true)
    (a_x25 : W.nsIn K mainGlobals "row_rule" = some (some (.ref f_x25))) (l_x25 : K.lookup f_x25 = some ⟨oc_x25, od_x25, .func (W.fnOf "row_rule" "row_rule" (defArgs s_row_rule) (defBody s_row_rule) (defScope s_row_rule) .none kV_x25 dc_x25 pm_x25 an_x25 cv_x25 ct_x25), sl_x25⟩) (c_x25 : W.codeIn K cv_x25 "row_rule" = true) (k_x25 : W.keepIn K (.ref f_x25) = true)
    (a_x13 : W.nsIn K mainGlobals "check_times" = some (some (.ref f_x13))) (l_x13 : K.lookup f_x13 = some ⟨oc_x13, od_x13, .func (W.fnOf "check_times" "check_times" (defArgs s_check_times) (defBody s_check_times) (defScope s_check_times) .none kV_x13 dc_x13 pm_x13 an_x13 cv_x13 ct_x13), sl_x13⟩) (c_x13 : W.codeIn K cv_x13 "check_times" = true) (k_x13 : W.keepIn K (.ref f_x13) = true)
    (a_x24 : W.nsIn K mainGlobals "repeated" = some (some (.ref f_x24))) (l_x24 : K.lookup f_x24 = some ⟨oc_x24, od_x24, .func (W.fnOf "repeated" "repeated" (defArgs s_repeated) (defBody s_repeated) (defScope s_repeated) .none kV_x24 dc_x24 pm_x24 an_x24 cv_x24 ct_x24), sl_x24⟩) (c_x24 : W.codeIn K cv_x24 "repeated" = true) (k_x24 : W.keepIn K (.ref f_x24) = true)
    (a_x14 : W.nsIn K mainGlobals "heats_later" = some (some (.ref f_x14))) (l_x14 : K.lookup f_x14 = some ⟨oc_x14, od_x14, .func (W.fnOf "heats_later" "heats_later" (defArgs s_heats_later) (defBody s_heats_later) (defScope s_heats_later) .none kV_x14 dc_x14 pm_x14 an_x14 cv_x14 ct_x14), sl_x14⟩) (c_x14 : W.codeIn K cv_x14 "heats_later" = true) (k_x14 : W.keepIn K (.ref f_x14) = true)
    (a_x10 : W.nsIn K mainGlobals "missed_later" = some (some (.ref f_x10))) (l_x10 : K.lookup f_x10 = some ⟨oc_x10, od_x10, .func (W.fnOf "missed_later" "missed_later" (defArgs s_missed_later) (defBody s_missed_later) (defScope s_missed_later) .none kV_x10 dc_x10 pm_x10 an_x10 cv_x10 ct_x10), sl_x10⟩) (c_x10 : W.codeIn K cv_x10 "missed_later" = true) (k_x10 : W.keepIn K (.ref f_x10) = true)
    (a_x16 : W.nsIn K mainGlobals "whole_years" = some (some (.ref f_x16))) (l_x16 : K.lookup f_x16 = some ⟨oc_x16, od_x16, .func (W.fnOf "whole_years" "whole_years" (defArgs s_whole_years) (defBody s_whole_years) (defScope s_whole_years) .none kV_x16 dc_x16 pm_x16 an_x16 cv_x16 ct_x16), sl_x16⟩) (c_x16 : W.codeIn K cv_x16 "whole_years" = true) (k_x16 : W.keepIn K (.ref f_x16) = true)
    (a_x11 : W.nsIn K mainGlobals "passed_until" = some (some (.ref f_x11))) (l_x11 : K.lookup f_x11 = some ⟨oc_x11, od_x11, .func (W.fnOf "passed_until" "passed_until" (defArgs s_passed_until) (defBody s_passed_until) (defScope s_passed_until) .none kV_x11 dc_x11 pm_x11 an_x11 cv_x11 ct_x11), sl_x11⟩) (c_x11 : W.codeIn K cv_x11 "passed_until" = true) (k_x11 : W.keepIn K (.ref f_x11) = true)
    (a_x23 : W.nsIn K mainGlobals "amount_of" = some (some (.ref f_x23))) (l_x23 : K.lookup f_x23 = some ⟨oc_x23, od_x23, .func (W.fnOf "amount_of" "amount_of" (defArgs s_amount_of) (defBody s_amount_of) (defScope s_amount_of) .none kV_x23 dc_x23 pm_x23 an_x23 cv_x23 ct_x23), sl_x23⟩) (c_x23 : W.codeIn K cv_x23 "amount_of" = true) (k_x23 : W.keepIn K (.ref f_x23) = true)
    (a_x6 : W.nsIn K mainGlobals "amount_until" = some (some (.ref f_x6))) (l_x6 : K.lookup f_x6 = some ⟨oc_x6, od_x6, .func (W.fnOf "amount_until" "amount_until" (defArgs s_amount_until) (defBody s_amount_until) (defScope s_amount_until) .none kV_x6 dc_x6 pm_x6 an_x6 cv_x6 ct_x6), sl_x6⟩) (c_x6 : W.codeIn K cv_x6 "amount_until" = true) (k_x6 : W.keepIn K (.ref f_x6) = true)
    (a_x26 : W.nsIn K mainGlobals "stage_of" = some (some (.ref f_x26))) (l_x26 : K.lookup f_x26 = some ⟨oc_x26, od_x26, .func (W.fnOf "stage_of" "stage_of" (defArgs s_stage_of) (defBody s_stage_of) (defScope s_stage_of) .none kV_x26 dc_x26 pm_x26 an_x26 cv_x26 ct_x26), sl_x26⟩) (c_x26 : W.codeIn K cv_x26 "stage_of" = true) (k_x26 : W.keepIn K (.ref f_x26) = true)
    (a_x33 : W.nsIn K mainGlobals "reached" = some (some (.ref f_x33))) (l_x33 : K.lookup f_x33 = some ⟨oc_x33, od_x33, .func (W.fnOf "reached" "reached" (defArgs s_reached) (defBody s_reached) (defScope s_reached) .none kV_x33 dc_x33 pm_x33 an_x33 cv_x33 ct_x33), sl_x33⟩) (c_x33 : W.codeIn K cv_x33 "reached" = true) (k_x33 : W.keepIn K (.ref f_x33) = true)
    (a_x3 : W.findIn K (.ref G) "pass_seasons" = some (some (.ref f_x3))) (i_x3 : W.isFn K (.ref f_x3) = true) (l_x3 : K.lookup f_x3 = some ⟨oc_x3, od_x3, .func (W.fnOf "pass_seasons" "Ground.pass_seasons" (defArgs s_G_pass_seasons) (defBody s_G_pass_seasons) (defScope s_G_pass_seasons) .none kV_x3 dc_x3 pm_x3 an_x3 cv_x3 ct_x3), sl_x3⟩) (c_x3 : W.codeIn K cv_x3 "Ground.pass_seasons" = true) (k_x3 : W.keepIn K (.ref f_x3) = true)
    (a_x38 : W.findIn K (.ref G) "warm" = some (some (.ref f_x38))) (i_x38 : W.isFn K (.ref f_x38) = true) (l_x38 : K.lookup f_x38 = some ⟨oc_x38, od_x38, .func (W.fnOf "warm" "Ground.warm" (defArgs s_G_warm) (defBody s_G_warm) (defScope s_G_warm) .none kV_x38 dc_x38 pm_x38 an_x38 cv_x38 ct_x38), sl_x38⟩) (c_x38 : W.codeIn K cv_x38 "Ground.warm" = true) (k_x38 : W.keepIn K (.ref f_x38) = true)
    (a_x36 : W.findIn K (.ref G) "cold" = some (some (.ref f_x36))) (i_x36 : W.isFn K (.ref f_x36) = true) (l_x36 : K.lookup f_x36 = some ⟨oc_x36, od_x36, .func (W.fnOf "cold" "Ground.cold" (defArgs s_G_cold) (defBody s_G_cold) (defScope s_G_cold) .none kV_x36 dc_x36 pm_x36 an_x36 cv_x36 ct_x36), sl_x36⟩) (c_x36 : W.codeIn K cv_x36 "Ground.cold" = true) (k_x36 : W.keepIn K (.ref f_x36) = true)
    (a_x21 : W.nsIn K mainGlobals "check_need" = some (some (.ref f_x21))) (l_x21 : K.lookup f_x21 = some ⟨oc_x21, od_x21, .func (W.fnOf "check_need" "check_need" (defArgs s_check_need) (defBody s_check_need) (defScope s_check_need) .none kV_x21 dc_x21 pm_x21 an_x21 cv_x21 ct_x21), sl_x21⟩) (c_x21 : W.codeIn K cv_x21 "check_need" = true) (k_x21 : W.keepIn K (.ref f_x21) = true)
    (a_x20 : W.nsIn K mainGlobals "check_laid" = some (some (.ref f_x20))) (l_x20 : K.lookup f_x20 = some ⟨oc_x20, od_x20, .func (W.fnOf "check_laid" "check_laid" (defArgs s_check_laid) (defBody s_check_laid) (defScope s_check_laid) .none kV_x20 dc_x20 pm_x20 an_x20 cv_x20 ct_x20), sl_x20⟩) (c_x20 : W.codeIn K cv_x20 "check_laid" = true) (k_x20 : W.keepIn K (.ref f_x20) = true)
    (a_x45 : W.findIn K (.ref G) "lay" = some (some (.ref f_x45))) (i_x45 : W.isFn K (.ref f_x45) = true) (l_x45 : K.lookup f_x45 = some ⟨oc_x45, od_x45, .func (W.fnOf "lay" "Ground.lay" (defArgs s_G_lay) (defBody s_G_lay) (defScope s_G_lay) .none kV_x45 dc_x45 pm_x45 an_x45 cv_x45 ct_x45), sl_x45⟩) (c_x45 : W.codeIn K cv_x45 "Ground.lay" = true) (k_x45 : W.keepIn K (.ref f_x45) = true)
    (a_x22 : W.nsIn K mainGlobals "check_year" = some (some (.ref f_x22))) (l_x22 : K.lookup f_x22 = some ⟨oc_x22, od_x22, .func (W.fnOf "check_year" "check_year" (defArgs s_check_year) (defBody s_check_year) (defScope s_check_year) .none kV_x22 dc_x22 pm_x22 an_x22 cv_x22 ct_x22), sl_x22⟩) (c_x22 : W.codeIn K cv_x22 "check_year" = true) (k_x22 : W.keepIn K (.ref f_x22) = true)
    (a_x28 : W.findIn K (.ref G) "years" = some (some (.ref f_x28))) (i_x28 : W.isFn K (.ref f_x28) = true) (l_x28 : K.lookup f_x28 = some ⟨oc_x28, od_x28, .func (W.fnOf "years" "Ground.years" (defArgs s_G_years) (defBody s_G_years) (defScope s_G_years) .none kV_x28 dc_x28 pm_x28 an_x28 cv_x28 ct_x28), sl_x28⟩) (c_x28 : W.codeIn K cv_x28 "Ground.years" = true) (k_x28 : W.keepIn K (.ref f_x28) = true)
    (a_x62 : W.nsIn K mainGlobals "_law_do" = some (some (.ref f_x62))) (l_x62 : K.lookup f_x62 = some ⟨oc_x62, od_x62, .func (W.fnOf "_law_do" "_law_do" (defArgs s_do) (defBody s_do) (defScope s_do) .none kV_x62 dc_x62 pm_x62 an_x62 cv_x62 ct_x62), sl_x62⟩) (c_x62 : W.codeIn K cv_x62 "_law_do" = true) (k_x62 : W.keepIn K (.ref f_x62) = true)
    (a_x63 : W.nsIn K mainGlobals "_law_go" = some (some (.ref f_x63))) (l_x63 : K.lookup f_x63 = some ⟨oc_x63, od_x63, .func (W.fnOf "_law_go" "_law_go" (defArgs s_go) (defBody s_go) (defScope s_go) .none kV_x63 dc_x63 pm_x63 an_x63 cv_x63 ct_x63), sl_x63⟩) (c_x63 : W.codeIn K cv_x63 "_law_go" = true) (k_x63 : W.keepIn K (.ref f_x63) = true)
    (a_x46 : W.nsIn K mainGlobals "_law_again" = some (some (.ref f_x46))) (l_x46 : K.lookup f_x46 = some ⟨oc_x46, od_x46, .func (W.fnOf "_law_again" "_law_again" (defArgs s_again) (defBody s_again) (defScope s_again) .none kV_x46 dc_x46 pm_x46 an_x46 cv_x46 ct_x46), sl_x46⟩) (c_x46 : W.codeIn K cv_x46 "_law_again" = true) (k_x46 : W.keepIn K (.ref f_x46) = true)
    (a_x52 : W.nsIn K mainGlobals "_law_done" = some (some (.ref f_x52))) (l_x52 : K.lookup f_x52 = some ⟨oc_x52, od_x52, .func (W.fnOf "_law_done" "_law_done" (defArgs s_done) (defBody s_done) (defScope s_done) .none kV_x52 dc_x52 pm_x52 an_x52 cv_x52 ct_x52), sl_x52⟩) (c_x52 : W.codeIn K cv_x52 "_law_done" = true) (k_x52 : W.keepIn K (.ref f_x52) = true)
    (a_x56 : W.nsIn K mainGlobals "_law_told" = some (some (.ref f_x56))) (l_x56 : K.lookup f_x56 = some ⟨oc_x56, od_x56, .func (W.fnOf "_law_told" "_law_told" (defArgs s_told) (defBody s_told) (defScope s_told) .none kV_x56 dc_x56 pm_x56 an_x56 cv_x56 ct_x56), sl_x56⟩) (c_x56 : W.codeIn K cv_x56 "_law_told" = true) (k_x56 : W.keepIn K (.ref f_x56) = true)
    (a_x53 : W.nsIn K mainGlobals "_law_fits" = some (some (.ref f_x53))) (l_x53 : K.lookup f_x53 = some ⟨oc_x53, od_x53, .func (W.fnOf "_law_fits" "_law_fits" (defArgs s_fits) (defBody s_fits) (defScope s_fits) .none kV_x53 dc_x53 pm_x53 an_x53 cv_x53 ct_x53), sl_x53⟩) (c_x53 : W.codeIn K cv_x53 "_law_fits" = true) (k_x53 : W.keepIn K (.ref f_x53) = true)
    (a_x54 : W.nsIn K mainGlobals "_law_pair" = some (some (.ref f_x54))) (l_x54 : K.lookup f_x54 = some ⟨oc_x54, od_x54, .func (W.fnOf "_law_pair" "_law_pair" (defArgs s_pair) (defBody s_pair) (defScope s_pair) .none kV_x54 dc_x54 pm_x54 an_x54 cv_x54 ct_x54), sl_x54⟩) (c_x54 : W.codeIn K cv_x54 "_law_pair" = true) (k_x54 : W.keepIn K (.ref f_x54) = true)
    (a_x44 : W.nsIn K mainGlobals "_law_within" = some (some (.ref f_x44))) (l_x44 : K.lookup f_x44 = some ⟨oc_x44, od_x44, .func (W.fnOf "_law_within" "_law_within" (defArgs s_within) (defBody s_within) (defScope s_within) .none kV_x44 dc_x44 pm_x44 an_x44 cv_x44 ct_x44), sl_x44⟩) (c_x44 : W.codeIn K cv_x44 "_law_within" = true) (k_x44 : W.keepIn K (.ref f_x44) = true)
    (a_x31 : W.nsIn K mainGlobals "_law_no_less" = some (some (.ref f_x31))) (l_x31 : K.lookup f_x31 = some ⟨oc_x31, od_x31, .func (W.fnOf "_law_no_less" "_law_no_less" (defArgs s_no_less) (defBody s_no_less) (defScope s_no_less) .none kV_x31 dc_x31 pm_x31 an_x31 cv_x31 ct_x31), sl_x31⟩) (c_x31 : W.codeIn K cv_x31 "_law_no_less" = true) (k_x31 : W.keepIn K (.ref f_x31) = true)
    (a_x18 : W.nsIn K mainGlobals "check_beds" = some (some (.ref f_x18))) (l_x18 : K.lookup f_x18 = some ⟨oc_x18, od_x18, .func (W.fnOf "check_beds" "check_beds" (defArgs s_check_beds) (defBody s_check_beds) (defScope s_check_beds) .none kV_x18 dc_x18 pm_x18 an_x18 cv_x18 ct_x18), sl_x18⟩) (c_x18 : W.codeIn K cv_x18 "check_beds" = true) (k_x18 : W.keepIn K (.ref f_x18) = true)
    (a_x12 : W.nsIn K mainGlobals "check_heats" = some (some (.ref f_x12))) (l_x12 : K.lookup f_x12 = some ⟨oc_x12, od_x12, .func (W.fnOf "check_heats" "check_heats" (defArgs s_check_heats) (defBody s_check_heats) (defScope s_check_heats) .none kV_x12 dc_x12 pm_x12 an_x12 cv_x12 ct_x12), sl_x12⟩) (c_x12 : W.codeIn K cv_x12 "check_heats" = true) (k_x12 : W.keepIn K (.ref f_x12) = true)
    (a_x17 : W.findIn K (.ref G) "__init__" = some (some (.ref f_x17))) (i_x17 : W.isFn K (.ref f_x17) = true) (l_x17 : K.lookup f_x17 = some ⟨oc_x17, od_x17, .func (W.fnOf "__init__" "Ground.__init__" (defArgs s_G___init__) (defBody s_G___init__) (defScope s_G___init__) (.ref tD) kV_x17 dc_x17 pm_x17 an_x17 cv_x17 ct_x17), sl_x17⟩) (c_x17 : W.codeIn K cv_x17 "Ground.__init__" = true) (k_x17 : W.keepIn K (.ref f_x17) = true)
    (a_x27 : W.findIn K (.ref G) "heats" = some (some (.ref f_x27))) (i_x27 : W.isFn K (.ref f_x27) = true) (l_x27 : K.lookup f_x27 = some ⟨oc_x27, od_x27, .func (W.fnOf "heats" "Ground.heats" (defArgs s_G_heats) (defBody s_G_heats) (defScope s_G_heats) .none kV_x27 dc_x27 pm_x27 an_x27 cv_x27 ct_x27), sl_x27⟩) (c_x27 : W.codeIn K cv_x27 "Ground.heats" = true) (k_x27 : W.keepIn K (.ref f_x27) = true)
    (a_x19 : W.nsIn K mainGlobals "check_deed" = some (some (.ref f_x19))) (l_x19 : K.lookup f_x19 = some ⟨oc_x19, od_x19, .func (W.fnOf "check_deed" "check_deed" (defArgs s_check_deed) (defBody s_check_deed) (defScope s_check_deed) .none kV_x19 dc_x19 pm_x19 an_x19 cv_x19 ct_x19), sl_x19⟩) (c_x19 : W.codeIn K cv_x19 "check_deed" = true) (k_x19 : W.keepIn K (.ref f_x19) = true)
    (a_x8 : W.nsIn K mainGlobals "check_season" = some (some (.ref f_x8))) (l_x8 : K.lookup f_x8 = some ⟨oc_x8, od_x8, .func (W.fnOf "check_season" "check_season" (defArgs s_check_season) (defBody s_check_season) (defScope s_check_season) .none kV_x8 dc_x8 pm_x8 an_x8 cv_x8 ct_x8), sl_x8⟩) (c_x8 : W.codeIn K cv_x8 "check_season" = true) (k_x8 : W.keepIn K (.ref f_x8) = true)
    (a_x4 : W.findIn K (.ref G) "stage_within" = some (some (.ref f_x4))) (i_x4 : W.isFn K (.ref f_x4) = true) (l_x4 : K.lookup f_x4 = some ⟨oc_x4, od_x4, .func (W.fnOf "stage_within" "Ground.stage_within" (defArgs s_G_stage_within) (defBody s_G_stage_within) (defScope s_G_stage_within) .none kV_x4 dc_x4 pm_x4 an_x4 cv_x4 ct_x4), sl_x4⟩) (c_x4 : W.codeIn K cv_x4 "Ground.stage_within" = true) (k_x4 : W.keepIn K (.ref f_x4) = true)
    (a_x2 : W.findIn K (.ref G) "heats_within" = some (some (.ref f_x2))) (i_x2 : W.isFn K (.ref f_x2) = true) (l_x2 : K.lookup f_x2 = some ⟨oc_x2, od_x2, .func (W.fnOf "heats_within" "Ground.heats_within" (defArgs s_G_heats_within) (defBody s_G_heats_within) (defScope s_G_heats_within) .none kV_x2 dc_x2 pm_x2 an_x2 cv_x2 ct_x2), sl_x2⟩) (c_x2 : W.codeIn K cv_x2 "Ground.heats_within" = true) (k_x2 : W.keepIn K (.ref f_x2) = true)
    (a_law : W.nsIn K mainGlobals "law" = some (some (.ref f_law))) (l_law : K.lookup f_law = some ⟨oc_law, od_law, .func (W.fnOf "law" "law" (defArgs s_law) (defBody s_law) (defScope s_law) .none kV_law dc_law pm_law an_law cv_law ct_law), sl_law⟩) (c_law : W.codeIn K cv_law "law" = true) (k_law : W.keepIn K (.ref f_law) = true)
    (lD : K.lookup tD = some oD)
    (sD : oD.data = .seq #[.none] nD)
    (z_ValueError : W.nsIn K mainGlobals "ValueError" = some none)
    (z_bool : W.nsIn K mainGlobals "bool" = some none)
    (z_int : W.nsIn K mainGlobals "int" = some none)
    (z_isinstance : W.nsIn K mainGlobals "isinstance" = some none)
    (z_len : W.nsIn K mainGlobals "len" = some none)
    (z_list : W.nsIn K mainGlobals "list" = some none)
    (z_max : W.nsIn K mainGlobals "max" = some none)
    (z_min : W.nsIn K mainGlobals "min" = some none)
    (z_range : W.nsIn K mainGlobals "range" = some none)
    (z_reversed : W.nsIn K mainGlobals "reversed" = some none)
    (z_sorted : W.nsIn K mainGlobals "sorted" = some none)
    (z_sum : W.nsIn K mainGlobals "sum" = some none)
    (z_tuple : W.nsIn K mainGlobals "tuple" = some none)
    (z_zip : W.nsIn K mainGlobals "zip" = some none)
    (g_MOST_BEDS : W.nsIn K mainGlobals "MOST_BEDS" = some (some (.int 30 t_MOST_BEDS)))
    (g_MOST_LAID : W.nsIn K mainGlobals "MOST_LAID" = some (some (.int 20 t_MOST_LAID)))
    (g_MOST_NEED : W.nsIn K mainGlobals "MOST_NEED" = some (some (.int 200 t_MOST_NEED)))
    (g_MOST_AMOUNT : W.nsIn K mainGlobals "MOST_AMOUNT" = some (some (.int 1000000 t_MOST_AMOUNT)))
    (g_MOST_SEASONS : W.nsIn K mainGlobals "MOST_SEASONS" = some (some (.int 12 t_MOST_SEASONS)))
    (g_MOST_TIMES : W.nsIn K mainGlobals "MOST_TIMES" = some (some (.int 1000000000000000000 t_MOST_TIMES)))
    (g_MOST_DEEDS : W.nsIn K mainGlobals "MOST_DEEDS" = some (some (.int 300 t_MOST_DEEDS)))
    (pg : W.plainGet K G Str.empty = true) (hd : W.hasDictIn K G = true) (po : W.plainOver K G = true) (sa : W.findIn K (.ref G) "__setattr__" = some (some (.builtin "object.__setattr__"))) (mk : W.makesIn K G = true) (kc : W.keepIn K (.ref G) = true) (nK : W.findIn K (.ref G) "kept" = some none) (nS : W.findIn K (.ref G) "stages" = some none)
    : ∃ fd : FuncData, (∀ (s : Shared) (v : Value), BindsTo s fd ⟨[v], []⟩ [("_law_script", v)]) ∧ ∀ base : Heap, K.In base → base.Ns mainGlobals mg → FnOk l.prog w K mg base CX0 11 fa fd ["_law_script"] (sp_law K) := by
  have e := hfa.symm.trans (W.mg_of X GX a_law)
  cases e
  have T : Txt K mg := ⟨W.mg_none_of X GX z_ValueError, W.mg_none_of X GX z_bool, W.mg_none_of X GX z_int, W.mg_none_of X GX z_isinstance, W.mg_none_of X GX z_len, W.mg_none_of X GX z_list, W.mg_none_of X GX z_max, W.mg_none_of X GX z_min, W.mg_none_of X GX z_range, W.mg_none_of X GX z_reversed, W.mg_none_of X GX z_sorted, W.mg_none_of X GX z_sum, W.mg_none_of X GX z_tuple, W.mg_none_of X GX z_zip, ⟨_, W.mg_of X GX g_MOST_BEDS⟩, ⟨_, W.mg_of X GX g_MOST_LAID⟩, ⟨_, W.mg_of X GX g_MOST_NEED⟩, ⟨_, W.mg_of X GX g_MOST_AMOUNT⟩, ⟨_, W.mg_of X GX g_MOST_SEASONS⟩, ⟨_, W.mg_of X GX g_MOST_TIMES⟩, ⟨_, W.mg_of X GX g_MOST_DEEDS⟩⟩
  have TG : GCls K mg G := ⟨⟨pg, hd, po, sa⟩, nK, nS, W.mg_of X GX aG⟩
  have F_x61 := fun_mk (st := s_at) l_x61 c_x61 k_x61
  have b_x61 := F_x61.binds (ps := P_at) fun _ _ _ _ _ _ us hl => len2 hl fun _ _ => rfl
  have F_x49 := fun_mk (st := s_whole) l_x49 c_x49 k_x49
  have b_x49 := F_x49.binds (ps := P_whole) fun _ _ _ _ _ _ us hl => len1 hl fun _ => rfl
  have F_x32 := fun_mk (st := s_numbers) l_x32 c_x32 k_x32
  have b_x32 := F_x32.binds (ps := P_numbers) fun _ _ _ _ _ _ us hl => len2 hl fun _ _ => rfl
  have F_x60 := fun_mk (st := s_row) l_x60 c_x60 k_x60
  have b_x60 := F_x60.binds (ps := P_row) fun _ _ _ _ _ _ us hl => len3 hl fun _ _ _ => rfl
  have F_x50 := fun_mk (st := s_beds) l_x50 c_x50 k_x50
  have b_x50 := F_x50.binds (ps := P_beds) fun _ _ _ _ _ _ us hl => len1 hl fun _ => rfl
  have F_x57 := fun_mk (st := s_add) l_x57 c_x57 k_x57
  have b_x57 := F_x57.binds (ps := P_add) fun _ _ _ _ _ _ us hl => len1 hl fun _ => rfl
  have F_x55 := fun_mk (st := s_step) l_x55 c_x55 k_x55
  have b_x55 := F_x55.binds (ps := P_step) fun _ _ _ _ _ _ us hl => len3 hl fun _ _ _ => rfl
  have F_x47 := fun_mk (st := s_steps) l_x47 c_x47 k_x47
  have b_x47 := F_x47.binds (ps := P_steps) fun _ _ _ _ _ _ us hl => len3 hl fun _ _ _ => rfl
  have F_x58 := fun_mk (st := s_far) l_x58 c_x58 k_x58
  have b_x58 := F_x58.binds (ps := P_far) fun _ _ _ _ _ _ us hl => len5 hl fun _ _ _ _ _ => rfl
  have F_x39 := fun_mk (st := s_amount) l_x39 c_x39 k_x39
  have b_x39 := F_x39.binds (ps := P_amount) fun _ _ _ _ _ _ us hl => len2 hl fun _ _ => rfl
  have F_x42 := fun_mk (st := s_season) l_x42 c_x42 k_x42
  have b_x42 := F_x42.binds (ps := P_season) fun _ _ _ _ _ _ us hl => len2 hl fun _ _ => rfl
  have F_x34 := fun_mk (st := s_seasons) l_x34 c_x34 k_x34
  have b_x34 := F_x34.binds (ps := P_seasons) fun _ _ _ _ _ _ us hl => len3 hl fun _ _ _ => rfl
  have F_x51 := fun_mk (st := s_deed) l_x51 c_x51 k_x51
  have b_x51 := F_x51.binds (ps := P_deed) fun _ _ _ _ _ _ us hl => len2 hl fun _ _ => rfl
  have F_x7 := fun_mk (st := s_check_amount) l_x7 c_x7 k_x7
  have b_x7 := F_x7.binds (ps := P_check_amount) fun _ _ _ _ _ _ us hl => len1 hl fun _ => rfl
  have F_x5 := fun_mk (st := s_G_last_stage) l_x5 c_x5 k_x5
  have b_x5 := F_x5.binds (ps := P_G_last_stage) fun _ _ _ _ _ _ us hl => len1 hl fun _ => rfl
  have F_x37 := fun_mk (st := s_G_keep) l_x37 c_x37 k_x37
  have b_x37 := F_x37.binds (ps := P_G_keep) fun _ _ _ _ _ _ us hl => len3 hl fun _ _ _ => rfl
  have F_x0 := fun_mk (st := s_check_room_for_deed) l_x0 c_x0 k_x0
  have b_x0 := F_x0.binds (ps := P_check_room_for_deed) fun _ _ _ _ _ _ us hl => len1 hl fun _ => rfl
  have F_x35 := fun_mk (st := s_year_of) l_x35 c_x35 k_x35
  have b_x35 := F_x35.binds (ps := P_year_of) fun _ _ _ _ _ _ us hl => len1 hl fun _ => rfl
  have F_x1 := fun_mk (st := s_shared_from_top) l_x1 c_x1 k_x1
  have b_x1 := F_x1.binds (ps := P_shared_from_top) fun _ _ _ _ _ _ us hl => len2 hl fun _ _ => rfl
  have F_x43 := fun_mk (st := s_warmed) l_x43 c_x43 k_x43
  have b_x43 := F_x43.binds (ps := P_warmed) fun _ _ _ _ _ _ us hl => len3 hl fun _ _ _ => rfl
  have F_x30 := fun_mk (st := s_chilled) l_x30 c_x30 k_x30
  have b_x30 := F_x30.binds (ps := P_chilled) fun _ _ _ _ _ _ us hl => len3 hl fun _ _ _ => rfl
  have F_x41 := fun_mk (st := s_passed) l_x41 c_x41 k_x41
  have b_x41 := F_x41.binds (ps := P_passed) fun _ _ _ _ _ _ us hl => len3 hl fun _ _ _ => rfl
  have F_x9 := fun_mk (st := s_each_down_to) l_x9 c_x9 k_x9
  have b_x9 := F_x9.binds (ps := P_each_down_to) fun _ _ _ _ _ _ us hl => len1 hl fun _ => rfl
  have F_x48 := fun_mk (st := s_still) l_x48 c_x48 k_x48
  have b_x48 := F_x48.binds (ps := P_still) fun _ _ _ _ _ _ us hl => len1 hl fun _ => rfl
  have F_x15 := fun_mk (st := s_season_rule) l_x15 c_x15 k_x15
  have b_x15 := F_x15.binds (ps := P_season_rule) fun _ _ _ _ _ _ us hl => len2 hl fun _ _ => rfl
  have F_x29 := fun_mk (st := s_applied) l_x29 c_x29 k_x29
  have b_x29 := F_x29.binds (ps := P_applied) fun _ _ _ _ _ _ us hl => len2 hl fun _ _ => rfl
  have F_x40 := fun_mk (st := s_joined) l_x40 c_x40 k_x40
  have b_x40 := F_x40.binds (ps := P_joined) fun _ _ _ _ _ _ us hl => len2 hl fun _ _ => rfl
  have F_x25 := fun_mk (st := s_row_rule) l_x25 c_x25 k_x25
  have b_x25 := F_x25.binds (ps := P_row_rule) fun _ _ _ _ _ _ us hl => len2 hl fun _ _ => rfl
  have F_x13 := fun_mk (st := s_check_times) l_x13 c_x13 k_x13
  have b_x13 := F_x13.binds (ps := P_check_times) fun _ _ _ _ _ _ us hl => len1 hl fun _ => rfl
  have F_x24 := fun_mk (st := s_repeated) l_x24 c_x24 k_x24
  have b_x24 := F_x24.binds (ps := P_repeated) fun _ _ _ _ _ _ us hl => len2 hl fun _ _ => rfl
  have F_x14 := fun_mk (st := s_heats_later) l_x14 c_x14 k_x14
  have b_x14 := F_x14.binds (ps := P_heats_later) fun _ _ _ _ _ _ us hl => len4 hl fun _ _ _ _ => rfl
  have F_x10 := fun_mk (st := s_missed_later) l_x10 c_x10 k_x10
  have b_x10 := F_x10.binds (ps := P_missed_later) fun _ _ _ _ _ _ us hl => len4 hl fun _ _ _ _ => rfl
  have F_x16 := fun_mk (st := s_whole_years) l_x16 c_x16 k_x16
  have b_x16 := F_x16.binds (ps := P_whole_years) fun _ _ _ _ _ _ us hl => len4 hl fun _ _ _ _ => rfl
  have F_x11 := fun_mk (st := s_passed_until) l_x11 c_x11 k_x11
  have b_x11 := F_x11.binds (ps := P_passed_until) fun _ _ _ _ _ _ us hl => len5 hl fun _ _ _ _ _ => rfl
  have F_x23 := fun_mk (st := s_amount_of) l_x23 c_x23 k_x23
  have b_x23 := F_x23.binds (ps := P_amount_of) fun _ _ _ _ _ _ us hl => len2 hl fun _ _ => rfl
  have F_x6 := fun_mk (st := s_amount_until) l_x6 c_x6 k_x6
  have b_x6 := F_x6.binds (ps := P_amount_until) fun _ _ _ _ _ _ us hl => len4 hl fun _ _ _ _ => rfl
  have F_x26 := fun_mk (st := s_stage_of) l_x26 c_x26 k_x26
  have b_x26 := F_x26.binds (ps := P_stage_of) fun _ _ _ _ _ _ us hl => len4 hl fun _ _ _ _ => rfl
  have F_x33 := fun_mk (st := s_reached) l_x33 c_x33 k_x33
  have b_x33 := F_x33.binds (ps := P_reached) fun _ _ _ _ _ _ us hl => len4 hl fun _ _ _ _ => rfl
  have F_x3 := fun_mk (st := s_G_pass_seasons) l_x3 c_x3 k_x3
  have b_x3 := F_x3.binds (ps := P_G_pass_seasons) fun _ _ _ _ _ _ us hl => len2 hl fun _ _ => rfl
  have F_x38 := fun_mk (st := s_G_warm) l_x38 c_x38 k_x38
  have b_x38 := F_x38.binds (ps := P_G_warm) fun _ _ _ _ _ _ us hl => len2 hl fun _ _ => rfl
  have F_x36 := fun_mk (st := s_G_cold) l_x36 c_x36 k_x36
  have b_x36 := F_x36.binds (ps := P_G_cold) fun _ _ _ _ _ _ us hl => len2 hl fun _ _ => rfl
  have F_x21 := fun_mk (st := s_check_need) l_x21 c_x21 k_x21
  have b_x21 := F_x21.binds (ps := P_check_need) fun _ _ _ _ _ _ us hl => len1 hl fun _ => rfl
  have F_x20 := fun_mk (st := s_check_laid) l_x20 c_x20 k_x20
  have b_x20 := F_x20.binds (ps := P_check_laid) fun _ _ _ _ _ _ us hl => len1 hl fun _ => rfl
  have F_x45 := fun_mk (st := s_G_lay) l_x45 c_x45 k_x45
  have b_x45 := F_x45.binds (ps := P_G_lay) fun _ _ _ _ _ _ us hl => len2 hl fun _ _ => rfl
  have F_x22 := fun_mk (st := s_check_year) l_x22 c_x22 k_x22
  have b_x22 := F_x22.binds (ps := P_check_year) fun _ _ _ _ _ _ us hl => len1 hl fun _ => rfl
  have F_x28 := fun_mk (st := s_G_years) l_x28 c_x28 k_x28
  have b_x28 := F_x28.binds (ps := P_G_years) fun _ _ _ _ _ _ us hl => len3 hl fun _ _ _ => rfl
  have F_x62 := fun_mk (st := s_do) l_x62 c_x62 k_x62
  have b_x62 := F_x62.binds (ps := P_do) fun _ _ _ _ _ _ us hl => len2 hl fun _ _ => rfl
  have F_x63 := fun_mk (st := s_go) l_x63 c_x63 k_x63
  have b_x63 := F_x63.binds (ps := P_go) fun _ _ _ _ _ _ us hl => len3 hl fun _ _ _ => rfl
  have F_x46 := fun_mk (st := s_again) l_x46 c_x46 k_x46
  have b_x46 := F_x46.binds (ps := P_again) fun _ _ _ _ _ _ us hl => len4 hl fun _ _ _ _ => rfl
  have F_x52 := fun_mk (st := s_done) l_x52 c_x52 k_x52
  have b_x52 := F_x52.binds (ps := P_done) fun _ _ _ _ _ _ us hl => len4 hl fun _ _ _ _ => rfl
  have F_x56 := fun_mk (st := s_told) l_x56 c_x56 k_x56
  have b_x56 := F_x56.binds (ps := P_told) fun _ _ _ _ _ _ us hl => len2 hl fun _ _ => rfl
  have F_x53 := fun_mk (st := s_fits) l_x53 c_x53 k_x53
  have b_x53 := F_x53.binds (ps := P_fits) fun _ _ _ _ _ _ us hl => len3 hl fun _ _ _ => rfl
  have F_x54 := fun_mk (st := s_pair) l_x54 c_x54 k_x54
  have b_x54 := F_x54.binds (ps := P_pair) fun _ _ _ _ _ _ us hl => len2 hl fun _ _ => rfl
  have F_x44 := fun_mk (st := s_within) l_x44 c_x44 k_x44
  have b_x44 := F_x44.binds (ps := P_within) fun _ _ _ _ _ _ us hl => len2 hl fun _ _ => rfl
  have F_x31 := fun_mk (st := s_no_less) l_x31 c_x31 k_x31
  have b_x31 := F_x31.binds (ps := P_no_less) fun _ _ _ _ _ _ us hl => len2 hl fun _ _ => rfl
  have F_x18 := fun_mk (st := s_check_beds) l_x18 c_x18 k_x18
  have b_x18 := F_x18.binds (ps := P_check_beds) fun _ _ _ _ _ _ us hl => len1 hl fun _ => rfl
  have F_x12 := fun_mk (st := s_check_heats) l_x12 c_x12 k_x12
  have b_x12 := F_x12.binds (ps := P_check_heats) fun _ _ _ _ _ _ us hl => len2 hl fun _ _ => rfl
  have F_x17 : FunD K "__init__" "Ground.__init__" s_G___init__ f_x17 _ := ⟨⟨_, _, _, _, _, _, _, _, _, _, rfl, l_x17, c_x17⟩⟩
  have b_one : Binds K (W.fnOf "__init__" "Ground.__init__" (defArgs s_G___init__) (defBody s_G___init__) (defScope s_G___init__) (.ref tD) kV_x17 dc_x17 pm_x17 an_x17 cv_x17 ct_x17) P_G___init__ [.none] := fun s us KX hl => by
    have hl : us.length = 2 := by rw [List.length_append] at hl; exact Nat.succ.inj hl
    exact match us, hl with | [_, _], _ => W.binds_K KX rfl lD sD rfl rfl
  have b_two : Binds K (W.fnOf "__init__" "Ground.__init__" (defArgs s_G___init__) (defBody s_G___init__) (defScope s_G___init__) (.ref tD) kV_x17 dc_x17 pm_x17 an_x17 cv_x17 ct_x17) P_G___init__ [] := fun s us KX hl => by
    rw [List.append_nil] at hl ⊢
    exact match us, hl with | [_, _, _], _ => W.binds_K KX rfl lD sD rfl rfl
  have F_x27 := fun_mk (st := s_G_heats) l_x27 c_x27 k_x27
  have b_x27 := F_x27.binds (ps := P_G_heats) fun _ _ _ _ _ _ us hl => len1 hl fun _ => rfl
  have F_x19 := fun_mk (st := s_check_deed) l_x19 c_x19 k_x19
  have b_x19 := F_x19.binds (ps := P_check_deed) fun _ _ _ _ _ _ us hl => len3 hl fun _ _ _ => rfl
  have F_x8 := fun_mk (st := s_check_season) l_x8 c_x8 k_x8
  have b_x8 := F_x8.binds (ps := P_check_season) fun _ _ _ _ _ _ us hl => len4 hl fun _ _ _ _ => rfl
  have F_x4 := fun_mk (st := s_G_stage_within) l_x4 c_x4 k_x4
  have b_x4 := F_x4.binds (ps := P_G_stage_within) fun _ _ _ _ _ _ us hl => len4 hl fun _ _ _ _ => rfl
  have F_x2 := fun_mk (st := s_G_heats_within) l_x2 c_x2 k_x2
  have b_x2 := F_x2.binds (ps := P_G_heats_within) fun _ _ _ _ _ _ us hl => len4 hl fun _ _ _ _ => rfl
  have F_law := fun_mk (st := s_law) l_law c_law k_law
  refine ⟨W.fnOf "law" "law" (defArgs s_law) (defBody s_law) (defScope s_law) .none kV_law dc_law pm_law an_law cv_law ct_law, fun s v => .of_eq rfl, fun base _ _ => ?_⟩
  have o_x61 : Ok l.prog w K mg base "_law_at" P_at 1 (sp_at K) := ⟨_, _, ok_at F_x61 T, b_x61, W.mg_of X GX a_x61, k_x61⟩
  have o_x49 : Ok l.prog w K mg base "_law_whole" P_whole 1 sp_whole := ⟨_, _, ok_whole F_x49 T, b_x49, W.mg_of X GX a_x49, k_x49⟩
  have o_x32 : Ok l.prog w K mg base "_law_numbers" P_numbers 2 (sp_numbers K) := ⟨_, _, ok_numbers F_x32 T o_x49, b_x32, W.mg_of X GX a_x32, k_x32⟩
  have o_x60 : Ok l.prog w K mg base "_law_row" P_row 1 sp_row := ⟨_, _, ok_row F_x60 T, b_x60, W.mg_of X GX a_x60, k_x60⟩
  have o_x50 : Ok l.prog w K mg base "_law_beds" P_beds 2 (sp_beds K) := ⟨_, _, ok_beds F_x50 T o_x61 o_x60, b_x50, W.mg_of X GX a_x50, k_x50⟩
  have o_x57 : Ok l.prog w K mg base "_law_add" P_add 1 (sp_add K) := ⟨_, _, ok_add F_x57 T, b_x57, W.mg_of X GX a_x57, k_x57⟩
  have o_x55 : Ok l.prog w K mg base "_law_step" P_step 1 (sp_step K) := ⟨_, _, ok_step F_x55 T, b_x55, W.mg_of X GX a_x55, k_x55⟩
  have o_x47 : Ok l.prog w K mg base "_law_steps" P_steps 2 (sp_steps K) := ⟨_, _, ok_steps F_x47 T o_x55, b_x47, W.mg_of X GX a_x47, k_x47⟩
  have o_x58 : Ok l.prog w K mg base "_law_far" P_far 3 (sp_far K) := ⟨_, _, ok_far F_x58 T o_x57 o_x47, b_x58, W.mg_of X GX a_x58, k_x58⟩
  have o_x39 : Ok l.prog w K mg base "_law_amount" P_amount 1 sp_amount := ⟨_, _, ok_amount F_x39 T, b_x39, W.mg_of X GX a_x39, k_x39⟩
  have o_x42 : Ok l.prog w K mg base "_law_season" P_season 2 sp_season := ⟨_, _, ok_season F_x42 T o_x39, b_x42, W.mg_of X GX a_x42, k_x42⟩
  have o_x34 : Ok l.prog w K mg base "_law_seasons" P_seasons 3 sp_seasons := ⟨_, _, ok_seasons F_x34 T o_x60 o_x42, b_x34, W.mg_of X GX a_x34, k_x34⟩
  have o_x51 : Ok l.prog w K mg base "_law_deed" P_deed 4 sp_deed := ⟨_, _, ok_deed F_x51 T o_x39 o_x34, b_x51, W.mg_of X GX a_x51, k_x51⟩
  have o_x7 : Ok l.prog w K mg base "check_amount" P_check_amount 1 sp_check_amount := ⟨_, _, ok_check_amount F_x7 T, b_x7, W.mg_of X GX a_x7, k_x7⟩
  have om_x5 : OkM l.prog w K mg base G "last_stage" P_G_last_stage 1 (sp_G_last_stage G) := ⟨_, _, ok_G_last_stage F_x5 T TG, b_x5, ⟨a_x5, i_x5, k_x5⟩⟩
  have om_x37 : OkM l.prog w K mg base G "keep" P_G_keep 1 (sp_G_keep G) := ⟨_, _, ok_G_keep F_x37 T TG, b_x37, ⟨a_x37, i_x37, k_x37⟩⟩
  have o_x0 : Ok l.prog w K mg base "check_room_for_deed" P_check_room_for_deed 1 sp_check_room_for_deed := ⟨_, _, ok_check_room_for_deed F_x0 T, b_x0, W.mg_of X GX a_x0, k_x0⟩
  have o_x35 : Ok l.prog w K mg base "year_of" P_year_of 1 sp_year_of := ⟨_, _, ok_year_of F_x35 T, b_x35, W.mg_of X GX a_x35, k_x35⟩
  have o_x1 : Ok l.prog w K mg base "shared_from_top" P_shared_from_top 1 (sp_shared_from_top K) := ⟨_, _, ok_shared_from_top F_x1 T, b_x1, W.mg_of X GX a_x1, k_x1⟩
  have o_x43 : Ok l.prog w K mg base "warmed" P_warmed 2 (sp_warmed K) := ⟨_, _, ok_warmed F_x43 T o_x7 o_x1, b_x43, W.mg_of X GX a_x43, k_x43⟩
  have o_x30 : Ok l.prog w K mg base "chilled" P_chilled 2 (sp_chilled K) := ⟨_, _, ok_chilled F_x30 T o_x7 o_x1, b_x30, W.mg_of X GX a_x30, k_x30⟩
  have o_x41 : Ok l.prog w K mg base "passed" P_passed 3 (sp_passed K) := ⟨_, _, ok_passed F_x41 T o_x43 o_x30, b_x41, W.mg_of X GX a_x41, k_x41⟩
  have o_x9 : Ok l.prog w K mg base "each_down_to" P_each_down_to 1 (sp_each_down_to K) := ⟨_, _, ok_each_down_to F_x9 T, b_x9, W.mg_of X GX a_x9, k_x9⟩
  have o_x48 : Ok l.prog w K mg base "still" P_still 1 sp_still := ⟨_, _, ok_still F_x48 T, b_x48, W.mg_of X GX a_x48, k_x48⟩
  have o_x15 : Ok l.prog w K mg base "season_rule" P_season_rule 2 (sp_season_rule K) := ⟨_, _, ok_season_rule F_x15 T o_x7, b_x15, W.mg_of X GX a_x15, k_x15⟩
  have o_x29 : Ok l.prog w K mg base "applied" P_applied 1 (sp_applied K) := ⟨_, _, ok_applied F_x29 T, b_x29, W.mg_of X GX a_x29, k_x29⟩
  have o_x40 : Ok l.prog w K mg base "joined" P_joined 2 (sp_joined K) := ⟨_, _, ok_joined F_x40 T o_x29, b_x40, W.mg_of X GX a_x40, k_x40⟩
  have o_x25 : Ok l.prog w K mg base "row_rule" P_row_rule 3 (sp_row_rule K) := ⟨_, _, ok_row_rule F_x25 T o_x48 o_x15 o_x40, b_x25, W.mg_of X GX a_x25, k_x25⟩
  have o_x13 : Ok l.prog w K mg base "check_times" P_check_times 1 sp_check_times := ⟨_, _, ok_check_times F_x13 T, b_x13, W.mg_of X GX a_x13, k_x13⟩
  have o_x24 : Ok l.prog w K mg base "repeated" P_repeated 3 (sp_repeated K) := ⟨_, _, ok_repeated F_x24 T o_x13 o_x40, b_x24, W.mg_of X GX a_x24, k_x24⟩
  have o_x14 : Ok l.prog w K mg base "heats_later" P_heats_later 4 (sp_heats_later K) := ⟨_, _, ok_heats_later F_x14 T o_x9 o_x25 o_x24 o_x29, b_x14, W.mg_of X GX a_x14, k_x14⟩
  have o_x10 : Ok l.prog w K mg base "missed_later" P_missed_later 4 (sp_missed_later K) := ⟨_, _, ok_missed_later F_x10 T o_x25 o_x41 o_x24 o_x29, b_x10, W.mg_of X GX a_x10, k_x10⟩
  have o_x16 : Ok l.prog w K mg base "whole_years" P_whole_years 5 (sp_whole_years K) := ⟨_, _, ok_whole_years F_x16 T o_x41 o_x14 o_x10, b_x16, W.mg_of X GX a_x16, k_x16⟩
  have o_x11 : Ok l.prog w K mg base "passed_until" P_passed_until 6 (sp_passed_until K) := ⟨_, _, ok_passed_until F_x11 T o_x16 o_x41, b_x11, W.mg_of X GX a_x11, k_x11⟩
  have o_x23 : Ok l.prog w K mg base "amount_of" P_amount_of 1 (sp_amount_of K) := ⟨_, _, ok_amount_of F_x23 T, b_x23, W.mg_of X GX a_x23, k_x23⟩
  have o_x6 : Ok l.prog w K mg base "amount_until" P_amount_until 2 (sp_amount_until K) := ⟨_, _, ok_amount_until F_x6 T o_x23, b_x6, W.mg_of X GX a_x6, k_x6⟩
  have o_x26 : Ok l.prog w K mg base "stage_of" P_stage_of 1 sp_stage_of := ⟨_, _, ok_stage_of F_x26 T, b_x26, W.mg_of X GX a_x26, k_x26⟩
  have o_x33 : Ok l.prog w K mg base "reached" P_reached 7 (sp_reached K) := ⟨_, _, ok_reached F_x33 T o_x11 o_x6 o_x26, b_x33, W.mg_of X GX a_x33, k_x33⟩
  have om_x3 : OkM l.prog w K mg base G "pass_seasons" P_G_pass_seasons 8 (sp_G_pass_seasons G) := ⟨_, _, ok_G_pass_seasons F_x3 T TG om_x5 om_x37 o_x0 o_x35 o_x33, b_x3, ⟨a_x3, i_x3, k_x3⟩⟩
  have om_x38 : OkM l.prog w K mg base G "warm" P_G_warm 9 (sp_G_warm G) := ⟨_, _, ok_G_warm F_x38 T TG o_x7 om_x3, b_x38, ⟨a_x38, i_x38, k_x38⟩⟩
  have om_x36 : OkM l.prog w K mg base G "cold" P_G_cold 9 (sp_G_cold G) := ⟨_, _, ok_G_cold F_x36 T TG o_x7 om_x3, b_x36, ⟨a_x36, i_x36, k_x36⟩⟩
  have o_x21 : Ok l.prog w K mg base "check_need" P_check_need 1 sp_check_need := ⟨_, _, ok_check_need F_x21 T, b_x21, W.mg_of X GX a_x21, k_x21⟩
  have o_x20 : Ok l.prog w K mg base "check_laid" P_check_laid 1 sp_check_laid := ⟨_, _, ok_check_laid F_x20 T, b_x20, W.mg_of X GX a_x20, k_x20⟩
  have om_x45 : OkM l.prog w K mg base G "lay" P_G_lay 2 (sp_G_lay G) := ⟨_, _, ok_G_lay F_x45 T TG om_x5 om_x37 o_x21 o_x20 o_x0 o_x26, b_x45, ⟨a_x45, i_x45, k_x45⟩⟩
  have o_x22 : Ok l.prog w K mg base "check_year" P_check_year 2 (sp_check_year K) := ⟨_, _, ok_check_year F_x22 T o_x7, b_x22, W.mg_of X GX a_x22, k_x22⟩
  have om_x28 : OkM l.prog w K mg base G "years" P_G_years 9 (sp_G_years K G) := ⟨_, _, ok_G_years F_x28 T TG o_x22 o_x13 om_x3, b_x28, ⟨a_x28, i_x28, k_x28⟩⟩
  have o_x62 : Ok l.prog w K mg base "_law_do" P_do 10 (sp_do G) := ⟨_, _, ok_do F_x62 T TG om_x38 om_x36 om_x45 om_x28, b_x62, W.mg_of X GX a_x62, k_x62⟩
  have o_x63 : Ok l.prog w K mg base "_law_go" P_go 1 (sp_go K) := ⟨_, _, ok_go F_x63 T, b_x63, W.mg_of X GX a_x63, k_x63⟩
  have o_x46 : Ok l.prog w K mg base "_law_again" P_again 2 (sp_again K) := ⟨_, _, ok_again F_x46 T o_x63, b_x46, W.mg_of X GX a_x46, k_x46⟩
  have o_x52 : Ok l.prog w K mg base "_law_done" P_done 3 (sp_done K) := ⟨_, _, ok_done F_x52 T o_x63 o_x46, b_x52, W.mg_of X GX a_x52, k_x52⟩
  have o_x56 : Ok l.prog w K mg base "_law_told" P_told 2 (sp_told K) := ⟨_, _, ok_told F_x56 T o_x49, b_x56, W.mg_of X GX a_x56, k_x56⟩
  have o_x53 : Ok l.prog w K mg base "_law_fits" P_fits 3 (sp_fits K) := ⟨_, _, ok_fits F_x53 T o_x49 o_x56, b_x53, W.mg_of X GX a_x53, k_x53⟩
  have o_x54 : Ok l.prog w K mg base "_law_pair" P_pair 4 (sp_pair K) := ⟨_, _, ok_pair F_x54 T o_x61 o_x39 o_x34, b_x54, W.mg_of X GX a_x54, k_x54⟩
  have o_x44 : Ok l.prog w K mg base "_law_within" P_within 1 sp_within := ⟨_, _, ok_within F_x44 T, b_x44, W.mg_of X GX a_x44, k_x44⟩
  have o_x31 : Ok l.prog w K mg base "_law_no_less" P_no_less 1 (sp_no_less K) := ⟨_, _, ok_no_less F_x31 T, b_x31, W.mg_of X GX a_x31, k_x31⟩
  have o_x18 : Ok l.prog w K mg base "check_beds" P_check_beds 1 (sp_check_beds K) := ⟨_, _, ok_check_beds F_x18 T, b_x18, W.mg_of X GX a_x18, k_x18⟩
  have o_x12 : Ok l.prog w K mg base "check_heats" P_check_heats 1 (sp_check_heats K) := ⟨_, _, ok_check_heats F_x12 T, b_x12, W.mg_of X GX a_x12, k_x12⟩
  have oi_one : OkI l.prog w K mg base G P_G___init__ 2 (sp_G_init K G) [.none] := ⟨_, _, ok_G___init__ F_x17 T TG o_x18 o_x21 o_x12 o_x26, b_one, ⟨mk, a_x17, i_x17, kc⟩⟩
  have oi_two : OkI l.prog w K mg base G P_G___init__ 2 (sp_G_init K G) [] := ⟨_, _, ok_G___init__ F_x17 T TG o_x18 o_x21 o_x12 o_x26, b_two, ⟨mk, a_x17, i_x17, kc⟩⟩
  have om_x27 : OkM l.prog w K mg base G "heats" P_G_heats 2 (sp_G_heats G) := ⟨_, _, ok_G_heats F_x27 T TG om_x5, b_x27, ⟨a_x27, i_x27, k_x27⟩⟩
  have o_x19 : Ok l.prog w K mg base "check_deed" P_check_deed 1 sp_check_deed := ⟨_, _, ok_check_deed F_x19 T, b_x19, W.mg_of X GX a_x19, k_x19⟩
  have o_x8 : Ok l.prog w K mg base "check_season" P_check_season 1 sp_check_season := ⟨_, _, ok_check_season F_x8 T, b_x8, W.mg_of X GX a_x8, k_x8⟩
  have om_x4 : OkM l.prog w K mg base G "stage_within" P_G_stage_within 8 (sp_G_stage_within G) := ⟨_, _, ok_G_stage_within F_x4 T TG o_x19 o_x8 o_x35 o_x33, b_x4, ⟨a_x4, i_x4, k_x4⟩⟩
  have om_x2 : OkM l.prog w K mg base G "heats_within" P_G_heats_within 9 (sp_G_heats_within G) := ⟨_, _, ok_G_heats_within F_x2 T TG om_x4, b_x2, ⟨a_x2, i_x2, k_x2⟩⟩
  exact ok_law F_law T TG o_x61 o_x32 o_x50 o_x58 o_x51 o_x62 o_x52 o_x53 o_x54 o_x44 o_x31 oi_two om_x27 om_x2
theorem walk {l : W.OpenLaw} {q : Program} {loose : List Str} {XP : (Str → Option Value) → Heap → Prop} {YP : World → Heap → Prop} {d : DefRec} {K : Params → W.Frag} (hn : l.most = some 63) (hdf : d.params.defaults = [])
    (hY : ∀ (w : World) (h : Heap), YP w h → (K w.params).In h)
    (F : ∀ (w : World) (mg : Str → Option Value) (fa : Addr) (h : Heap), (K w.params).In h → h.Ns mainGlobals mg → mg d.name = some (.ref fa) →
      ∃ fd : FuncData, (∀ (s : Shared) (u : Value), BindsTo s fd ⟨[u], []⟩ [("_law_script", u)]) ∧ ∀ base : Heap, (K w.params).In base → base.Ns mainGlobals mg → FnOk l.prog w (K w.params) mg base CX0 11 fa fd ["_law_script"] (sp_law (K w.params))) :
    W.WalkO q loose XP YP l.row.toRowW d [] (fun f vs => PySem.call f vs) :=
  L2.walk_of (n := 63) (k := 11) (x := "_law_script") (CX := fun _ => CX0) (sp := fun w => sp_law (K w.params)) hn (by decide) hdf ⟨rfl, by decide, by decide⟩ hY F (fun _ _ a ns hl _ hS => ⟨a, ns, rfl, hS, hl, fun _ => rfl⟩) fun _ _ _ _ _ z => z
end Tf
namespace PySem.W.Fast
def tw8488565522286957340:=0
def tw3342790625616947088:=0
def tw178612860719948658:=0
def tw6480044015453767282:=0
def tw5246680382509491022:=0
def tw13389787754653152101:=0
def tw301032561474527833:=0
def tw6908567008863775374:=0
def tw14538402554405721271:=0
def tw10129415982943423992:=0
def tw6328181501545959113:=0
def tw13781878066031003603:=0
def tw10919244954674126792:=0
def tw10596266394050206700:=0
def tw17007999158473749810:=0
def tw13590191904328636522:=0
def tw3600069293942362710:=0
def tw17750597969536716904:=0
def tw18386813123988589721:=0
def tw7082135037494703982:=0
def tw5492635085117614626:=0
def tw4165241992093936551:=0
def tw5277246947604272404:=0
def tw11294903611359347828:=0
def tw17867105499380843691:=0
def tw10063434203264797248:=0
def tw14504200496149752199:=0
def tw7525393172267788280:=0
def tw9618700884615488583:=0
def tw13585733034030213887:=0
def tw11570143498560838130:=0
def tw9293878899536041730:=0
def tw15862778619884979643:=0
def tw7353727317866162627:=0
def tw18113780174879101633:=0
def tw4846018484912147188:=0
def tw8385521196675701036:=0
def tw15244113921096143771:=0
def tw8081037893233067224:=0
def tw7220910729316387799:=0
def tw13675544951050535544:=0
def tw5700351695592691080:=0
def tw11349392757096181675:=0
def tw9210701074139391588:=0
def tw763606433001546294:=0
def tw4421824146589233568:=0
def tw7543696096664504038:=0
def tw2178781006378040004:=0
def tw18116403214297173139:=0
def tw13506893848108794949:=0
def tw4465964304965523799:=0
def tw13431173381206772065:=0
def tw11541238518049213117:=0
def tw14684877240819733979:=0
def tw13445784559243662559:=0
def tw8630990368996348937:=0
def tw12103920514747127728:=0
def tw6716717896171733499:=0
def tw7679260760508983106:=0
def tw3839688717479205642:=0
def tw10910617828991114916:=0
def tw16891028114837931271:=0
def tw18277736644242145691:=0
def tw1082372329037149413:=0
def tw10799002227846803328:=0
def tw8856903316310768606:=0
def tw15545172056337937842:=0
def tw6641657799073300150:=0
def tw11341874585829252181:=0
def tw13280206556229473182:=0
def tw14533181716853422772:=0
def tw9491535530909601281:=0
def tw6615342106960874857:=0
def tw964175824722874396:=0
def tw992046824006168268:=0
def tw213190014154881756:=0
def tw4199825090252397191:=0
def tw7363624350313820399:=0
def tw8704004435332447979:=0
def tw17933984713241444721:=0
def tw7302499765033985904:=0
def tw14663004380681212202:=0
def tw5925304364356710648:=0
def tw3636681052911004059:=0
def tw3036834652586936362:=0
def tw16801246942510231748:=0
def tw16366218559104183314:=0
def tw13003467595804785877:=0
def tw1300119717157878854:=0
def tw12035376031543509799:=0
def tw15134486529494750758:=0
def tw14656063374942641529:=0
def tw17654475719966959752:=0
def tw15993972675010623898:=0
def tw11086300579406455502:=0
def tw14064020870070893733:=0
def tw9764521200499575526:=0
def tw7001632652893387840:=0
def tw14989489777634952102:=0
def tw8440540725629555745:=0
def tw4794352132999317812:=0
def tw8213710163367144955:=0
def tw7948223734018313269:=0
def tw17589854246996170226:=0
def tw7116470250503039409:=0
def tw7080808629221955260:=0
def tw14819969018727835526:=0
def tw13401960278521363896:=0
def tw4588519721215917464:=0
def tw10060581779237307389:=0
def tw10904013767988217686:=0
def tw1279937860505788807:=0
def tw9349920101686289201:=0
def tw17464193604283271845:=0
def tw15515012603549260849:=0
def tw7741337288980848445:=0
def tw1461834560724893209:=0
def tw3283676309001786248:=0
def tw13012542295208272383:=0
def tw17337041225055839239:=0
def tw623256881223148172:=0
def tw7283401394437404344:=0
def tw6366406988386894563:=0
def tw6448665541030632675:=0
def tw11530610021413196950:=0
def tw17527419721591329077:=0
def tw12786303617703000986:=0
def tw603311851983856801:=0
def tw99521304516708637:=0
def tw17303780206587008967:=0
def tw11274962757184900281:=0
def tw12528808655488201882:=0
def tw946386312020947250:=0
def tw8753406983894880394:=0
def tw16106958746233441248:=0
def tw15767744600616370704:=0
def tw739455987443123992:=0
def tw12213528305963453662:=0
def tw5751120244828093994:=0
def tw8322374860730599807:=0
def tw17227422866628089036:=0
def tw12601705477134300277:=0
def tw16092047866468021129:=0
def tw15079498228931474821:=0
def tw17140384552519101970:=0
def tw9777811230732290122:=0
def tw2657200200482202392:=0
def tw16571221768035978710:=0
def tw9436925174285391502:=0
def tw1496366362697869269:=0
def tw7835655646008357809:=0
def tw12922505591440885159:=0
def tw12767801373102703015:=0
def tw4856592486682192680:=0
def tw10324775268767323383:=0
def tw16772141741263770786:=0
def tw4333257748708414266:=0
def tw5434638318650548302:=0
end PySem.W.Fast
open PySem PySem.W PyProof.Rows
set_option maxRecDepth 100000 in
set_option maxHeartbeats 0 in
theorem PySem.Challenge.cw_thawfront_k39_whole_warmer_holds : PySem.Challenge.rw_thawfront_k39_whole_warmer.Holds := by
  w_on; o_law; k_head; (case hw => w_witness2)
  k_fill
  refine Tf.walk (l := PySem.Challenge.rw_thawfront_k39_whole_warmer) rfl rfl (fun w h Y => PySem.W.kIn_of Y) ?F
  case F =>
    intro w mg fa h KX G hmg
    refine' Tf.all_mk KX G hmg ?aG ?a_x61 ?l_x61 ?c_x61 ?k_x61 ?a_x49 ?l_x49 ?c_x49 ?k_x49 ?a_x32 ?l_x32 ?c_x32 ?k_x32 ?a_x60 ?l_x60 ?c_x60 ?k_x60 ?a_x50 ?l_x50 ?c_x50 ?k_x50 ?a_x57 ?l_x57 ?c_x57 ?k_x57 ?a_x55 ?l_x55 ?c_x55 ?k_x55 ?a_x47 ?l_x47 ?c_x47 ?k_x47 ?a_x58 ?l_x58 ?c_x58 ?k_x58 ?a_x39 ?l_x39 ?c_x39 ?k_x39 ?a_x42 ?l_x42 ?c_x42 ?k_x42 ?a_x34 ?l_x34 ?c_x34 ?k_x34 ?a_x51 ?l_x51 ?c_x51 ?k_x51 ?a_x7 ?l_x7 ?c_x7 ?k_x7 ?a_x5 ?i_x5 ?l_x5 ?c_x5 ?k_x5 ?a_x37 ?i_x37 ?l_x37 ?c_x37 ?k_x37 ?a_x0 ?l_x0 ?c_x0 ?k_x0 ?a_x35 ?l_x35 ?c_x35 ?k_x35 ?a_x1 ?l_x1 ?c_x1 ?k_x1 ?a_x43 ?l_x43 ?c_x43 ?k_x43 ?a_x30 ?l_x30 ?c_x30 ?k_x30 ?a_x41 ?l_x41 ?c_x41 ?k_x41 ?a_x9 ?l_x9 ?c_x9 ?k_x9 ?a_x48 ?l_x48 ?c_x48 ?k_x48 ?a_x15 ?l_x15 ?c_x15 ?k_x15 ?a_x29 ?l_x29 ?c_x29 ?k_x29 ?a_x40 ?l_x40 ?c_x40 ?k_x40 ?a_x25 ?l_x25 ?c_x25 ?k_x25 ?a_x13 ?l_x13 ?c_x13 ?k_x13 ?a_x24 ?l_x24 ?c_x24 ?k_x24 ?a_x14 ?l_x14 ?c_x14 ?k_x14 ?a_x10 ?l_x10 ?c_x10 ?k_x10 ?a_x16 ?l_x16 ?c_x16 ?k_x16 ?a_x11 ?l_x11 ?c_x11 ?k_x11 ?a_x23 ?l_x23 ?c_x23 ?k_x23 ?a_x6 ?l_x6 ?c_x6 ?k_x6 ?a_x26 ?l_x26 ?c_x26 ?k_x26 ?a_x33 ?l_x33 ?c_x33 ?k_x33 ?a_x3 ?i_x3 ?l_x3 ?c_x3 ?k_x3 ?a_x38 ?i_x38 ?l_x38 ?c_x38 ?k_x38 ?a_x36 ?i_x36 ?l_x36 ?c_x36 ?k_x36 ?a_x21 ?l_x21 ?c_x21 ?k_x21 ?a_x20 ?l_x20 ?c_x20 ?k_x20 ?a_x45 ?i_x45 ?l_x45 ?c_x45 ?k_x45 ?a_x22 ?l_x22 ?c_x22 ?k_x22 ?a_x28 ?i_x28 ?l_x28 ?c_x28 ?k_x28 ?a_x62 ?l_x62 ?c_x62 ?k_x62 ?a_x63 ?l_x63 ?c_x63 ?k_x63 ?a_x46 ?l_x46 ?c_x46 ?k_x46 ?a_x52 ?l_x52 ?c_x52 ?k_x52 ?a_x56 ?l_x56 ?c_x56 ?k_x56 ?a_x53 ?l_x53 ?c_x53 ?k_x53 ?a_x54 ?l_x54 ?c_x54 ?k_x54 ?a_x44 ?l_x44 ?c_x44 ?k_x44 ?a_x31 ?l_x31 ?c_x31 ?k_x31 ?a_x18 ?l_x18 ?c_x18 ?k_x18 ?a_x12 ?l_x12 ?c_x12 ?k_x12 ?a_x17 ?i_x17 ?l_x17 ?c_x17 ?k_x17 ?a_x27 ?i_x27 ?l_x27 ?c_x27 ?k_x27 ?a_x19 ?l_x19 ?c_x19 ?k_x19 ?a_x8 ?l_x8 ?c_x8 ?k_x8 ?a_x4 ?i_x4 ?l_x4 ?c_x4 ?k_x4 ?a_x2 ?i_x2 ?l_x2 ?c_x2 ?k_x2 ?a_law ?l_law ?c_law ?k_law ?lD ?sD ?z_ValueError ?z_bool ?z_int ?z_isinstance ?z_len ?z_list ?z_max ?z_min ?z_range ?z_reversed ?z_sorted ?z_sum ?z_tuple ?z_zip ?g_MOST_BEDS ?g_MOST_LAID ?g_MOST_NEED ?g_MOST_AMOUNT ?g_MOST_SEASONS ?g_MOST_TIMES ?g_MOST_DEEDS ?pg ?hd ?po ?sa ?mk ?kc ?nK ?nS
    (case aG => k_is)
    (case a_x61 => k_is)
    (case l_x61 => k_is)
    (case c_x61 => k_is)
    (case k_x61 => k_is)
    (case a_x49 => k_is)
    (case l_x49 => k_is)
    (case c_x49 => k_is)
    (case k_x49 => k_is)
    (case a_x32 => k_is)
    (case l_x32 => k_is)
    (case c_x32 => k_is)
    (case k_x32 => k_is)
    (case a_x60 => k_is)
    (case l_x60 => k_is)
    (case c_x60 => k_is)
    (case k_x60 => k_is)
    (case a_x50 => k_is)
    (case l_x50 => k_is)
    (case c_x50 => k_is)
    (case k_x50 => k_is)
    (case a_x57 => k_is)
    (case l_x57 => k_is)
    (case c_x57 => k_is)
    (case k_x57 => k_is)
    (case a_x55 => k_is)
    (case l_x55 => k_is)
    (case c_x55 => k_is)
    (case k_x55 => k_is)
    (case a_x47 => k_is)
    (case l_x47 => k_is)
    (case c_x47 => k_is)
    (case k_x47 => k_is)
    (case a_x58 => k_is)
    (case l_x58 => k_is)
    (case c_x58 => k_is)
    (case k_x58 => k_is)
    (case a_x39 => k_is)
    (case l_x39 => k_is)
    (case c_x39 => k_is)
    (case k_x39 => k_is)
    (case a_x42 => k_is)
    (case l_x42 => k_is)
    (case c_x42 => k_is)
    (case k_x42 => k_is)
    (case a_x34 => k_is)
    (case l_x34 => k_is)
    (case c_x34 => k_is)
    (case k_x34 => k_is)
    (case a_x51 => k_is)
    (case l_x51 => k_is)
    (case c_x51 => k_is)
    (case k_x51 => k_is)
    (case a_x7 => k_is)
    (case l_x7 => k_is)
    (case c_x7 => k_is)
    (case k_x7 => k_is)
    (case a_x5 => k_is)
    (case i_x5 => k_is)
    (case l_x5 => k_is)
    (case c_x5 => k_is)
    (case k_x5 => k_is)
    (case a_x37 => k_is)
    (case i_x37 => k_is)
    (case l_x37 => k_is)
    (case c_x37 => k_is)
    (case k_x37 => k_is)
    (case a_x0 => k_is)
    (case l_x0 => k_is)
    (case c_x0 => k_is)
    (case k_x0 => k_is)
    (case a_x35 => k_is)
    (case l_x35 => k_is)
    (case c_x35 => k_is)
    (case k_x35 => k_is)
    (case a_x1 => k_is)
    (case l_x1 => k_is)
    (case c_x1 => k_is)
    (case k_x1 => k_is)
    (case a_x43 => k_is)
    (case l_x43 => k_is)
    (case c_x43 => k_is)
    (case k_x43 => k_is)
    (case a_x30 => k_is)
    (case l_x30 => k_is)
    (case c_x30 => k_is)
    (case k_x30 => k_is)
    (case a_x41 => k_is)
    (case l_x41 => k_is)
    (case c_x41 => k_is)
    (case k_x41 => k_is)
    (case a_x9 => k_is)
    (case l_x9 => k_is)
    (case c_x9 => k_is)
    (case k_x9 => k_is)
    (case a_x48 => k_is)
    (case l_x48 => k_is)
    (case c_x48 => k_is)
    (case k_x48 => k_is)
    (case a_x15 => k_is)
    (case l_x15 => k_is)
    (case c_x15 => k_is)
    (case k_x15 => k_is)
    (case a_x29 => k_is)
    (case l_x29 => k_is)
    (case c_x29 => k_is)
    (case k_x29 => k_is)
    (case a_x40 => k_is)
    (case l_x40 => k_is)
    (case c_x40 => k_is)
    (case k_x40 => k_is)
    (case a_x25 => k_is)
    (case l_x25 => k_is)
    (case c_x25 => k_is)
    (case k_x25 => k_is)
    (case a_x13 => k_is)
    (case l_x13 => k_is)
    (case c_x13 => k_is)
    (case k_x13 => k_is)
    (case a_x24 => k_is)
    (case l_x24 => k_is)
    (case c_x24 => k_is)
    (case k_x24 => k_is)
    (case a_x14 => k_is)
    (case l_x14 => k_is)
    (case c_x14 => k_is)
    (case k_x14 => k_is)
    (case a_x10 => k_is)
    (case l_x10 => k_is)
    (case c_x10 => k_is)
    (case k_x10 => k_is)
    (case a_x16 => k_is)
    (case l_x16 => k_is)
    (case c_x16 => k_is)
    (case k_x16 => k_is)
    (case a_x11 => k_is)
    (case l_x11 => k_is)
    (case c_x11 => k_is)
    (case k_x11 => k_is)
    (case a_x23 => k_is)
    (case l_x23 => k_is)
    (case c_x23 => k_is)
    (case k_x23 => k_is)
    (case a_x6 => k_is)
    (case l_x6 => k_is)
    (case c_x6 => k_is)
    (case k_x6 => k_is)
    (case a_x26 => k_is)
    (case l_x26 => k_is)
    (case c_x26 => k_is)
    (case k_x26 => k_is)
    (case a_x33 => k_is)
    (case l_x33 => k_is)
    (case c_x33 => k_is)
    (case k_x33 => k_is)
    (case a_x3 => k_is)
    (case i_x3 => k_is)
    (case l_x3 => k_is)
    (case c_x3 => k_is)
    (case k_x3 => k_is)
    (case a_x38 => k_is)
    (case i_x38 => k_is)
    (case l_x38 => k_is)
    (case c_x38 => k_is)
    (case k_x38 => k_is)
    (case a_x36 => k_is)
    (case i_x36 => k_is)
    (case l_x36 => k_is)
    (case c_x36 => k_is)
    (case k_x36 => k_is)
    (case a_x21 => k_is)
    (case l_x21 => k_is)
    (case c_x21 => k_is)
    (case k_x21 => k_is)
    (case a_x20 => k_is)
    (case l_x20 => k_is)
    (case c_x20 => k_is)
    (case k_x20 => k_is)
    (case a_x45 => k_is)
    (case i_x45 => k_is)
    (case l_x45 => k_is)
    (case c_x45 => k_is)
    (case k_x45 => k_is)
    (case a_x22 => k_is)
    (case l_x22 => k_is)
    (case c_x22 => k_is)
    (case k_x22 => k_is)
    (case a_x28 => k_is)
    (case i_x28 => k_is)
    (case l_x28 => k_is)
    (case c_x28 => k_is)
    (case k_x28 => k_is)
    (case a_x62 => k_is)
    (case l_x62 => k_is)
    (case c_x62 => k_is)
    (case k_x62 => k_is)
    (case a_x63 => k_is)
    (case l_x63 => k_is)
    (case c_x63 => k_is)
    (case k_x63 => k_is)
    (case a_x46 => k_is)
    (case l_x46 => k_is)
    (case c_x46 => k_is)
    (case k_x46 => k_is)
    (case a_x52 => k_is)
    (case l_x52 => k_is)
    (case c_x52 => k_is)
    (case k_x52 => k_is)
    (case a_x56 => k_is)
    (case l_x56 => k_is)
    (case c_x56 => k_is)
    (case k_x56 => k_is)
    (case a_x53 => k_is)
    (case l_x53 => k_is)
    (case c_x53 => k_is)
    (case k_x53 => k_is)
    (case a_x54 => k_is)
    (case l_x54 => k_is)
    (case c_x54 => k_is)
    (case k_x54 => k_is)
    (case a_x44 => k_is)
    (case l_x44 => k_is)
    (case c_x44 => k_is)
    (case k_x44 => k_is)
    (case a_x31 => k_is)
    (case l_x31 => k_is)
    (case c_x31 => k_is)
    (case k_x31 => k_is)
    (case a_x18 => k_is)
    (case l_x18 => k_is)
    (case c_x18 => k_is)
    (case k_x18 => k_is)
    (case a_x12 => k_is)
    (case l_x12 => k_is)
    (case c_x12 => k_is)
    (case k_x12 => k_is)
    (case a_x17 => k_is)
    (case i_x17 => k_is)
    (case l_x17 => k_is)
    (case c_x17 => k_is)
    (case k_x17 => k_is)
    (case a_x27 => k_is)
    (case i_x27 => k_is)
    (case l_x27 => k_is)
    (case c_x27 => k_is)
    (case k_x27 => k_is)
    (case a_x19 => k_is)
    (case l_x19 => k_is)
    (case c_x19 => k_is)
    (case k_x19 => k_is)
    (case a_x8 => k_is)
    (case l_x8 => k_is)
    (case c_x8 => k_is)
    (case k_x8 => k_is)
    (case a_x4 => k_is)
    (case i_x4 => k_is)
    (case l_x4 => k_is)
    (case c_x4 => k_is)
    (case k_x4 => k_is)
    (case a_x2 => k_is)
    (case i_x2 => k_is)
    (case l_x2 => k_is)
    (case c_x2 => k_is)
    (case k_x2 => k_is)
    (case a_law => k_is)
    (case l_law => k_is)
    (case c_law => k_is)
    (case k_law => k_is)
    (case lD => k_is)
    (case sD => rfl)
    (case z_ValueError => k_is)
    (case z_bool => k_is)
    (case z_int => k_is)
    (case z_isinstance => k_is)
    (case z_len => k_is)
    (case z_list => k_is)
    (case z_max => k_is)
    (case z_min => k_is)
    (case z_range => k_is)
    (case z_reversed => k_is)
    (case z_sorted => k_is)
    (case z_sum => k_is)
    (case z_tuple => k_is)
    (case z_zip => k_is)
    (case g_MOST_BEDS => k_is)
    (case g_MOST_LAID => k_is)
    (case g_MOST_NEED => k_is)
    (case g_MOST_AMOUNT => k_is)
    (case g_MOST_SEASONS => k_is)
    (case g_MOST_TIMES => k_is)
    (case g_MOST_DEEDS => k_is)
    (case pg => k_is)
    (case hd => k_is)
    (case po => k_is)
    (case sa => k_is)
    (case mk => k_is)
    (case kc => k_is)
    (case nK => k_is)
    (case nS => k_is)
