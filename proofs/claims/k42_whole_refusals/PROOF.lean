import PyProof.Rows.All
import Wide.All
import OpenK.AllK
import Wide.FinOn
import Lean
import PyProof.EqAt
import PyProof.EqKinds
import PyProof.TupleCall
import PyProof.ZipIter
import PyProof.Rows.SumAny
import PyProof.Rows.SortWalk
import PyProof.NeKinds
import OpenK.KRaise
import PyProof.Rows.FStr
import PyProof.Rows.RegStrFacts
import PyProof.Rows.Own
import OpenK.KOwn
import PyProof.ExcArgsOwn
import PyProof.IsiBase
import PyProof.ExcAttrAll.ValueError
import KE.KLam
import KE.KTryMore
import PyProof.NsDelKeeps
import PySem.Challenge.RW_thawfront_k42_whole_refusals
set_option Elab.async false
set_option linter.all false
set_option maxRecDepth 100000
set_option maxHeartbeats 4000000
open Array renaming length_toList → jV, append_assoc → lH
open Bool renaming false_ne_true → gS, eq_iff_iff → jO, and_eq_true → kJ, false_eq_true → lI
open Int renaming emod_lt_of_pos → gC, emod_nonneg → gM, le_refl → iU, add_zero → jE, zero_add → jL, le_trans → kK, toNat_natCast → kX, add_mul → kY, one_mul → kZ
open List renaming length_map → fU, getElem?_eq_getElem → fX, getD_eq_getElem?_getD → fY, mem_cons_of_mem → gD, getElem?_map → gE, size_toArray → gG, getElem?_eq_some_iff → gK, map_append → gO, mem_cons → gR, mem_cons_self → gU, getElem?_append_right → gV, getElem?_append_left → gY, replicate → hV, length_append → i6, mem_of_getElem? → i7, range → i9, mem_append_right → iE, length_take → iH, take_of_length_le → iJ, lookup_cons → iK, eq_nil_of_length_eq_zero → iL, mem_append → iM, length_cons → iN, not_mem_nil → iQ, length_range → iS, filterMap_cons → iT, getElem?_set_self → iX, take_length → iZ, foldl_cons → j6, ext_getElem → jA, mem_append_left → jC, getElem?_set_ne → jD, append_nil → jH, filter_cons → jI, filter_append → jJ, getElem_range → jK, mem_of_mem_take → jM, mem_filter → jN, getElem?_take_of_lt → jQ, foldl_append → jR, length_nil → jS, zipWith → jU, lookup → jW, map_cons → jX, replicate_succ → jY, length_zipWith → jZ, map_drop → k6, length_drop → k8, getElem_map → kA, take_zero → kB, mem_filterMap → kC, length_set → kE, range_succ → kF, length_filter_le → kG, find?_cons → kH, mem_range → kI, mem_map → kL, nodup_cons → kO, map_take → kQ, drop_of_length_le → kT, flatten_cons → kW, any_cons → lB, of_mem_zip → lE, map_congr_left → lF, getElem?_range → lG, map_set → lJ, sum_cons → lM
open Nat renaming le_refl → gA, lt_of_lt_of_le → gP, ne_of_lt → iB, zero_le → iG, lt_irrefl → iI, le_trans → iV, lt_of_succ_lt_succ → iY, le_of_lt → l6, le_of_ble_eq_true → l7, lt_succ_self → l8, le_add_right → l9
open Option renaming isSome_iff_exists → jP
open PySem renaming Addr → fT, Value → fV, Shared → fW, Str → fZ, starEach → gB, Program → gL, wpAny_bind → gQ, wpAny → gT, model → gW, World → gX, cellsFrom → gZ, sizeLine → hJ, Stmt → hZ, Expr → i4, mainGlobals → iA, Heap → iC, Around → iD, FuncData → iF, NameKind → iO, Obj → j5
open PySem.F renaming slot_list_append → gH, type_list_append → gI, plainAttrs_list → gJ
open PySem.W renaming kitOne → i5, kla_fn → i8, kia_one → iP, findIn → iR, mg_none_of → iW, emptyDict → j0, cellsFrom_some → j7, envX → j8, fnOf → j9, hideAll_none → jB, instObj → jF, hideAll_get → jG, keepIn → jT, hideAll → kD, of_hideAll → kM, callWith_K → kN, codeIn → kP, mg_of → kR, plainGet → kS, funFrames_hide → kU, tabObj → l4, hasDictIn → lA, plainGet_of → lC, lookIn → lK, methodObj → lL, nsIn → lN, isFn → lO
theorem Z {α:Sort u} {a:α}:a=a:=rfl
namespace L2
theorem D9_ {p : Prop} [Decidable p] (h : decide p = true := by decide +kernel) : p := of_decide_eq_true h
theorem D8_ {p : Prop} [Decidable p] (h : decide p = true) : p := of_decide_eq_true h
theorem D7_ {p : Prop} [Decidable p] (h : p) : decide p = true := decide_eq_true h
inductive E2 {A0 A1:Type} (p:A0->A1->Prop):Prop
 | mk (a0:A0) (a1:A1) (h:p a0 a1):E2 p
inductive E3 {A0 A1 A2:Type} (p:A0->A1->A2->Prop):Prop
 | mk (a0:A0) (a1:A1) (a2:A2) (h:p a0 a1 a2):E3 p
inductive E4 {A0 A1 A2 A3:Type} (p:A0->A1->A2->A3->Prop):Prop
 | mk (a0:A0) (a1:A1) (a2:A2) (a3:A3) (h:p a0 a1 a2 a3):E4 p
inductive E5 {A0 A1 A2 A3 A4:Type} (p:A0->A1->A2->A3->A4->Prop):Prop
 | mk (a0:A0) (a1:A1) (a2:A2) (a3:A3) (a4:A4) (h:p a0 a1 a2 a3 a4):E5 p
inductive E6 {A0 A1 A2 A3 A4 A5:Type} (p:A0->A1->A2->A3->A4->A5->Prop):Prop
 | mk (a0:A0) (a1:A1) (a2:A2) (a3:A3) (a4:A4) (a5:A5) (h:p a0 a1 a2 a3 a4 a5):E6 p
inductive E7 {A0 A1 A2 A3 A4 A5 A6:Type} (p:A0->A1->A2->A3->A4->A5->A6->Prop):Prop
 | mk (a0:A0) (a1:A1) (a2:A2) (a3:A3) (a4:A4) (a5:A5) (a6:A6) (h:p a0 a1 a2 a3 a4 a5 a6):E7 p
inductive E8 {A0 A1 A2 A3 A4 A5 A6 A7:Type} (p:A0->A1->A2->A3->A4->A5->A6->A7->Prop):Prop
 | mk (a0:A0) (a1:A1) (a2:A2) (a3:A3) (a4:A4) (a5:A5) (a6:A6) (a7:A7) (h:p a0 a1 a2 a3 a4 a5 a6 a7):E8 p
end L2
namespace L2
open PySem PySem.Spec PyProof.Rows
abbrev Key:=Sum Int fZ
def ZB:Key->fV->Bool
 | .inl k,v=>Value.isInt k v
 | .inr x,v=>Value.isStrOf x v
def keyH (w:gX):Key->Int
 | .inl k=>hashInt k
 | .inr x=>hashStr w x
theorem AH:∀ {k:Key} {v:fV},ZB k v=true->(∃ i t,k=Sum.inl i/\v=Value.int i t)\/(∃ x t,k=Sum.inr x/\v=Value.str x t)
 | .inl i,v,h=>by
  obtain ⟨t,e⟩:=Value.isInt_shape (k:=i) (v:=v) h;exact .inl ⟨i,t,Z,e⟩
 | .inr x,v,h=>by
  obtain ⟨t,e⟩:=Value.isStrOf_shape (x:=x) (v:=v) h;exact .inr ⟨x,t,Z,e⟩
theorem dZ (i:Int) (t:Tok):ZB (.inl i) (.int i t)=true:=by simp [ZB,Value.isInt]
theorem aK (x:fZ) (t:Tok):ZB (.inr x) (.str x t)=true:=by simp [ZB,Value.isStrOf]
theorem key_ll (a b:Int):decide ((Sum.inl a:Key)=Sum.inl b)=(a == b):=by
 by_cases e:a=b
 ·subst e;simp
 ·have h:¬ (Sum.inl a:Key)=Sum.inl b:=λq=>e (Sum.inl.inj q);rw [decide_eq_false h];exact (beq_eq_false_iff_ne.mpr e).symm
theorem key_rr (a b:fZ):decide ((Sum.inr a:Key)=Sum.inr b)=decide (a=b):=by
 by_cases e:a=b
 ·subst e;simp
 ·have h:¬ (Sum.inr a:Key)=Sum.inr b:=λq=>e (Sum.inr.inj q);rw [decide_eq_false h,decide_eq_false e]
theorem key_lr (a:Int) (b:fZ):decide ((Sum.inl a:Key)=Sum.inr b)=false:=decide_eq_false (λq=>nomatch q)
theorem key_rl (a:fZ) (b:Int):decide ((Sum.inr a:Key)=Sum.inl b)=false:=decide_eq_false (λq=>nomatch q)
def CH (prog:gL) (w:gX):PySem.KeyKind prog w Key where
 is:=ZB
 hash:=keyH w
 inj:=λv a b ha hb=>by
  rcases AH ha with ⟨i,t,rfl,rfl⟩ | ⟨x,t,rfl,rfl⟩
  ·rcases AH hb with ⟨j,u,rfl,e⟩ | ⟨y,u,rfl,e⟩
   ·injection e with e1 _;rw [e1]
   ·exact nomatch e
  ·rcases AH hb with ⟨j,u,rfl,e⟩ | ⟨y,u,rfl,e⟩
   ·exact nomatch e
   ·injection e with e1 _;rw [e1]
 byValue:=λk v h=>by
  rcases AH h with ⟨i,t,rfl,rfl⟩ | ⟨x,t,rfl,rfl⟩ <;> rfl
 pyHash:=λhv h=>by
  rcases AH hv with ⟨i,t,rfl,rfl⟩ | ⟨x,t,rfl,rfl⟩
  ·exact wpAny_pyHash_int h
  ·exact wpAny_pyHash_str h
 eqBool:=λhu hv h=>by
  rcases AH hu with ⟨i,t,rfl,rfl⟩ | ⟨x,t,rfl,rfl⟩
  ·rcases AH hv with ⟨j,u,rfl,rfl⟩ | ⟨y,u,rfl,rfl⟩
   ·rw [key_ll] at h;exact wpAny_eqBool_int h
   ·rw [key_lr] at h;exact SeqAt.EqAt.int_str i t y u _ _ _ _ h
  ·rcases AH hv with ⟨j,u,rfl,rfl⟩ | ⟨y,u,rfl,rfl⟩
   ·rw [key_rl] at h;exact SeqAt.EqAt.str_int x t j u _ _ _ _ h
   ·rw [key_rr] at h;exact wpAny_eqBool_str h
 «strs»:=λk x t v h=>by
  rcases AH h with ⟨i,u,rfl,e⟩ | ⟨y,u,rfl,e⟩
  ·exact nomatch e
  ·injection e with e1 _
   subst e1
   cases v <;> rfl
theorem VT (prog:gL) (w:gX) (i:Int) (t:Tok):(CH prog w).is (.inl i) (.int i t)=true:=dZ i t
theorem W1 (prog:gL) (w:gX) (x:fZ) (t:Tok):(CH prog w).is (.inr x) (.str x t)=true:=aK x t
inductive V where
 | non | bl (b:Bool) | int (i:Int) | str (x:fZ) | byt (b:Array UInt8) | flt (b:UInt64) | ref (a:fT) | ty (n:String)
 deriving DecidableEq
def AW:V->fV->Prop
 | .non,u=>u=Value.none
 | .bl b,u=>u=Value.bool b
 | .int i,u=>∃ t,u=Value.int i t
 | .str x,u=>∃ t,u=Value.str x t
 | .byt b,u=>∃ t,u=Value.bytes b t
 | .flt b,u=>∃ t,u=Value.float b t
 | .ref a,u=>u=Value.ref a
 | .ty n,u=>u=Value.type n
abbrev AK:List V->List fV->Prop:=Paired AW
theorem AK.length {xs:List V} {us:List fV} (r:AK xs us):xs.length=us.length:=Paired.length r
theorem AK.get:∀ {xs:List V} {us:List fV} {i:Nat} {x:V},AK xs us->xs[i]? = some x->∃ u,us[i]? = some u/\AW x u
 | _,_,_,_,.nil,e=>by simp at e
 | _,_,0,_,.cons r _,e=>by simp at e;subst e;exact ⟨_,Z,r⟩
 | _,_,i+1,x,.cons _ t,e=>by
  obtain ⟨u,h1,h2⟩:=AK.get (i:=i) (x:=x) t (by simpa using e);exact ⟨u,by simpa using h1,h2⟩
theorem AK.set {x:V} {u:fV} (r:AW x u):∀ {xs:List V} {us:List fV} (i:Nat),AK xs us->AK (xs.set i x) (us.set i u)
 | _,_,_,.nil=>.nil
 | _,_,0,.cons _ t=>.cons r t
 | _,_,i+1,.cons q t=>.cons q (AK.set r i t)
theorem AK.append:∀ {xs ys:List V} {us ws:List fV},AK xs us->AK ys ws->AK (xs ++ ys) (us ++ ws)
 | _,_,_,_,.nil,s=>s
 | _,_,_,_,.cons r t,s=>.cons r (AK.append t s)
theorem AK.take:∀ {xs:List V} {us:List fV} (n:Nat),AK xs us->AK (xs.take n) (us.take n)
 | _,_,0,_=>.nil
 | _,_,_+1,.nil=>.nil
 | _,_,n+1,.cons r t=>.cons r (AK.take n t)
theorem AK.drop:∀ {xs:List V} {us:List fV} (n:Nat),AK xs us->AK (xs.drop n) (us.drop n)
 | _,_,0,r=>r
 | _,_,_+1,.nil=>.nil
 | _,_,n+1,.cons _ t=>AK.drop n t
def W6:Option V->Option fV->Prop
 | some v,some u=>AW v u
 | none,none=>True
 | _,_=>False
def KV {κ:Type}:List (κ × V)->List (κ × fV)->Prop:=Paired λ(p:κ × V) (q:κ × fV)=>p.1=q.1/\AW p.2 q.2
def kV:Key->V
 | .inl i=>.int i
 | .inr x=>.str x
inductive HO where
 | lst (xs:List V)
 | tup (xs:List V)
 | dK (kvs:List (Key × V)) | dT (kvs:List (List Key × V))
 | set (S:Int->Bool) (n:Nat)
 | ins (C dx:fT) (fs:List (fZ × V))
 | own (x:fT)
 | xd (fs:List (fZ × V))
 | met (f x:fT)
 | rng (lo hi:Int)
 | frz (o:j5) (u:HO)
 | tbl (ps:Array fV)
 | ext (φ:iC->Prop)
abbrev Hp:=fT->Option HO
def upd (H:Hp) (a:fT) (o:HO):Hp:=λb=>if b=a then some o else H b
theorem Zb {H:Hp} {a:fT} {o:HO}:upd H a o a=some o:=by unfold upd;rw [if_pos Z]
theorem Zk {H:Hp} {a b:fT} {o:HO} (h:b ≠ a):upd H a o b=H b:=by unfold upd;rw [if_neg h]
theorem CK {H:Hp} {a:fT} {o u:HO}:upd (upd H a o) a u=upd H a u:=by
 funext b;unfold upd;split <;> rfl
theorem AF {H:Hp} {a b:fT} {o u:HO} (h:H a=some o) (h':H b=some u) (d:o ≠ u):a ≠ b:=by
 intro e;subst e;rw [h] at h';exact d (Option.some.inj h')
theorem Zf {H:Hp} {a b:fT} {o:HO} (h:H a=some o) (h':H b=none):a ≠ b:=by
 intro e;subst e;rw [h] at h';cases h'
section
variable (P:gL) (w:gX)
def BM (H:Hp) (h:iC) (a:fT):HO->Prop
  | .lst xs=>xs.length <= hJ/\∃ (its:List fV) (n:Nat),AK xs its/\h.get? a=some { cls:=.type "list",data:=.seq its.toArray n }
  | .tup xs=>xs.length <= hJ/\∃ its:List fV,AK xs its/\IsTup h a its.toArray
  | .dK kvs=>kvs.length <= hJ/\(a == sysModules)=false/\∃ vs,KV kvs vs/\h.DictOf (CH P w) a vs
  | .dT kvs=>kvs.length <= hJ/\(a == sysModules)=false/\∃ xs:List (List Key × fT × fV),
      Paired (λ(p:List Key × V) (q:List Key × fT × fV)=>p.1=q.1/\H q.2.1=some (.tup (p.1.map kV))/\AW p.2 q.2.2) kvs xs /\
      ∃ o es ep,h.get? a=some o/\o.ExactDict/\o.data = .dict es ep/\es.toList=xs.map (entryOfKey (tupleKind (CH P w)))/\(xs.map (·.1)).Nodup
  | .set S n=>h.SetOf (intKind P w) a S n
  | .ins C dx fs=>H dx=some (.own a)/\fs.length <= 1000/\dx ≠ a/\h.get? a=some (jF C dx) /\
      ∃ mA,h.Ns1 dx mA/\(∀ f,W6 (fs.lookup f) (mA f))/\PySem.Within mA (fs.map (·.1))
  | .own _=>∃ o,h.get? a=some o
  | .xd fs=>∃ mA,h.Ns1 a mA/\∀ f,W6 (fs.lookup f) (mA f)
  | .rng lo hi=>∃ t u v,h.get? a=some { cls:=.type "range",data:=.fields #[.int lo t,.int hi u,.int 1 v] }
  | .frz o u=>h.get? a=some o/\BM H h a u
  | .tbl ps=>h.get? a=some { cls:=.none,data:=.fields ps }
  | .met f x=>h.get? a=some (lL (.ref f) (.ref x))
  | .ext φ=>φ h/\(∃ o,h.get? a=some o)/\∀ h1 h2:iC,φ h1->(∀ o,h1.get? a=some o->h2.get? a=some o)->φ h2
def HOk (H:Hp) (h:iC):Prop:=∀ a o,H a=some o->BM P w H h a o
end
section
variable {P:gL} {w:gX} {H H':Hp} {h h':iC} {a:fT} {o:HO}
theorem BM.lt (x:BM P w H h a o):a < h.objs.size:=by
 cases o with
 | lst xs=>obtain ⟨_,_,_,_,e⟩:=x;exact Heap.lt_size e
 | tup xs=>obtain ⟨_,_,_,p⟩:=x;exact p.lt
 | dK kvs=>obtain ⟨_,_,_,_,o,_,_,e,_⟩:=x;exact Heap.lt_size e
 | dT kvs=>obtain ⟨_,_,_,_,o,_,_,e,_⟩:=x;exact Heap.lt_size e
 | set S n=>obtain ⟨o,_,_,_,e,_⟩:=x;exact Heap.lt_size e
 | ins C dx fs=>obtain ⟨_,_,_,e,_⟩:=x;exact Heap.lt_size e
 | own y=>obtain ⟨_,e⟩:=x;exact Heap.lt_size e
 | xd fs=>obtain ⟨_,⟨_,_,_,e,_⟩,_⟩:=x;exact Heap.lt_size e
 | rng lo hi=>obtain ⟨_,_,_,e⟩:=x;exact Heap.lt_size e
 | frz ob u=>obtain ⟨e,_⟩:=x;exact Heap.lt_size e
 | tbl ps=>exact Heap.lt_size (show h.get? a=some _ from x)
 | met f y=>exact Heap.lt_size (show h.get? a=some _ from x)
 | ext φ=>obtain ⟨_,⟨_,e⟩,_⟩:=x;exact Heap.lt_size e
theorem Paired.mapP {α β:Type} {F G:α->β->Prop}:∀ {l₁:List α} {l₂:List β},Paired F l₁ l₂->(∀ a b,F a b->G a b)->Paired G l₁ l₂
 | _,_,.nil,_=>.nil
 | _,_,.cons r t,f=>.cons (f _ _ r) (Paired.mapP t f)
theorem BM.stay (x:BM P w H h a o) (k:∀ b u,(b=a\/H b=some (.own a))->h.get? b=some u->h'.get? b=some u)
  (ho:∀ b,H b=some (.own a)->H' b=some (.own a)) (ht:∀ b xs,H b=some (.tup xs)->H' b=some (.tup xs)):BM P w H' h' a o:=by
 induction o with
 | lst xs=>obtain ⟨z,its,n,r,e⟩:=x;exact ⟨z,its,n,r,k _ _ (.inl Z) e⟩
 | tup xs=>obtain ⟨z,its,r,ob,e,c⟩:=x;exact ⟨z,its,r,ob,k _ _ (.inl Z) e,c⟩
 | dK kvs=>obtain ⟨z,y,vs,r,ob,es,ep,e,c⟩:=x;exact ⟨z,y,vs,r,ob,es,ep,k _ _ (.inl Z) e,c⟩
 | dT kvs=>
  obtain ⟨z,y,xs,r,ob,es,ep,e,c⟩:=x;exact ⟨z,y,xs,Paired.mapP r λp q z=>⟨z.1,ht _ _ z.2.1,z.2.2⟩,ob,es,ep,k _ _ (.inl Z) e,c⟩
 | set S n=>obtain ⟨ob,es,ep,t,e,c⟩:=x;exact ⟨ob,es,ep,t,k _ _ (.inl Z) e,c⟩
 | ins C dx fs=>
  obtain ⟨d,z,ne,e,mA,⟨od,es,ep,e2,c⟩,r⟩:=x;exact ⟨ho _ d,z,ne,k _ _ (.inl Z) e,mA,⟨od,es,ep,k _ _ (.inr d) e2,c⟩,r⟩
 | own y=>obtain ⟨ob,e⟩:=x;exact ⟨ob,k _ _ (.inl Z) e⟩
 | xd fs=>obtain ⟨mA,⟨od,es,ep,e,c⟩,r⟩:=x;exact ⟨mA,⟨od,es,ep,k _ _ (.inl Z) e,c⟩,r⟩
 | rng lo hi=>obtain ⟨t,u,v,e⟩:=x;exact ⟨t,u,v,k _ _ (.inl Z) e⟩
 | frz ob u ih=>obtain ⟨e,q⟩:=x;exact ⟨k _ _ (.inl Z) e,ih q⟩
 | tbl ps=>
  have e:h.get? a=some { cls:=.none,data:=.fields ps }:=x;show h'.get? a=some { cls:=.none,data:=.fields ps };exact k a _ (.inl Z) e
 | met f y=>
  have e:h.get? a=some (lL (.ref f) (.ref y)):=x;show h'.get? a=some (lL (.ref f) (.ref y));exact k a _ (.inl Z) e
 | ext φ=>obtain ⟨p,⟨o,e⟩,st⟩:=x;exact ⟨st _ _ p λo q=>k _ _ (.inl Z) q,⟨o,k _ _ (.inl Z) e⟩,st⟩
theorem HOk.lt (x:HOk P w H h) (e:H a=some o):a < h.objs.size:=(x a o e).lt
theorem HOk.fresh (x:HOk P w H h) (e:h.objs.size <= a):H a=none:=by
 cases q:H a with
 | none=>rfl
 | some u=>exact absurd (gP (x.lt q) e) (iI _)
theorem HOk.kept (x:HOk P w H h) (k:∀ b u,h.get? b=some u->h'.get? b=some u):HOk P w H h':=λa o e=>
 (x a o e).stay (λb u _ q=>k b u q) (λ_ q=>q) λ_ _ q=>q
theorem HOk.laid (x:HOk P w H h) (k:∀ b u,h.get? b=some u->h'.get? b=some u) (hp:h.objs.size <= a) (new:BM P w (upd H a o) h' a o):HOk P w (upd H a o) h':=λb u e=>by
 have hn:=x.fresh hp;by_cases hb:b=a
 ·subst hb;rw [Zb] at e;cases e;exact new
 ·rw [Zk hb] at e;exact (x b u e).stay (λc v _ q=>k c v q) (λc q=>by rw [Zk (Zf q hn)];exact q) λc xs q=>by rw [Zk (Zf q hn)];exact q
end
def Rd (H:Hp) (a:fT) (u:HO):Prop:=H a=some u\/∃ o,H a=some (.frz o u)
theorem Rd.ok {P:gL} {w:gX} {H:Hp} {h:iC} {a:fT} {u:HO} (r:Rd H a u) (x:HOk P w H h):BM P w H h a u:=by
 rcases r with r | ⟨o,r⟩
 ·exact x a u r
 ·obtain ⟨_,q⟩:=x a _ r;exact q
def Mut:Option HO->Prop
 | some (.lst _)=>True
 | some (.dK _)=>True
 | some (.dT _)=>True
 | some (.set _ _)=>True
 | some (.ins _ _ _)=>True
 | some (.ext _)=>True
 | _=>False
section
variable {P:gL} {w:gX} {H:Hp} {h h':iC} {x e:fT} {o':HO}
theorem HOk.write (ok:HOk P w H h) (mu:Mut (H x)) (he:e=x\/H e=some (.own x)) (k:∀ b u,b ≠ e->h.get? b=some u->h'.get? b=some u) (heo:∃ u,h'.get? e=some u)
  (new:BM P w (upd H x o') h' x o'):HOk P w (upd H x o') h':=λb u q=>by
 have nown:∀ c y,H c=some (.own y)->c ≠ x:=λc y r z=>by subst z;rw [r] at mu;exact mu
 have ntup:∀ c xs,H c=some (.tup xs)->c ≠ x:=λc xs r z=>by subst z;rw [r] at mu;exact mu
 by_cases hb:b=x
 ·subst hb;rw [Zb] at q;cases q;exact new
 ·rw [Zk hb] at q;by_cases hbe:b=e
  ·have q':H b=some (.own x):=by
    rcases he with z | z
    ·exact absurd (hbe.trans z) hb
    ·rw [hbe];exact z
   rw [q] at q';cases q';obtain ⟨v,hv⟩:=heo;exact ⟨v,by rw [hbe];exact hv⟩
  ·refine (ok b u q).stay (λc v hc r=>k c v ?_ r) (λc r=>by rw [Zk (nown c b r)];exact r) λc xs r=>by rw [Zk (ntup c xs r)];exact r
   rcases hc with rfl | hc
   ·exact hbe
   ·rintro rfl;rcases he with z | z
    ·exact nown c b hc z
    ·rw [hc] at z;cases z;exact hb Z
end
structure Un (fs ex:List fT) (H H':Hp) (h h':iC):Prop where
 keep:∀ b o,h.get? b=some o->H b=none->b ∉ fs->b ∉ ex->h'.get? b=some o
 slot:∀ b o,h.get? b=some o->H b=none->b ∈ fs->b ∉ ex->∃ sl,h'.get? b=some { o with slots:=sl }
 free:∀ b o,h.get? b=some o->H b=none->b ∉ ex->H' b=none
 there:∀ b o,h.get? b=some o->b ∉ ex->∃ o',h'.get? b=some o'
 tups:∀ b xs,H b=some (.tup xs)->H' b=some (.tup xs)
 frzs:∀ b o u,H b=some (.frz o u)->H' b=some (.frz o u)
 tbls:∀ b ps,H b=some (.tbl ps)->∃ more,H' b=some (.tbl (ps ++ more))
section
variable {fs fs' ex ex':List fT} {H H1 H2:Hp} {h h1 h2 h':iC} {a x e:fT} {o:HO}
theorem Un.any (u:Un fs ex H H1 h h1) {b:fT} {ob:j5} (q:h.get? b=some ob) (n:H b=none) (hx:b ∉ ex):∃ sl,h1.get? b=some { ob with slots:=sl }:=by
 by_cases hb:b ∈ fs
 ·exact u.slot b ob q n hb hx
 ·exact ⟨ob.slots,u.keep b ob q n hb hx⟩
theorem Un.trans (a:Un fs ex H H1 h h1) (b:Un fs ex H1 H2 h1 h2):Un fs ex H H2 h h2 where
 keep:=λc ob q n hc hx=>b.keep c ob (a.keep c ob q n hc hx) (a.free c ob q n hx) hc hx
 slot:=λc ob q n hc hx=>by
  obtain ⟨sl,e1⟩:=a.slot c ob q n hc hx;obtain ⟨sl',e2⟩:=b.slot c _ e1 (a.free c ob q n hx) hc hx;exact ⟨sl',e2⟩
 free:=λc ob q n hx=>by
  obtain ⟨o',e1⟩:=a.there c ob q hx;exact b.free c o' e1 (a.free c ob q n hx) hx
 there:=λc ob q hx=>by
  obtain ⟨o',e1⟩:=a.there c ob q hx;exact b.there c o' e1 hx
 tups:=λc xs q=>b.tups c xs (a.tups c xs q)
 frzs:=λc ob xs q=>b.frzs c ob xs (a.frzs c ob xs q)
 tbls:=λc ps q=>by
  obtain ⟨m1,e1⟩:=a.tbls c ps q;obtain ⟨m2,e2⟩:=b.tbls c _ e1;exact ⟨m1 ++ m2,by rw [e2,lH]⟩
theorem Un.kept (k:∀ b u,h.get? b=some u->h'.get? b=some u):Un fs ex H H h h':=
 ⟨λb ob q _ _ _=>k b ob q,λb ob q _ _ _=>⟨ob.slots,k b ob q⟩,λ_ _ _ n _=>n,λb ob q _=>⟨ob,k b ob q⟩,λ_ _ q=>q,λ_ _ _ q=>q,λ_ ps q=>⟨#[],by rw [q];simp⟩⟩
theorem Un.refl:Un fs ex H H h h:=Un.kept λ_ _ q=>q
theorem Un.laid (k:∀ b u,h.get? b=some u->h'.get? b=some u) (hp:h.objs.size <= a) (hn:H a=none):Un fs ex H (upd H a o) h h' where
 keep:=λb u q _ _ _=>k b u q
 slot:=λb u q _ _ _=>⟨u.slots,k b u q⟩
 free:=λb u q n _=>by rw [Zk (iB (gP (Heap.lt_size q) hp))];exact n
 there:=λb u q _=>⟨u,k b u q⟩
 tups:=λb xs q=>by rw [Zk (Zf q hn)];exact q
 frzs:=λb u xs q=>by rw [Zk (Zf q hn)];exact q
 tbls:=λb ps q=>⟨#[],by rw [Zk (Zf q hn),q];simp⟩
theorem Un.write (mu:Mut (H x)) (he:e=x\/H e=some (.own x)) (k:∀ b u,b ≠ e->h.get? b=some u->h'.get? b=some u) (heo:∃ u,h'.get? e=some u):Un fs ex H (upd H x o) h h':=by
 have hx:∀ b,H b=none->b ≠ x:=λb n z=>by subst z;rw [n] at mu;exact mu
 have hb:∀ b,H b=none->b ≠ e:=λb n z=>by
  subst z;rcases he with r | r
  ·exact hx b n r
  ·rw [n] at r;cases r
 have hm:∀ b u,H b=some u->¬ Mut (some u)->b ≠ x:=λb u q nm z=>by subst z;rw [q] at mu;exact nm mu
 refine ⟨λb u q n _ _=>k b u (hb b n) q,λb u q n _ _=>⟨u.slots,k b u (hb b n) q⟩,λb u q n _=>by rw [Zk (hx b n)];exact n,λb u q _=>?_,
  λb xs q=>by rw [Zk (hm b _ q λz=>z)];exact q,λb u xs q=>by rw [Zk (hm b _ q λz=>z)];exact q,λb ps q=>⟨#[],by rw [Zk (hm b _ q λz=>z),q];simp⟩⟩
 by_cases hbe:b=e
 ·subst hbe;exact heo
 ·exact ⟨u,k b u hbe q⟩
end
def trk (h:iC) (H:Hp):List fT:=(i9 h.objs.size).filter λa=>(H a).isSome
def bH (h:iC) (H:Hp):iC:=kD h (trk h H)
theorem bU (h:iC) (H:Hp):(bH h H).objs.size=h.objs.size:=PySem.W.hideAll_size _ _
theorem hidT_get {h:iC} {H:Hp} {b:fT} {o:j5} (e:h.get? b=some o) (n:H b=none):(bH h H).get? b=some o:=
 jG _ e λhm=>by
  have q:(H b).isSome=true:=(jN.mp hm).2;rw [n] at q;simp at q
theorem of_hidT {h:iC} {H:Hp} {b:fT} {o:j5} (e:(bH h H).get? b=some o):h.get? b=some o/\H b=none:=by
 have e':h.get? b=some o:=kM (trk h H) e;refine ⟨e',?_⟩;cases q:H b with
 | none=>rfl
 | some x=>
  have hm:b ∈ trk h H:=jN.mpr ⟨kI.mpr (Heap.lt_size e'),by simp [q]⟩;have z:(bH h H).get? b=none:=jB (trk h H) hm;rw [z] at e;cases e
structure Mod (K:PySem.W.Frag) (mg:fZ->Option fV) (base:iC):Prop where
 kin:K.In base
 glob:base.Ns iA mg
 blt:∃ mb,base.Ns builtinsNs mb/\∀ x:fZ,x ≠ "__name__"->mb x=bootBuiltins x
 nolimit:base.NoLimit
structure Cx where
 prog:gL
 w:gX
 K:PySem.W.Frag
 mg:fZ->Option fV
 base:iC
 A:iD
 N:List fZ
 s₀:fW
 H₀:Hp
 env:Env
 outer:List Env
 stack:List Env
 ex:List fT
 fn:fZ->Bool
 calm:Bool
 pn:List (fT × j5)
 xe:fV->fW->Prop
def frs (l:List Env):List fT:=l.filterMap (·.frame)
abbrev Cx.fs (X:Cx):List fT:=frs X.outer
def Vis (sc:Scope) (x:fZ):Prop:=sc.names.lookup x=some .local\/sc.names.lookup x=some .cell\/sc.names.lookup x=some .free
def Loc (sc:Scope) (x:fZ):Prop:=sc.names.lookup x=some .local\/sc.names.lookup x=some .cell
def Look (env:Env) (h:iC) (m:fZ->Option fV) (x:fZ) (u:fV):Prop:=
 (env.kindOf x=some .local/\m x=some u)\/((env.kindOf x=some .cell\/env.kindOf x=some .free)/\∃ c,env.cells.lookup x=some c/\h.IsCell c (some u))
structure Cx.Ok (X:Cx):Prop where
 mod:Mod X.K X.mg X.base
 kind:X.env.scope.kind = .function
 glob:X.env.globals=iA
 blt:X.env.builtins=builtinsNs
 above:X.s₀.heap.objs.size <= X.env.locals
 inj:∀ x y c,X.env.cells.lookup x=some c->X.env.cells.lookup y=some c->x=y
 has:∀ x,(X.env.kindOf x=some .cell\/X.env.kindOf x=some .free)->∃ c,X.env.cells.lookup x=some c
 cab:∀ x c,X.fn x=true->X.env.cells.lookup x=some c->X.s₀.heap.objs.size <= c
 hd:X.calm=true->X.A.handled=none
 frames:X.A.frames=some X.stack
 stk:X.stack=X.outer\/(X.stack=X.env :: X.outer/\X.env.frame=some X.env.locals)
 exf:∀ b ∈ X.ex,b ≠ X.env.locals/\∀ x c,X.env.cells.lookup x=some c->c ≠ b
 bs:∀ b o,X.base.get? b=some o->X.s₀.heap.get? b=some o/\X.H₀ b=none
 bsz:X.base.objs.size <= X.s₀.heap.objs.size
 noex:∀ b o,X.base.get? b=some o->b ∉ X.ex
 exfs:∀ b ∈ X.ex,b ∉ X.fs
 funs:X.s₀.heap.FunFrames X.base X.outer
 frf:∀ b ∈ X.fs,X.H₀ b=none
structure Inv (X:Cx) (fS:List (fT × j5)) (σ:List (Option V)) (H:Hp) (s:fW):Prop where
 ok:X.Ok
 os:s.os=X.s₀.os
 bare:AllBare s.gens
 base:Un X.fs X.ex X.H₀ H X.s₀.heap s.heap
 loc:∃ m,s.heap.Ns X.env.locals m/\∀ (i:Nat) (x:fZ) (v:V),X.N[i]? = some x->σ[i]? = some (some v)->Vis X.env.scope x->∃ u,AW v u/\Look X.env s.heap m x u
 cell:∀ x c,X.env.cells.lookup x=some c->∃ v,s.heap.IsCell c v
 free:H X.env.locals=none
 freeC:∀ x c,X.env.cells.lookup x=some c->H c=none
 pin:∀ p ∈ X.pn ++ fS,s.heap.get? p.1=some p.2/\H p.1=none/\p.1 ≠ X.env.locals/\p.1 ∉ X.fs/\∀ v,p.2.data ≠ .cell v
 hok:HOk X.prog X.w H s.heap
 len:σ.length=X.N.length
section
variable {X:Cx} {fS:List (fT × j5)} {σ:List (Option V)} {H H':Hp} {s:fW} {h':iC}
theorem Cx.Ok.nofr (ok:X.Ok) {b:fT} {o:j5} (e:X.base.get? b=some o):b ∉ X.fs:=λhb=>by
 have:=(ok.funs.mem hb).1;rw [e] at this;cases this
theorem Inv.bs (I:Inv X fS σ H s):∀ b o,X.base.get? b=some o->s.heap.get? b=some o/\H b=none:=λb o e=>
 ⟨I.base.keep b o (I.ok.bs b o e).1 (I.ok.bs b o e).2 (I.ok.nofr e) (I.ok.noex b o e),I.base.free b o (I.ok.bs b o e).1 (I.ok.bs b o e).2 (I.ok.noex b o e)⟩
theorem Inv.bk (I:Inv X fS σ H s):∀ b o,X.base.get? b=some o->s.heap.get? b=some o:=λb o e=>(I.bs b o e).1
theorem Inv.mod (I:Inv X fS σ H s):Mod X.K X.mg X.base:=I.ok.mod
theorem Inv.kIn (I:Inv X fS σ H s):X.K.In s.heap:=I.ok.mod.kin.keeps I.bk
theorem Inv.lt (I:Inv X fS σ H s):X.env.locals < s.heap.objs.size:=let ⟨_,hn,_⟩:=I.loc;hn.lt
theorem Inv.sz (I:Inv X fS σ H s):X.s₀.heap.objs.size <= s.heap.objs.size:=iV I.ok.above (l6 I.lt)
theorem Inv.nofs (I:Inv X fS σ H s) {a:fT} (h:s.heap.objs.size <= a):a ∉ X.fs:=λhb=>by
 obtain ⟨_,o,ho,_⟩:=I.ok.funs.mem hb;exact absurd (gP (Heap.lt_size ho) (iV I.sz h)) (iI _)
theorem Inv.cne (I:Inv X fS σ H s):∀ x c,X.env.cells.lookup x=some c->c ≠ X.env.locals:=λx c e z=>by
 obtain ⟨v,o,ho,hd⟩:=I.cell x c e;obtain ⟨m,⟨o',es,ep,ho',hd',_⟩,_⟩:=I.loc;rw [z,ho'] at ho;cases ho;rw [hd'] at hd;cases hd
theorem Inv.funs (I:Inv X fS σ H s):s.heap.FunFrames X.base X.outer:=by
 have all:∀ (l:List Env),(∀ b ∈ frs l,b ∈ X.fs)->X.s₀.heap.FunFrames X.base l->s.heap.FunFrames X.base l:=by
  intro l;induction l with
  | nil=>intro _ _;trivial
  | cons env r ih=>
   intro hs hl;obtain ⟨hk,⟨L,o,hf,hn,ho,hd⟩,hr⟩:=hl;have hL:L ∈ X.fs:=hs L (by unfold frs;rw [iT,hf];exact gU);obtain ⟨sl,e⟩:=I.base.slot L o ho (I.ok.frf L hL) hL λz=>I.ok.exfs L z hL;exact ⟨hk,⟨L,_,hf,hn,e,hd⟩,ih (λb hb=>hs b (by unfold frs;rw [iT,hf];exact gD _ hb)) hr⟩
 exact all X.outer (λ_ hb=>hb) I.ok.funs
theorem Inv.stack (I:Inv X fS σ H s):s.heap.FunFrames X.base X.stack:=by
 rcases I.ok.stk with e | ⟨e,hf⟩
 ·rw [e];exact I.funs
 ·rw [e];obtain ⟨m,hn,_⟩:=I.loc;refine .cons (by rw [I.ok.kind];decide) hf hn ?_ I.funs;exact Heap.get?_none_of_le (iV I.ok.bsz I.ok.above)
theorem Inv.stkSub (I:Inv X fS σ H s):∀ b ∈ frs X.stack,b ∈ X.env.locals :: X.fs:=λb hb=>by
 rcases I.ok.stk with e | ⟨e,hf⟩
 ·rw [e] at hb;exact gD _ hb
 ·rw [e] at hb;unfold frs at hb;rw [iT,hf] at hb;exact hb
theorem Inv.stkFree (I:Inv X fS σ H s):∀ b ∈ frs X.stack,H b=none:=λb hb=>by
 rcases gR.mp (I.stkSub b hb) with e | hb
 ·rw [e];exact I.free
 ·obtain ⟨_,o,ho,_⟩:=I.ok.funs.mem hb;exact I.base.free b o ho (I.ok.frf b hb) λz=>I.ok.exfs b z hb
theorem Inv.step {g':Array GenState} {t':Nat} {d':Drawn} {ch:List fT} (I:Inv X fS σ H s)
  (hch:∀ b ∈ ch,(b ∈ X.ex\/X.s₀.heap.objs.size <= b)/\b ≠ X.env.locals/\(∀ x c,X.env.cells.lookup x=some c->c ≠ b)/\∀ p ∈ X.pn ++ fS,p.1 ≠ b)
  (keep:∀ b o,b ≠ X.env.locals->b ∉ X.fs->b ∉ ch->s.heap.get? b=some o->H b=none->h'.get? b=some o)
  (slot:∀ b o,b ≠ X.env.locals->b ∈ X.fs->b ∉ ch->s.heap.get? b=some o->H b=none->∃ sl,h'.get? b=some { o with slots:=sl }) (free:∀ b o,b ∉ ch->s.heap.get? b=some o->H b=none->H' b=none)
  (there:∀ b o,b ∉ ch->s.heap.get? b=some o->∃ o',h'.get? b=some o')
  (tups:∀ b xs,H b=some (.tup xs)->H' b=some (.tup xs)) (frzs:∀ b o u,H b=some (.frz o u)->H' b=some (.frz o u)) (tbls:∀ b ps,H b=some (.tbl ps)->∃ more,H' b=some (.tbl (ps ++ more)))
  (ns:∀ m,s.heap.Ns X.env.locals m->h'.Ns X.env.locals m) (hok:HOk X.prog X.w H' h') (hg:AllBare g') :
  Inv X fS σ H' { s with heap:=h',gens:=g',drawn:=d',toks:=t' }:=by
 have neL:∀ b o,X.s₀.heap.get? b=some o->b ≠ X.env.locals:=λb o e=>iB (gP (Heap.lt_size e) I.ok.above);have neC:∀ b o,X.s₀.heap.get? b=some o->b ∉ X.ex->b ∉ ch:=λb o e hx hb=>by
  rcases (hch b hb).1 with z | z
  ·exact hx z
  ·exact absurd (gP (Heap.lt_size e) z) (iI _)
 have cellK:∀ x c,X.env.cells.lookup x=some c->∀ v,s.heap.IsCell c v->h'.IsCell c v:=λx c e v ⟨o,ho,hd⟩=>by
  have nch:c ∉ ch:=λz=>(hch c z).2.2.1 x c e Z;by_cases hc:c ∈ X.fs
  ·obtain ⟨sl,q⟩:=slot c o (I.cne x c e) hc nch ho (I.freeC x c e);exact ⟨_,q,hd⟩
  ·exact ⟨o,keep c o (I.cne x c e) hc nch ho (I.freeC x c e),hd⟩
 refine ⟨I.ok,I.os,hg,⟨λb o e n hb hx=>?_,λb o e n hb hx=>?_,λb o e n hx=>?_,λb o e hx=>?_,λb xs e=>tups b xs (I.base.tups b xs e),λb o xs e=>frzs b o xs (I.base.frzs b o xs e),λb ps e=>?_⟩,?_,λx c e=>?_,?_,λx c e=>?_,λp hp=>?_,hok,I.len⟩
 ·exact keep b o (neL b o e) hb (neC b o e hx) (I.base.keep b o e n hb hx) (I.base.free b o e n hx)
 ·obtain ⟨sl,e1⟩:=I.base.slot b o e n hb hx;obtain ⟨sl',e2⟩:=slot b _ (neL b o e) hb (neC b o e hx) e1 (I.base.free b o e n hx);exact ⟨sl',e2⟩
 ·obtain ⟨o',e1⟩:=I.base.there b o e hx;exact free b o' (neC b o e hx) e1 (I.base.free b o e n hx)
 ·obtain ⟨o',e1⟩:=I.base.there b o e hx;exact there b o' (neC b o e hx) e1
 ·obtain ⟨m1,e1⟩:=I.base.tbls b ps e;obtain ⟨m2,e2⟩:=tbls b _ e1;exact ⟨m1 ++ m2,by rw [e2,lH]⟩
 ·obtain ⟨m,hn,hl⟩:=I.loc;refine ⟨m,ns m hn,λi x v e1 e2 e3=>?_⟩;obtain ⟨u,r,l⟩:=hl i x v e1 e2 e3;refine ⟨u,r,?_⟩;rcases l with l | ⟨k,c,e,z⟩
  ·exact .inl l
  ·exact .inr ⟨k,c,e,cellK x c e _ z⟩
 ·obtain ⟨v,z⟩:=I.cell x c e;exact ⟨v,cellK x c e v z⟩
 ·obtain ⟨m,⟨o,_,_,ho,_⟩,_⟩:=I.loc;exact free _ o (λz=>(hch _ z).2.1 Z) ho I.free
 ·obtain ⟨v,o,ho,hd⟩:=I.cell x c e;exact free c o (λz=>(hch c z).2.2.1 x c e Z) ho (I.freeC x c e)
 ·obtain ⟨e,n,ne,nf,d⟩:=I.pin p hp;have nch:p.1 ∉ ch:=λz=>(hch p.1 z).2.2.2 p hp Z;exact ⟨keep p.1 p.2 ne nf nch e n,free p.1 p.2 nch e n,ne,nf,d⟩
theorem Inv.un {t':Nat} (I:Inv X fS σ H s) (u:Un X.fs [] H H' s.heap h') (hok:HOk X.prog X.w H' h'):Inv X fS σ H' { s with heap:=h',toks:=t' }:=by
 obtain ⟨m,⟨o,es,ep,ho,r⟩,_⟩:=id I.loc;obtain ⟨sl,hL⟩:=u.any ho I.free (by simp);exact I.step (g':=s.gens) (d':=s.drawn) (ch:=[]) (λ_ z=>nomatch z) (λb o _ hb _ e n=>u.keep b o e n hb (by simp)) (λb o _ hb _ e n=>u.slot b o e n hb (by simp)) (λb o _ e n=>u.free b o e n (by simp)) (λb o _ e=>u.there b o e (by simp)) u.tups u.frzs u.tbls (λm' hm=>by
  obtain ⟨o',es',ep',ho',r'⟩:=hm;rw [ho] at ho';cases ho';exact ⟨_,es',ep',hL,r'⟩) hok I.bare
theorem Inv.call {g':Array GenState} {t':Nat} {d':Drawn} {ch:List fT} (I:Inv X fS σ H s) (u:Un (frs X.stack) ch H H' s.heap h') (hok:HOk X.prog X.w H' h') (hg:AllBare g')
  (hch:∀ b ∈ ch,(b ∈ X.ex\/X.s₀.heap.objs.size <= b)/\b ≠ X.env.locals/\(∀ x c,X.env.cells.lookup x=some c->c ≠ b)/\∀ p ∈ X.pn ++ fS,p.1 ≠ b) :
  Inv X fS σ H' { s with heap:=h',gens:=g',drawn:=d',toks:=t' }:=by
 obtain ⟨m,⟨o,es,ep,ho,r⟩,_⟩:=id I.loc;obtain ⟨sl,hL⟩:=u.any ho I.free λz=>(hch _ z).2.1 Z;exact I.step (ch:=ch) hch (λb o hL hb hc e n=>u.keep b o e n (λz=>(gR.mp (I.stkSub b z)).elim hL hb) hc) (λb o _ _ hc e n=>u.any e n hc) (λb o hc e n=>u.free b o e n hc) (λb o hc e=>u.there b o e hc) u.tups u.frzs u.tbls (λm' hm=>by
  obtain ⟨o',es',ep',ho',r'⟩:=hm;rw [ho] at ho';cases ho';exact ⟨_,es',ep',hL,r'⟩) hok hg
theorem Inv.turned {t':Nat} {it:fT} (I:Inv X fS σ H s) (k:∀ b o,b ≠ it->s.heap.get? b=some o->h'.get? b=some o) (hn:H it=none) (hL:it ≠ X.env.locals)
  (h1:it ∈ X.ex\/X.s₀.heap.objs.size <= it) (h2:∀ x c,X.env.cells.lookup x=some c->c ≠ it) (h3:∀ p ∈ X.pn ++ fS,p.1 ≠ it):Inv X fS σ H { s with heap:=h',toks:=t' }:=by
 have nit:∀ b u,H b=some u->b ≠ it:=λb u e z=>by rw [z,hn] at e;cases e
 refine I.step (g':=s.gens) (d':=s.drawn) (ch:=[it]) (λb hb=>?_) (λb o _ _ hc e _=>k b o (λz=>hc (by simp [z])) e) (λb o _ _ hc e _=>⟨o.slots,k b o (λz=>hc (by simp [z])) e⟩) (λ_ _ _ _ n=>n) (λb o hc e=>⟨o,k b o (λz=>hc (by simp [z])) e⟩) (λ_ _ e=>e) (λ_ _ _ e=>e) (λb ps e=>⟨#[],by rw [e];simp⟩) (λm hm=>?_) (λb u e=>?_) I.bare
 ·have e:b=it:=by simpa using hb
  subst e;exact ⟨h1,hL,h2,h3⟩
 ·obtain ⟨o,es,ep,ho,r⟩:=hm;exact ⟨o,es,ep,k _ o (Ne.symm hL) ho,r⟩
 ·refine (I.hok b u e).stay (λc v hc q=>k c v ?_ q) (λ_ q=>q) λ_ _ q=>q;rcases hc with z | z
  ·rw [z];exact nit b u e
  ·exact nit c _ z
theorem Inv.tok (I:Inv X fS σ H s) (t:Nat):Inv X fS σ H { s with toks:=t }:=I.un (h':=s.heap) (t':=t) Un.refl I.hok
theorem Inv.kept {t':Nat} (I:Inv X fS σ H s) (k:∀ b u,s.heap.get? b=some u->h'.get? b=some u):Inv X fS σ H { s with heap:=h',toks:=t' }:=I.un (Un.kept k) (I.hok.kept k)
theorem Inv.laid {a:fT} {o:HO} {t':Nat} (I:Inv X fS σ H s) (k:∀ b u,s.heap.get? b=some u->h'.get? b=some u) (hp:s.heap.objs.size <= a) (new:BM X.prog X.w (upd H a o) h' a o) :
  Inv X fS σ (upd H a o) { s with heap:=h',toks:=t' }:=I.un (Un.laid k hp (I.hok.fresh hp)) (I.hok.laid k hp new)
theorem Inv.write {x e:fT} {o:HO} {t':Nat} (I:Inv X fS σ H s) (mu:Mut (H x)) (he:e=x\/H e=some (.own x)) (k:∀ b u,b ≠ e->s.heap.get? b=some u->h'.get? b=some u) (heo:∃ u,h'.get? e=some u)
  (new:BM X.prog X.w (upd H x o) h' x o):Inv X fS σ (upd H x o) { s with heap:=h',toks:=t' }:=I.un (Un.write mu he k heo) (I.hok.write mu he k heo new)
theorem Inv.pins_of {pins':List (fT × j5)} (I:Inv X fS σ H s) (h:∀ p ∈ pins',s.heap.get? p.1=some p.2/\H p.1=none/\p.1 ≠ X.env.locals/\p.1 ∉ X.fs/\∀ v,p.2.data ≠ .cell v):Inv X pins' σ H s:=
 ⟨I.ok,I.os,I.bare,I.base,I.loc,I.cell,I.free,I.freeC,λp hp=>(iM.mp hp).elim (λz=>I.pin p (jC _ z)) (h p),I.hok,I.len⟩
theorem PQ {N:List fZ} (hN:N.Nodup) {i j:Nat} {x:fZ} (a:N[i]? = some x) (b:N[j]? = some x):i=j:=by
 obtain ⟨h1,e1⟩:=gK.mp a;obtain ⟨h2,e2⟩:=gK.mp b;exact (List.getElem_inj hN).mp (e1.trans e2.symm)
theorem SO {M:Model} {A:iD} {E:fV->fW->Prop} {i:Nat} {x:fZ} {v:V} {u:fV} {Q:Unit->fW->Prop} (I:Inv X fS σ H s) (hN:X.N.Nodup) (hi:X.N[i]? = some x) (hx:Loc X.env.scope x) (r:AW v u)
  (h:∀ s',Inv X fS (σ.set i (some v)) H s'->(∃ a,Heap.SameBut a s.heap s'.heap/\(a=X.env.locals\/X.env.cells.lookup x=some a))->Q () s') (hf:X.fn x=true\/X.env.scope.names.lookup x=some .local:=by first | exact .inl Z | exact .inr Z | assumption):gT M A (storeName X.env x u) Q E s:=by
 obtain ⟨m,hn,hl⟩:=id I.loc;have hcls:(X.env.scope.kind == .class || (X.env.scope.kind == .module && X.env.locals != X.env.globals))=false:=by rw [I.ok.kind];rfl
 have hiσ:i < σ.length:=by rw [I.len];exact (gK.mp hi).1
 have cne:=I.cne;have tracked:∀ {a:fT} {h':iC},(∃ o,s.heap.get? a=some o/\H a=none)->Heap.SameBut a s.heap h'->HOk X.prog X.w H h':=λ{a h'} ha hs b ob e=>by
  obtain ⟨_,_,hfree⟩:=ha;refine (I.hok b ob e).stay (λc w' hc q=>(hs.2 c ?_).trans q) (λ_ q=>q) λ_ _ q=>q;rintro rfl;rcases hc with rfl | hc
  ·rw [hfree] at e;cases e
  ·rw [hfree] at hc;cases hc
 rcases hx with hk | hk
 ·refine wpAny_storeName_local hk hn (λh' hn' hs=>?_) hcls;obtain ⟨oL,_,_,hoL,_⟩:=id hn;refine h _ ⟨I.ok,I.os,I.bare,⟨λb o e n hb hx=>?_,λb o e n hb hx=>?_,I.base.free,λb o e hx=>?_,I.base.tups,I.base.frzs,I.base.tbls⟩,⟨_,hn',λj y v' e1 e2 e3=>?_⟩,λy c e=>?_,I.free,I.freeC,λp hp=>?_,tracked ⟨oL,hoL,I.free⟩ hs,by simpa using I.len⟩ ⟨_,hs,.inl Z⟩
  ·exact (hs.2 b (iB (gP (Heap.lt_size e) I.ok.above))).trans (I.base.keep b o e n hb hx)
  ·obtain ⟨sl,e1⟩:=I.base.slot b o e n hb hx;exact ⟨sl,(hs.2 b (iB (gP (Heap.lt_size e) I.ok.above))).trans e1⟩
  ·obtain ⟨o',e1⟩:=I.base.there b o e hx;exact ⟨o',(hs.2 b (iB (gP (Heap.lt_size e) I.ok.above))).trans e1⟩
  ·by_cases hj:j=i
   ·subst hj;rw [hi] at e1;cases e1;rw [iX hiσ] at e2;cases e2;exact ⟨u,r,.inl ⟨hk,by simp⟩⟩
   ·rw [jD (Ne.symm hj)] at e2;obtain ⟨u',r',q⟩:=hl j y v' e1 e2 e3;refine ⟨u',r',?_⟩;rcases q with ⟨k,e⟩ | ⟨k,c,e,z⟩
    ·refine .inl ⟨k,?_⟩;have:y ≠ x:=λe=>hj (PQ hN e1 (e ▸ hi));simp [this,e]
    ·exact .inr ⟨k,c,e,z.sameBut hs (cne y c e)⟩
  ·obtain ⟨w',z⟩:=I.cell y c e;exact ⟨w',z.sameBut hs (cne y c e)⟩
  ·obtain ⟨e,n,ne,nf,d⟩:=I.pin p hp;exact ⟨(hs.2 p.1 ne).trans e,n,ne,nf,d⟩
 ·have hfn:X.fn x=true:=by
   rcases hf with z | z
   ·exact z
   ·rw [z] at hk;cases hk
  obtain ⟨c,hc⟩:=I.ok.has x (.inl hk);obtain ⟨w',z⟩:=I.cell x c hc;refine wpAny_storeName_cell I.ok.kind hk hc z (λh' hc' hs=>?_);obtain ⟨oc,hoc,hocd⟩:=id z;refine h { s with heap:=h' } ⟨I.ok,I.os,I.bare,⟨λb o e n hb hx=>?_,λb o e n hb hx=>?_,I.base.free,λb o e hx=>?_,I.base.tups,I.base.frzs,I.base.tbls⟩,⟨m,hn.sameBut hs (Ne.symm (cne x c hc)),λj y v' e1 e2 e3=>?_⟩,λy c' e=>?_,I.free,I.freeC,λp hp=>?_,tracked ⟨oc,hoc,I.freeC x c hc⟩ hs,by simpa using I.len⟩ ⟨c,hs,.inr hc⟩
  ·exact (hs.2 b (iB (gP (Heap.lt_size e) (I.ok.cab x c hfn hc)))).trans (I.base.keep b o e n hb hx)
  ·obtain ⟨sl,e1⟩:=I.base.slot b o e n hb hx;exact ⟨sl,(hs.2 b (iB (gP (Heap.lt_size e) (I.ok.cab x c hfn hc)))).trans e1⟩
  ·obtain ⟨o',e1⟩:=I.base.there b o e hx;exact ⟨o',(hs.2 b (iB (gP (Heap.lt_size e) (I.ok.cab x c hfn hc)))).trans e1⟩
  ·by_cases hj:j=i
   ·subst hj;rw [hi] at e1;cases e1;rw [iX hiσ] at e2;cases e2;exact ⟨u,r,.inr ⟨.inl hk,c,hc,hc'⟩⟩
   ·rw [jD (Ne.symm hj)] at e2;obtain ⟨u',r',q⟩:=hl j y v' e1 e2 e3;refine ⟨u',r',?_⟩;rcases q with q | ⟨k,c',e,z'⟩
    ·exact .inl q
    ·refine .inr ⟨k,c',e,z'.sameBut hs ?_⟩;rintro rfl;exact hj (PQ hN e1 (I.ok.inj _ _ _ e hc ▸ hi))
  ·by_cases hcc:c' = c
   ·subst hcc;exact ⟨_,hc'⟩
   ·obtain ⟨w2,z2⟩:=I.cell y c' e;exact ⟨w2,z2.sameBut hs hcc⟩
  ·obtain ⟨e,n,ne,nf,d⟩:=I.pin p hp;refine ⟨(hs.2 p.1 ?_).trans e,n,ne,nf,d⟩;intro q;rw [q,hoc] at e;have q':oc=p.2:=Option.some.inj e;exact d w' (by rw [<- q'];exact hocd)
theorem PZ {M:Model} {A:iD} {E:fV->fW->Prop} {i:Nat} {x:fZ} {v:V} {u:fV} {Q:Unit->fW->Prop} (I:Inv X fS σ H s) (hN:X.N.Nodup) (hi:X.N[i]? = some x) (hx:Loc X.env.scope x) (r:AW v u)
  (h:∀ s',Inv X fS (σ.set i (some v)) H s'->Q () s') (hf:X.fn x=true\/X.env.scope.names.lookup x=some .local:=by first | exact .inl Z | exact .inr Z | assumption):gT M A (storeName X.env x u) Q E s:=
 SO I hN hi hx r (λs' I' _=>h s' I') hf
theorem Inv.call' {s':fW} {ch:List fT} (I:Inv X fS σ H s) (ho:s'.os=s.os) (u:Un (frs X.stack) ch H H' s.heap s'.heap) (hok:HOk X.prog X.w H' s'.heap) (hg:AllBare s'.gens)
  (hch:∀ b ∈ ch,(b ∈ X.ex\/X.s₀.heap.objs.size <= b)/\b ≠ X.env.locals/\(∀ x c,X.env.cells.lookup x=some c->c ≠ b)/\∀ p ∈ X.pn ++ fS,p.1 ≠ b):Inv X fS σ H' s':=by
 obtain ⟨h',g',d',t',o'⟩:=s';have e:o' = s.os:=ho;subst e;exact I.call (g':=g') (t':=t') (d':=d') u hok hg hch
end
abbrev XK:=fV->Option fT->Hp->Prop
abbrev St:=List (Option V)
abbrev VK:=V->Hp->Prop
abbrev TE:=St->Hp->VK->Prop
abbrev TT:=St->Hp->(Bool->Hp->Prop)->Prop
abbrev TA:=St->Hp->(List V->Hp->Prop)->Prop
structure OR where
 nx:St->Hp->Prop
 rt:VK
 bk:St->Hp->Prop:=λ_ _=>False
 ct:St->Hp->Prop:=λ_ _=>False
abbrev TS:=OR->St->Hp->Prop
def EP (X:Cx) (fS:List (fT × j5)) (σ:St) (Q:VK) (u:fV) (s':fW):Prop:=∃ v H',Inv X fS σ H' s'/\AW v u/\Q v H'
def TP (X:Cx) (fS:List (fT × j5)) (σ:St) (Q:Bool->Hp->Prop) (b:Bool) (s':fW):Prop:=∃ H',Inv X fS σ H' s'/\Q b H'
def AP (X:Cx) (fS:List (fT × j5)) (σ:St) (Q:List V->Hp->Prop) (us:List fV) (s':fW):Prop:=∃ vs H',Inv X fS σ H' s'/\AK vs us/\Q vs H'
def SP (X:Cx) (fS:List (fT × j5)) (D:OR) (f:Flow) (s':fW):Prop:=
 match f with
 | .next=>E2 λσ' H'=>Inv X fS σ' H' s'/\D.nx σ' H'
 | .brk=>E2 λσ' H'=>Inv X fS σ' H' s'/\D.bk σ' H'
 | .cont=>E2 λσ' H'=>Inv X fS σ' H' s'/\D.ct σ' H'
 | .ret u=>E3 λv σ' H'=>Inv X fS σ' H' s'/\AW v u/\D.rt v H'
def PE (X:Cx) (e:i4) (t:TE):Prop:=
 ∀ (fS:List (fT × j5)) (s:fW) (σ:St) (H:Hp) (Q:VK),Inv X fS σ H s->t σ H Q->gT (gW X.prog X.w) X.A (eval e X.env) (EP X fS σ Q) X.xe s
def PT (X:Cx) (e:i4) (t:TT):Prop:=
 ∀ (fS:List (fT × j5)) (s:fW) (σ:St) (H:Hp) (Q:Bool->Hp->Prop),Inv X fS σ H s->t σ H Q->gT (gW X.prog X.w) X.A (isTrue e X.env (eval e X.env)) (TP X fS σ Q) X.xe s
def PW (X:Cx) (e:i4) (t:TT):Prop:=
 ∀ (whole:Sem fV) (fS:List (fT × j5)) (s:fW) (σ:St) (H:Hp) (Q:Bool->Hp->Prop),Inv X fS σ H s->t σ H Q->gT (gW X.prog X.w) X.A (isTrue e X.env whole) (TP X fS σ Q) X.xe s
theorem PW.pt {X:Cx} {e:i4} {t:TT} (h:PW X e t):PT X e t:=h _
def PA (X:Cx) (es:List i4) (t:TA):Prop:=
 ∀ (pos:Pos) (fS:List (fT × j5)) (s:fW) (σ:St) (H:Hp) (Q:List V->Hp->Prop),Inv X fS σ H s->t σ H Q->gT (gW X.prog X.w) X.A (spliced (backTo pos (gB es X.env))) (AP X fS σ Q) X.xe s
def PS (X:Cx) (st:hZ) (t:TS):Prop:=
 ∀ (fS:List (fT × j5)) (s:fW) (σ:St) (H:Hp) (D:OR),Inv X fS σ H s->t D σ H->gT (gW X.prog X.w) X.A (exec st X.env) (SP X fS D) X.xe s
def PSs (X:Cx) (st:List hZ) (t:TS):Prop:=
 ∀ (fS:List (fT × j5)) (s:fW) (σ:St) (H:Hp) (D:OR),Inv X fS σ H s->t D σ H->gT (gW X.prog X.w) X.A (execs st X.env) (SP X fS D) X.xe s
theorem thn {α:Type} {t:Sem α} {Q Q':α->fW->Prop} {M:Model} {A:iD} {E:fV->fW->Prop} {s:fW} (h:gT M A t Q E s) (hQ:∀ a s,Q a s->Q' a s):gT M A t Q' E s:=wpAny_mono h hQ λ_ _ x=>x
section
variable {X:Cx}
def tVar (i:Nat):TE:=λσ H Q=>∃ v,σ[i]? = some (some v)/\Q v H
def tC (v:V):TE:=λ_ H Q=>Q v H
theorem cW {i:Nat} {x:fZ} {pos:Pos} (hN:X.N[i]? = some x) (hv:Vis X.env.scope x) (hd:(x == ("__debug__":fZ))=false:=by decide) (hcd:(x == ("__classdict__":fZ))=false:=by decide):PE X (.Name x pos) (tVar i):=by
 intro fS s σ H Q I h;obtain ⟨v,e,h⟩:=h;obtain ⟨m,hn,hl⟩:=I.loc;obtain ⟨u,r,l⟩:=hl i x v hN e hv;have fin:EP X fS σ Q u s:=⟨v,H,I,r,h⟩;rcases l with ⟨hk,hm⟩ | ⟨hk,c,hc,hcell⟩
 ·exact wpAny_Name (wpAny_loadName_local I.ok.kind hk hn hm fin) hd
 ·rcases hk with hk | hk
  ·exact wpAny_Name (wpAny_loadName_cell I.ok.kind hk hc hcell fin) hd
  ·exact wpAny_Name (wpAny_loadName_free I.ok.kind hk hc hcell fin hcd) hd
theorem Za {i j pos}:PE X (.Constant (.int i) j pos) (tC (.int i)):=λ_ _ _ H _ I h=>wpAny_Constant_int ⟨.int i,H,I.tok _,⟨_,Z⟩,h⟩
theorem BO {b j pos}:PE X (.Constant (.bool b) j pos) (tC (.bl b)):=λ_ _ _ H _ I h=>Constant_bool ⟨.bl b,H,I,Z,h⟩
theorem Zs {x j pos}:PE X (.Constant (.str x) j pos) (tC (.str x)):=λ_ _ _ H _ I h=>Calls.Constant_str ⟨.str x,H,I.tok _,⟨_,Z⟩,h⟩
def Gl (X:Cx) (x:fZ):Prop:=X.env.kindOf x=some .globalImplicit
theorem K5 {E:fV->fW->Prop} {fS:List (fT × j5)} {s:fW} {σ:St} {H:Hp} {x:fZ} {u:fV} {pos:Pos} {Q:fV->fW->Prop} (I:Inv X fS σ H s) (hg:Gl X x) (hm:X.mg x=some u) (h:Q u s)
  (hd:(x == ("__debug__":fZ))=false:=by decide):gT (gW X.prog X.w) X.A (eval (.Name x pos) X.env) Q E s:=
 Calls.Name_function_global I.ok.kind hg (Calls.loadGlobal_global (by rw [I.ok.glob];exact I.mod.glob.keeps I.bk) hm h) hd
theorem HH {E:fV->fW->Prop} {fS:List (fT × j5)} {s:fW} {σ:St} {H:Hp} {x:fZ} {u:fV} {pos:Pos} {Q:fV->fW->Prop} (I:Inv X fS σ H s) (hg:Gl X x) (hm:X.mg x=none) (hv:bootBuiltins x=some u) (h:Q u s)
  (hn:x ≠ "__name__":=by decide) (hd:(x == ("__debug__":fZ))=false:=by decide):gT (gW X.prog X.w) X.A (eval (.Name x pos) X.env) Q E s:=by
 obtain ⟨mb,h1,h2⟩:=I.mod.blt;exact Calls.Name_function_global I.ok.kind hg (Calls.loadGlobal_builtin (by rw [I.ok.glob];exact I.mod.glob.keeps I.bk) hm (by rw [I.ok.blt];exact h1.keeps I.bk) ((h2 x hn).trans hv) h) hd
theorem cC {x:fZ} {v:V} {u:fV} {pos:Pos} (hg:Gl X x) (hm:X.mg x=some u) (r:AW v u) (hd:(x == ("__debug__":fZ))=false:=by decide):PE X (.Name x pos) (tC v):=
 λ_ _ _ H _ I h=>K5 I hg hm ⟨v,H,I,r,h⟩ hd
theorem pe_bltn {x:fZ} {v:V} {u:fV} {pos:Pos} (hg:Gl X x) (hm:X.mg x=none) (hv:bootBuiltins x=some u) (r:AW v u) (hn:x ≠ "__name__":=by decide) (hd:(x == ("__debug__":fZ))=false:=by decide):PE X (.Name x pos) (tC v):=
 λ_ _ _ H _ I h=>HH I hg hm hv ⟨v,H,I,r,h⟩ hn hd
variable {a b:i4} {ta tb:TE} {pos:Pos}
def PC (X:Cx) (op:CmpOp) (a b:i4) (t:TE):Prop:=
 ∀ (fS:List (fT × j5)) (s:fW) (σ:St) (H:Hp) (Q:VK),Inv X fS σ H s->t σ H Q ->
  gT (gW X.prog X.w) X.A (eval a X.env) (λv s₁=>gT (gW X.prog X.w) X.A (eval b X.env) (λu s₂=>gT (gW X.prog X.w) X.A (compareOp op v u) (EP X fS σ Q) X.xe s₂) X.xe s₁) X.xe s
theorem nobehind (b:i4) {op:CmpOp} (h:op ≠ .In) (h2:op ≠ .NotIn):behindInMarks op b=false:=by
 have e1:(op == CmpOp.In)=false:=by cases op <;> first | rfl | exact absurd Z h
 have e2:(op == CmpOp.NotIn)=false:=by cases op <;> first | rfl | exact absurd Z h2
 cases b <;> simp [behindInMarks,e1,e2]
def tIsN (ta:TE):TE:=λσ H Q=>ta σ H λx H1=>Q (.bl (decide (x = .non))) H1
theorem AW.none_iff {x:V} {v:fV} (r:AW x v):(v == Value.none)=decide (x = .non):=by
 cases x with
 | non=>cases r;rfl
 | bl _=>cases r;rfl
 | int _=>obtain ⟨t,rfl⟩:=r;rfl
 | str _=>obtain ⟨t,rfl⟩:=r;rfl
 | byt _=>obtain ⟨t,rfl⟩:=r;rfl
 | flt _=>obtain ⟨t,rfl⟩:=r;rfl
 | ref _=>cases r;rfl
 | ty _=>cases r;rfl
theorem pc_isN {j pos'} (ha:PE X a ta):PC X .Is a (.Constant .none j pos') (tIsN ta):=by
 intro fS s σ H Q I h;refine thn (ha fS s σ H _ I h) λv s1 ⟨x,H1,I1,r1,q1⟩=>?_;exact Constant_none (is_none_gen ⟨.bl _,H1,I1,by rw [r1.none_iff];rfl,q1⟩)
def tB (t:TE):TT:=λσ H Q=>t σ H λx H1=>∃ c,x = .bl c/\Q c H1
theorem pt_cmp {op:CmpOp} {t:TE} (h:PC X op a b t) (h1:behindInMarks op b=false:=by first | exact nobehind _ (by decide) (by decide) | rfl):PT X (.Compare a [op] [b] pos) (tB t):=by
 intro fS s σ H Q I hw;refine wpAny_isTrue_Compare1 (thn (h fS s σ H _ I hw) λv s1 h1=>thn h1 λu s2 h2=>thn h2 λc s3 ⟨x,H1,I1,r1,q1⟩=>?_) h1;obtain ⟨d,rfl,q⟩:=q1;cases r1;exact wpAny_truthy_bool ⟨H1,I1,q⟩
theorem AG {e:i4} {t:TE} (h:PE X e t) (he:∀ whole,isTrue e X.env whole=(do let v <- whole;standAt e.pos;holding [v] (truthy v)):=by intro _;rfl):PT X e (tB t):=by
 intro fS s σ H Q I hw;refine isTrue_plain (thn (h fS s σ H _ I hw) λv s1 ⟨x,H1,I1,r1,q1⟩=>?_) (he _);obtain ⟨d,rfl,q⟩:=q1;cases r1;exact wpAny_truthy_bool ⟨H1,I1,q⟩
variable {tA tB':TT} {rest:List i4}
def tAnd (t u:TT):TT:=λσ H Q=>t σ H λc H1=>if c=true then u σ H1 Q else Q false H1
def tOr (t u:TT):TT:=λσ H Q=>t σ H λc H1=>if c=true then Q true H1 else u σ H1 Q
def tNot (t:TT):TT:=λσ H Q=>t σ H λc H1=>Q (!c) H1
theorem HI (ha:PT X a tA):PW X (.BoolOp .And [a] pos) tA:=by
 intro wh fS s σ H Q I h;refine isTrue_and (thn (ha fS s σ H Q I h) λc s1 e=>?_);cases c with
 | true=>exact isTrue_and_nil e
 | false=>exact e
theorem Ji (ha:PT X a tA):PW X (.BoolOp .Or [a] pos) tA:=by
 intro wh fS s σ H Q I h;refine isTrue_or (thn (ha fS s σ H Q I h) λc s1 e=>?_);cases c with
 | false=>exact isTrue_or_nil e
 | true=>exact e
theorem LA (ha:PT X a tA) (hb:PW X (.BoolOp .And (b :: rest) pos) tB'):PW X (.BoolOp .And (a :: b :: rest) pos) (tAnd tA tB'):=by
 intro wh fS s σ H Q I h;refine isTrue_and (thn (ha fS s σ H _ I h) λc s1 ⟨H1,I1,q1⟩=>?_);cases c with
 | true=>exact hb wh fS s1 σ H1 Q I1 q1
 | false=>exact ⟨H1,I1,q1⟩
theorem BL (ha:PT X a tA) (hb:PW X (.BoolOp .Or (b :: rest) pos) tB'):PW X (.BoolOp .Or (a :: b :: rest) pos) (tOr tA tB'):=by
 intro wh fS s σ H Q I h;refine isTrue_or (thn (ha fS s σ H _ I h) λc s1 ⟨H1,I1,q1⟩=>?_);cases c with
 | true=>exact ⟨H1,I1,q1⟩
 | false=>exact hb wh fS s1 σ H1 Q I1 q1
theorem AZ (ha:PT X a tA):PT X (.UnaryOp .Not a pos) (tNot tA):=by
 intro fS s σ H Q I h;exact isTrue_not (ha fS s σ H (λc H1=>Q (!c) H1) I h)
def tAndV (ta tb:TE):TE:=λσ H Q=>ta σ H λx H1=>∃ c,x = .bl c/\if c=true then tb σ H1 Q else Q (.bl false) H1
def tNotV (ta:TE):TE:=λσ H Q=>ta σ H λx H1=>∃ c,x = .bl c/\Q (.bl (!c)) H1
theorem T4 {op} {t:TE} (h:PE X a t):PE X (.BoolOp op [a] pos) t:=λfS s σ H Q I hw=>BoolOp_one (h fS s σ H Q I hw)
theorem OA (ha:PE X a ta) (hb:PE X (.BoolOp .And (b :: rest) pos) tb):PE X (.BoolOp .And (a :: b :: rest) pos) (tAndV ta tb):=by
 intro fS s σ H Q I h;refine BoolOp_and (thn (ha fS s σ H _ I h) λv s1 ⟨x,H1,I1,r1,q1⟩=>?_);obtain ⟨c,rfl,q1⟩:=q1;cases r1;refine wpAny_truthy_bool ?_;cases c with
 | true=>exact hb fS s1 σ H1 Q I1 q1
 | false=>exact ⟨.bl false,H1,I1,Z,q1⟩
theorem pe_not (ha:PE X a ta):PE X (.UnaryOp .Not a pos) (tNotV ta):=by
 intro fS s σ H Q I h;refine UnaryOp_ (thn (ha fS s σ H _ I h) λv s1 ⟨x,H1,I1,r1,q1⟩=>?_);obtain ⟨c,rfl,q1⟩:=q1;cases r1;exact not_of (wpAny_truthy_bool ⟨.bl (!c),H1,I1,Z,q1⟩)
def tIf (t:TT) (ta tb:TE):TE:=λσ H Q=>t σ H λc H1=>if c=true then ta σ H1 Q else tb σ H1 Q
theorem WX {c:i4} (hc:PT X c tA) (ha:PE X a ta) (hb:PE X b tb):PE X (.IfExp c a b pos) (tIf tA ta tb):=by
 intro fS s σ H Q I h;refine wpAny_IfExp (thn (hc fS s σ H _ I h) λd s1 ⟨H1,I1,q1⟩=>?_);cases d with
 | true=>exact ha fS s1 σ H1 Q I1 q1
 | false=>exact hb fS s1 σ H1 Q I1 q1
end
def SqL (K:PySem.W.Frag) (H:Hp) (a:fT) (xs:List V):Prop:=
 Rd H a (.lst xs) \/
  E3 λ(o:j5) (its:Array fV) (n:Nat)=>K.lookup a=some o/\o.cls = .type "list"/\o.dict=none/\o.data = .seq its n/\its.size <= hJ/\AK xs its.toList
def SqT (K:PySem.W.Frag) (H:Hp) (a:fT) (xs:List V):Prop:=
 Rd H a (.tup xs) \/
  E3 λ(o:j5) (its:Array fV) (n:Nat)=>K.lookup a=some o/\o.cls = .type "tuple"/\o.data = .seq its n/\its.size <= hJ/\AK xs its.toList
def absV:fV->Option V
 | .none=>some .non
 | .bool b=>some (.bl b)
 | .int i _=>some (.int i)
 | .str x _=>some (.str x)
 | .bytes b _=>some (.byt b)
 | .float b _=>some (.flt b)
 | .ref a=>some (.ref a)
 | .type n=>some (.ty n)
 | _=>none
theorem AW.abs {x:V} {u:fV} (r:AW x u):absV u=some x:=by
 cases x with
 | non=>cases r;rfl
 | bl _=>cases r;rfl
 | int _=>obtain ⟨t,rfl⟩:=r;rfl
 | str _=>obtain ⟨t,rfl⟩:=r;rfl
 | byt _=>obtain ⟨t,rfl⟩:=r;rfl
 | flt _=>obtain ⟨t,rfl⟩:=r;rfl
 | ref _=>cases r;rfl
 | ty _=>cases r;rfl
theorem AW.inj {x y:V} {u:fV} (r:AW x u) (q:AW y u):x=y:=Option.some.inj (r.abs.symm.trans q.abs)
theorem AK.inj:∀ {xs ys:List V} {us:List fV},AK xs us->AK ys us->xs=ys
 | _,_,_,.nil,.nil=>rfl
 | _,_,_,.cons r t,.cons r' t'=>by rw [r.inj r',AK.inj t t']
section
variable {X:Cx} {fS:List (fT × j5)} {σ:St} {H:Hp} {s:fW} {a:fT} {xs ys:List V}
theorem SqL.of {K:PySem.W.Frag} (h:H a=some (.lst xs)):SqL K H a xs:=.inl (.inl h)
theorem SqT.of {K:PySem.W.Frag} (h:H a=some (.tup xs)):SqT K H a xs:=.inl (.inl h)
theorem Inv.list (I:Inv X fS σ H s) (h:SqL X.K H a xs):∃ its:List fV,AK xs its/\PlainL s.heap a its.toArray/\xs.length <= hJ:=by
 rcases h with h | ⟨o,its,n,hk,hc,hd,hs,hz,r⟩
 ·obtain ⟨z,its,n,r,e⟩:=h.ok I.hok;exact ⟨its,r,⟨_,n,e,Z,Z,Z⟩,z⟩
 ·refine ⟨its.toList,r,⟨o,n,I.kIn a o hk,hc,hd,by simpa using hs⟩,?_⟩;have e:=r.length;simp only [jV] at e
  lia
theorem Inv.tuple (I:Inv X fS σ H s) (h:SqT X.K H a xs):∃ its:List fV,AK xs its/\IsTup s.heap a its.toArray/\xs.length <= hJ:=by
 rcases h with h | ⟨o,its,n,hk,hc,hs,hz,r⟩
 ·obtain ⟨z,its,r,p⟩:=h.ok I.hok;exact ⟨its,r,p,z⟩
 ·refine ⟨its.toList,r,⟨o,I.kIn a o hk,hc,n,by simpa using hs⟩,?_⟩;have e:=r.length;simp only [jV] at e
  lia
theorem Inv.list_inj (I:Inv X fS σ H s) (h:SqL X.K H a xs) (h':SqL X.K H a ys):xs=ys:=by
 obtain ⟨its,r,⟨o,n,e,_,_,d⟩,_⟩:=I.list h;obtain ⟨its',r',⟨o',n',e',_,_,d'⟩,_⟩:=I.list h';rw [e] at e';cases e';rw [d] at d';injection d' with d1 _;have:its=its':=by simpa using congrArg Array.toList d1
 subst this;exact r.inj r'
theorem Inv.tuple_inj (I:Inv X fS σ H s) (h:SqT X.K H a xs) (h':SqT X.K H a ys):xs=ys:=by
 obtain ⟨its,r,⟨o,e,_,n,d⟩,_⟩:=I.tuple h;obtain ⟨its',r',⟨o',e',_,n',d'⟩,_⟩:=I.tuple h';rw [e] at e';cases e';rw [d] at d';injection d' with d1 _;have:its=its':=by simpa using congrArg Array.toList d1
 subst this;exact r.inj r'
end
abbrev Cx.wish (X:Cx) (E:fV->fW->Prop):Cx:={ X with xe:=E }
abbrev Cx.nox (X:Cx):Cx:=X.wish λ_ _=>False
theorem Cx.Ok.wish {X:Cx} (ok:X.Ok) (E:fV->fW->Prop):(X.wish E).Ok:=
 ⟨ok.mod,ok.kind,ok.glob,ok.blt,ok.above,ok.inj,ok.has,ok.cab,ok.hd,ok.frames,ok.stk,ok.exf,ok.bs,ok.bsz,ok.noex,ok.exfs,ok.funs,ok.frf⟩
theorem Cx.Ok.unwish {X:Cx} {E:fV->fW->Prop} (ok:(X.wish E).Ok):X.Ok:=
 ⟨ok.mod,ok.kind,ok.glob,ok.blt,ok.above,ok.inj,ok.has,ok.cab,ok.hd,ok.frames,ok.stk,ok.exf,ok.bs,ok.bsz,ok.noex,ok.exfs,ok.funs,ok.frf⟩
section
variable {X:Cx} {fS:List (fT × j5)} {σ:St} {H:Hp} {s:fW} {E:fV->fW->Prop}
theorem Inv.wish (I:Inv X fS σ H s) (E:fV->fW->Prop):Inv (X.wish E) fS σ H s:=⟨I.ok.wish E,I.os,I.bare,I.base,I.loc,I.cell,I.free,I.freeC,I.pin,I.hok,I.len⟩
theorem Inv.unwish (I:Inv (X.wish E) fS σ H s):Inv X fS σ H s:=⟨I.ok.unwish,I.os,I.bare,I.base,I.loc,I.cell,I.free,I.freeC,I.pin,I.hok,I.len⟩
theorem SP.unwish {D:OR} {f:Flow} {s':fW} (h:SP (X.wish E) fS D f s'):SP X fS D f s':=by
 cases f with
 | next=>obtain ⟨σ',H',I,q⟩:=h;exact ⟨σ',H',I.unwish,q⟩
 | brk=>obtain ⟨σ',H',I,q⟩:=h;exact ⟨σ',H',I.unwish,q⟩
 | cont=>obtain ⟨σ',H',I,q⟩:=h;exact ⟨σ',H',I.unwish,q⟩
 | ret u=>obtain ⟨v,σ',H',I,r,q⟩:=h;exact ⟨v,σ',H',I.unwish,r,q⟩
theorem PSs.nox {st:List hZ} {t:TS} (h:PSs X.nox st t):PSs X st t:=λfS s σ H D I hw=>
 wpAny_mono (h fS s σ H D (I.wish _) hw) (λ_ _ q=>q.unwish) λ_ _ z=>False.elim z
end
section
variable {X:Cx} {st:hZ} {rest:List hZ} {t u:TS} {e:i4} {te:TE} {pos:Pos}
def tNext:TS:=λD σ H=>D.nx σ H
def tSeq (t u:TS):TS:=λD σ H=>t { D with nx:=u D } σ H
theorem Zn:PSs X [] tNext:=λ_ _ σ H _ I h=>wpAny_execs_nil ⟨σ,H,I,h⟩
theorem Zc (h1:PS X st t) (h2:PSs X rest u):PSs X (st :: rest) (tSeq t u):=by
 intro fS s σ H D I h;refine wpAny_execs_cons (thn (h1 fS s σ H { D with nx:=u D } I h) λf s1 q=>?_);cases f with
 | next=>
  obtain ⟨σ',H',I',q⟩:=q;exact h2 fS s1 σ' H' D I' q
 | ret v=>exact q
 | brk=>exact q
 | cont=>exact q
theorem Ze (h1:PS X st t):PSs X [st] t:=by
 intro fS s σ H D I h;refine wpAny_execs_cons (thn (h1 fS s σ H D I h) λf s1 q=>?_);cases f with
 | next=>exact wpAny_execs_nil q
 | ret v=>exact q
 | brk=>exact q
 | cont=>exact q
def tBreak:TS:=λD σ H=>D.bk σ H
theorem ps_break:PS X (.Break pos) tBreak:=λ_ _ σ H _ I h=>wpAny_Break ⟨σ,H,I,h⟩
theorem Inv.quiet {fS:List (fT × j5)} {σ:St} {H:Hp} {s:fW} (I:Inv X fS σ H s):interactive X.env=false:=by simp [interactive,I.ok.kind]
def tDrop (te:TE):TS:=λD σ H=>te σ H λ_ H1=>D.nx σ H1
theorem Zp (he:PE X e te) (hs:swapsWith e none pos.line X.env=pure false:=by rfl):PS X (.Expr e pos) (tDrop te):=by
 intro fS s σ H D I h;exact wpAny_Expr_any (thn (he fS s σ H _ I h) λv s1 ⟨x,H1,I1,r1,q1⟩=>⟨σ,H1,I1,q1⟩) I.quiet hs
def tRet (te:TE):TS:=λD σ H=>te σ H D.rt
theorem Zi (he:PE X e te):PS X (.Return (some e) pos) (tRet te):=by
 intro fS s σ H D I h;exact wpAny_Return_some (thn (he fS s σ H _ I h) λv s1 ⟨x,H1,I1,r1,q1⟩=>⟨x,σ,H1,I1,r1,q1⟩)
def tIfS (c:TT) (t u:TS):TS:=λD σ H=>c σ H λb H1=>if b=true then t D σ H1 else u D σ H1
theorem Yk {c:i4} {a b:List hZ} {tc:TT} (hc:PT X c tc) (ha:PSs X a t) (hb:PSs X b u):PS X (.If c a b pos) (tIfS tc t u):=by
 intro fS s σ H D I h;refine wpAny_If (thn (hc fS s σ H _ I h) λd s1 ⟨H1,I1,q1⟩=>?_);cases d with
 | true=>exact ha fS s1 σ H1 D I1 q1
 | false=>exact hb fS s1 σ H1 D I1 q1
def tNever:TS:=λ_ _ _=>False
theorem BH:PS X st tNever:=λ_ _ _ _ _ _ h=>h.elim
theorem CD {sts:List hZ}:PSs X sts tNever:=λ_ _ _ _ _ _ h=>h.elim
end
abbrev TG:=V->St->Hp->(St->Hp->Prop)->Prop
abbrev TGs:=List V->St->Hp->(St->Hp->Prop)->Prop
def PG (X:Cx) (target:i4) (t:TG):Prop:=
 ∀ (fS:List (fT × j5)) (s:fW) (σ:St) (H:Hp) (v:V) (u:fV) (Q:St->Hp->Prop),Inv X fS σ H s->AW v u->t v σ H Q ->
  gT (gW X.prog X.w) X.A (assign target X.env u) (λ_ s'=>E2 λσ' H'=>Inv X fS σ' H' s'/\Q σ' H') X.xe s
def PGs (X:Cx) (ts:List i4) (t:TGs):Prop:=
  ∀ (fS:List (fT × j5)) (s:fW) (σ:St) (H:Hp) (vs:List V) (us:List fV) (Q:St->Hp->Prop),Inv X fS σ H s->AK vs us->t vs σ H Q ->
    gT (gW X.prog X.w) X.A (assignInOrder ((assignEach ts X.env).map (·.2)) us) (λ_ s'=>E2 λσ' H'=>Inv X fS σ' H' s'/\Q σ' H') X.xe s
abbrev TSet:=V->V->V->Hp->(Hp->Prop)->Prop
def PSet (X:Cx) (t:TSet):Prop:=
 ∀ (fS:List (fT × j5)) (s:fW) (σ:St) (H:Hp) (o i v:V) (ov iv u:fV) (Q:Hp->Prop),Inv X fS σ H s->AW o ov->AW i iv->AW v u->t o i v H Q ->
  gT (gW X.prog X.w) X.A (setItem ov iv u) (λ_ s'=>∃ H',Inv X fS σ H' s'/\Q H') X.xe s
section
variable {X:Cx} {pos:Pos}
def FV (i:Nat):TG:=λv σ H Q=>Q (σ.set i (some v)) H
theorem Zw {i:Nat} {x:fZ} (hN:X.N.Nodup) (hi:X.N[i]? = some x) (hx:Loc X.env.scope x) (hf:X.fn x=true\/X.env.scope.names.lookup x=some .local:=by first | exact .inl Z | exact .inr Z | assumption):PG X (.Name x pos) (FV i):=by
 intro fS s σ H v u Q I r h;exact wpAny_assign_Name (PZ I hN hi hx r (λs' I'=>⟨_,H,I',h⟩) hf)
def gNil:TGs:=λvs σ H Q=>vs=[]/\Q σ H
def fA (t:TG) (u:TGs):TGs:=λvs σ H Q=>E2 λv r=>vs=v :: r/\t v σ H λσ' H'=>u r σ' H' Q
theorem FC:PGs X [] gNil:=by
 intro fS s σ H vs us Q I r h;obtain ⟨e,h⟩:=h;subst e;cases r;exact assignInOrder_nil ⟨σ,H,I,h⟩
theorem Jp {e:i4} {es:List i4} {t:TG} {u:TGs} (h1:PG X e t) (h2:PGs X es u)
    (hs:(assignEach (e :: es) X.env).map (·.2)=assign e X.env :: (assignEach es X.env).map (·.2):=by rfl):PGs X (e :: es) (fA t u):=by
  intro fS s σ H vs us Q I r h;obtain ⟨v,vr,e1,h⟩:=h;subst e1;cases r with
  | cons r rr=>
    rw [hs];refine assignInOrder_cons (thn (h1 fS s σ H _ _ _ I r h) λ_ s1 ⟨σ1,H1,I1,q1⟩=>?_);exact h2 fS s1 σ1 H1 _ _ Q I1 rr q1
def gTup (K:PySem.W.Frag) (n:Nat) (t:TGs):TG:=λv σ H Q=>E2 λa xs=>v = .ref a/\SqT K H a xs/\xs.length=n/\t xs σ H Q
theorem WA {es:List i4} {k:Nat} {t:TGs} {n:Nat} (hc:X.calm=true) (h:PGs X es t)
    (hn:(assignEach es X.env).length=n:=by rfl) (hst:(assignEach es X.env).findIdx? (·.1)=none:=by rfl):PG X (.Tuple es k pos) (gTup X.K n t):=by
  intro fS s σ H v u Q I r hw;obtain ⟨a,xs,e1,hq,hl,hw⟩:=hw;subst e1;cases r;obtain ⟨its,rv,ht,hz⟩:=I.tuple hq;refine assign_Tuple_tuple (I.ok.hd hc) ht (by simp [hn,<- hl,rv.length]) hst λh' hx=>?_;have I1:Inv X fS σ H { s with heap:=h' }:=I.kept (t':=s.toks) λb o e=>hx b o (iB (Heap.lt_size e)) e;exact h fS _ σ H xs _ Q I1 (by simpa using rv) hw
def gSub (to ti:TE) (t:TSet):TG:=λv σ H Q=>to σ H λo H1=>ti σ H1 λi H2=>t o i v H2 λH3=>Q σ H3
theorem FP {o i:i4} {to ti:TE} {t:TSet} (ho:PE X o to) (hi:PE X i ti) (hs:PSet X t)
  (ha:∀ v,assign (.Subscript o i pos) X.env v=(do
   let ov <- holding [v] (eval o X.env)
   let iv <- holding [v,ov] (eval i X.env)
   standAt pos
   holding [v,ov,iv] (setItem ov iv v)
   release [v,ov,iv] []):=by intro _;rfl):PG X (.Subscript o i pos) (gSub to ti t):=by
 intro fS s σ H v u Q I r h;rw [ha];refine gQ (wpAny_holding (thn (ho fS s σ H _ I h) λov s1 ⟨x,H1,I1,r1,q1⟩=>?_));refine gQ (wpAny_holding (thn (hi fS s1 σ H1 _ I1 q1) λiv s2 ⟨y,H2,I2,r2,q2⟩=>?_));refine gQ (wpAny_standAt (gQ (wpAny_holding (thn (hs fS s2 σ H2 x y v ov iv u _ I2 r1 r2 r q2) λ_ s3 ⟨H3,I3,q3⟩=>?_))));exact wpAny_release ⟨σ,H3,I3,q3⟩
def tAsg (te:TE) (g:TG):TS:=λD σ H=>te σ H λx H1=>g x σ H1 D.nx
theorem EK {tg e:i4} {te:TE} {g:TG} (he:PE X e te) (hg:PG X tg g) (hs:swapsWithSole [tg] e pos.line X.env=pure false:=by rfl) (hw:swappedStores [tg] e X.env=pure none:=by rfl)
    (h1:(assignEach [tg] X.env).map (·.2)=[assign tg X.env]:=by rfl):PS X (.Assign [tg] e pos) (tAsg te g):=by
  intro fS s σ H D I h;refine wpAny_Assign_stores (thn (he fS s σ H _ I h) λv s1 ⟨x,H1,I1,r1,q1⟩=>?_) hs hw;rw [h1];exact thn (hg fS s1 σ H1 x v _ I1 r1 q1) λ_ s2 q=>q
theorem NX {i:Nat} {x:fZ} {e:i4} {te:TE} {pos':Pos} (hN:X.N.Nodup) (hi:X.N[i]? = some x) (hx:Loc X.env.scope x) (he:PE X e te) (hs:swapsWith e (some (.Name x pos')) pos.line X.env=pure false:=by rfl) (hf:X.fn x=true\/X.env.scope.names.lookup x=some .local:=by first | exact .inl Z | exact .inr Z | assumption) :
  PS X (.Assign [.Name x pos'] e pos) (tAsg te (FV i)):=by
 intro fS s σ H D I h;refine wpAny_Assign_Name (thn (he fS s σ H _ I h) λv s1 ⟨y,H1,I1,r1,q1⟩=>?_) hs;exact PZ I1 hN hi hx r1 (λs2 I2=>⟨_,H1,I2,q1⟩) hf
end
section
variable {X:Cx} {pos:Pos}
def tWhile (c:TT) (tb:TS):TS:=λD σ H=>∃ W:Nat->St->Hp->Prop,(∃ m,W m σ H)/\∀ m σ H,W m σ H ->
 c σ H λb H1=>if b=true then ∃ N:St->Hp->Prop,(∀ σ' H',N σ' H'->∃ m',m' < m/\W m' σ' H')/\tb { D with nx:=N,ct:=N,bk:=D.nx } σ H1 else D.nx σ H1
theorem LV {c:i4} {body:List hZ} {tc:TT} {tb:TS} (hp:PassesOwn (gW X.prog X.w) X.A X.env X.xe) (hc:PT X c tc) (hb:PSs X body tb):PS X (.While c body [] pos) (tWhile tc tb):=by
 intro fS s σ H D I h;obtain ⟨W,⟨m0,w0⟩,turn⟩:=h;refine wpAny_While (codeAny_whileLoop (λn s'=>∃ σ' H',Inv X fS σ' H' s'/\W n σ' H') ?_ m0 ⟨σ,H,I,w0⟩);rintro n s1 ⟨σ1,H1,I1,w1⟩;refine wpAny_passesOwn hp (thn (hc fS s1 σ1 H1 _ I1 (turn n σ1 H1 w1)) λb s2 ⟨H2,I2,q2⟩=>?_);cases b with
 | true=>
  obtain ⟨N,hN,q2⟩:=q2;rw [if_pos Z];refine wpAny_passesOwn hp (thn (hb fS s2 σ1 H2 _ I2 q2) λf s3 q3=>?_);cases f with
  | next=>
   obtain ⟨σ3,H3,I3,n3⟩:=q3;obtain ⟨m',hm,w3⟩:=hN σ3 H3 n3;exact ⟨m',hm,σ3,H3,I3,w3⟩
  | cont=>
   obtain ⟨σ3,H3,I3,n3⟩:=q3;obtain ⟨m',hm,w3⟩:=hN σ3 H3 n3;exact ⟨m',hm,σ3,H3,I3,w3⟩
  | brk=>exact q3
  | ret v=>exact q3
 | false=>
  rw [if_neg gS];exact wpAny_execs_nil ⟨σ1,H2,I2,q2⟩
end
structure It where
 go:Nat->Hp->Prop
 yld:Nat->Hp->V->Hp->Prop
 stop:Nat->Hp->Prop
def ZI (X:Cx) (fS:List (fT × j5)) (H:Hp) (b:fT):Prop:=
 H b=none/\b ≠ X.env.locals/\b ∉ X.fs/\(b ∈ X.ex\/X.s₀.heap.objs.size <= b)/\(∀ x c,X.env.cells.lookup x=some c->c ≠ b)/\∀ p ∈ X.pn ++ fS,p.1 ≠ b
theorem Inv.fpOk {X:Cx} {fS:List (fT × j5)} {σ:St} {H H':Hp} {s:fW} {b:fT} (I:Inv X fS σ H s) (hb:s.heap.objs.size <= b) (hn:H' b=none):ZI X fS H' b:=by
 refine ⟨hn,Nat.ne_of_gt (gP I.lt hb),I.nofs hb,.inr (iV I.sz hb),λx c e z=>?_,λp hp z=>?_⟩
 ·obtain ⟨v,q⟩:=I.cell x c e;exact absurd (gP q.lt (by rw [z];exact hb)) (iI _)
 ·exact absurd (gP (Heap.lt_size (I.pin p hp).1) (by rw [z];exact hb)) (iI _)
structure Turn (P:gL) (w:gX) (K:PySem.W.Frag) (tg:i4) (J:It) (fp:List fT) (it:fT) (tn:Nat->iC->Prop):Prop where
 mem:it ∈ fp
 obj:∀ i h,tn i h->∀ b ∈ fp,∃ o,h.get? b=some o/\∀ v,o.data ≠ .cell v
 keep:∀ i h h',tn i h->(∀ b ∈ fp,∀ o,h.get? b=some o->h'.get? b=some o)->tn i h'
 item:∀ (X:Cx),X.prog=P->X.w=w->X.K=K->X.calm=true->∀ (i:Nat) (fS:List (fT × j5)) (s:fW) (σ:St) (H:Hp) (E:fV->fW->Prop),Inv X fS σ H s->(∀ b ∈ fp,ZI X fS H b)->tn i s.heap->J.go i H ->
  gT (gW P w) X.A (pyNext (.ref it)) (λr s1=>∃ u,r=some u /\
   gT (gW P w) X.A (letOwnedTupleGo tg (.ref it) u) (λ_ s2=>∃ x H',Inv X fS σ H' s2/\AW x u/\J.yld i H x H'/\tn (i+1) s2.heap/\∀ b ∈ fp,H' b=none) E s1) E s
 done:∀ (X:Cx),X.prog=P->X.w=w->X.K=K->X.calm=true->∀ (i:Nat) (fS:List (fT × j5)) (s:fW) (σ:St) (H:Hp) (E:fV->fW->Prop),Inv X fS σ H s->(∀ b ∈ fp,ZI X fS H b)->tn i s.heap->J.stop i H ->
  gT (gW P w) X.A (pyNext (.ref it)) (λr s1=>r=none/\Inv X fS σ H s1) E s
 self:∀ (A:iD) (i:Nat) (s:fW) (Q:fV->fW->Prop) (E:fV->fW->Prop),tn i s.heap->Q (.ref it) s->gT (gW P w) A (pyIter (.ref it)) Q E s
abbrev TI:=St->Hp->(It->Hp->Prop)->Prop
def PIE (X:Cx) (fS:List (fT × j5)) (σ:St) (tg:i4) (R:It->Hp->Prop) (itv:fV) (s2:fW):Prop:=
 E5 λ(it:fT) (fp:List fT) (tn:Nat->iC->Prop) (J:It) (H':Hp)=>itv = .ref it/\Inv X fS σ H' s2/\Turn X.prog X.w X.K tg J fp it tn/\tn 0 s2.heap/\(∀ b ∈ fp,ZI X fS H' b)/\R J H'
def PI (X:Cx) (tg iter:i4) (wi:TI):Prop:=
 ∀ (fS:List (fT × j5)) (s:fW) (σ:St) (H:Hp) (R:It->Hp->Prop),Inv X fS σ H s->wi σ H R ->
  gT (gW X.prog X.w) X.A (eval iter X.env) (λv s1=>gT (gW X.prog X.w) X.A (pyIter v) (PIE X fS σ tg R) X.xe s1) X.xe s
theorem dF {M : Model} {A : iD} {E : fV -> fW -> Prop} {s : fW} {tg : i4} {it : fT} {u : fV} {o : j5} {n : String} {vs : Array fV} {Q : Unit -> fW -> Prop} (ho : s.heap.get? it = some o) (hc : o.cls = .type n) (hd : o.data = .fields vs)
    (hn : ["enumerate", "zip", "dict_itemiterator", "dict_reverseitemiterator", "odict_iterator", "itertools.zip_longest", "itertools.pairwise"].contains n = false) (hQ : Q () s) : gT M A (letOwnedTupleGo tg (.ref it) u) Q E s := by
  unfold letOwnedTupleGo
  cases tg <;> first
    | exact wpAny_pure hQ
    | (cases u <;> first
        | exact wpAny_pure hQ
        | (refine gQ (wpAny_load ho ?_)
           rw [hc, hd];show gT M A (if (["enumerate", "zip", "dict_itemiterator", "dict_reverseitemiterator", "odict_iterator", "itertools.zip_longest", "itertools.pairwise"].contains n && vs[0]? == some (rawInt _)) = true then _ else _) Q E s;rw [if_neg (by intro h; rw [hn, Bool.false_and] at h; cases h)];exact wpAny_pure hQ))
def Itl (K:PySem.W.Frag) (a:fT):It:=
 ⟨λi H=>E2 λxs x=>SqL K H a xs/\xs[i]? = some x,λi H x H'=>H' = H/\∀ xs,SqL K H a xs->xs[i]? = some x,λi H=>∃ xs,SqL K H a xs/\xs.length <= i⟩
def Itt (K:PySem.W.Frag) (a:fT):It:=
 ⟨λi H=>E2 λxs x=>SqT K H a xs/\xs[i]? = some x,λi H x H'=>H' = H/\∀ xs,SqT K H a xs->xs[i]? = some x,λi H=>∃ xs,SqT K H a xs/\xs.length <= i⟩
def Itr (lo:Int) (n:Nat):It:=⟨λi _=>i < n,λi H x H'=>H' = H/\x = .int (lo+i),λi _=>n <= i⟩
theorem ZZ {P:gL} {w:gX} {K:PySem.W.Frag} {tg:i4} (a it:fT):Turn P w K tg (Itl K a) [it] it (λi h=>h.IsListIter it a i) where
 mem:=by simp
 obj:=λi h st b hb=>by
  have e:b=it:=by simpa using hb
  subst e;obtain ⟨o,e,c,d⟩:=st;exact ⟨o,e,λv z=>by rw [d] at z;cases z⟩
 keep:=λi h h' st k=>st.at λo e=>k it (by simp) o e
 item:=by
  intro X hP hw hK hc i fS s σ H E I hf st hg;subst hP hw hK;obtain ⟨xs,x,hq,hx⟩:=hg;obtain ⟨its,rv,p,hz⟩:=I.list hq;obtain ⟨u,hu,ru⟩:=rv.get hx;obtain ⟨f0,f1,f2,f3,f4,f5⟩:=hf it (by simp);refine wpAny_pyNext_list_item st p.isList (x:=u) (by simpa using hu) λh' st' sb=>?_;have I1:Inv X fS σ H { s with heap:=h' }:=I.turned (t':=s.toks) (λb o hb e=>(sb.2 b hb).trans e) f0 f1 f3 f4 f5;obtain ⟨o,e,c,d⟩:=id st';exact ⟨u,Z,dF (s:={ s with heap:=h' }) e c d (by decide) ⟨x,H,I1,ru,⟨Z,λys hy=>by rw [I.list_inj hy hq];exact hx⟩,st',λb hb=>(hf b hb).1⟩⟩
 done:=by
  intro X hP hw hK hc i fS s σ H E I hf st hg;subst hP hw hK;obtain ⟨xs,hq,hx⟩:=hg;obtain ⟨its,rv,p,hz⟩:=I.list hq;obtain ⟨f0,f1,f2,f3,f4,f5⟩:=hf it (by simp);have hl:=rv.length;exact wpAny_pyNext_list_end (I.ok.hd hc) st p.isList (by simp;lia) λh' eb=>⟨Z,I.turned (t':=s.toks) (λb o hb e=>eb b o hb e) f0 f1 f3 f4 f5⟩
 self:=λ_ _ _ _ _ st h=>wpAny_pyIter_listiter st h
theorem YG {P:gL} {w:gX} {K:PySem.W.Frag} {tg:i4} (a it:fT):Turn P w K tg (Itt K a) [it] it (λi h=>h.IsTupleIter it a i) where
 mem:=by simp
 obj:=λi h st b hb=>by
  have e:b=it:=by simpa using hb
  subst e;obtain ⟨o,e,c,d⟩:=st;exact ⟨o,e,λv z=>by rw [d] at z;cases z⟩
 keep:=λi h h' st k=>st.at λo e=>k it (by simp) o e
 item:=by
  intro X hP hw hK hc i fS s σ H E I hf st hg;subst hP hw hK;obtain ⟨xs,x,hq,hx⟩:=hg;obtain ⟨its,rv,p,hz⟩:=I.tuple hq;obtain ⟨u,hu,ru⟩:=rv.get hx;obtain ⟨f0,f1,f2,f3,f4,f5⟩:=hf it (by simp);refine wpAny_pyNext_tuple_item st (show s.heap.IsTuple a its.toArray from p) (x:=u) (by simpa using hu) λh' st' sb=>?_;have I1:Inv X fS σ H { s with heap:=h' }:=I.turned (t':=s.toks) (λb o hb e=>(sb.2 b hb).trans e) f0 f1 f3 f4 f5;obtain ⟨o,e,c,d⟩:=id st';exact ⟨u,Z,dF (s:={ s with heap:=h' }) e c d (by decide) ⟨x,H,I1,ru,⟨Z,λys hy=>by rw [I.tuple_inj hy hq];exact hx⟩,st',λb hb=>(hf b hb).1⟩⟩
 done:=by
  intro X hP hw hK hc i fS s σ H E I hf st hg;subst hP hw hK;obtain ⟨xs,hq,hx⟩:=hg;obtain ⟨its,rv,p,hz⟩:=I.tuple hq;obtain ⟨f0,f1,f2,f3,f4,f5⟩:=hf it (by simp);have hl:=rv.length;exact wpAny_pyNext_tuple_end (I.ok.hd hc) st (show s.heap.IsTuple a its.toArray from p) (by simp;lia) λh' eb=>⟨Z,I.turned (t':=s.toks) (λb o hb e=>eb b o hb e) f0 f1 f3 f4 f5⟩
 self:=λ_ _ _ _ _ st h=>wpAny_pyIter_tupleiter st h
theorem YT {P:gL} {w:gX} {K:PySem.W.Frag} {tg:i4} (it:fT) (lo:Int) (n:Nat):Turn P w K tg (Itr lo n) [it] it (λi h=>IsRangeIter h it (lo+(i:Nat) * 1) ((n:Int) - (i:Nat)) 1) where
 mem:=by simp
 obj:=λi h st b hb=>by
  have e:b=it:=by simpa using hb
  subst e;exact ⟨_,st,λv z=>by
   have z':Data.fields _=Data.cell v:=z;cases z'⟩
 keep:=λi h h' st k=>k it (by simp) _ st
 item:=by
  intro X hP hw hK hc i fS s σ H E I hf st hg;subst hP hw hK;obtain ⟨f0,f1,f2,f3,f4,f5⟩:=hf it (by simp);have W:=Walks.range (prog:=X.prog) (w:=X.w) (I.ok.hd hc) it lo 1 n;refine W.item i s _ _ hg st λv h' tk hv st' kk=>?_;obtain ⟨t,rfl⟩:=hv;have I1:Inv X fS σ H { s with heap:=h',toks:=tk }:=I.turned (λb o hb e=>kk b o (by simpa using hb) e) f0 f1 f3 f4 f5;refine ⟨_,Z,dF (s:={ s with heap:=h',toks:=tk }) (n:="range_iterator") st' Z Z (by decide) ⟨.int (lo+i),H,I1,⟨t,?_⟩,⟨Z,Z⟩,st',λb hb=>(hf b hb).1⟩⟩;rw [Int.mul_one]
 done:=by
  intro X hP hw hK hc i fS s σ H E I hf st hg;subst hP hw hK;obtain ⟨f0,f1,f2,f3,f4,f5⟩:=hf it (by simp);exact wpAny_pyNext_range_end (I.ok.hd hc) st (by have:n <= i:=hg;lia) λh' eb=>⟨Z,I.turned (t':=s.toks) (λb o hb e=>eb b o hb e) f0 f1 f3 f4 f5⟩
 self:=λ_ _ _ _ _ st h=>wpAny_pyIter_rangeiter st h
section
variable {X:Cx} {tg:i4}
def iList (K:PySem.W.Frag) (tl:TE):TI:=λσ H R=>tl σ H λx H1=>∃ a,x = .ref a/\(∃ xs,SqL K H1 a xs)/\R (Itl K a) H1
def iTup (K:PySem.W.Frag) (tl:TE):TI:=λσ H R=>tl σ H λx H1=>∃ a,x = .ref a/\(∃ xs,SqT K H1 a xs)/\R (Itt K a) H1
theorem BN {l:i4} {tl:TE} (hl:PE X l tl):PI X tg l (iList X.K tl):=by
 intro fS s σ H R I h;refine thn (hl fS s σ H _ I h) λv s1 ⟨x,H1,I1,r1,q1⟩=>?_;obtain ⟨a,e,⟨xs,hq⟩,q⟩:=q1;subst e;cases r1;obtain ⟨its,rv,p,hz⟩:=I1.list hq;refine wpAny_pyIter_list p.isList ?_;refine ⟨s1.heap.objs.size,[s1.heap.objs.size],_,_,H1,Z,I1.kept (t':=s1.toks) λb o e=>Heap.get?_push_of_some _ e,ZZ a _,⟨_,Heap.get?_push_size _ Z,Z,Z⟩,λb hb=>?_,q⟩;have e:b=s1.heap.objs.size:=by simpa using hb
 subst e;exact I1.fpOk (gA _) (I1.hok.fresh (gA _))
theorem pi_tup {l:i4} {tl:TE} (hl:PE X l tl):PI X tg l (iTup X.K tl):=by
 intro fS s σ H R I h;refine thn (hl fS s σ H _ I h) λv s1 ⟨x,H1,I1,r1,q1⟩=>?_;obtain ⟨a,e,⟨xs,hq⟩,q⟩:=q1;subst e;cases r1;obtain ⟨its,rv,p,hz⟩:=I1.tuple hq;refine wpAny_pyIter_tuple (show s1.heap.IsTuple a its.toArray from p) ?_;refine ⟨s1.heap.objs.size,[s1.heap.objs.size],_,_,H1,Z,I1.kept (t':=s1.toks) λb o e=>Heap.get?_push_of_some _ e,YG a _,⟨_,Heap.get?_push_size _ Z,Z,Z⟩,λb hb=>?_,q⟩;have e:b=s1.heap.objs.size:=by simpa using hb
 subst e;exact I1.fpOk (gA _) (I1.hok.fresh (gA _))
theorem WR {fS:List (fT × j5)} {σ:St} {H:Hp} {s:fW} {R:It->Hp->Prop} {E:fV->fW->Prop} {lo hi:Int} {t u v:Tok} {tk:Nat} (I:Inv X fS σ H s) (h1:-(2 ^ 62) <= lo) (h2:lo < 2 ^ 62) (h3:-(2 ^ 62) <= hi) (h4:hi < 2 ^ 62)
  (q:R (Itr lo (hi - lo).toNat) H):gT (gW X.prog X.w) X.A (pyIter (.ref s.heap.objs.size)) (PIE X fS σ tg R) E { s with heap:=s.heap.push { cls:=.type "range",data:=.fields #[.int lo t,.int hi u,.int 1 v] },toks:=tk }:=by
 refine wpAny_pyIter_range (IsRange.new ..) (small_one h1 h2 h3 h4) ?_;have I1:Inv X fS σ H { s with heap:=s.heap.push { cls:=.type "range",data:=.fields #[.int lo t,.int hi u,.int 1 v] },toks:=tk }:=I.kept λb o e=>Heap.get?_push_of_some _ e
 refine ⟨(s.heap.push { cls:=.type "range",data:=.fields #[.int lo t,.int hi u,.int 1 v] }).objs.size,[(s.heap.push { cls:=.type "range",data:=.fields #[.int lo t,.int hi u,.int 1 v] }).objs.size],_,_,H,Z, I1.kept (t':=tk) λb o e=>Heap.get?_push_of_some _ e,YT _ lo (hi - lo).toNat,?_,λb hb=>?_,q⟩
 ·have e1:lo+((0:Nat):Int) * 1=lo:=by simp
  have e2:(((hi - lo).toNat:Nat):Int) - ((0:Nat):Int)=Builtin.Range.rangeSize lo hi 1:=by rw [rangeSize_one];split <;> lia
  show IsRangeIter _ _ (lo+((0:Nat):Int) * 1) ((((hi - lo).toNat:Nat):Int) - ((0:Nat):Int)) 1;rw [e1,e2];exact Heap.get?_push_size _ Z
 ·have e:b=(s.heap.push { cls:=.type "range",data:=.fields #[.int lo t,.int hi u,.int 1 v] }).objs.size:=by simpa using hb
  subst e;exact I1.fpOk (gA _) (I1.hok.fresh (gA _))
def iRng1 (ta:TA):TI:=λσ H R=>ta σ H λvs H1=>∃ j:Int,vs=[.int j]/\-(2 ^ 62) <= j/\j < 2 ^ 62/\R (Itr 0 j.toNat) H1
def iRng2 (ta:TA):TI:=λσ H R=>ta σ H λvs H1=>E2 λ(i j:Int)=>vs=[.int i,.int j]/\(-(2 ^ 62) <= i/\i < 2 ^ 62/\-(2 ^ 62) <= j/\j < 2 ^ 62)/\R (Itr i (j - i).toNat) H1
theorem AY {a:i4} {ta:TA} {p pos:Pos} (hg:Gl X "range") (hm:X.mg "range" = none) (ha:PA X [a] ta) (hs:gB [a] X.env=[(false,eval a X.env)]:=by rfl):PI X tg (.Call (.Name "range" p) [a] [] pos) (iRng1 ta):=by
 intro fS s σ H R I h;refine Call_ (HH I hg hm boot_range (PyProof.Rows.callWith_type1 (thn (ha pos fS s σ H _ I h) λus s1 ⟨vs,H1,I1,r1,q1⟩=>?_) hs Z));obtain ⟨j,e,q1,q2,q⟩:=q1;subst e;cases r1 with
 | cons r rr=>
  cases rr;obtain ⟨t,rfl⟩:=r;exact call_range_1 (WR I1 (by lia) (by lia) q1 q2 (by simpa using q))
theorem MQ {a b:i4} {ta:TA} {p pos:Pos} (hg:Gl X "range") (hm:X.mg "range" = none) (ha:PA X [a,b] ta) (hs:gB [a,b] X.env=[(false,eval a X.env),(false,eval b X.env)]:=by rfl) (hs2:gB [b] X.env=[(false,eval b X.env)]:=by rfl) :
  PI X tg (.Call (.Name "range" p) [a,b] [] pos) (iRng2 ta):=by
 intro fS s σ H R I h;refine Call_ (HH I hg hm boot_range (PyProof.Rows.callWith_type1 (thn (ha pos fS s σ H _ I h) λus s1 ⟨vs,H1,I1,r1,q1⟩=>?_) (by rw [hs,hs2]) (by rw [hs2];rfl)));obtain ⟨i,j,e,⟨q1,q2,q3,q4⟩,q⟩:=q1;subst e;cases r1 with
 | cons r rr=>
  cases rr with
  | cons r' rr=>
   cases rr;obtain ⟨t,rfl⟩:=r;obtain ⟨t',rfl⟩:=r';exact call_range_2 (WR I1 q1 q2 q3 q4 q)
def tFor (wi:TI) (g:TG) (tb:TS):TS:=λD σ H=>wi σ H λJ H1=>∃ W:Nat->Nat->St->Hp->Prop,(∃ m,W 0 m σ H1)/\∀ i m σ H,W i m σ H ->
 (J.stop i H/\D.nx σ H)\/(J.go i H/\∃ N:St->Hp->Prop,(∀ σ' H',N σ' H'->∃ m',m' < m/\W (i+1) m' σ' H')/\∀ x H',J.yld i H x H'->g x σ H' λσ2 H2=>tb { D with nx:=N,ct:=N,bk:=D.nx } σ2 H2)
def SU (fp:List fT) (h:iC):List (fT × j5):=fp.filterMap λb=>(h.get? b).map λo=>(b,o)
theorem GR {fp:List fT} {h:iC} {b:fT} {o:j5} (hb:b ∈ fp) (e:h.get? b=some o):(b,o) ∈ SU fp h:=kC.mpr ⟨b,hb,by rw [e];rfl⟩
theorem c0 {fp:List fT} {h:iC} {p:fT × j5} (hp:p ∈ SU fp h):p.1 ∈ fp/\h.get? p.1=some p.2:=by
 obtain ⟨b,hb,e⟩:=kC.mp hp;cases q:h.get? b with
 | none=>rw [q] at e;cases e
 | some o=>
  rw [q] at e;have e':(b,o)=p:=Option.some.inj e;subst e';exact ⟨hb,q⟩
theorem Inv.pinned {fS:List (fT × j5)} {σ:St} {H:Hp} {s:fW} {fp:List fT} (I:Inv X fS σ H s) (hf:∀ b ∈ fp,ZI X fS H b) (ho:∀ b ∈ fp,∃ o,s.heap.get? b=some o/\∀ v,o.data ≠ .cell v):Inv X (fS ++ SU fp s.heap) σ H s:=
 I.pins_of λp hp=>(iM.mp hp).elim (λz=>I.pin p (iE _ z)) λz=>by
  obtain ⟨hb,e⟩:=c0 z;obtain ⟨f0,f1,f2,_⟩:=hf p.1 hb;obtain ⟨o,e',d⟩:=ho p.1 hb;rw [e] at e';cases e';exact ⟨e,f0,f1,f2,d⟩
theorem Inv.unpinned {fS pl:List (fT × j5)} {σ:St} {H:Hp} {s:fW} (I:Inv X (fS ++ pl) σ H s):Inv X fS σ H s:=I.pins_of λp hp=>I.pin p (iE _ (jC _ hp))
theorem AO {iter:i4} {body:List hZ} {wi:TI} {g:TG} {tb:TS} {pos:Pos} (hp:PassesOwn (gW X.prog X.w) X.A X.env X.xe) (hc:X.calm=true) (hi:PI X tg iter wi) (hg:PG X tg g) (hb:PSs X body tb)
  (hs:∀ x,foldedSetIterable iter X.env x=pure x:=by intro _;rfl):PS X (.For tg iter body [] pos) (tFor wi g tb):=by
 intro fS s σ H D I h;refine wpAny_For (thn (hi fS s σ H _ I h) λv s1 h1=>thn h1 λitv s2 h2=>?_) hs;obtain ⟨it,fp,tn,J,H2,e,I2,T,st2,f2,W,⟨m0,w0⟩,turn⟩:=h2;subst e;have stat:∀ {H':Hp},(∀ b ∈ fp,H' b=none)->∀ b ∈ fp,ZI X fS H' b:=λhn b hb=>⟨hn b hb,(f2 b hb).2⟩;refine codeAny_forLoop_any (λn s'=>∃ i σ' H',Inv X fS σ' H' s'/\tn i s'.heap/\(∀ b ∈ fp,H' b=none)/\W i n σ' H') ?_ m0 ⟨0,σ,H2,I2,st2,λb hb=>(f2 b hb).1,w0⟩;rintro n s3 ⟨i,σ3,H3,I3,st3,fr3,w3⟩;rcases turn i n σ3 H3 w3 with ⟨stop,qn⟩ | ⟨go,N,hN,step⟩
 ·refine wpAny_passesOwn hp (thn (T.done X Z Z Z hc i fS s3 σ3 H3 X.xe I3 (stat fr3) st3 stop) λr s4 ⟨hr,I4⟩=>?_);subst hr;exact wpAny_execs_nil ⟨σ3,H3,I4,qn⟩
 ·refine wpAny_passesOwn hp (thn (T.item X Z Z Z hc i fS s3 σ3 H3 X.xe I3 (stat fr3) st3 go) λr s4 ⟨u,hr,h4⟩=>?_);subst hr;refine wpAny_passesOwn hp (thn h4 λ_ s5 ⟨x,H5,I5,r5,y5,st5,fr5⟩=>?_);have I5':=I5.pinned (stat fr5) (T.obj _ _ st5);refine wpAny_passesOwn hp (thn (hg _ s5 σ3 H5 x u _ I5' r5 (step x H5 y5)) λ_ s6 ⟨σ6,H6,I6,q6⟩=>?_);refine wpAny_passesOwn hp (thn (hb _ s6 σ6 H6 _ I6 q6) λf s7 q7=>?_);have again:∀ {σ7:St} {H7:Hp},Inv X (fS ++ SU fp s5.heap) σ7 H7 s7->N σ7 H7->∃ m,m < n/\∃ i σ' H',Inv X fS σ' H' s7/\tn i s7.heap/\(∀ b ∈ fp,H' b=none)/\W i m σ' H':=λ{σ7 H7} I7 n7=>by
   obtain ⟨m',hm,w7⟩:=hN σ7 H7 n7;refine ⟨m',hm,i+1,σ7,H7,I7.unpinned,T.keep _ _ _ st5 λb hb o e=>(I7.pin (b,o) (iE _ (iE _ (GR hb e)))).1,λb hb=>?_,w7⟩;obtain ⟨o,e,d⟩:=T.obj _ _ st5 b hb;exact (I7.pin (b,o) (iE _ (iE _ (GR hb e)))).2.1
  cases f with
  | next=>obtain ⟨σ7,H7,I7,n7⟩:=q7;exact again I7 n7
  | cont=>obtain ⟨σ7,H7,I7,n7⟩:=q7;exact again I7 n7
  | brk=>obtain ⟨σ7,H7,I7,q7⟩:=q7;exact ⟨σ7,H7,I7.unpinned,q7⟩
  | ret v=>obtain ⟨x7,σ7,H7,I7,r7,q7⟩:=q7;exact ⟨x7,σ7,H7,I7.unpinned,r7,q7⟩
end
theorem D9 {K:PySem.W.Frag} {a:fT} {xs:List V} {g:TG} {tb:TS} {D:OR} {σ:St} {H:Hp} (Pv:Nat->St->Hp->Prop) (h0:Pv 0 σ H) (hl:∀ i σ H,i <= xs.length->Pv i σ H->SqL K H a xs)
  (hs:∀ i x σ H,xs[i]? = some x->Pv i σ H->g x σ H λσ2 H2=>tb { D with nx:=Pv (i+1),ct:=Pv (i+1),bk:=D.nx } σ2 H2) (hd:∀ σ H,Pv xs.length σ H->D.nx σ H) :
  ∃ W:Nat->Nat->St->Hp->Prop,(∃ m,W 0 m σ H)/\∀ i m σ H,W i m σ H ->
   ((Itl K a).stop i H/\D.nx σ H)\/((Itl K a).go i H/\∃ N:St->Hp->Prop,(∀ σ' H',N σ' H'->∃ m',m' < m/\W (i+1) m' σ' H')/\∀ x H',(Itl K a).yld i H x H'->g x σ H' λσ2 H2=>tb { D with nx:=N,ct:=N,bk:=D.nx } σ2 H2):=by
 refine ⟨λi m σ H=>m=xs.length - i/\i <= xs.length/\Pv i σ H,⟨xs.length,by simp,iG _,h0⟩,?_⟩;rintro i m σ H ⟨rfl,hi,p⟩;have q:=hl i σ H hi p;by_cases hlt:i < xs.length
 ·refine .inr ⟨⟨xs,xs[i],q,by simp [hlt]⟩,Pv (i+1),λσ' H' p'=>⟨xs.length - (i+1),by lia,Z,hlt,p'⟩,λx H' y=>?_⟩;obtain ⟨e,y⟩:=y;subst e;exact hs i x σ _ (y xs q) p
 ·have e:i=xs.length:=by lia
  subst e;exact .inl ⟨⟨xs,q,gA _⟩,hd σ H p⟩
theorem fL {K:PySem.W.Frag} {a:fT} {xs:List V} {g:TG} {tb:TS} {D:OR} {σ:St} {H:Hp} (Pv:Nat->St->Hp->Prop) (h0:Pv 0 σ H) (hl:∀ i σ H,i <= xs.length->Pv i σ H->SqT K H a xs)
  (hs:∀ i x σ H,xs[i]? = some x->Pv i σ H->g x σ H λσ2 H2=>tb { D with nx:=Pv (i+1),ct:=Pv (i+1),bk:=D.nx } σ2 H2) (hd:∀ σ H,Pv xs.length σ H->D.nx σ H) :
  ∃ W:Nat->Nat->St->Hp->Prop,(∃ m,W 0 m σ H)/\∀ i m σ H,W i m σ H ->
   ((Itt K a).stop i H/\D.nx σ H)\/((Itt K a).go i H/\∃ N:St->Hp->Prop,(∀ σ' H',N σ' H'->∃ m',m' < m/\W (i+1) m' σ' H')/\∀ x H',(Itt K a).yld i H x H'->g x σ H' λσ2 H2=>tb { D with nx:=N,ct:=N,bk:=D.nx } σ2 H2):=by
 refine ⟨λi m σ H=>m=xs.length - i/\i <= xs.length/\Pv i σ H,⟨xs.length,by simp,iG _,h0⟩,?_⟩;rintro i m σ H ⟨rfl,hi,p⟩;have q:=hl i σ H hi p;by_cases hlt:i < xs.length
 ·refine .inr ⟨⟨xs,xs[i],q,by simp [hlt]⟩,Pv (i+1),λσ' H' p'=>⟨xs.length - (i+1),by lia,Z,hlt,p'⟩,λx H' y=>?_⟩;obtain ⟨e,y⟩:=y;subst e;exact hs i x σ _ (y xs q) p
 ·have e:i=xs.length:=by lia
  subst e;exact .inl ⟨⟨xs,q,gA _⟩,hd σ H p⟩
theorem C9 {lo:Int} {n:Nat} {g:TG} {tb:TS} {D:OR} {σ:St} {H:Hp} (Pv:Nat->St->Hp->Prop) (h0:Pv 0 σ H)
  (hs:∀ i σ H,i < n->Pv i σ H->g (.int (lo+i)) σ H λσ2 H2=>tb { D with nx:=Pv (i+1),ct:=Pv (i+1),bk:=D.nx } σ2 H2) (hd:∀ σ H,Pv n σ H->D.nx σ H) :
  ∃ W:Nat->Nat->St->Hp->Prop,(∃ m,W 0 m σ H)/\∀ i m σ H,W i m σ H ->
   ((Itr lo n).stop i H/\D.nx σ H)\/((Itr lo n).go i H/\∃ N:St->Hp->Prop,(∀ σ' H',N σ' H'->∃ m',m' < m/\W (i+1) m' σ' H')/\∀ x H',(Itr lo n).yld i H x H'->g x σ H' λσ2 H2=>tb { D with nx:=N,ct:=N,bk:=D.nx } σ2 H2):=by
 refine ⟨λi m σ H=>m=n - i/\i <= n/\Pv i σ H,⟨n,by simp,iG _,h0⟩,?_⟩;rintro i m σ H ⟨rfl,hi,p⟩;by_cases hlt:i < n
 ·refine .inr ⟨hlt,Pv (i+1),λσ' H' p'=>⟨n - (i+1),by lia,Z,hlt,p'⟩,λx H' y=>?_⟩;obtain ⟨e,y⟩:=y;subst e y;exact hs i σ _ hlt p
 ·have e:i=n:=by lia
  subst e;exact .inl ⟨gA _,hd σ H p⟩
theorem X2 {c:TT} {tb:TS} {D:OR} {σ:St} {H:Hp} (Pv:St->Hp->Prop) (μ:St->Hp->Nat) (h0:Pv σ H)
  (hs:∀ σ H,Pv σ H->c σ H λb H1=>if b=true then tb { D with nx:=λσ' H'=>Pv σ' H'/\μ σ' H' < μ σ H,ct:=λσ' H'=>Pv σ' H'/\μ σ' H' < μ σ H,bk:=D.nx } σ H1 else D.nx σ H1)
  (mono:∀ σ H Q Q',(∀ b H1,Q b H1->Q' b H1)->c σ H Q->c σ H Q'):tWhile c tb D σ H:=by
 refine ⟨λm σ H=>m=μ σ H/\Pv σ H,⟨_,Z,h0⟩,?_⟩;rintro m σ H ⟨rfl,p⟩;refine mono σ H _ _ (λb H1 q=>?_) (hs σ H p);cases b with
 | true=>exact ⟨_,λσ' H' ⟨p',l⟩=>⟨_,l,Z,p'⟩,q⟩
 | false=>exact q
abbrev R2:=V->V->Hp->VK->Prop
def OpR (X:Cx) (f:fV->fV->Sem fV) (r:R2):Prop:=
 ∀ (fS:List (fT × j5)) (s:fW) (σ:St) (H:Hp) (x y:V) (v u:fV) (Q:VK),Inv X fS σ H s->AW x v->AW y u->r x y H Q ->
  gT (gW X.prog X.w) X.A (f v u) (EP X fS σ Q) X.xe s
def UnR (X:Cx) (f:fV->Sem fV) (r:V->Hp->VK->Prop):Prop:=
 ∀ (fS:List (fT × j5)) (s:fW) (σ:St) (H:Hp) (x:V) (v:fV) (Q:VK),Inv X fS σ H s->AW x v->r x H Q ->
  gT (gW X.prog X.w) X.A (f v) (EP X fS σ Q) X.xe s
def KJ (X:Cx) (f:fV) (r:List V->Hp->VK->Prop):Prop:=
 ∀ (fS:List (fT × j5)) (s:fW) (σ:St) (H:Hp) (xs:List V) (us:List fV) (Q:VK),Inv X fS σ H s->AK xs us->r xs H Q ->
  gT (gW X.prog X.w) X.A (call f us) (EP X fS σ Q) X.xe s
def tOp (r:R2) (ta tb:TE):TE:=λσ H Q=>ta σ H λx H1=>tb σ H1 λy H2=>r x y H2 Q
def tUn (r:V->Hp->VK->Prop) (ta:TE):TE:=λσ H Q=>ta σ H λx H1=>r x H1 Q
def rI (C:Int->Int->Prop) (g:Int->Int->V):R2:=λx y H Q=>E2 λi j=>x = .int i/\y = .int j/\C i j/\Q (g i j) H
def rI0 (g:Int->Int->V):R2:=λx y H Q=>E2 λi j=>x = .int i/\y = .int j/\Q (g i j) H
def rU (g:Int->V):V->Hp->VK->Prop:=λx H Q=>∃ i,x = .int i/\Q (g i) H
section
variable {X:Cx} {a b c:i4} {ta tb tc:TE} {pos:Pos}
theorem binT (ha:PE X a ta) (hb:PE X b tb) {fS:List (fT × j5)} {s:fW} {σ:St} {H:Hp} {R:V->V->Hp->Prop} (I:Inv X fS σ H s)
  (h:ta σ H λx H1=>tb σ H1 λy H2=>R x y H2) {Q:fV->fW->Prop} {f:fV->fV->Sem fV}
  (hf:∀ v u s2 x y H2,Inv X fS σ H2 s2->AW x v->AW y u->R x y H2->gT (gW X.prog X.w) X.A (f v u) Q X.xe s2) :
  gT (gW X.prog X.w) X.A (eval a X.env) (λv s₁=>gT (gW X.prog X.w) X.A (eval b X.env) (λu s₂=>gT (gW X.prog X.w) X.A (f v u) Q X.xe s₂) X.xe s₁) X.xe s:=by
 refine thn (ha fS s σ H _ I h) λv s1 ⟨x,H1,I1,r1,q1⟩=>?_;refine thn (hb fS s1 σ H1 _ I1 q1) λu s2 ⟨y,H2,I2,r2,q2⟩=>?_;exact hf v u s2 x y H2 I2 r1 r2 q2
theorem Zh {op:Operator} {r:R2} (ho:OpR X (binaryOp op) r) (ha:PE X a ta) (hb:PE X b tb):PE X (.BinOp a op b pos) (tOp r ta tb):=by
 intro fS s σ H Q I h;exact wpAny_BinOp (binT ha hb I h λv u s2 x y H2 I2 rx ry q=>ho fS s2 σ H2 x y v u Q I2 rx ry q)
theorem KK {op:UnaryOp} {r:V->Hp->VK->Prop} (ho:UnR X (unaryOp op) r) (ha:PE X a ta):PE X (.UnaryOp op a pos) (tUn r ta):=by
 intro fS s σ H Q I h;exact UnaryOp_ (thn (ha fS s σ H _ I h) λv s1 ⟨x,H1,I1,r1,q1⟩=>ho fS s1 σ H1 x v Q I1 r1 q1)
theorem opI {f:fV->fV->Sem fV} {C:Int->Int->Prop} {g:Int->Int->Int}
  (rule:∀ (i j:Int) (t u:Tok) (s:fW) (Q:fV->fW->Prop) (E:fV->fW->Prop),C i j->Q (.int (g i j) s.toks) { s with toks:=s.toks+1 }->gT (gW X.prog X.w) X.A (f (.int i t) (.int j u)) Q E s) :
  OpR X f (rI C λi j=>.int (g i j)):=by
 intro fS s σ H x y v u Q I rx ry h;obtain ⟨i,j,rfl,rfl,hc,q⟩:=h;obtain ⟨t,rfl⟩:=rx;obtain ⟨t',rfl⟩:=ry;exact rule i j t t' s _ _ hc ⟨.int (g i j),H,I.tok _,⟨_,Z⟩,q⟩
theorem opI0 {f:fV->fV->Sem fV} {g:Int->Int->Int}
  (rule:∀ (i j:Int) (t u:Tok) (s:fW) (Q:fV->fW->Prop) (E:fV->fW->Prop),Q (.int (g i j) s.toks) { s with toks:=s.toks+1 }->gT (gW X.prog X.w) X.A (f (.int i t) (.int j u)) Q E s) :
  OpR X f (rI0 λi j=>.int (g i j)):=by
 intro fS s σ H x y v u Q I rx ry h;obtain ⟨i,j,rfl,rfl,q⟩:=h;obtain ⟨t,rfl⟩:=rx;obtain ⟨t',rfl⟩:=ry;exact rule i j t t' s _ _ ⟨.int (g i j),H,I.tok _,⟨_,Z⟩,q⟩
theorem opB0 {f:fV->fV->Sem fV} {g:Int->Int->Bool}
  (rule:∀ (i j:Int) (t u:Tok) (s:fW) (Q:fV->fW->Prop) (E:fV->fW->Prop),Q (.bool (g i j)) s->gT (gW X.prog X.w) X.A (f (.int i t) (.int j u)) Q E s) :
  OpR X f (rI0 λi j=>.bl (g i j)):=by
 intro fS s σ H x y v u Q I rx ry h;obtain ⟨i,j,rfl,rfl,q⟩:=h;obtain ⟨t,rfl⟩:=rx;obtain ⟨t',rfl⟩:=ry;exact rule i j t t' s _ _ ⟨.bl (g i j),H,I,Z,q⟩
def CDiv (i j:Int):Prop:=0 < j/\j < 1073741824
def CPow (i j:Int):Prop:=0 <= j/\j <= 1000000/\i.natAbs < 2 ^ 64
def CMul (i j:Int):Prop:=(-(2 ^ 64) < i/\i < 2 ^ 64)\/(-(2 ^ 64) < j/\j < 2 ^ 64)
theorem CMul.ok {i j:Int} (h:CMul i j):IntMulOk i j:=by
 rcases h with ⟨h1,h2⟩ | ⟨h1,h2⟩
 ·exact .of_left (intBits_le_64 h1 h2)
 ·exact .of_right (intBits_le_64 h1 h2)
theorem Zz:OpR X (binaryOp .Add) (rI0 λi j=>.int (i+j)):=opI0 λ_ _ _ _ _ _ _ q=>add_int q
theorem Yj:OpR X (binaryOp .Sub) (rI0 λi j=>.int (i - j)):=opI0 λ_ _ _ _ _ _ _ q=>sub_int q
theorem DV:OpR X (binaryOp .Mult) (rI CMul λi j=>.int (i * j)):=opI λ_ _ _ _ _ _ _ hc q=>mul_int q hc.ok
theorem Jk:OpR X (binaryOp .FloorDiv) (rI CDiv λi j=>.int (i / j)):=opI λi j _ _ _ _ _ hc q=>by
 have h1:(0:Int) < j:=hc.1;have h2:j < 1073741824:=hc.2;exact floordiv_int (by lia) (by rw [Int.fdiv_eq_ediv_of_nonneg i (by lia)];exact q) (.inl (PyProof.noPylong_small (by lia)))
theorem Yn:OpR X (binaryOp .Mod) (rI (λ_ j=>0 < j) λi j=>.int (i % j)):=opI λi j _ _ _ _ _ hc q=>by
 have h1:(0:Int) < j:=hc;exact mod_int' (by lia) (by rw [Int.fmod_eq_emod_of_nonneg i (by lia)];exact q)
theorem FT:OpR X (binaryOp .Pow) (rI CPow λi j=>.int (i ^ j.toNat)):=opI λ_ _ _ _ _ _ _ hc q=>pow_int_small hc.1 hc.2.1 hc.2.2 q
theorem unI {f:fV->Sem fV} {g:Int->Int}
  (rule:∀ (i:Int) (t:Tok) (s:fW) (Q:fV->fW->Prop) (E:fV->fW->Prop),Q (.int (g i) s.toks) { s with toks:=s.toks+1 }->gT (gW X.prog X.w) X.A (f (.int i t)) Q E s) :
  UnR X f (rU λi=>.int (g i)):=by
 intro fS s σ H x v Q I rx h;obtain ⟨i,rfl,q⟩:=h;obtain ⟨t,rfl⟩:=rx;exact rule i t s _ _ ⟨.int (g i),H,I.tok _,⟨_,Z⟩,q⟩
theorem EQ:UnR X (unaryOp .USub) (rU λi=>.int (-i)):=unI λ_ _ _ _ _ q=>neg_int q
end
def scal:V->V->Bool
 | .non,.non=>true | .non,.int _=>true | .int _,.non=>true | .non,.bl _=>true | .bl _,.non=>true | .non,.str _=>true | .str _,.non=>true
 | .int _,.int _=>true | .bl _,.bl _=>true | .str _,.str _=>true | .byt _,.byt _=>true
 | .int _,.str _=>true | .str _,.int _=>true | .bl _,.str _=>true | .str _,.bl _=>true
 | _,_=>false
def rEq:R2:=λx y H Q=>scal x y=true/\Q (.bl (decide (x=y))) H
def rNe:R2:=λx y H Q=>scal x y=true/\Q (.bl (!decide (x=y))) H
theorem QC {i j:Int}:decide (V.int i=V.int j)=(i == j):=by
 rw [jO];simp
theorem dec_bl {i j:Bool}:decide (V.bl i=V.bl j)=(i == j):=by
 rw [jO];simp
theorem b9 {i j:fZ}:decide (V.str i=V.str j)=(i == j):=by
 rw [jO];simp
theorem bF {i j:Array UInt8}:decide (V.byt i=V.byt j)=(i.toList == j.toList):=by
 rw [jO];cases i;cases j;simp
section
variable {X:Cx} {a b c:i4} {ta tb tc:TE} {pos:Pos}
theorem Jq {fS:List (fT × j5)} {σ:St} {H:Hp} {s:fW} {Q:VK} {k k':Bool} (I:Inv X fS σ H s) (q:Q (.bl k) H) (e:k=k'):EP X fS σ Q (.bool k') s:=by
 subst e;exact ⟨.bl k,H,I,Z,q⟩
theorem Jv:OpR X (compareOp .Eq) rEq:=by
 intro fS s σ H x y v u Q I rx ry h;obtain ⟨hs,q⟩:=h;cases x with
 | non=>
  cases rx;cases y with
  | non=>cases ry;exact PySem.EqNone.eq_none_none (Jq I q (by simp))
  | bl j=>cases ry;exact PySem.EqNone.eq_none_bool (Jq I q (by simp))
  | int j=>obtain ⟨t',rfl⟩:=ry;exact PySem.EqNone.eq_none_int (Jq I q (by simp))
  | str j=>obtain ⟨t',rfl⟩:=ry;exact PySem.EqNone.eq_none_str (Jq I q (by simp))
  | _=>exact absurd (show false=true from hs) gS
 | bl i=>
  cases rx;cases y with
  | non=>cases ry;exact PySem.EqNone.eq_bool_none (Jq I q (by simp))
  | bl j=>cases ry;exact eq_bool (Jq I q dec_bl)
  | str j=>obtain ⟨t',rfl⟩:=ry;exact PySem.EqMixed.eq_bool_str (Jq I q (by simp))
  | _=>exact absurd (show false=true from hs) gS
 | int i=>
  obtain ⟨t,rfl⟩:=rx;cases y with
  | non=>cases ry;exact PySem.EqNone.eq_int_none (Jq I q (by simp))
  | int j=>obtain ⟨t',rfl⟩:=ry;exact eq_int (Jq I q QC)
  | str j=>obtain ⟨t',rfl⟩:=ry;exact PySem.EqMixed.eq_int_str (Jq I q (by simp))
  | _=>exact absurd (show false=true from hs) gS
 | str i=>
  obtain ⟨t,rfl⟩:=rx;cases y with
  | non=>cases ry;exact PySem.EqNone.eq_str_none (Jq I q (by simp))
  | bl j=>cases ry;exact PySem.EqMixed.eq_str_bool (Jq I q (by simp))
  | int j=>obtain ⟨t',rfl⟩:=ry;exact PySem.EqMixed.eq_str_int (Jq I q (by simp))
  | str j=>obtain ⟨t',rfl⟩:=ry;exact eq_str (Jq I q b9)
  | _=>exact absurd (show false=true from hs) gS
 | byt i=>
  obtain ⟨t,rfl⟩:=rx;cases y with
  | byt j=>obtain ⟨t',rfl⟩:=ry;exact PySem.W.eq_bytes (Jq I q bF)
  | _=>exact absurd (show false=true from hs) gS
 | _=>cases y <;> exact absurd (show false=true from hs) gS
theorem GZ:OpR X (compareOp .NotEq) rNe:=by
 intro fS s σ H x y v u Q I rx ry h;obtain ⟨hs,q⟩:=h;cases x with
 | non=>
  cases rx;cases y with
  | non=>cases ry;exact PySem.EqNone.ne_none_none (Jq I q (by simp))
  | bl j=>cases ry;exact PySem.EqNone.ne_none_bool (Jq I q (by simp))
  | int j=>obtain ⟨t',rfl⟩:=ry;exact PySem.EqNone.ne_none_int (Jq I q (by simp))
  | str j=>obtain ⟨t',rfl⟩:=ry;exact PySem.EqNone.ne_none_str (Jq I q (by simp))
  | _=>exact absurd (show false=true from hs) gS
 | bl i=>
  cases rx;cases y with
  | non=>cases ry;exact PySem.EqNone.ne_bool_none (Jq I q (by simp))
  | bl j=>cases ry;exact ne_bool (Jq I q (congrArg not dec_bl))
  | str j=>obtain ⟨t',rfl⟩:=ry;exact PySem.EqMixed.ne_bool_str (Jq I q (by simp))
  | _=>exact absurd (show false=true from hs) gS
 | int i=>
  obtain ⟨t,rfl⟩:=rx;cases y with
  | non=>cases ry;exact PySem.EqNone.ne_int_none (Jq I q (by simp))
  | int j=>obtain ⟨t',rfl⟩:=ry;exact ne_int (Jq I q (congrArg not QC))
  | str j=>obtain ⟨t',rfl⟩:=ry;exact PySem.EqMixed.ne_int_str (Jq I q (by simp))
  | _=>exact absurd (show false=true from hs) gS
 | str i=>
  obtain ⟨t,rfl⟩:=rx;cases y with
  | non=>cases ry;exact PySem.EqNone.ne_str_none (Jq I q (by simp))
  | bl j=>cases ry;exact PySem.EqMixed.ne_str_bool (Jq I q (by simp))
  | int j=>obtain ⟨t',rfl⟩:=ry;exact PySem.EqMixed.ne_str_int (Jq I q (by simp))
  | str j=>obtain ⟨t',rfl⟩:=ry;exact ne_str (Jq I q (congrArg not b9))
  | _=>exact absurd (show false=true from hs) gS
 | byt i=>
  obtain ⟨t,rfl⟩:=rx;cases y with
  | byt j=>obtain ⟨t',rfl⟩:=ry;exact PySem.W.ne_bytes (Jq I q (congrArg not bF))
  | _=>exact absurd (show false=true from hs) gS
 | _=>cases y <;> exact absurd (show false=true from hs) gS
theorem DA:OpR X (compareOp .Lt) (rI0 λi j=>.bl (decide (i < j))):=opB0 λ_ _ _ _ _ _ _ q=>lt_int q
theorem CM:OpR X (compareOp .Gt) (rI0 λi j=>.bl (decide (j < i))):=opB0 λ_ _ _ _ _ _ _ q=>gt_int q
theorem op_ge:OpR X (compareOp .GtE) (rI0 λi j=>.bl (decide (j <= i))):=opB0 λ_ _ _ _ _ _ _ q=>ge_int q
theorem EC (b:i4) {op:CmpOp} (h:op ≠ .In:=by decide) (h2:op ≠ .NotIn:=by decide):behindInMarks op b=false:=by
 have e1:(op == CmpOp.In)=false:=by cases op <;> first | rfl | exact absurd Z h
 have e2:(op == CmpOp.NotIn)=false:=by cases op <;> first | rfl | exact absurd Z h2
 cases b <;> simp [behindInMarks,e1,e2]
theorem CO {op:CmpOp} {r:R2} (ho:OpR X (compareOp op) r) (ha:PE X a ta) (hb:PE X b tb) (hm:behindInMarks op b=false):PE X (.Compare a [op] [b] pos) (tOp r ta tb):=by
 intro fS s σ H Q I h;exact wpAny_Compare1 (binT ha hb I h λv u s2 x y H2 I2 rx ry q=>ho fS s2 σ H2 x y v u Q I2 rx ry q) hm
def tTest (t:TE):TT:=λσ H Q=>t σ H λx H'=>∃ k,x = .bl k/\Q k H'
theorem aC {op:CmpOp} {r:R2} (ho:OpR X (compareOp op) r) (ha:PE X a ta) (hb:PE X b tb) (hm:behindInMarks op b=false):PT X (.Compare a [op] [b] pos) (tTest (tOp r ta tb)):=by
 intro fS s σ H Q I h
 refine wpAny_isTrue_Compare1 (thn (ha fS s σ H _ I h) λv s1 ⟨x,H1,I1,r1,q1⟩=>thn (hb fS s1 σ H1 _ I1 q1) λu s2 ⟨y,H2,I2,r2,q2⟩=> thn (ho fS s2 σ H2 x y v u _ I2 r1 r2 q2) λc s3 ⟨z,H3,I3,r3,k,e,q3⟩=>?_) hm;subst e;cases r3;exact wpAny_truthy_bool ⟨H3,I3,q3⟩
theorem RE:(hJ:Nat) < 2 ^ 63:=by rw [sizeLine_eq];decide
theorem T0 {x:V} {us:List fV} (r:AK [x] us):∃ u,us=[u]/\AW x u:=by
 cases r with
 | cons r1 r2=>cases r2;exact ⟨_,Z,r1⟩
theorem vals2 {x y:V} {us:List fV} (r:AK [x,y] us):∃ u w',us=[u,w']/\AW x u/\AW y w':=by
 cases r with
 | cons r1 r2=>
  cases r2 with
  | cons r3 r4=>cases r4;exact ⟨_,_,Z,r1,r3⟩
theorem call_abs:KJ X (.builtin "abs") (λxs H Q=>∃ i,xs=[.int i]/\Q (.int (if i < 0 then -i else i)) H):=by
 intro fS s σ H xs us Q I r h;obtain ⟨i,rfl,q⟩:=h;obtain ⟨u,rfl,t,rfl⟩:=T0 r;exact call_abs_int λu tk=>⟨.int (if i < 0 then -i else i),H,I.tok _,⟨_,Z⟩,q⟩
theorem eU (hc:X.calm=true):KJ X (.builtin "max") (λxs H Q=>∃ i j,xs=[.int i,.int j]/\Q (.int (if j > i then j else i)) H):=by
 intro fS s σ H xs us Q I r h;obtain ⟨i,j,rfl,q⟩:=h;obtain ⟨u,w',rfl,⟨t,rfl⟩,⟨t',rfl⟩⟩:=vals2 r;refine max_two_ints (I.ok.hd hc) λh' tk k=>⟨_,H,I.kept k,?_,q⟩;by_cases hj:j > i
 ·rw [if_pos hj,if_pos hj];exact ⟨_,Z⟩
 ·rw [if_neg hj,if_neg hj];exact ⟨_,Z⟩
theorem dM (hc:X.calm=true):KJ X (.builtin "min") (λxs H Q=>∃ i j,xs=[.int i,.int j]/\Q (.int (if j < i then j else i)) H):=by
 intro fS s σ H xs us Q I r h;obtain ⟨i,j,rfl,q⟩:=h;obtain ⟨u,w',rfl,⟨t,rfl⟩,⟨t',rfl⟩⟩:=vals2 r;refine min_two_ints (I.ok.hd hc) λh' tk k=>⟨_,H,I.kept k,?_,q⟩;by_cases hj:j < i
 ·rw [if_pos hj,if_pos hj];exact ⟨_,Z⟩
 ·rw [if_neg hj,if_neg hj];exact ⟨_,Z⟩
theorem C7:KJ X (.type "int") (λxs H Q=>(∃ i,xs=[.int i]/\Q (.int i) H)\/∃ k,xs=[.bl k]/\Q (.int (if k then 1 else 0)) H):=by
 intro fS s σ H xs us Q I r h;rcases h with ⟨i,rfl,q⟩ | ⟨k,rfl,q⟩
 ·obtain ⟨u,rfl,t,rfl⟩:=T0 r;exact call_int_int ⟨.int i,H,I,⟨_,Z⟩,q⟩
 ·obtain ⟨u,rfl,r1⟩:=T0 r;cases r1;exact call_int_bool ⟨.int (if k then 1 else 0),H,I.tok _,⟨_,Z⟩,q⟩
end
structure ObjM (h:iC) (x dx C:fT) (mA:fZ->Option fV):Prop where
 obj:h.get? x=some (jF C dx)
 ns:h.Ns1 dx mA
 ne:dx ≠ x
theorem eX {h:iC} {dx:fT} {mA:fZ->Option fV} (n:h.Ns1 dx mA):∃ od,h.get? dx=some od/\∀ name,lK name od=some (mA name):=by
  obtain ⟨o,es,ep,ho,hd,hk,_,hm⟩:=n;refine ⟨o,ho,λname=>?_⟩;have e:=hm name;unfold nsFind findBy at e;rw [<- Array.find?_toList] at e;unfold lK;rw [hd];dsimp only;split
  · rename_i y q
    rw [q] at e;exact congrArg some e
  · rename_i q
    rw [q] at e;have a:es.toList.any (·.refKey)=false:=by
      rw [List.any_eq_false];intro y hy;obtain ⟨z,t,hkey⟩:=hk y (Array.mem_toList_iff.mp hy);simp [DictEntry.refKey,hkey]
    have a':¬ es.toList.any (·.refKey)=true:=by rw [a];exact gS
    rw [if_neg a'];exact congrArg some e
theorem ObjM.look {h:iC} {x dx C:fT} {mA:fZ->Option fV} (I:ObjM h x dx C mA):∃ od,PySem.W.InstAt h x (jF C dx) C (some od)/\∀ name,lK name od=some (mA name):=
 let ⟨od,ho,hl⟩:=eX I.ns
 ⟨od,⟨I.obj,Z,Z,ho⟩,hl⟩
section
variable {prog:gL} {w:gX} {A:iD} {E:fV->fW->Prop} {s:fW} {K:PySem.W.Frag} {x dx C f:fT} {mA:fZ->Option fV} {name:fZ} {v:fV}
theorem get_map {expr:Bool} {Q:fV->fW->Prop} (X:K.In s.heap) (I:ObjM s.heap x dx C mA) (hg:kS K C name=true) (hh:lA K C=true)
  (ha:iR K (.ref C) name=some none) (hv:mA name=some v) (hv':PySem.W.handedIn v=true) (h:Q v { s with toks:=s.toks+1 }) :
  gT (gW prog w) A (getAttr (.ref x) name expr) Q E s:=by
 obtain ⟨od,J,hl⟩:=I.look;exact PySem.W.get_value X J (lC hg).1 (PySem.W.findObj_own hh ha Z (by rw [hl,hv])) hv' h
theorem get_meth {pl:Sem Bool} {Q:fV × List fV->fW->Prop} (X:K.In s.heap) (I:ObjM s.heap x dx C mA) (hg:kS K C name=true)
    (hf:iR K (.ref C) name=some (some (.ref f))) (ht:lO K (.ref f)=true) (hv:mA name=none) (h:Q (.ref f,[.ref x]) s) :
    gT (gW prog w) A (getMethod (.ref x) name pl) Q E s:=by
  obtain ⟨od,J,hl⟩:=I.look;exact PySem.W.method_fn X J (lC hg).1 (lC hg).2 hf (beq_iff_eq.mp ht) (by show (lK name od).map (·.isSome)=some false;rw [hl,hv];rfl) h
theorem set_map {ns:List fZ} {Q:Unit->fW->Prop} (X:K.In s.heap) (I:ObjM s.heap x dx C mA)
  (hs:iR K (.ref C) "__setattr__" = some (some (.builtin "object.__setattr__"))) (hp:PySem.W.plainOver K C=true) (ht:PySem.W.takerIn K C name=some none) (hh:lA K C=true)
  (hw:PySem.Within mA ns) (hsz:ns.length <= hJ)
  (h:∀ h',ObjM h' x dx C (λy=>if y=name then some v else mA y)->Heap.SameBut dx s.heap h'->Q () { s with heap:=h',toks:=s.toks+2 }) :
  gT (gW prog w) A (setAttr (.ref x) name v) Q E s:=by
 obtain ⟨od,J,hl⟩:=I.look;refine PySem.W.set_plain X J hs (PySem.W.osa_open (s:={ s with toks:=s.toks+1 }) (r:=none) X J hp ht λb=>?_);obtain ⟨cd,hc,hd'⟩:=PySem.W.any_some hh;have hx:s.heap.get? x=some ⟨.ref C,some dx,.plain,#[]⟩:=I.obj;refine gQ (wpAny_pure (gQ (gQ (wpAny_loadPart hx (gQ (PySem.W.Looks.here (s:={ s with toks:=s.toks+1 }) (PySem.W.looks_clsIn X hc) ?_))))));rw [hd'];refine wpAny_pure (a:=some dx) (gQ (wpAny_pure (gQ ?_)));refine wpAny_nsSet1 (s:={ s with toks:=s.toks+1 }) I.ns λh' hn2 hs2=>?_;obtain ⟨oD,esD,epD,hoD,hdD,hcD⟩:=hn2.count (PySem.Within.cons name v hw);refine gQ (wpAny_lookBehind hoD (by rw [hdD];exact pastItsLine_dict (iV hcD (by rw [iN];lia))) ?_);exact wpAny_pure (h _ ⟨(hs2.2 _ (Ne.symm I.ne)).trans I.obj,hn2,I.ne⟩ hs2)
theorem make_map {R:Result->fW->Prop} {vs:List fV} {kw:List (fZ × fV)} (X:K.In s.heap) (hm:PySem.W.makesIn K C=true)
  (hi:iR K (.ref C) "__init__" = some (some (.ref f))) (hf:PySem.W.typeIn K (.ref f)=some (.type "function"))
  (h:codeAny (gW prog w) (A.under (.builtin "type.__call__" ⟨.ref C :: vs,kw⟩)) (.call (.ref f) ⟨.ref (s.heap.objs.size+1) :: vs,kw⟩) (PySem.W.InitBack (s.heap.objs.size+1) R)
   { s with heap:=(s.heap.push j0).push (jF C s.heap.objs.size) }) :
  codeAny (gW prog w) A (.call (.ref C) ⟨vs,kw⟩) R s:=by
 obtain ⟨hh,g,d,t,os⟩:=s;exact PySem.W.make_core (PySem.W.makes_of X hm) (PySem.W.looks_findIn X hi) (λself=>PySem.W.bind_fn X self hf) (.inl Z) h
end
def JY (f:fZ) (v:V):List (fZ × V)->List (fZ × V)
 | []=>[(f,v)]
 | (g,x) :: r=>if g=f then (g,v) :: r else (g,x) :: JY f v r
theorem N7 (f g:fZ) (v:V):∀ fs:List (fZ × V),(JY f v fs).lookup g=if g=f then some v else fs.lookup g
 | []=>by
  show jW g [(f,v)]=_;by_cases h:g=f
  ·have hb:(g == f)=true:=beq_iff_eq.mpr h;simp only [jW,hb,if_pos h]
  ·have hb:(g == f)=false:=beq_eq_false_iff_ne.mpr h;simp only [jW,hb,if_neg h]
 | (k,x) :: r=>by
  have ih:=N7 f g v r;rw [show JY f v ((k,x) :: r)=(if k=f then (k,v) :: r else (k,x) :: JY f v r) from rfl];by_cases hk:k=f
  ·rw [if_pos hk];by_cases h:g=k
   ·have hb:(g == k)=true:=beq_iff_eq.mpr h;simp only [jW,hb,if_pos (h.trans hk)]
   ·have hb:(g == k)=false:=beq_eq_false_iff_ne.mpr h;simp only [jW,hb,if_neg (λe:g=f=>h (e.trans hk.symm))]
  ·rw [if_neg hk];by_cases h:g=k
   ·have hb:(g == k)=true:=beq_iff_eq.mpr h;simp only [jW,hb,if_neg (λe:g=f=>hk (h.symm.trans e))]
   ·have hb:(g == k)=false:=beq_eq_false_iff_ne.mpr h;simp only [jW,hb];exact ih
theorem MB (f:fZ) (v:V):∀ fs:List (fZ × V),f ∈ (JY f v fs).map (·.1)/\∀ g,g ∈ fs.map (·.1)->g ∈ (JY f v fs).map (·.1)
  | []=>⟨by simp [JY],λg h=>by simp at h⟩
  | (k,x) :: r=>by
    obtain ⟨i1,i2⟩:=MB f v r;rw [show JY f v ((k,x) :: r)=(if k=f then (k,v) :: r else (k,x) :: JY f v r) from rfl];by_cases hk:k=f
    · rw [if_pos hk]
      subst hk;exact ⟨by simp,λg h=>by simpa using h⟩
    · rw [if_neg hk]
      refine ⟨?_,λg h=>?_⟩
      · rw [jX]
        exact gD _ i1
      · rw [jX] at h ⊢
        rcases gR.mp h with e | e
        · exact gR.mpr (.inl e)
        · exact gD _ (i2 g e)
theorem NI (f:fZ) (v:V):∀ fs:List (fZ × V),(JY f v fs).length <= fs.length+1
 | []=>by simp [JY]
 | (k,x) :: r=>by
  have ih:=NI f v r;rw [show JY f v ((k,x) :: r)=(if k=f then (k,v) :: r else (k,x) :: JY f v r) from rfl];by_cases hk:k=f
  ·rw [if_pos hk,iN,iN];lia
  ·rw [if_neg hk,iN,iN];lia
theorem W6.some_of {v:V} {o:Option fV} (r:W6 (some v) o):∃ u,o=some u/\AW v u:=by
 cases o with
 | none=>exact (show False from r).elim
 | some u=>exact ⟨u,Z,r⟩
theorem W6.none_of {o:Option fV} (r:W6 none o):o=none:=by
 cases o with
 | none=>rfl
 | some u=>exact (show False from r).elim
theorem fG {v:V} {u:fV} (r:AW v u):PySem.W.handedIn u=true:=by
 cases v with
 | non=>cases (show u=Value.none from r);rfl
 | bl b=>cases (show u=Value.bool b from r);rfl
 | int i=>obtain ⟨t,e⟩:=(show ∃ t,u=Value.int i t from r);cases e;rfl
 | str x=>obtain ⟨t,e⟩:=(show ∃ t,u=Value.str x t from r);cases e;rfl
 | byt b=>obtain ⟨t,e⟩:=(show ∃ t,u=Value.bytes b t from r);cases e;rfl
 | flt b=>obtain ⟨t,e⟩:=(show ∃ t,u=Value.float b t from r);cases e;rfl
 | ref a=>cases (show u=Value.ref a from r);rfl
 | ty n=>cases (show u=Value.type n from r);rfl
section
variable {P:gL} {w:gX} {H H':Hp} {h h':iC} {a C dx:fT} {fs fs':List (fZ × V)}
theorem QL (hok:HOk P w H h) (e:H a=some (.ins C dx fs)):∃ mA,ObjM h a dx C mA/\(∀ f,W6 (fs.lookup f) (mA f))/\PySem.Within mA (fs.map (·.1))/\fs.length <= 1000/\H dx=some (.own a):=by
  obtain ⟨d,z,ne,ob,mA,n,r,q⟩:=(show BM P w H h a (.ins C dx fs) from hok a _ e);exact ⟨mA,⟨ob,n,ne⟩,r,q,z,d⟩
end
structure Cls (K:PySem.W.Frag) (C:fT):Prop where
 pg:kS K C Str.empty=true
 hd:lA K C=true
 po:PySem.W.plainOver K C=true
 sa:iR K (.ref C) "__setattr__" = some (some (.builtin "object.__setattr__"))
theorem Cls.get {K:PySem.W.Frag} {C:fT} (c:Cls K C) (f:fZ):kS K C f=true:=c.pg
def LC (K:PySem.W.Frag) (C:fT) (f:fZ):Prop:=iR K (.ref C) f=some none
theorem LC.taker {K:PySem.W.Frag} {C:fT} {f:fZ} (n:LC K C f):PySem.W.takerIn K C f=some none:=by
 unfold PySem.W.takerIn;rw [show iR K (.ref C) f=some none from n];rfl
structure Meth (K:PySem.W.Frag) (C:fT) (m:fZ) (f:fT):Prop where
 at_:iR K (.ref C) m=some (some (.ref f))
 fn:lO K (.ref f)=true
 kp:jT K (.ref f)=true
section
variable {X:Cx} {fS:List (fT × j5)} {σ:St} {H:Hp} {s:fW} {a C dx:fT} {fs:List (fZ × V)} {f:fZ} {v:V} {A:iD} {E:fV->fW->Prop}
theorem Z3 {b:Bool} {Q:fV->fW->Prop} (I:Inv X fS σ H s) (e:H a=some (.ins C dx fs)) (c:Cls X.K C) (n:LC X.K C f) (l:fs.lookup f=some v)
  (h:∀ u s',Inv X fS σ H s'->AW v u->Q u s'):gT (gW X.prog X.w) A (getAttr (.ref a) f b) Q E s:=by
 obtain ⟨mA,O,r,_,_,_⟩:=QL I.hok e;obtain ⟨u,hu,ru⟩:=W6.some_of (v:=v) (o:=mA f) (by rw [<- l];exact r f);exact get_map I.kIn O (c.get f) c.hd n hu (fG ru) (h u _ (I.tok _) ru)
theorem OO {m:fZ} {g:fT} {pl:Sem Bool} {Q:fV × List fV->fW->Prop} (I:Inv X fS σ H s) (e:H a=some (.ins C dx fs)) (c:Cls X.K C) (k:Meth X.K C m g) (l:fs.lookup m=none)
  (h:Q (.ref g,[.ref a]) s):gT (gW X.prog X.w) A (getMethod (.ref a) m pl) Q E s:=by
 obtain ⟨mA,O,r,_,_,_⟩:=QL I.hok e;have hn:mA m=none:=W6.none_of (by rw [<- l];exact r m);exact get_meth I.kIn O (c.get m) k.at_ k.fn hn h
theorem YR {y:V} {u:fV} {Q:Unit->fW->Prop} (I:Inv X fS σ H s) (e:H a=some (.ins C dx fs)) (c:Cls X.K C) (n:LC X.K C f) (hl:fs.length < 1000) (ry:AW y u)
    (h:∀ s',Inv X fS σ (upd H a (.ins C dx (JY f y fs))) s'->Q () s'):gT (gW X.prog X.w) A (setAttr (.ref a) f u) Q E s:=by
  obtain ⟨mA,O,r,wi,_,ho⟩:=QL I.hok e;have hz:(fs.map (·.1)).length <= hJ:=by rw [fU,sizeLine_eq];lia
  refine set_map I.kIn O c.sa c.po n.taker c.hd wi hz λh' O' sb=>h _ ?_;have hd:∃ o,h'.get? dx=some o:=let ⟨o,_,_,e',_⟩:=O'.ns;⟨o,e'⟩
  refine I.write (x:=a) (e:=dx) (by rw [e];exact True.intro) (.inr ho) (λb q hb z=>(sb.2 b hb).trans z) hd ?_;refine ⟨by rw [Zk O.ne];exact ho,?_,O.ne,O'.obj,_,O'.ns,λg=>?_,λg hg=>?_⟩
  · have:=NI f y fs;lia
  · show W6 ((JY f y fs).lookup g) (if g=f then some u else mA g)
    rw [N7];by_cases q:g=f
    · rw [if_pos q,if_pos q];exact ry
    · rw [if_neg q,if_neg q];exact r g
  · by_cases q:g=f
    · rw [q];exact (MB f y fs).1
    · refine (MB f y fs).2 g (wi g λz=>hg ?_)
      show (if g=f then some u else mA g)=none;rw [if_neg q];exact z
theorem Inv.made (I:Inv X fS σ H s):Inv X fS σ (upd (upd H s.heap.objs.size (.own (s.heap.objs.size+1))) (s.heap.objs.size+1) (.ins C s.heap.objs.size []))
  { s with heap:=(s.heap.push j0).push (jF C s.heap.objs.size) }:=by
 have e1:(s.heap.push j0).get? s.heap.objs.size=some j0:=Heap.get?_push_size s.heap Z;have e2:((s.heap.push j0).push (jF C s.heap.objs.size)).get? (s.heap.objs.size+1)=some (jF C s.heap.objs.size):=by
  have:=Heap.get?_push_size (s.heap.push j0) (o:=jF C s.heap.objs.size) Z
  rwa [Heap.size_push] at this
 have e3:(s.heap.push j0).Ns s.heap.objs.size (λ_=>none):=⟨j0,#[],_,e1,Z,(λe he=>absurd he (by simp)),λ_=>rfl⟩;have I1:=I.laid (a:=s.heap.objs.size) (o:=.own (s.heap.objs.size+1)) (h':=s.heap.push j0) (t':=s.toks) (λb u q=>Heap.get?_push_of_some _ q) (gA _) ⟨_,e1⟩;refine I1.laid (a:=s.heap.objs.size+1) (o:=.ins C s.heap.objs.size []) (t':=s.toks) (λb u q=>Heap.get?_push_of_some _ q) (Nat.le_of_eq (Heap.size_push _ _)) ?_;have ne:s.heap.objs.size ≠ s.heap.objs.size+1:=iB (l8 _);refine ⟨by rw [Zk ne,Zb],iG _,ne,e2,λ_=>none,(Heap.Ns1.of_empty e3).at λo q=>Heap.get?_push_of_some _ q,λ_=>True.intro,λy hy=>absurd Z hy⟩
theorem attr_of {prog:gL} {w:gX} {env:Env} {e:i4} {f:fZ} {pos:Pos} {s:fW} {Q:fV->fW->Prop} (hb:attributeBase e f env (eval e env)=eval e env)
  (h:gT (gW prog w) A (eval e env) (λo s₁=>gT (gW prog w) A (getAttr o f true) Q E s₁) E s):gT (gW prog w) A (eval (.Attribute e f pos) env) Q E s:=
 Attribute_any_ h (by rw [arm_eval_Attribute,hb])
end
def tFld (K:PySem.W.Frag) (ta:TE) (f:fZ):TE:=λσ H Q=>ta σ H λx H1=>E5 λa C dx fs v=>x = .ref a/\H1 a=some (.ins C dx fs)/\Cls K C/\LC K C f/\fs.lookup f=some v/\Q v H1
def sFld (K:PySem.W.Frag) (ta tv:TE) (f:fZ):TS:=λD σ H=>tv σ H λy H1=>ta σ H1 λx H2=>E4 λa C dx fs=>x = .ref a/\H2 a=some (.ins C dx fs)/\Cls K C/\LC K C f/\fs.length < 1000 /\
 D.nx σ (upd H2 a (.ins C dx (JY f y fs)))
section
variable {X:Cx} {o e value:i4} {f:fZ} {pos pos' tpos:Pos} {ta tv:TE}
theorem EL (he:PE X e ta) (hb:attributeBase e f X.env (eval e X.env)=eval e X.env):PE X (.Attribute e f pos) (tFld X.K ta f):=by
 intro fS s σ H Q I h;refine attr_of hb (thn (he fS s σ H _ I h) λu s1 ⟨x,H1,I1,rx,a,C,dx,fs,v,ex,ea,c,n,l,q⟩=>?_);subst ex;obtain rfl:u=Value.ref a:=rx;exact Z3 I1 ea c n l λu' s2 I2 ru=>⟨v,H1,I2,ru,q⟩
theorem ps_fld (ha:PE X o ta) (hv:PE X value tv) (hs:swapsWith value (some (.Attribute o f pos')) pos.line X.env=pure false):PS X (.Assign [.Attribute o f pos'] value pos) (sFld X.K ta tv f):=by
 intro fS s σ H D I h;refine plainObj_wpAny_Assign_Attribute (thn (hv fS s σ H _ I h) λu s1 ⟨y,H1,I1,ry,q⟩=>thn (ha fS s1 σ H1 _ I1 q) λov s2 ⟨x,H2,I2,rx,a,C,dx,fs,ex,ea,c,n,l,q2⟩=>?_) hs;subst ex;obtain rfl:ov=Value.ref a:=rx;exact YR I2 ea c n l ry λs3 I3=>⟨σ,_,I3,q2⟩
end
section
variable {X:Cx} {fS:List (fT × j5)} {σ:St} {H:Hp} {s:fW} {A:iD} {E:fV->fW->Prop} {Q:fV->fW->Prop} {c:fV} {b:Bool}
inductive X8 (K:PySem.W.Frag) (H:Hp):V->fV->Prop where
 | non:X8 K H .non (.type "NoneType")
 | bl (x:Bool):X8 K H (.bl x) (.type "bool")
 | int (i:Int):X8 K H (.int i) (.type "int")
 | str (x:fZ):X8 K H (.str x) (.type "str")
 | flt (x:UInt64):X8 K H (.flt x) (.type "float")
 | lst {a:fT} {xs:List V} (e:H a=some (.lst xs)):X8 K H (.ref a) (.type "list")
 | frz {a:fT} {o:j5} {xs:List V} (e:H a=some (.frz o (.lst xs))):X8 K H (.ref a) (.type "list")
 | tup {a:fT} {xs:List V} (e:H a=some (.tup xs)):X8 K H (.ref a) (.type "tuple")
 | dK {a:fT} {kvs:List (Key × V)} (e:H a=some (.dK kvs)):X8 K H (.ref a) (.type "dict")
 | dT {a:fT} {kvs:List (List Key × V)} (e:H a=some (.dT kvs)):X8 K H (.ref a) (.type "dict")
 | ins {a C dx:fT} {fs:List (fZ × V)} (e:H a=some (.ins C dx fs)) (cl:Cls K C) (ha:iR K (.ref C) "__class__" = some (some (.builtin "object.__class__")))
   (hn:PySem.W.specialIn K (.builtin "object.__class__") "__get__" = some (some (.builtin "getset_descriptor.__get__"))) (htk:PySem.W.takesIn K (.builtin "object.__class__")=some true)
   (hm:PySem.W.mroIn K C (.type "object")=some true):X8 K H (.ref a) (.ref C)
theorem TX {x:V} {u t:fV} (I:Inv X fS σ H s) (rx:AW x u) (ty:X8 X.K H x t) (e:i5 X.K t c=some b) (h:∀ tk,Q (.bool b) { s with toks:=tk }) :
  gT (gW X.prog X.w) A (call (.builtin "isinstance") [u,c]) Q E s:=by
 cases ty with
 | non=>cases (show u=Value.none from rx);exact iP PySem.W.kitx_none I.kIn True.intro e (λz=>nomatch z) h
 | bl y=>cases (show u=Value.bool y from rx);exact iP PySem.W.kitx_bool I.kIn True.intro e (λz=>nomatch z) h
 | int i=>obtain ⟨t,q⟩:=(show ∃ t,u=Value.int i t from rx);cases q;exact iP PySem.W.kitx_int I.kIn True.intro e (λz=>nomatch z) h
 | str y=>obtain ⟨t,q⟩:=(show ∃ t,u=Value.str y t from rx);cases q;exact iP PySem.W.kitx_str I.kIn True.intro e (λz=>nomatch z) h
 | flt y=>obtain ⟨t,q⟩:=(show ∃ t,u=Value.float y t from rx);cases q;exact iP PySem.W.kitx_float I.kIn True.intro e (λz=>nomatch z) h
 | @lst a xs ea=>
  cases (show u=Value.ref a from rx);obtain ⟨_,_,n,_,h1⟩:=(show BM X.prog X.w H s.heap a (.lst xs) from I.hok a _ ea);exact iP PySem.W.kitx_list I.kIn ⟨_,h1,Z⟩ e (λz=>nomatch z) h
 | @frz a ob xs ea=>
  cases (show u=Value.ref a from rx);obtain ⟨_,_,_,n,_,h1⟩:=(show BM X.prog X.w H s.heap a (.frz ob (.lst xs)) from I.hok a _ ea);exact iP PySem.W.kitx_list I.kIn ⟨_,h1,Z⟩ e (λz=>nomatch z) h
 | @tup a xs ea=>
  cases (show u=Value.ref a from rx);obtain ⟨_,_,_,p⟩:=(show BM X.prog X.w H s.heap a (.tup xs) from I.hok a _ ea);obtain ⟨o,h1,h2,_⟩:=p;exact iP PySem.W.kitx_tuple I.kIn ⟨o,h1,h2⟩ e (λz=>nomatch z) h
 | @dK a kvs ea=>
  cases (show u=Value.ref a from rx);obtain ⟨_,_,vs,_,p⟩:=(show BM X.prog X.w H s.heap a (.dK kvs) from I.hok a _ ea);obtain ⟨o,es,ep,h1,h2,_⟩:=p;exact iP PySem.W.kitx_dict I.kIn ⟨o,h1,h2.1⟩ e (λz=>nomatch z) h
 | @dT a kvs ea=>
  cases (show u=Value.ref a from rx);obtain ⟨_,_,xs,_,o,es,ep,h1,h2,_⟩:=(show BM X.prog X.w H s.heap a (.dT kvs) from I.hok a _ ea);exact iP PySem.W.kitx_dict I.kIn ⟨o,h1,h2.1⟩ e (λz=>nomatch z) h
 | @ins a C dx fs ea cl ha hn htk hm=>
  cases (show u=Value.ref a from rx);obtain ⟨mA,O,_⟩:=QL I.hok ea;obtain ⟨od,J,_⟩:=O.look;exact iP (PySem.W.kitx_own (cl.get _) cl.hd ha hn htk hm) I.kIn J e (λz=>nomatch z) h
end
structure DC (k:Nat) (A:iD):Prop where
 hd:A.handled=none
 dp:A.depth+3 * k+5 < recursionLimit
 un:A.units+16 * k+200 < cLine
theorem DC.mono {j k:Nat} {A:iD} (r:DC k A) (h:j <= k):DC j A:=⟨r.hd,by have:=r.dp;lia,by have:=r.un;lia⟩
theorem DC.deeper {k:Nat} {A:iD} (r:DC (k+1) A) (env:Env):DC k (A.deeper env):=
 ⟨r.hd,by have:=r.dp;show A.depth+1+3 * k+5 < _;lia,by have:=r.un;show A.units+3+16 * k+200 < _;lia⟩
theorem YW {A:iD} {C:fT} {us:List fV} {kw:List (fZ × fV)}:(A.under (.builtin "type.__call__" ⟨.ref C :: us,kw⟩)).depth=A.depth+1:=by
 first | rfl | simp [Around.under,Code.weight,Code.isCreation,Code.isGuard,Code.isCaller,Code.frames,Code.isFrame,guardIds]
theorem YI {A:iD} {C:fT} {us:List fV} {kw:List (fZ × fV)}:(A.under (.builtin "type.__call__" ⟨.ref C :: us,kw⟩)).units=A.units+1:=by
 first | rfl | simp [Around.under,Code.cUnits,Code.frames,Code.isFrame]
theorem DC.make {k:Nat} {A:iD} (r:DC (k+1) A) (C:fT) (us:List fV) (kw:List (fZ × fV)):DC k (A.under (.builtin "type.__call__" ⟨.ref C :: us,kw⟩)):=
 ⟨r.hd,by have:=r.dp;rw [YW];lia,by have:=r.un;rw [YI];lia⟩
theorem DC.depth {k:Nat} {A:iD} (r:DC k A):A.depth < recursionLimit:=by have:=r.dp;lia
theorem DC.units {k:Nat} {A:iD} (r:DC k A):A.units+64 < cLine:=by have:=r.un;lia
theorem DC.units0 {k:Nat} {A:iD} (r:DC k A):A.units < cLine:=by have:=r.un;lia
def IV:TA:=λ_ H Q=>Q [] H
def Yw (ta:TE) (tr:TA):TA:=λσ H Q=>ta σ H λx H1=>tr σ H1 λxs H2=>Q (x :: xs) H2
section
variable {X:Cx} {e:i4} {es:List i4} {te:TE} {t:TA} {pos:Pos}
theorem Jh:PA X [] IV:=λ_ _ _ _ H Q I h=>Calls.spliced_nil ⟨[],H,I,.nil,h⟩
theorem Zo (ha:PE X e te) (hr:PA X es t) (hs:gB (e :: es) X.env=(false,eval e X.env) :: gB es X.env:=by rfl):PA X (e :: es) (Yw te t):=by
 intro pos fS s σ H Q I h;rw [hs];show gT _ _ (spliced ((false,eval e X.env) :: backTo pos (gB es X.env))) _ _ s;refine Calls.spliced_cons (thn (ha fS s σ H _ I h) λu s1 ⟨x,H1,I1,r1,q1⟩=>?_);exact thn (hr pos fS s1 σ H1 _ I1 q1) λus s2 ⟨xs,H2,I2,r2,q2⟩=>⟨x :: xs,H2,I2,.cons r1 r2,q2⟩
def tTup (t:TA):TE:=λσ H Q=>t σ H λxs H1=>xs.length <= hJ/\∀ p,H1 p=none->Q (.ref p) (upd H1 p (.tup xs))
def ZH (t:TA):TE:=λσ H Q=>t σ H λxs H1=>xs.length <= hJ/\∀ p,H1 p=none->Q (.ref p) (upd H1 p (.lst xs))
theorem Jc {x1} (h:PA X es t):PE X (.Tuple es x1 pos) (tTup t):=by
 intro fS s σ H Q I hq;refine wpAny_Tuple_spliced (thn (h pos fS s σ H _ I hq) λus s1 ⟨xs,H1,I1,r,z,q⟩=>⟨by rw [<- r.length];exact z,?_⟩);have hf:H1 s1.heap.objs.size=none:=I1.hok.fresh (gA _);refine ⟨.ref s1.heap.objs.size,upd H1 s1.heap.objs.size (.tup xs),I1.laid (t':=s1.toks) (λb u e=>Heap.get?_push_of_some _ e) (gA _) ?_,Z,q _ hf⟩;exact ⟨z,us,r,⟨_,Heap.get?_push_size _ Z,Z,_,Z⟩⟩
theorem Zx (h:PA X es t):PE X (.List es pos) (ZH t):=by
 intro fS s σ H Q I hq;refine wpAny_List_spliced (thn (h pos fS s σ H _ I hq) λus s1 ⟨xs,H1,I1,r,z,q⟩=>⟨by rw [<- r.length];exact z,?_⟩);have hf:H1 s1.heap.objs.size=none:=I1.hok.fresh (gA _);refine ⟨.ref s1.heap.objs.size,upd H1 s1.heap.objs.size (.lst xs),I1.laid (t':=s1.toks) (λb u e=>Heap.get?_push_of_some _ e) (gA _) ?_,Z,q _ hf⟩;exact ⟨z,us,0,r,Heap.get?_push_size _ Z⟩
end
abbrev Sp:=List V->Hp->VK->XK->Prop
abbrev CXT:=List Env->Hp->fW->XK->fV->fW->Prop
structure Env0 (P:gL) (w:gX) (K:PySem.W.Frag) (mg:fZ->Option fV) (base:iC) (A:iD) (outer:List Env) (s:fW) (H:Hp):Prop where
 frames:A.frames=some outer
 mod:Mod K mg base
 bs:∀ b o,base.get? b=some o->s.heap.get? b=some o/\H b=none
 bsz:base.objs.size <= s.heap.objs.size
 funs:s.heap.FunFrames base outer
 frf:∀ b ∈ frs outer,H b=none
 hok:HOk P w H s.heap
 bare:AllBare s.gens
def CE (outer:List Env) (P:gL) (w:gX) (H:Hp) (s:fW) (Q:VK) (u:fV) (s':fW):Prop:=
 E2 λv H'=>s'.os=s.os/\AllBare s'.gens/\Un (frs outer) [] H H' s.heap s'.heap/\HOk P w H' s'.heap/\AW v u/\Q v H'
def CR (CX:CXT) (outer:List Env) (P:gL) (w:gX) (H:Hp) (s:fW) (Q:VK) (E:XK) (r:Result) (s':fW):Prop:=
 match r with
 | .ok (.ret u)=>CE outer P w H s Q u s'
 | .ok _=>False
 | .error e=>CX outer H s E e s'
structure Ym (P:gL) (w:gX) (K:PySem.W.Frag) (mg:fZ->Option fV) (base:iC) (CX:CXT) (k:Nat) (f:fT) (fd:iF) (ps:List fZ) (sp:Sp):Prop where
 len:∀ vs H Q E,sp vs H Q E->vs.length=ps.length
 run:∀ (A:iD) (outer:List Env) (s:fW) (H:Hp) (args:Args) (us:List fV) (vs:List V) (Q:VK) (E:XK),DC k A->Env0 P w K mg base A outer s H->BindsTo s fd args (ps.zip us)->AK vs us->sp vs H Q E ->
  codeAny (gW P w) A (.call (.ref f) args) (CR CX outer P w H s Q E) s
theorem Env0.make {P:gL} {w:gX} {K:PySem.W.Frag} {mg:fZ->Option fV} {base:iC} {A:iD} {outer:List Env} {s:fW} {H:Hp} (e:Env0 P w K mg base A outer s H) (C:fT) (us:List fV) (kw:List (fZ × fV)) :
  Env0 P w K mg base (A.under (.builtin "type.__call__" ⟨.ref C :: us,kw⟩)) outer s H:=⟨by first | exact e.frames | (simpa [Around.under,Code.envs,Code.isFrame,pushEnvs] using e.frames),e.mod,e.bs,e.bsz,e.funs,e.frf,e.hok,e.bare⟩
section
variable {X:Cx} {fS:List (fT × j5)} {σ:St} {H:Hp} {s s':fW}
theorem Inv.env0 (I:Inv X fS σ H s):Env0 X.prog X.w X.K X.mg X.base X.A X.stack s H:=
 ⟨I.ok.frames,I.ok.mod,I.bs,iV I.ok.bsz I.sz,I.stack,I.stkFree,I.hok,I.bare⟩
theorem Inv.after {Q:VK} {u:fV} (I:Inv X fS σ H s) (h:CE X.stack X.prog X.w H s Q u s'):EP X fS σ Q u s':=by
 obtain ⟨v,H',os,bare,un,hok,r,q⟩:=h;obtain ⟨hh,g,d,t,os'⟩:=s';obtain rfl:os' = s.os:=os;exact ⟨v,H',I.call (h':=hh) (g':=g) (d':=d) (t':=t) (ch:=[]) un hok bare (λb z=>absurd z (by simp)),r,q⟩
end
def tCall (sp:Sp) (dvs:List V) (E:XK) (t:TA):TE:=λσ H Q=>t σ H λvs H1=>sp (vs ++ dvs) H1 Q E
def eM (C:fT) (m:fZ) (sp:Sp) (dvs:List V) (E:XK) (ta:TE) (t:TA):TE:=λσ H Q=>ta σ H λx H1=>E3 λa dx fs=>x = .ref a/\H1 a=some (.ins C dx fs)/\fs.lookup m=none /\
 t σ H1 λvs H2=>sp (x :: (vs ++ dvs)) H2 Q E
def tMake (C:fT) (sp:Sp) (dvs:List V) (E:XK) (t:TA):TE:=λσ H Q=>t σ H λvs H1=>∀ x dx,H1 x=none->H1 dx=none->dx ≠ x ->
 sp (.ref x :: (vs ++ dvs)) (upd (upd H1 dx (.own x)) x (.ins C dx [])) (λv H2=>v = .non/\Q (.ref x) H2) E
def B9 (K:PySem.W.Frag) (fd:iF) (ps:List fZ) (ds:List fV):Prop:=
 ∀ (s:fW) (us:List fV),K.In s.heap->(us ++ ds).length=ps.length->BindsTo s fd ⟨us,[]⟩ (ps.zip (us ++ ds))
theorem B9.all {K:PySem.W.Frag} {fd:iF} {ps:List fZ} (h:∀ us:List fV,us.length=ps.length->bindArgs fd ⟨us,[]⟩=pure (ps.zip us)):B9 K fd ps []:=λs us _ hl=>by
 rw [jH] at hl ⊢;exact .of_eq (h us hl)
def FS (CX:CXT) (X:Cx) (E:XK):Prop:=∀ (fS:List (fT × j5)) (σ:St) (H:Hp) (s:fW) (e:fV) (s':fW),Inv X fS σ H s->CX X.stack H s E e s'->X.xe e s'
section
variable {X:Cx} {CX:CXT} {k:Nat} {f C:fT} {fd:iF} {ps:List fZ} {sp:Sp} {dvs:List V} {ds:List fV} {E:XK} {x m:fZ} {p pos apos:Pos} {e o:i4} {es:List i4} {ta:TE} {t:TA}
theorem aD {fS:List (fT × j5)} {σ:St} {H:Hp} {s:fW} {Q:VK} {us:List fV} {vs:List V} (F:Ym X.prog X.w X.K X.mg X.base CX k f fd ps sp) (hr:DC k X.A) (hb:B9 X.K fd ps ds) (hd:AK dvs ds) (hx:FS CX X E)
  (I:Inv X fS σ H s) (r:AK vs us) (h:sp (vs ++ dvs) H Q E):gT (gW X.prog X.w) X.A (call (.ref f) us) (EP X fS σ Q) X.xe s:=by
 have r2:AK (vs ++ dvs) (us ++ ds):=r.append hd;have hl:(us ++ ds).length=ps.length:=by rw [<- r2.length];exact F.len _ _ _ _ h
 refine wpAny_call (codeAny_mono (F.run X.A X.stack s H ⟨us,[]⟩ (us ++ ds) (vs ++ dvs) Q E hr I.env0 (hb s us I.kIn hl) r2 h) λr s' hq=>?_);cases r with
 | error e=>exact hx fS σ H s e s' I hq
 | ok fl=>
  cases fl with
  | ret u=>exact I.after hq
  | next=>exact False.elim hq
  | brk=>exact False.elim hq
  | cont=>exact False.elim hq
theorem dU (F:Ym X.prog X.w X.K X.mg X.base CX k f fd ps sp) (hr:DC k X.A) (hg:Gl X x) (hm:X.mg x=some (.ref f)) (hk:jT X.K (.ref f)=true) (hb:B9 X.K fd ps ds) (hd:AK dvs ds) (hx:FS CX X E)
    (ha:PA X (e :: es) t) (hdb:(x == ("__debug__":fZ))=false:=by decide) (he:gB (e :: es) X.env=(false,eval e X.env) :: gB es X.env:=by rfl) (hpl:(backTo pos (gB es X.env)).any (·.1)=false:=by rfl) :
    PE X (.Call (.Name x p) (e :: es) [] pos) (tCall sp dvs E t):=by
  intro fS s σ H Q I h;refine wpAny_Call_Name_kw (K5 I hg hm ?_ hdb);refine kN (h₀:=X.base) I.ok.mod.kin hk (thn (ha pos fS s σ H _ I h) λus s1 ⟨vs,H1,I1,r,q⟩=>⟨I1.kIn,?_⟩) he hpl;exact aD F hr hb hd hx I1 r q
theorem bD {pl:Sem Bool} (he:PE X o ta) (c:Cls X.K C) (hm:Meth X.K C m f) (F:Ym X.prog X.w X.K X.mg X.base CX k f fd ps sp) (hr:DC k X.A) (hb:B9 X.K fd ps ds) (hd:AK dvs ds) (hx:FS CX X E) (ha:PA X (e :: es) t)
    (hst:gB (e :: es) X.env=(false,eval e X.env) :: gB es X.env:=by rfl) (hpl:(backTo pos (gB es X.env)).any (·.1)=false:=by rfl)
    (ht:eval (.Call (.Attribute o m apos) (e :: es) [] pos) X.env=(do
      let ov <- eval o X.env
      standAt apos.atName
      let (f,first) <- holding [ov] (getMethod ov m pl)
      callWith pos f first (backTo pos (gB (e :: es) X.env)) (backToKw pos (keywordEach [] X.env))):=by rfl) :
    PE X (.Call (.Attribute o m apos) (e :: es) [] pos) (eM C m sp dvs E ta t):=by
  intro fS s σ H Q I h;refine PySem.W.methodCall_KW (pl:=pl) (thn (he fS s σ H _ I h) λu s1 ⟨x,H1,I1,rx,a,dx,fs,ex,ea,l,q⟩=>?_) ht;subst ex;obtain rfl:u=Value.ref a:=rx;refine OO I1 ea c hm l ?_;refine kN (first:=[.ref a]) (h₀:=X.base) I.ok.mod.kin hm.kp (thn (ha pos fS s1 σ H1 _ I1 q) λus s2 ⟨vs,H2,I2,r,q2⟩=>⟨I2.kIn,?_⟩) hst hpl;exact aD (us:=.ref a :: us) (vs:=.ref a :: vs) F hr hb hd hx I2 (.cons Z r) q2
theorem pe_meth0 {pl:Sem Bool} (he:PE X o ta) (c:Cls X.K C) (hm:Meth X.K C m f) (F:Ym X.prog X.w X.K X.mg X.base CX k f fd ps sp) (hr:DC k X.A) (hb:B9 X.K fd ps ds) (hd:AK dvs ds) (hx:FS CX X E)
  (ht:eval (.Call (.Attribute o m apos) [] [] pos) X.env=(do
   let ov <- eval o X.env
   standAt apos.atName
   let (f,first) <- holding [ov] (getMethod ov m pl)
   callWith pos f first (backTo pos (gB [] X.env)) (backToKw pos (keywordEach [] X.env))):=by rfl) :
  PE X (.Call (.Attribute o m apos) [] [] pos) (eM C m sp dvs E ta IV):=by
 intro fS s σ H Q I h;refine PySem.W.methodCall_KW (pl:=pl) (thn (he fS s σ H _ I h) λu s1 ⟨x,H1,I1,rx,a,dx,fs,ex,ea,l,q⟩=>?_) ht;subst ex;obtain rfl:u=Value.ref a:=rx;refine OO I1 ea c hm l ?_;exact PySem.W.callWith_K0 (first:=[.ref a]) I1.kIn hm.kp (aD (us:=[.ref a]) (vs:=[.ref a]) F hr hb hd hx I1 (.cons Z .nil) q)
structure Mk (K:PySem.W.Frag) (C f:fT):Prop where
 makes:PySem.W.makesIn K C=true
 init:iR K (.ref C) "__init__" = some (some (.ref f))
 fn:lO K (.ref f)=true
 kp:jT K (.ref C)=true
theorem run_make {fS:List (fT × j5)} {σ:St} {H:Hp} {s:fW} {Q:VK} {us:List fV} {vs:List V} (M:Mk X.K C f) (F:Ym X.prog X.w X.K X.mg X.base CX k f fd ps sp) (hr:DC (k+1) X.A) (hb:B9 X.K fd ps ds) (hd:AK dvs ds)
  (hx:FS CX X E) (I:Inv X fS σ H s) (r:AK vs us)
  (h:∀ x dx,H x=none->H dx=none->dx ≠ x->sp (.ref x :: (vs ++ dvs)) (upd (upd H dx (.own x)) x (.ins C dx [])) (λv H2=>v = .non/\Q (.ref x) H2) E) :
  gT (gW X.prog X.w) X.A (call (.ref C) us) (EP X fS σ Q) X.xe s:=by
 have hq:=h (s.heap.objs.size+1) s.heap.objs.size (I.hok.fresh (Nat.le_succ _)) (I.hok.fresh (gA _)) (iB (l8 _));have I2:=Inv.made (C:=C) I;have r2:AK (V.ref (s.heap.objs.size+1) :: (vs ++ dvs)) (Value.ref (s.heap.objs.size+1) :: (us ++ ds)):=.cons Z (r.append hd);have hl:(Value.ref (s.heap.objs.size+1) :: us ++ ds).length=ps.length:=by
  have e:=r2.length;rw [F.len _ _ _ _ hq] at e;exact e.symm
 refine wpAny_call (make_map (f:=f) I.kIn M.makes M.init (beq_iff_eq.mp M.fn) (codeAny_mono (F.run _ X.stack _ _ ⟨Value.ref (s.heap.objs.size+1) :: us,[]⟩ (Value.ref (s.heap.objs.size+1) :: (us ++ ds)) _ _ E (hr.make C us []) (I2.env0.make C us []) (hb _ (Value.ref (s.heap.objs.size+1) :: us) I2.kIn hl) r2 hq) λr s' hq'=>?_));cases r with
 | error e=>exact hx fS σ _ _ e s' I2 hq'
 | ok fl=>
  cases fl with
  | ret u=>
   obtain ⟨v,H',I3,rv,ev,q3⟩:=I2.after hq';subst ev;exact ⟨rv,⟨V.ref (s.heap.objs.size+1),H',I3,Z,q3⟩⟩
  | next=>exact False.elim hq'
  | brk=>exact False.elim hq'
  | cont=>exact False.elim hq'
theorem pe_make (M:Mk X.K C f) (F:Ym X.prog X.w X.K X.mg X.base CX k f fd ps sp) (hr:DC (k+1) X.A) (hg:Gl X x) (hm:X.mg x=some (.ref C)) (hb:B9 X.K fd ps ds) (hd:AK dvs ds) (hx:FS CX X E)
    (ha:PA X (e :: es) t) (hdb:(x == ("__debug__":fZ))=false:=by decide) (he:gB (e :: es) X.env=(false,eval e X.env) :: gB es X.env:=by rfl) (hpl:(backTo pos (gB es X.env)).any (·.1)=false:=by rfl) :
    PE X (.Call (.Name x p) (e :: es) [] pos) (tMake C sp dvs E t):=by
  intro fS s σ H Q I h;refine wpAny_Call_Name_kw (K5 I hg hm ?_ hdb);refine kN (h₀:=X.base) I.ok.mod.kin M.kp (thn (ha pos fS s σ H _ I h) λus s1 ⟨vs,H1,I1,r,q⟩=>⟨I1.kIn,?_⟩) he hpl;exact run_make M F hr hb hd hx I1 r q
end
structure Zj (N P:List fZ) (sc:Scope):Prop where
 kind:sc.kind = .function
 co:sc.isCoroutine=false
 gen:sc.isGenerator=false
 nd:N.Nodup
 pre:N.take P.length=P
 par:∀ x ∈ P,sc.names.lookup x=some .local\/sc.names.lookup x=some .cell
 nofree:∀ y ∈ sc.names,y.2 ≠ .free
theorem UD {kindOf:fZ->Option iO} {x:fZ}:∀ {binds:List (fZ × fV)} {m:fZ->Option fV},(∀ v,(x,v) ∉ binds)->bindL kindOf binds m x=m x
 | [],_,_=>rfl
 | (n,v) :: r,m,h=>by
  unfold bindL;rw [UD λw hw=>h w (gD _ hw)];split
  ·have:x ≠ n:=by rintro rfl;exact h v gU
   simp [this]
  ·rfl
theorem S6 {kindOf:fZ->Option iO} {x:fZ}:∀ {binds:List (fZ × fV)} {m:fZ->Option fV},(∀ v,(x,v) ∉ binds)->bindC kindOf binds m x=m x
 | [],_,_=>rfl
 | (n,v) :: r,m,h=>by
  unfold bindC;rw [S6 λw hw=>h w (gD _ hw)];split
  ·rfl
  ·have:x ≠ n:=by rintro rfl;exact h v gU
   simp [this]
theorem SM {kindOf:fZ->Option iO} {x:fZ} {v:fV}:∀ {P:List fZ} {vs:List fV} {i:Nat} {m:fZ->Option fV},P.Nodup->P[i]? = some x->vs[i]? = some v->kindOf x=some .local ->
  bindL kindOf (P.zip vs) m x=some v
 | [],_,_,_,_,h,_,_=>by simp at h
 | _ :: _,[],_,_,_,_,h,_=>by simp at h
 | p :: P,w :: vs,0,m,nd,h1,h2,hk=>by
  simp at h1 h2;subst h1;subst h2;show bindL kindOf ((p,w) :: P.zip vs) m p=_;unfold bindL;rw [UD λv hv=>(kO.mp nd).1 (lE hv).1,if_pos hk];simp
 | p :: P,w :: vs,i+1,m,nd,h1,h2,hk=>by
  show bindL kindOf ((p,w) :: P.zip vs) m x=_;unfold bindL;exact SM (i:=i) (kO.mp nd).2 (by simpa using h1) (by simpa using h2) hk
theorem RN {kindOf:fZ->Option iO} {x:fZ} {v:fV}:∀ {P:List fZ} {vs:List fV} {i:Nat} {m:fZ->Option fV},P.Nodup->P[i]? = some x->vs[i]? = some v->kindOf x ≠ some .local ->
  bindC kindOf (P.zip vs) m x=some v
 | [],_,_,_,_,h,_,_=>by simp at h
 | _ :: _,[],_,_,_,_,h,_=>by simp at h
 | p :: P,w :: vs,0,m,nd,h1,h2,hk=>by
  simp at h1 h2;subst h1;subst h2;show bindC kindOf ((p,w) :: P.zip vs) m p=_;unfold bindC;rw [S6 λv hv=>(kO.mp nd).1 (lE hv).1,if_neg hk];simp
 | p :: P,w :: vs,i+1,m,nd,h1,h2,hk=>by
  show bindC kindOf ((p,w) :: P.zip vs) m x=_;unfold bindC;exact RN (i:=i) (kO.mp nd).2 (by simpa using h1) (by simpa using h2) hk
def GW (N:List fZ) (vs:List V):St:=vs.map some ++ hV (N.length - vs.length) none
def LY (CX:CXT) (P:gL) (w:gX) (K:PySem.W.Frag) (mg:fZ->Option fV) (base:iC) (N:List fZ) (qual:fZ) (scope:Scope) (f:fT) (cd:fV) (A:iD) (outer:List Env) (s:fW) (H:Hp) (E:XK):Cx where
 prog:=P
 w:=w
 K:=K
 mg:=mg
 base:=base
 A:=A.deeper (envOfC qual scope s.heap.objs.size f cd)
 N:=N
 s₀:=s
 H₀:=H
 env:=envOfC qual scope s.heap.objs.size f cd
 outer:=outer
 stack:=envOfC qual scope s.heap.objs.size f cd :: outer
 ex:=[]
 calm:=true
 fn:=λ_=>true
 pn:=[]
 xe:=λe s'=>gT (gW P w) (A.deeper (envOfC qual scope s.heap.objs.size f cd)) (leaving (envOfC qual scope s.heap.objs.size f cd) e) (λ_ s''=>CX outer H s E e s'') (λe' s''=>CX outer H s E e' s'') s'
theorem WB {sc:Scope} {n:Nat} {x:fZ} (h:sc.names.lookup x=some .cell):∃ c,(gZ n sc.names []).lookup x=some c:=by
 have q:=j7 sc.names n [] (.inl h);exact jP.mp q
theorem RS {CX:CXT} {P:gL} {w:gX} {K:PySem.W.Frag} {mg:fZ->Option fV} {base:iC} {N ps:List fZ} {qual:fZ} {scope:Scope} {f:fT} {cd:fV} {A:iD} {outer:List Env} {s s1:fW} {H:Hp} {E:XK} {us:List fV} {vs:List V}
  (S:Zj N ps scope) (hd:A.handled=none) (e0:Env0 P w K mg base A outer s H) (hl:vs.length=ps.length) (r:AK vs us)
  (x:InCallC s s.heap.objs.size (bindL (envOfC qual scope s.heap.objs.size f cd).kindOf (ps.zip us) λ_=>none) (gZ (s.heap.objs.size+1) scope.names []) (bindC (envOfC qual scope s.heap.objs.size f cd).kindOf (ps.zip us) λ_=>none) s1) :
  Inv (LY CX P w K mg base N qual scope f cd A outer s H E) [] (GW N vs) H s1:=by
 have hpl:ps.length <= N.length:=by have:=congrArg List.length S.pre;rw [iH] at this;lia
 obtain ⟨h1,tk,rfl,hk⟩:=x.done;have noA:∀ b:fT,b ∉ (LY CX P w K mg base N qual scope f cd A outer s H E).ex:=λb z=>absurd (show b ∈ ([]:List fT) from z) (by simp)
 refine ⟨⟨e0.mod,S.kind,Z,Z,gA _,λy z c h1 h2=>?_,λy hy=>?_,λy c _ h=>?_,λ_=>hd,Around.frames_deeper e0.frames,.inr ⟨Z,Z⟩,λb z=>absurd z (noA b),e0.bs,e0.bsz,λb _ _=>noA b,λb z=>absurd z (noA b),e0.funs,e0.frf⟩, rfl,e0.bare,Un.kept hk,⟨_,x.toInCall.ns,λi y v h1 h2 h3=>?_⟩,λy c h=>⟨_,x.cell y c h⟩,e0.hok.fresh (gA _),λy c h=>?_,λp hp=>absurd (show p ∈ ([]:List (fT × j5)) from hp) (by simp),e0.hok.kept hk,?_⟩
 ·exact name_of_addr x.apart (PySem.mem_of_lookup h1) (PySem.mem_of_lookup h2)
 ·have hy:scope.names.lookup y=some .cell\/scope.names.lookup y=some .free:=hy;rcases hy with hy | hy
  ·exact WB hy
  ·exact absurd Z (S.nofree _ (PySem.mem_of_lookup hy))
 ·exact l6 (x.above y c (PySem.mem_of_lookup h))
 ·have hi:i < vs.length:=by
   unfold GW at h2;by_cases hi:i < vs.length
   ·exact hi
   ·rw [gV (by simpa using hi)] at h2;rw [List.getElem?_replicate] at h2;split at h2 <;> cases h2
  have ha:vs[i]? = some v:=by
   unfold GW at h2;rw [gY (by simpa using hi),gE] at h2;cases e:vs[i]? with
   | none=>rw [e] at h2;cases h2
   | some a=>rw [e] at h2;cases h2;rfl
  obtain ⟨u,hu,rv⟩:=r.get ha;have hp:ps[i]? = some y:=by
   rw [<- S.pre,jQ (by lia)];exact h1
  have ndP:ps.Nodup:=by rw [<- S.pre];exact S.nd.sublist (List.take_sublist _ _)
  refine ⟨u,rv,?_⟩;rcases S.par y (i7 hp) with k | k
  ·exact .inl ⟨k,SM ndP hp hu k⟩
  ·obtain ⟨c,e⟩:=WB (n:=s.heap.objs.size+1) k;refine .inr ⟨.inl k,c,e,?_⟩;have q:=x.cell y c e;rw [RN ndP hp hu (by show scope.names.lookup y ≠ _;rw [k];decide)] at q;exact q
 ·exact e0.hok.fresh (l6 (x.above y c (PySem.mem_of_lookup h)))
 ·unfold GW;show _=N.length;rw [i6,fU,List.length_replicate]
  lia
theorem fn_of {CX:CXT} {P:gL} {w:gX} {K:PySem.W.Frag} {mg:fZ->Option fV} {base:iC} {k:Nat} {f:fT} {name qual:fZ} {params:Arguments} {body:List hZ} {scope:Scope} {dV kV doc pm cdv ct oc:fV} {an od:Option fT}
  {osl:Array (Option fV)} {N ps:List fZ} {sp:Sp} (lk:K.lookup f=some ⟨oc,od,.func (j9 name qual params body scope dV kV doc pm an cdv ct),osl⟩) (hcd:kP K cdv qual=true) (S:Zj N ps scope)
  (len:∀ vs H Q E,sp vs H Q E->vs.length=ps.length)
  (hbody:∀ (A:iD) (outer:List Env) (s:fW) (H:Hp) (vs:List V) (Q:VK) (E:XK),DC k (A.deeper (envOfC qual scope s.heap.objs.size f cdv))->sp vs H Q E ->
   ∃ t,PSs (LY CX P w K mg base N qual scope f cdv A outer s H E) body t/\t { nx:=λ_ H'=>Q .non H',rt:=Q } (GW N vs) H) :
  Ym P w K mg base CX (k+1) f (j9 name qual params body scope dV kV doc pm an cdv ct) ps sp:=by
 refine ⟨len,λA outer s H args us vs Q E hr e0 hb r hsp=>?_⟩;have hl:=len _ _ _ _ hsp;have KX:K.In s.heap:=e0.mod.kin.keeps λb o e=>(e0.bs b o e).1;have lim:s.heap.NoLimit:=e0.mod.nolimit.keeps λb o e=>(e0.bs b o e).1;have hkind:∀ y ∈ ps.zip us,scope.names.lookup y.1=some .local\/(scope.names.lookup y.1=some .cell/\((gZ (s.heap.objs.size+1) scope.names []).lookup y.1).isSome=true):=λ⟨n,v⟩ hy=>by
  rcases S.par n (lE hy).1 with q | q
  ·exact .inl q
  ·exact .inr ⟨q,j7 _ _ _ (.inl q)⟩
 refine codeAny_call_function hr.depth (KX _ _ lk) Z S.co S.gen Z (PySem.W.codeRec_of KX hcd) (hb _ _ _ _ ?_);refine wpAny_newFunctionEnv_cells S.kind hkind λenv he s1 x=>?_;subst he;refine ⟨lim.keeps x.toInCall.keep,codeAny_func ?_⟩;obtain ⟨t,ht,hq⟩:=hbody A outer s H vs Q E (hr.deeper _) hsp;have I:Inv (LY CX P w K mg base N qual scope f cdv A outer s H E) [] (GW N vs) H s1:=RS S hr.hd e0 hl r x;refine wpAny_mono (ht [] s1 (GW N vs) H _ I hq) (λfl s' hs=>?_) λe s' hs=>hs
 have fin:∀ {σ':St} {H':Hp} {v:V} {u:fV},Inv (LY CX P w K mg base N qual scope f cdv A outer s H E) [] σ' H' s'->AW v u->Q v H'->CE outer P w H s Q u s':= λ{σ' H' v u} J rv q=>⟨v,H',J.os,J.bare,J.base,J.hok,rv,q⟩;cases fl with
 | ret u=>
  obtain ⟨v,σ',H',J,rv,q⟩:=hs;exact fin J rv q
 | next=>
  obtain ⟨σ',H',J,q⟩:=hs;exact fin (v:=V.non) (u:=Value.none) J Z q
 | brk=>
  obtain ⟨_,_,_,q⟩:=hs;exact False.elim q
 | cont=>
  obtain ⟨_,_,_,q⟩:=hs;exact False.elim q
section
variable {X:Cx} {x:fZ} {p pos:Pos} {e:i4} {es:List i4} {t:TA} {id T:String} {r:List V->Hp->VK->Prop}
def tCB (r:List V->Hp->VK->Prop) (t:TA):TE:=λσ H Q=>t σ H λvs H1=>r vs H1 Q
theorem DU (hc:KJ X (.builtin id) r) (hg:Gl X x) (hm:X.mg x=none) (hv:bootBuiltins x=some (.builtin id)) (ha:PA X (e :: es) t) (hn:x ≠ "__name__":=by decide) (hdb:(x == ("__debug__":fZ))=false:=by decide)
    (he:gB (e :: es) X.env=(false,eval e X.env) :: gB es X.env:=by rfl) (hpl:(backTo pos (gB es X.env)).any (·.1)=false:=by rfl):PE X (.Call (.Name x p) (e :: es) [] pos) (tCB r t):=by
  intro fS s σ H Q I h;refine wpAny_Call_Name_kw (HH I hg hm hv ?_ hn hdb);exact PyProof.Rows.callWith_builtin1 (thn (ha pos fS s σ H _ I h) λus s1 ⟨vs,H1,I1,r1,q1⟩=>hc fS s1 σ H1 vs us Q I1 r1 q1) he hpl
theorem AR (hc:KJ X (.type T) r) (hg:Gl X x) (hm:X.mg x=none) (hv:bootBuiltins x=some (.type T)) (ha:PA X (e :: es) t) (hn:x ≠ "__name__":=by decide) (hdb:(x == ("__debug__":fZ))=false:=by decide)
    (he:gB (e :: es) X.env=(false,eval e X.env) :: gB es X.env:=by rfl) (hpl:(backTo pos (gB es X.env)).any (·.1)=false:=by rfl):PE X (.Call (.Name x p) (e :: es) [] pos) (tCB r t):=by
  intro fS s σ H Q I h;refine wpAny_Call_Name_kw (HH I hg hm hv ?_ hn hdb);exact PyProof.Rows.callWith_type1 (thn (ha pos fS s σ H _ I h) λus s1 ⟨vs,H1,I1,r1,q1⟩=>hc fS s1 σ H1 vs us Q I1 r1 q1) he hpl
end
end L2
namespace HT
open PySem PyProof.Rows
section
variable {prog:gL} {w:gX} {A:iD} {E:fV->fW->Prop} {s:fW}
def sIx (n d:Nat):Option Int->Nat
 | none=>d
 | some v=>if v < 0 then (v+(n:Int)).toNat else min v.toNat n
end
end HT
namespace L2
open PySem PySem.Spec PyProof.Rows
abbrev TO:=St->Hp->(Option Int->Hp->Prop)->Prop
def PO (X:Cx) (e:Option i4) (t:TO):Prop:=
 ∀ (fS:List (fT × j5)) (s:fW) (σ:St) (H:Hp) (Q:Option Int->Hp->Prop),Inv X fS σ H s->t σ H Q ->
  gT (gW X.prog X.w) X.A (evalPart e X.env) (λu s'=>E2 λo H'=>Inv X fS σ H' s'/\IsPart u o/\Q o H') X.xe s
def tNoPart:TO:=λ_ H Q=>Q none H
def tPart (t:TE):TO:=λσ H Q=>t σ H λx H1=>∃ i,x = .int i/\Q (some i) H1
theorem OB {ns:List Int}:∀ {us:List fV},AK (ns.map V.int) us->IntsAre us ns:=by
 induction ns with
 | nil=>intro us r;rw [List.map_nil] at r;cases r;exact .nil
 | cons n ns ih=>
  intro us r;rw [jX] at r;cases r with
  | cons r1 r2=>
   obtain ⟨t,e⟩:=r1;subst e;exact .cons n t (ih r2)
section
variable {X:Cx} {e:i4} {te:TE} {lo hi:Option i4} {tl th:TO} {pos p2:Pos}
theorem BY:PO X none tNoPart:=by
 intro fS s σ H Q I h;rw [evalPart_none];exact wpAny_pure ⟨none,H,I,.none,h⟩
theorem B7 (h:PE X e te):PO X (some e) (tPart te):=by
 intro fS s σ H Q I hw;rw [evalPart_some];refine thn (h fS s σ H _ I hw) λu s1 ⟨x,H1,I1,r1,q1⟩=>?_;obtain ⟨i,rfl,q⟩:=q1;obtain ⟨t,rfl⟩:=r1;exact ⟨some i,H1,I1,.int i t,q⟩
def SlR (X:Cx) (r:V->Option Int->Option Int->Hp->VK->Prop):Prop:=
 ∀ (fS:List (fT × j5)) (s:fW) (σ:St) (H:Hp) (x:V) (v vl vu:fV) (lo hi:Option Int) (sl:fT) (Q:VK),Inv X fS σ H s->AW x v->s.heap.IsSliceOf sl vl vu .none->IsPart vl lo->IsPart vu hi->r x lo hi H Q ->
  E2 λT id=>typeLookup (.type T) "__getitem__" = pure (some (.builtin id))/\s.TypeIs v T/\gT (gW X.prog X.w) X.A (getItem v (.ref sl)) (EP X fS σ Q) X.xe s
def tSl (r:V->Option Int->Option Int->Hp->VK->Prop) (te:TE) (tl th:TO):TE:=λσ H Q=>te σ H λx H1=>tl σ H1 λl H2=>th σ H2 λu H3=>r x l u H3 Q
theorem Jz {r:V->Option Int->Option Int->Hp->VK->Prop} (hr:SlR X r) (he:PE X e te) (hl:PO X lo tl) (hu:PO X hi th):PE X (.Subscript e (.Slice lo hi none p2) pos) (tSl r te tl th):=by
 intro fS s σ H Q I h;refine Subscript_ (thn (he fS s σ H _ I h) λv s1 ⟨x,H1,I1,r1,q1⟩=>?_);refine wpAny_Slice (thn (hl fS s1 σ H1 _ I1 q1) λvl s2 ⟨l,H2,I2,pl,q2⟩=>thn (hu fS s2 σ H2 _ I2 q2) λvu s3 ⟨u,H3,I3,pu,q3⟩=>?_);rw [evalPart_none];refine wpAny_pure ?_;have I4:Inv X fS σ H3 { s3 with heap:=s3.heap.push { cls:=.type "slice",data:=.fields #[vl,vu,.none] } }:=I3.kept (t':=s3.toks) λb ob q=>Heap.get?_push_of_some _ q;obtain ⟨T,id,hT,ht,hg⟩:=hr fS { s3 with heap:=s3.heap.push { cls:=.type "slice",data:=.fields #[vl,vu,.none] } } σ H3 x v vl vu l u s3.heap.objs.size Q I4 r1 (Heap.IsSliceOf.new ..) pl pu q3;show gT (gW X.prog X.w) X.A (subscriptTail e (.Slice lo hi none p2) v (.ref s3.heap.objs.size)) (EP X fS σ Q) X.xe { s3 with heap:=s3.heap.push { cls:=.type "slice",data:=.fields #[vl,vu,.none] } };exact tail_any (ops:=[.ref s3.heap.objs.size,v]) ht hT hg (by with_unfolding_all rfl)
def DD (xs:List V) (lo hi:Option Int):List V:=(xs.drop (HT.sIx xs.length 0 lo)).take (HT.sIx xs.length xs.length hi - HT.sIx xs.length 0 lo)
theorem W5 (xs:List V) (lo hi:Option Int):(DD xs lo hi).length <= xs.length:=by
 unfold DD;rw [iH,k8]
 lia
end
def ixN (n:Nat) (i:Int):Option Nat:=if 0 <= i then (if i < n then some i.toNat else none) else if -(n:Int) <= i then some (i+n).toNat else none
def atI {α:Type} (xs:List α) (i:Int):Option α:=(ixN xs.length i).bind λj=>xs[j]?
theorem dI {n:Nat} {i:Int} {j:Nat} (h:ixN n i=some j):seqIndex? i n=some j/\j < n/\-(n:Int) <= i/\i < n:=by
 unfold ixN at h;by_cases h0:0 <= i
 ·rw [if_pos h0] at h;by_cases h1:i < n
  ·rw [if_pos h1] at h;have e:i.toNat=j:=Option.some.inj h;exact ⟨by rw [seqIndex_of h0 h1,e],by lia,by lia,h1⟩
  ·rw [if_neg h1] at h;cases h
 ·rw [if_neg h0] at h;by_cases h1:-(n:Int) <= i
  ·rw [if_pos h1] at h;have e:(i+n).toNat=j:=Option.some.inj h;exact ⟨by rw [seqIndex_neg (by lia) h1,e],by lia,h1,by lia⟩
  ·rw [if_neg h1] at h;cases h
theorem VM {α:Type} {xs:List α} {i:Int} {v:α} (h:atI xs i=some v):∃ j,seqIndex? i xs.length=some j/\xs[j]? = some v/\j < xs.length/\-(xs.length:Int) <= i/\i < xs.length:=by
 unfold atI at h;cases e:ixN xs.length i with
 | none=>rw [e] at h;cases h
 | some j=>
  rw [e] at h;obtain ⟨h1,h2,h3,h4⟩:=dI e;exact ⟨j,h1,h,h2,h3,h4⟩
theorem AT {α:Type} {xs:List α} {j:Nat} {v:α} (h:xs[j]? = some v):atI xs (j:Int)=some v:=by
 have hj:j < xs.length:=(gK.mp h).1;have e:ixN xs.length (j:Int)=some j:=by
  unfold ixN;rw [if_pos (by lia),if_pos (by lia)];simp
 unfold atI;rw [e];exact h
def V5 (b:i4):Prop:=∀ o i,subscripted b false o i=operate [o,i] (getItem o i)
def IxR (X:Cx) (r:R2):Prop:=
 ∀ (value slice:i4) (fS:List (fT × j5)) (s:fW) (σ:St) (H:Hp) (x y:V) (v u:fV) (Q:VK),Inv X fS σ H s->AW x v->AW y u->r x y H Q ->
  subscripted slice false v u=operate [v,u] (getItem v u)->gT (gW X.prog X.w) X.A (subscriptTail value slice v u) (EP X fS σ Q) X.xe s
def MtR (X:Cx) (id:String) (r:V->List V->Hp->VK->Prop):Prop:=
 ∀ (fS:List (fT × j5)) (s:fW) (σ:St) (H:Hp) (x:V) (xs:List V) (v:fV) (us:List fV) (Q:VK),Inv X fS σ H s->AW x v->AK xs us->r x xs H Q ->
  gT (gW X.prog X.w) X.A (call (.builtin id) (v :: us)) (EP X fS σ Q) X.xe s
section
variable {X:Cx} {a b:i4} {ta tb:TE} {pos:Pos}
theorem IxR.or {r r':R2} (h:IxR X r) (h':IxR X r'):IxR X (λx y H Q=>r x y H Q\/r' x y H Q):=by
 intro value slice fS s σ H x y v u Q I rx ry q hs;rcases q with q | q
 ·exact h value slice fS s σ H x y v u Q I rx ry q hs
 ·exact h' value slice fS s σ H x y v u Q I rx ry q hs
theorem KL {r:R2} (hr:IxR X r) (ha:PE X a ta) (hb:PE X b tb) (hs:V5 b):PE X (.Subscript a b pos) (tOp r ta tb):=by
 intro fS s σ H Q I h;exact Subscript_ (binT ha hb I h λv u s2 x y H2 I2 rx ry q=>hr a b fS s2 σ H2 x y v u Q I2 rx ry q (hs _ _))
def rIxL (K:PySem.W.Frag):R2:=λx y H Q=>E4 λp xs i v=>x = .ref p/\y = .int i/\SqL K H p xs/\atI xs i=some v/\Q v H
def rIxT (K:PySem.W.Frag):R2:=λx y H Q=>E4 λp xs i v=>x = .ref p/\y = .int i/\SqT K H p xs/\atI xs i=some v/\Q v H
def rIxS:R2:=λx y H Q=>E3 λz i c=>x = .str z/\y = .int i/\z.length <= hJ/\atI z.cps.toList i=some c/\Q (.str ⟨#[c]⟩) H
theorem VU:IxR X (rIxL X.K):=by
 intro value slice fS s σ H x y v u Q I rx ry h hs;obtain ⟨p,xs,i,z,rfl,rfl,hq,he,q⟩:=h;cases rx;obtain ⟨t,rfl⟩:=ry;obtain ⟨its,r,pl,hz⟩:=I.list hq;obtain ⟨j,h1,h2,h3,h4,h5⟩:=VM he;obtain ⟨w,ew,rw'⟩:=r.get h2;have hl:=r.length;have hn:=RE;have fin:EP X fS σ Q w s:=⟨z,H,I,rw',q⟩;by_cases h0:0 <= i
 ·have hj:i.toNat=j:=by
   rw [seqIndex_of h0 h5] at h1;exact Option.some.inj h1
  exact item_listR pl.isList h0 (by lia) (by rw [hj];simpa using ew) fin hs
 ·have hj:(i+(its.toArray.size:Int)).toNat=j:=by
   rw [seqIndex_neg (by lia) h4] at h1;rw [gG,<- hl];exact Option.some.inj h1
  exact subscriptTail_builtinR (x:=w) pl.isList.typeIs slot_list_getitem.lookup (wpAny_getItem_list_neg (Q:=λr s'=>r=w/\EP X fS σ Q r s') pl.isList (by lia) (by rw [gG] <;> lia) (by lia) (by rw [hj];simpa using ew) ⟨Z,fin⟩) hs
theorem fI:IxR X (rIxT X.K):=by
 intro value slice fS s σ H x y v u Q I rx ry h hs;obtain ⟨p,xs,i,z,rfl,rfl,hq,he,q⟩:=h;cases rx;obtain ⟨t,rfl⟩:=ry;obtain ⟨its,r,pl,hz⟩:=I.tuple hq;obtain ⟨j,h1,h2,h3,h4,h5⟩:=VM he;obtain ⟨w,ew,rw'⟩:=r.get h2;have hl:=r.length;have hn:=RE;have fin:EP X fS σ Q w s:=⟨z,H,I,rw',q⟩
 exact subscriptTail_builtinR (x:=w) pl.typeIs slot_tuple_getitem.lookup (getItem_tuple (j:=j) (Q:=λr s'=>r=w/\EP X fS σ Q r s') pl (by lia) (by lia) (by rw [gG,<- hl];exact h1) (by simpa using ew) ⟨Z,fin⟩) hs
theorem ix_str:IxR X rIxS:=by
 intro value slice fS s σ H x y v u Q I rx ry h hs;obtain ⟨z,i,c,rfl,rfl,hz,he,q⟩:=h;obtain ⟨t,rfl⟩:=rx;obtain ⟨t',rfl⟩:=ry;obtain ⟨j,h1,h2,h3,h4,h5⟩:=VM he;have hl:z.cps.toList.length=z.length:=by simp [Str.length]
 rw [hl] at h1 h4 h5;have hn:=RE
 exact tail_any (typeIs_str s z t) slot_str_getitem.lookup (getItem_str (c:=c) (by
  have e1:decide (i < -(2 ^ 63:Int))=false:=decide_eq_false (by lia);have e2:decide (i ≥ 2 ^ 63)=false:=decide_eq_false (by lia);rw [e1,e2,Bool.or_false]) (by rw [h1];simpa using h2) ⟨.str ⟨#[c]⟩,H,I.tok _,⟨_,Z⟩,q⟩) hs
def rIx (K:PySem.W.Frag):R2:=λx y H Q=>rIxL K x y H Q\/rIxT K x y H Q\/rIxS x y H Q
theorem ix_seq:IxR X (rIx X.K):=VU.or (fI.or ix_str)
theorem XO (its:List fV) (n j:Nat) (u:fV):Obj.mapSeq (·.setIfInBounds j u) { cls:=.type "list",data:=.seq its.toArray n } = { cls:=.type "list",data:=.seq (its.set j u).toArray n }:=by
  simp [Obj.mapSeq]
theorem Inv.lst {fS:List (fT × j5)} {σ:St} {H:Hp} {s:fW} {p:fT} {xs:List V} (I:Inv X fS σ H s) (h:H p=some (.lst xs)) :
  ∃ (its:List fV) (n:Nat),AK xs its/\s.heap.get? p=some { cls:=.type "list",data:=.seq its.toArray n }/\xs.length <= hJ:=by
 obtain ⟨z,its,n,r,e⟩:=I.hok p _ h;exact ⟨its,n,r,e,z⟩
theorem Inv.lstUpd {fS:List (fT × j5)} {σ:St} {H:Hp} {s:fW} {p:fT} {xs ys:List V} {its its':List fV} {n n':Nat} {f:j5->j5} (I:Inv X fS σ H s) (h:H p=some (.lst xs))
  (ho:s.heap.get? p=some { cls:=.type "list",data:=.seq its.toArray n }) (hf:f { cls:=.type "list",data:=.seq its.toArray n } = { cls:=.type "list",data:=.seq its'.toArray n' }) (r:AK ys its') (hz:ys.length <= hJ) (t:Nat) :
  Inv X fS σ (upd H p (.lst ys)) { s with heap:=s.heap.update p f,toks:=t }:=by
 have e:(s.heap.update p f).get? p=some { cls:=.type "list",data:=.seq its'.toArray n' }:=by
  rw [Heap.get?_update_self f ho (by rw [hf] <;> rfl),hf]
 refine I.write (x:=p) (e:=p) (by rw [h];trivial) (.inl Z) (λb u hb q=>(Heap.get?_update_other _ _ (Ne.symm hb)).trans q) ⟨_,e⟩ ?_;exact ⟨hz,its',n',r,e⟩
def rSetL:V->V->V->Hp->(Hp->Prop)->Prop:=λo i v H Q=>E4 λp xs k j=>o = .ref p/\i = .int k/\H p=some (.lst xs)/\ixN xs.length k=some j/\Q (upd H p (.lst (xs.set j v)))
theorem BU:PSet X rSetL:=by
  intro fS s σ H o i v ov iv u Q I ro ri rv h;obtain ⟨p,xs,k,j,rfl,rfl,hp,hj,q⟩:=h;cases ro;obtain ⟨t,rfl⟩:=ri;obtain ⟨its,n,r,ho,hz⟩:=I.lst hp;obtain ⟨h1,h2,h3,h4⟩:=dI hj;have hl:=r.length;have hn:=RE
  have I':Inv X fS σ (upd H p (.lst (xs.set j v))) { s with heap:=s.heap.update p (Obj.mapSeq (·.setIfInBounds j u)) }:= I.lstUpd hp ho (XO its n j u) (r.set rv j) (by rw [kE];exact hz) s.toks;by_cases h0:0 <= k
  · have hk:k.toNat=j:=by
      rw [seqIndex_of h0 h4] at h1;exact Option.some.inj h1
    exact PySem.W.ki_setAt ho h0 (by lia) (by rw [gG,<- hl];exact h4) (by rw [hk];exact ⟨_,I',q⟩)
  · have hk:(k+(its.toArray.size:Int)).toNat=j:=by
      rw [seqIndex_neg (by lia) h3] at h1;rw [gG,<- hl];exact Option.some.inj h1
    exact PySem.W.ki_setBack ho (by lia) (by rw [gG,<- hl];exact h3) (by lia) (by rw [hk];exact ⟨_,I',q⟩)
theorem SS (lo hi:Option Int) (n:Nat):(sliceBounds lo hi none n).1=((HT.sIx n 0 lo:Nat):Int)/\(sliceBounds lo hi none n).2.1=((HT.sIx n n hi:Nat):Int)/\(sliceBounds lo hi none n).2.2=1:=by
 refine ⟨?_,?_,Z⟩
 ·cases lo with
  | none=>simp [sliceBounds,HT.sIx]
  | some i=>
   simp only [sliceBounds,HT.sIx,Option.getD_none,show (1:Int) > 0 by decide,if_true];by_cases h:i < 0
   ·simp only [h,if_true] <;> lia
   ·simp only [h,if_false] <;> lia
 ·cases hi with
  | none=>simp [sliceBounds,HT.sIx]
  | some i=>
   simp only [sliceBounds,HT.sIx,Option.getD_none,show (1:Int) > 0 by decide,if_true];by_cases h:i < 0
   ·simp only [h,if_true] <;> lia
   ·simp only [h,if_false] <;> lia
theorem QV (its:List fV) (lo hi:Option Int):slicePick its.toArray lo hi none=((its.drop (HT.sIx its.length 0 lo)).take (HT.sIx its.length its.length hi - HT.sIx its.length 0 lo)).toArray:=by
 obtain ⟨h1,h2,h3⟩:=SS lo hi its.toArray.size;unfold slicePick;rw [h1,h2,h3];simp only [sliceRange_one,pick_run,gG] <;> rfl
def rSlL (K:PySem.W.Frag):V->Option Int->Option Int->Hp->VK->Prop:=λx lo hi H Q=>E2 λa xs=>x = .ref a/\SqL K H a xs/\∀ p,H p=none->Q (.ref p) (upd H p (.lst (DD xs lo hi)))
theorem BJ:SlR X (rSlL X.K):=by
 intro fS s σ H x v vl vu lo hi sl Q I rx hs pl pu h;obtain ⟨a,xs,rfl,hx,q⟩:=h;cases rx;obtain ⟨its,r,ht,hz⟩:=I.list hx;have hlen:=r.length;refine ⟨"list",_,slot_list_getitem.lookup,ht.isList.typeIs,?_⟩;refine wpAny_getItem_list_slice ht.isList hs pl pu .none (by simp) ?_ (by rw [gG] <;> lia);rw [QV,<- hlen];refine ⟨.ref s.heap.objs.size,_,I.laid (t':=s.toks) (o:=.lst (DD xs lo hi)) (λb ob q=>Heap.get?_push_of_some _ q) (gA _) ?_,Z,q _ (I.hok.fresh (gA _))⟩;exact ⟨iV (W5 xs lo hi) hz,_,0,(r.drop (HT.sIx xs.length 0 lo)).take (HT.sIx xs.length xs.length hi - HT.sIx xs.length 0 lo),Heap.get?_push_size _ Z⟩
def QU:V->Bool
 | .non=>true
 | .bl _=>true
 | .int _=>true
 | .str _=>true
 | _=>false
def eqV:V->V->Bool
 | .non,.non=>true
 | .bl a,.bl b=>a == b
 | .bl a,.int b=>(if a then 1 else 0) == b
 | .int a,.bl b=>a == (if b then 1 else 0)
 | .int a,.int b=>a == b
 | .str a,.str b=>a == b
 | _,_=>false
theorem eqAt_V {A:iD} {s:fW} {y x:V} {u v:fV} (ry:AW y u) (rx:AW x v) (fy:QU y=true) (fx:QU x=true):SeqAt.EqAt A s u v (eqV y x):=by
 cases y with
 | non=>
  cases ry;cases x with
  | non=>cases rx;exact SeqAt.EqAt.same _
  | bl b=>cases rx;exact SeqAt.EqAt.none_bool b
  | int b=>obtain ⟨t,rfl⟩:=rx;exact SeqAt.EqAt.none_int b t
  | str b=>obtain ⟨t,rfl⟩:=rx;exact SeqAt.EqAt.none_str b t
  | _=>exact absurd (show false=true from fx) gS
 | bl a=>
  cases ry;cases x with
  | non=>cases rx;exact SeqAt.EqAt.bool_none a
  | bl b=>cases rx;exact SeqAt.EqAt.bool_bool a b
  | int b=>obtain ⟨t,rfl⟩:=rx;exact SeqAt.EqAt.bool_int a b t
  | str b=>obtain ⟨t,rfl⟩:=rx;exact SeqAt.EqAt.bool_str a b t
  | _=>exact absurd (show false=true from fx) gS
 | int a=>
  obtain ⟨t',rfl⟩:=ry;cases x with
  | non=>cases rx;exact SeqAt.EqAt.int_none a t'
  | bl b=>cases rx;exact SeqAt.EqAt.int_bool a t' b
  | int b=>obtain ⟨t,rfl⟩:=rx;exact SeqAt.EqAt.int_int a t' b t
  | str b=>obtain ⟨t,rfl⟩:=rx;exact SeqAt.EqAt.int_str a t' b t
  | _=>exact absurd (show false=true from fx) gS
 | str a=>
  obtain ⟨t',rfl⟩:=ry;cases x with
  | non=>cases rx;exact SeqAt.EqAt.str_none a t'
  | bl b=>cases rx;exact SeqAt.EqAt.str_bool a t' b
  | int b=>obtain ⟨t,rfl⟩:=rx;exact SeqAt.EqAt.str_int a t' b t
  | str b=>obtain ⟨t,rfl⟩:=rx;exact SeqAt.EqAt.str_str a t' b t
  | _=>exact absurd (show false=true from fx) gS
 | _=>exact absurd (show false=true from fy) gS
def eqU (x:V) (u:fV):Bool:=match u with
 | .none=>eqV .non x
 | .bool b=>eqV (.bl b) x
 | .int i _=>eqV (.int i) x
 | .str z _=>eqV (.str z) x
 | _=>false
theorem eqU_of {x y:V} {u:fV} (r:AW y u) (f:QU y=true):eqU x u=eqV y x:=by
 cases y with
 | non=>cases r;rfl
 | bl b=>cases r;rfl
 | int i=>obtain ⟨t,rfl⟩:=r;rfl
 | str z=>obtain ⟨t,rfl⟩:=r;rfl
 | _=>exact absurd (show false=true from f) gS
theorem UL {x:V}:∀ {xs:List V} {us:List fV},AK xs us->xs.all QU=true->us.any (eqU x)=xs.any λy=>eqV y x
 | _,_,.nil,_=>rfl
 | y :: xs,u :: us,.cons r t,f=>by
  rw [List.all_cons,kJ] at f;rw [lB,lB,eqU_of r f.1,UL t f.2]
theorem Q6 {A:iD} {s:fW} {x:V} {v:fV} (rx:AW x v) (fx:QU x=true):∀ {xs:List V} {us:List fV},AK xs us->xs.all QU=true->∀ u ∈ us,SeqAt.EqAt A s u v (eqU x u)
 | _,_,.nil,_=>λu hu=>by cases hu
 | y :: xs,u :: us,.cons r t,f=>λu' hu=>by
  rw [List.all_cons,kJ] at f;rcases gR.mp hu with rfl | hu
  ·rw [eqU_of r f.1];exact eqAt_V r rx f.1 fx
  ·exact Q6 rx fx t f.2 u' hu
def inV (x:V) (xs:List V):Bool:=xs.any λy=>eqV y x
def rIn (K:PySem.W.Frag) (neg:Bool):R2:=λx y H Q=>E2 λp xs=>y = .ref p/\(SqL K H p xs\/SqT K H p xs)/\QU x=true/\xs.all QU=true/\Q (.bl (if neg then !inV x xs else inV x xs)) H
theorem SI:OpR X (compareOp .In) (rIn X.K false):=by
 intro fS s σ H x y v u Q I rx ry h;obtain ⟨p,xs,rfl,hq,fx,fs,q⟩:=h;cases ry;rcases hq with hq | hq
 ·obtain ⟨its,r,pl,hz⟩:=I.list hq;refine SeqAt.in_listAt (eqU x) pl.isList (λw hw=>Q6 rx fx r fs w (by simpa using hw)) ⟨.bl _,H,I,Z,?_⟩;rw [show its.toArray.any (eqU x)=its.any (eqU x) by simp,UL r fs];exact q
 ·obtain ⟨its,r,pl,hz⟩:=I.tuple hq;refine SeqAt.in_tupleAt (eqU x) pl (λw hw=>Q6 rx fx r fs w (by simpa using hw)) ⟨.bl _,H,I,Z,?_⟩;rw [show its.toArray.any (eqU x)=its.any (eqU x) by simp,UL r fs];exact q
theorem UF:KJ X (.builtin "len") (λxs H Q=>∃ p ys,xs=[.ref p]/\(SqL X.K H p ys\/SqT X.K H p ys)/\Q (.int ys.length) H):=by
 intro fS s σ H xs us Q I r h;obtain ⟨p,ys,rfl,hq,q⟩:=h;obtain ⟨u,rfl,rx⟩:=T0 r;cases rx;have hn:=RE;rcases hq with hq | hq
 ·obtain ⟨its,r',pl,hz⟩:=I.list hq;have hlen:=r'.length;exact Calls.call_len_list pl.isList (by simp only [gG] <;> lia) ⟨.int ys.length,H,I.tok _,⟨s.toks+1,by rw [gG,hlen]⟩,q⟩
 ·obtain ⟨its,r',pl,hz⟩:=I.tuple hq;have hlen:=r'.length;exact len_tuple pl (by simp only [gG] <;> lia) ⟨.int ys.length,H,I.tok _,⟨s.toks+1,by rw [gG,hlen]⟩,q⟩
theorem TM:KJ X (.type "list") (λxs H Q=>∃ p ys,xs=[.ref p]/\(SqL X.K H p ys\/SqT X.K H p ys)/\∀ l,H l=none->Q (.ref l) (upd H l (.lst ys))):=by
 intro fS s σ H xs us Q I r h;obtain ⟨p,ys,rfl,hq,q⟩:=h;obtain ⟨u,rfl,rx⟩:=T0 r;cases rx
 have fin:∀ (its:List fV),AK ys its->ys.length <= hJ->∀ (h':iC) (c':Nat),(∀ b o',s.heap.get? b=some o'->h'.get? b=some o') -> h'.get? s.heap.objs.size=some { cls:=.type "list",dict:=none,data:=.seq its.toArray c',slots:=#[] }->EP X fS σ Q (.ref s.heap.objs.size) { s with heap:=h' }:=λits r' hz h' c' kp e=> ⟨.ref s.heap.objs.size,_,I.laid (t':=s.toks) kp (gA _) (show BM X.prog X.w _ h' _ (.lst ys) from ⟨hz,its,c',r',e⟩),Z,q _ (I.hok.fresh (gA _))⟩;rcases hq with hq | hq
 ·obtain ⟨its,r',pl,hz⟩:=I.list hq;have hlen:=r'.length;obtain ⟨o,ho,hc,n,hd⟩:=pl.isList;exact call_list_seq p (.inl Z) ho hc hd (λh' c' kp e=>fin its r' hz h' c' kp e) (by simp only [gG] <;> lia)
 ·obtain ⟨its,r',pl,hz⟩:=I.tuple hq;have hlen:=r'.length;obtain ⟨o,ho,hc,n,hd⟩:=pl;exact call_list_seq p (.inr Z) ho hc hd (λh' c' kp e=>fin its r' hz h' c' kp e) (by simp only [gG] <;> lia)
theorem IL:KJ X (.type "tuple") (λxs H Q=>∃ p ys,xs=[.ref p]/\((SqL X.K H p ys/\∀ l,H l=none->Q (.ref l) (upd H l (.tup ys)))\/(SqT X.K H p ys/\Q (.ref p) H))):=by
 intro fS s σ H xs us Q I r h;obtain ⟨p,ys,rfl,h⟩:=h;obtain ⟨u,rfl,rx⟩:=T0 r;cases rx;rcases h with ⟨hq,q⟩ | ⟨hq,q⟩
 ·obtain ⟨its,r',pl,hz⟩:=I.list hq;have hlen:=r'.length;refine call_tuple_list pl.isList (λh' kp=>?_) (by simp only [gG] <;> lia);have I1:Inv X fS σ H { s with heap:=h' }:=I.kept (t':=s.toks) kp
  have I2:Inv X fS σ (upd H h'.objs.size (.tup ys)) { s with heap:=h'.push { cls:=.type "tuple",data:=.seq its.toArray } }:= I1.laid (t':=s.toks) (λb o e=>Heap.get?_push_of_some _ e) (gA _) (show BM X.prog X.w _ _ _ (.tup ys) from ⟨hz,its,r',IsTup.new _ _⟩);exact ⟨.ref h'.objs.size,_,I2,Z,q _ (I1.hok.fresh (gA _))⟩
 ·obtain ⟨its,r',pl,hz⟩:=I.tuple hq;exact call_tuple_same pl ⟨.ref p,H,I,Z,q⟩
def tyV (K:PySem.W.Frag) (T:String) (x:V) (H:Hp):Prop:=match x with
 | .str _=>T = "str"
 | .int _=>T = "int"
 | .ref p=>(T = "list"/\∃ xs,SqL K H p xs)\/(T = "tuple"/\∃ o,K.lookup p=some o/\o.cls = .type "tuple"/\o.dict=none) \/
   (T = "dict"/\((∃ kvs,H p=some (.dK kvs))\/∃ kvs,H p=some (.dT kvs)))\/(T = "set"/\E2 λS n=>H p=some (.set S n))
 | _=>False
theorem tyV_is {fS:List (fT × j5)} {σ:St} {H:Hp} {s:fW} {T:String} {x:V} {v:fV} (I:Inv X fS σ H s) (r:AW x v) (ty:tyV X.K T x H) :
  s.TypeIs v T/\∀ a,v = .ref a->∃ ob,s.heap.get? a=some ob/\ob.dict=none:=by
 cases x with
 | str z=>
  obtain ⟨t,rfl⟩:=r;cases (show T = "str" from ty);exact ⟨typeIs_str s z t,λ_ e=>nomatch e⟩
 | int i=>
  obtain ⟨t,rfl⟩:=r;cases (show T = "int" from ty);exact ⟨typeIs_int s i t,λ_ e=>nomatch e⟩
 | ref p=>
  cases r;rcases ty with ⟨rfl,xs,hq⟩ | ⟨rfl,o,hk,hc,hd⟩ | ⟨rfl,hk⟩ | ⟨rfl,S,n,hk⟩
  ·obtain ⟨its,_,pl,_⟩:=I.list hq;refine ⟨pl.isList.typeIs,λa e=>?_⟩;cases e;obtain ⟨o,n,e,c,hd,_⟩:=pl;exact ⟨o,e,hd⟩
  ·refine ⟨⟨o,I.kIn p o hk,hc⟩,λa e=>?_⟩;cases e;exact ⟨o,I.kIn _ o hk,hd⟩
  ·have z:∃ o,s.heap.get? p=some o/\o.ExactDict:=by
    rcases hk with ⟨kvs,hk⟩ | ⟨kvs,hk⟩
    ·obtain ⟨_,_,_,_,o,_,_,e,ex,_⟩:=I.hok p _ hk;exact ⟨o,e,ex⟩
    ·obtain ⟨_,_,_,_,o,_,_,e,ex,_⟩:=I.hok p _ hk;exact ⟨o,e,ex⟩
   obtain ⟨o,e,ex⟩:=z;refine ⟨⟨o,e,ex.1⟩,λa e2=>?_⟩;cases e2;exact ⟨o,e,ex.2.1⟩
  ·obtain ⟨o,_,_,_,e,ex,_⟩:=I.hok p _ hk;refine ⟨⟨o,e,ex.1⟩,λa e2=>?_⟩;cases e2;exact ⟨o,e,ex.2.1⟩
 | _=>exact False.elim ty
def tBM (K:PySem.W.Frag) (T:String) (r:V->List V->Hp->VK->Prop) (to:TE) (t:TA):TE:=λσ H Q=>to σ H λx H1=>tyV K T x H1/\t σ H1 λxs H2=>r x xs H2 Q
variable {o e:i4} {es:List i4} {to:TE} {t:TA} {name:fZ} {apos cpos:Pos} {T id:String} {r:V->List V->Hp->VK->Prop}
theorem D2 (pa:PlainAttrs T) (slot:Slot T name id) (hty:typeOf (.builtin id)=pure (.type "method_descriptor")) (hm:MtR X id r) (ho:PE X o to) (ha:PA X (e :: es) t)
    (hbase:attributeBase o name X.env (eval o X.env)=eval o X.env:=by rfl)
    (hfew:((backTo cpos (gB (e :: es) X.env)).all (λx=>!x.1) && (backToKw cpos (keywordEach [] X.env)).all (λx=>x.1.isSome)
      && decide ((e :: es).length+([]:List Keyword).length+(if ([]:List Keyword).isEmpty then 0 else 1) < 30))=true:=by rfl)
    (hline:(apos.endLine == cpos.line)=true:=by rfl) (hs:gB (e :: es) X.env=(false,eval e X.env) :: gB es X.env:=by rfl) (hplain:(backTo cpos (gB es X.env)).any (·.1)=false:=by rfl) :
    PE X (.Call (.Attribute o name apos) (e :: es) [] cpos) (tBM X.K T r to t):=by
  intro fS s σ H Q I h;refine wpAny_Call_method_late hbase hfew hline Z (thn (ho fS s σ H _ I h) λv s1 ⟨x,H1,I1,r1,ty,q1⟩=>?_);obtain ⟨h1,h2⟩:=tyV_is I1 r1 ty;refine ⟨T,id,pa,slot,hty,h1,h2,?_⟩;have hA:=ha cpos fS s1 σ H1 _ I1 q1;rw [hs] at hA ⊢;refine Calls.callWith_builtin (by show (false || (backTo cpos (gB es X.env)).any (·.1))=false;rw [hplain] <;> rfl) (Calls.evalArgs_plain ?_);exact thn hA λus s2 ⟨vs,H2,I2,r2,q2⟩=>hm fS s2 σ H2 x vs v us Q I2 r1 r2 q2
end
def MtM (X:Cx) (id:String) (r:V->List V->Hp->VK->Prop):Prop:=
 ∀ (fS:List (fT × j5)) (s:fW) (σ:St) (H:Hp) (x:V) (xs:List V) (v:fV) (us:List fV) (Q:VK),Inv X fS σ H s->AW x v->AK xs us->r x xs H Q ->
  gT (gW X.prog X.w) X.A (call (.builtin id) (v :: us)) (EP X fS σ Q) X.xe s
theorem AK.one:∀ {x:V} {us:List fV},AK [x] us->∃ u,us=[u]/\AW x u
 | _,_,.cons r .nil=>⟨_,Z,r⟩
theorem AK.two:∀ {x y:V} {us:List fV},AK [x,y] us->∃ u v,us=[u,v]/\AW x u/\AW y v
 | _,_,_,.cons r (.cons q .nil)=>⟨_,_,Z,r,q⟩
theorem AK.reverse {xs:List V} {us:List fV} (h:AK xs us):AK xs.reverse us.reverse:=by
 induction h with
 | nil=>exact .nil
 | cons r t ih=>rw [List.reverse_cons,List.reverse_cons];exact AK.append ih (.cons r .nil)
theorem AK.rep {xs:List V} {us:List fV} (h:AK xs us):∀ k:Nat,AK (hV k xs).flatten (hV k us).flatten
 | 0=>.nil
 | k+1=>by
  rw [jY,jY,kW,kW];exact AK.append h (AK.rep h k)
theorem TF (its:List fV):∀ (k:Nat) (acc:List fV),
  List.foldl (λx1 x2=>x1 ++ x2) acc.toArray (hV k its.toArray)=(acc ++ (hV k its).flatten).toArray
 | 0,acc=>by simp
 | k+1,acc=>by
  have e:acc.toArray ++ its.toArray=(acc ++ its).toArray:=by simp
  have e2:(acc ++ its) ++ (hV k its).flatten=acc ++ (hV (k+1) its).flatten:=by
   rw [jY,kW,List.append_assoc]
  rw [<- e2,<- TF its k (acc ++ its),<- e,jY,j6]
section
variable {X:Cx} {fS:List (fT × j5)} {σ:St} {H:Hp} {s:fW} {l b:fT} {xs ys zs:List V}
theorem Inv.lset {its its':List fV} {n:Nat} {f:Array fV->Array fV} {t':Nat} (I:Inv X fS σ H s) (hH:H l=some (.lst xs))
  (e:s.heap.get? l=some { cls:=.type "list",data:=.seq its.toArray n }) (hf:f its.toArray=its'.toArray) (hv:AK ys its') (hz:ys.length <= hJ) :
  Inv X fS σ (upd H l (.lst ys)) { s with heap:=s.heap.update l (Obj.mapSeq f),toks:=t' }:=by
 have q:=PySem.IsL.update e f;rw [hf] at q;refine I.write (x:=l) (e:=l) (by rw [hH];exact trivial) (.inl Z) (λb' u hb hu=>(Heap.get?_update_other s.heap (Obj.mapSeq f) (Ne.symm hb)).trans hu) ⟨_,q⟩ ?_;exact ⟨hz,its',_,hv,q⟩
theorem Inv.lnew {its:List fV} {t':Nat} (I:Inv X fS σ H s) (hv:AK ys its) (hz:ys.length <= hJ) :
  Inv X fS σ (upd H s.heap.objs.size (.lst ys)) { s with heap:=s.heap.push { cls:=.type "list",data:=.seq its.toArray },toks:=t' }:=
 I.laid (λ_ _ q=>Heap.get?_push_of_some _ q) (gA _) ⟨hz,its,0,hv,Heap.get?_push_size _ Z⟩
theorem Inv.fresh (I:Inv X fS σ H s):H s.heap.objs.size=none:=I.hok.fresh (gA _)
theorem Inv.lstM (I:Inv X fS σ H s) (hH:H l=some (.lst xs)):xs.length <= hJ/\∃ (its:List fV) (n:Nat),AK xs its/\xs.length=its.length/\s.heap.get? l=some { cls:=.type "list",data:=.seq its.toArray n }:=by
 obtain ⟨z,its,n,r,e⟩:=I.hok l _ hH;exact ⟨z,its,n,r,r.length,e⟩
theorem notLongL {n:Nat} (h:n <= hJ):Builtin.List.listTooLong n=false:=by
 unfold Builtin.List.listTooLong;exact decide_eq_false (by lia)
end
section
variable {X:Cx}
def VF:V->List V->Hp->VK->Prop:=λx vs H Q=>E3 λl xs y=>x = .ref l/\vs=[y]/\H l=some (.lst xs)/\xs.length < hJ/\Q .non (upd H l (.lst (xs ++ [y])))
theorem Yo:MtM X "list.append" VF:=by
 intro fS s σ H x vs v us Q I rx rv h;obtain ⟨l,xs,y,rfl,rfl,hH,hz,q⟩:=h;cases rx;obtain ⟨u,rfl,ru⟩:=rv.one;obtain ⟨z,its,n,r,hl,e⟩:=I.lstM hH;refine call_meets F.slot_list_append ⟨_,e,Z⟩ F.entry_list_append (F.args_list_append_2 _ _) (PySem.list_append l its.toArray n u (by rw [gG];lia)) ⟨e,?_⟩;refine ⟨.non,_,I.lset (its':=its ++ [u]) hH e (by simp) (r.append (.cons ru .nil)) ?_,Z,q⟩;rw [i6,List.length_singleton]
 lia
def rCat:R2:=λx y H Q=>E4 λl b xs zs=>x = .ref l/\y = .ref b/\H l=some (.lst xs)/\H b=some (.lst zs)/\xs.length+zs.length <= hJ/\∀ p,H p=none->Q (.ref p) (upd H p (.lst (xs ++ zs)))
theorem ME:OpR X (binaryOp .Add) rCat:=by
 intro fS s σ H x y v u Q I rx ry h;obtain ⟨l,b,xs,zs,rfl,rfl,hH,hB,hz,q⟩:=h;cases rx;cases ry;obtain ⟨z,its,n,r,hl,e⟩:=I.lstM hH;obtain ⟨z2,its2,n2,r2,hl2,e2⟩:=I.lstM hB;refine PySem.P.add_list e e2 ?_ (by rw [gG,gG];lia);have ea:its.toArray ++ its2.toArray=(its ++ its2).toArray:=by simp
 rw [ea];exact ⟨.ref _,_,I.lnew (t':=s.toks) (r.append r2) (by rw [i6];lia),Z,q _ I.fresh⟩
def rRep:R2:=λx y H Q=>E3 λl k xs=>x = .ref l/\y = .int k/\H l=some (.lst xs)/\-(2 ^ 63) <= k/\k < 2 ^ 63/\xs.length * k.toNat <= hJ /\
 ∀ p,H p=none->Q (.ref p) (upd H p (.lst (hV k.toNat xs).flatten))
theorem len_rep {α:Type} (xs:List α) (k:Nat):(hV k xs).flatten.length=k * xs.length:=by
 induction k with
 | zero=>simp
 | succ k ih=>rw [jY,kW,i6,ih,Nat.succ_mul,Nat.add_comm]
theorem eE:OpR X (binaryOp .Mult) rRep:=by
 intro fS s σ H x y v u Q I rx ry h;obtain ⟨l,k,xs,rfl,rfl,hH,h1,h2,hz,q⟩:=h;cases rx;obtain ⟨t,rfl⟩:=ry;obtain ⟨z,its,n,r,hl,e⟩:=I.lstM hH;have hlen:its.toArray.size * k.toNat <= hJ:=by rw [gG,<- hl];exact hz
 have hcap:¬ its.toArray.size * k.toNat > (2 ^ 63 - 1) / 8:=by
  have:(hJ:Nat) <= (2 ^ 63 - 1) / 8:=by decide
  lia
 have hfit:¬ (!Builtin.List.listFitsIndex k)=true:=by
  rw [fitsIndex_both h1 h2];exact gS
 have hlong:¬ Builtin.List.listTooLong (its.toArray.size * k.toNat)=true:=by
  rw [notLongL hlen];exact gS
 have hnew:List.foldl (λx1 x2=>x1 ++ x2) #[] (hV (if its.toArray.isEmpty=true then 0 else k.toNat) its.toArray)=(hV k.toNat its).flatten.toArray:=by
  have f0:∀ m:Nat,List.foldl (λx1 x2=>x1 ++ x2) #[] (hV m its.toArray)=(hV m its).flatten.toArray:=λm=>by
   have:=TF its m [];rw [List.nil_append] at this;exact this
  rw [f0];cases its with
  | nil=>simp
  | cons a r'=>rw [if_neg (by simp)]
 refine wpAny_binaryOp_repeat_ref (T:="list") (U:="int") (by decide) ⟨_,e,Z⟩ (λs'=>typeIs_int s' k t) noFill_list_mul F.fills_int_mul F.slot_int_rmul repeat_list F.slot_int_index.lookup
  (call_meets F.slot_int_rmul (typeIs_int s k t) F.entry_int_rmul (F.args_int_rmul_2 _ _) (int___rmul___int_list k t l its.toArray n)
   ⟨e,Z,⟨_,e,Z⟩,call_meets F.slot_list_mul ⟨_,e,Z⟩ F.entry_list_mul (F.args_list_mul_2 _ _) (AutoListH.list___mul___list_int_3 l its.toArray n k t hfit hcap hlong) ⟨e,?_⟩⟩)
 rw [hnew];exact ⟨.ref _,_,I.lnew (t':=s.toks) (r.rep k.toNat) (by rw [len_rep,Nat.mul_comm];exact hz),Z,q _ I.fresh⟩
end
section
variable {prog:gL} {w:gX} {A:iD} {E:fV->fW->Prop} {s:fW}
set_option maxRecDepth 100000 in
end
end L2
namespace Att
open PySem PySem.W PySem.Calls PyProof.Rows
theorem NV {P:Params} {h:iC}:∀ (ns:List Int) (vs:List fV),WellAll P h vs (ns.map WData.int)->IntsAre vs ns:=by
 intro ns;induction ns with
 | nil=>
  intro vs w;rw [List.map_nil] at w;cases w;exact .nil
 | cons n ns ih=>
  intro vs w;rw [jX] at w;cases w with
  | cons a b=>
   cases a;exact .cons _ _ (ih _ b)
theorem dL {l:OpenLaw} {n:Nat} (hn:l.most=some n) {P:Params} {h:iC} {args:List WData} {vals:List fV}
  (hpre:l.row.toRowW.claim.pre args=true) (hwl:WellAll P h vals args) :
  ∃ a vs ns,vals=[Value.ref a]/\args=[WData.list (ns.map WData.int)]/\h.get? a=some { cls:=.type "list",data:=.seq vs.toArray }/\IntsAre vs ns/\ns.length <= n:=by
 have hsh:WShape.hasAll [] args [.list .int]=true:=(pre_splitW hpre).1;have hc:l.pre.holds [] { args:=args } = true:=(pre_splitW hpre).2;obtain ⟨d,r,rfl,h1,h2⟩:=hasAllW_cons hsh;obtain rfl:=hasAllW_nil h2;obtain ⟨xs,rfl,h3⟩:=hasW_list h1;obtain ⟨ns,rfl⟩:=items_int h3;have hlen:ns.length <= n:=by
  unfold OpenLaw.pre at hc;have h4:(WTm.not (.lt (.lit (.int (n:Int))) (.len (.arg 0)))).holds [] { args:=[.list (ns.map .int)] } = true:=by
   have h4:=(holds_andW hc).1;rw [hn] at h4;exact h4
  have h5:=condW_of h4 (w_not (w_lt w_lit (w_len_list (w_arg Z))));rw [fU] at h5;refine Nat.le_of_not_lt λq=>?_;have q':(n:Int) < ((ns.length:Nat):Int):=by lia
  first
   | (rw [D7_ q'] at h5;exact absurd h5 (by decide))
   | (simp at h5;lia)
 cases hwl with
 | cons w1 w2=>
  cases w2;cases w1 with
  | list ho hall=>exact ⟨_,_,ns,Z,Z,ho,NV ns _ hall,hlen⟩
theorem bA (l:OpenLaw) (args:List WData):l.row.toRowW.claim.post args (.bool true) args=true:=
 postW_of (r:=l.row.toRowW) (X:=(true == true))
  (show WShape.has [] (.bool true) .bool=true by first | rfl | decide | simp [WShape.has,WShape.arms,WShape.armsAll])
  (show (WTm.eq .res (.lit (.bool true))).value [] { args:=args,res:=some (.bool true),after:=args } = some (.bool (true == true)) from w_eq_bool (w_res Z) w_lit) Z
theorem attach_call {l:OpenLaw} {n:Nat} {q:gL} {loose:List fZ} {XP:(fZ->Option fV)->iC->Prop} {YP:gX->iC->Prop} {d:DefRec}
  (hn:l.most=some n) (hdf:d.params.defaults=[])
  (call:∀ (w:gX) (s₀ s₁:fW) (mg mb:fZ->Option fV) (fa:fT) (o:j5) (pm cd doc:fV) (a:fT) (vs:List fV) (ns:List Int),
   Ground q loose [] XP w s₀ mg mb s₁.heap->YP w s₁.heap ->
   s₁.heap.get? fa=some o->o.data = .func (docDef d.name d.params d.body d.scope pm cd doc)->s₁.heap.CodeRec cd d.name->mg d.name=some (.ref fa) ->
   s₁.heap.get? a=some { cls:=.type "list",data:=.seq vs.toArray }->IntsAre vs ns->ns.length <= n->s₁.gens = #[] ->
   codeAny (gW l.prog w) callerA (.call (.ref fa) ⟨[.ref a],[]⟩) (λr s'=>r = .ok (.ret (.bool true))/\OldK s₁.heap s'.heap/\s'.os=s₁.os/\AllBare s'.gens) s₁) :
  WalkO q loose XP YP l.row.toRowW d [] (λf vs=>PySem.call f vs):=by
 intro w s₀ s₁ mg mb G Y fa o pm cd doc dV kV ho hd hcd hD hmg hg args vals as hpre hlay hrd hwl hlo;obtain rfl:dV = .none:=Dflts.none hD hdf;obtain rfl:kV = .none:=Dflts.noKw hD;obtain ⟨a,vs,ns,rfl,rfl,hobj,hints,hlen⟩:=dL hn hpre hwl;refine enter_call (codeAny_mono (call w s₀ s₁ mg mb fa o pm cd doc a vs ns G Y ho (fd_plain hd) hcd hmg hobj hints hlen hg) λr s' hq=>?_);obtain ⟨rfl,h2,h3,h4⟩:=hq;exact ⟨.inl ⟨.bool true,.bool true,[],Z,λ_=>rfl,.bool true,bA l _,λ_=>⟨List.Pairwise.nil,λ_ hm=>(nomatch hm)⟩⟩,h2,h3,h4⟩
section
variable {prog:gL} {w:gX} {A:iD} {E:fV->fW->Prop} {s:fW} {K:Frag}
end
end Att
namespace L2
open PySem PySem.Spec PyProof.Rows
theorem TH:∀ {vs:List fV} {ns:List Int},IntsAre vs ns->AK (ns.map V.int) vs
 | _,_,.nil=>.nil
 | _,_,.cons n t h=>.cons ⟨t,Z⟩ (TH h)
def Jd (s:hZ) (j:Nat):hZ:=match s with
 | .ClassDef _ _ _ body _ _ _ _ _ _ _=>body.getD j (.Pass ⟨0,0,0,0⟩)
 | _=>.Pass ⟨0,0,0,0⟩
def BX (s:hZ):Arguments:=match s with
 | .FunctionDef _ a _ _ _ _ _ _ _ _=>a
 | _=>{ posonlyargs:=[],args:=[],vararg:=none,kwonlyargs:=[],kw_defaults:=[],kwarg:=none,defaults:=[] }
def Jr (s:hZ):List hZ:=match s with
 | .FunctionDef _ _ b _ _ _ _ _ _ _=>b
 | _=>[]
def Zd (s:hZ):Scope:=match s with
 | .FunctionDef _ _ _ _ _ _ sc _ _ _=>sc
 | _=>{ kind:=.function,names:=[],isGenerator:=false,isCoroutine:=false }
abbrev CX0:CXT:=λ_ _ _ _ _ _=>False
abbrev E0:XK:=λ_ _ _=>False
theorem pass0 {X:Cx}:FS CX0 X E0:=λ_ _ _ _ _ _ _ h=>h.elim
structure Fun (K:PySem.W.Frag) (x qual:fZ) (st:hZ) (f:fT) (fd:iF):Prop where
 ex:∃ (oc:fV) (od:Option fT) (kV doc pm:fV) (an:Option fT) (cdv ct:fV) (osl:Array (Option fV)),
  fd=j9 x qual (BX st) (Jr st) (Zd st) .none kV doc pm an cdv ct/\K.lookup f=some ⟨oc,od,.func fd,osl⟩/\kP K cdv qual=true
 kp:jT K (.ref f)=true
section
variable {P:gL} {w:gX} {K:PySem.W.Frag} {mg:fZ->Option fV} {base:iC}
theorem Fun.ok {x qual:fZ} {st:hZ} {f:fT} {fd:iF} {N ps:List fZ} {k:Nat} {sp:Sp} (F:Fun K x qual st f fd) (S:Zj N ps (Zd st)) (len:∀ vs H Q E,sp vs H Q E->vs.length=ps.length)
  (hbody:∀ (cdv:fV) (A:iD) (outer:List Env) (s:fW) (H:Hp) (vs:List V) (Q:VK) (E:XK),DC k (A.deeper (envOfC qual (Zd st) s.heap.objs.size f cdv))->sp vs H Q E ->
   ∃ t,PSs (LY CX0 P w K mg base N qual (Zd st) f cdv A outer s H E).nox (Jr st) t/\t { nx:=λ_ H'=>Q .non H',rt:=Q } (GW N vs) H):Ym P w K mg base CX0 (k+1) f fd ps sp:=by
 obtain ⟨oc,od,kV,doc,pm,an,cdv,ct,osl,rfl,lk,hcd⟩:=F.ex;refine fn_of lk hcd S len λA outer s H vs Q E hr hsp=>?_;obtain ⟨t,h,q⟩:=hbody cdv A outer s H vs Q E hr hsp;exact ⟨t,h.nox,q⟩
theorem Fun.binds {x qual:fZ} {st:hZ} {f:fT} {fd:iF} {ps:List fZ} (F:Fun K x qual st f fd)
  (h:∀ (kV doc pm:fV) (an:Option fT) (cdv ct:fV) (us:List fV),us.length=ps.length->bindArgs (j9 x qual (BX st) (Jr st) (Zd st) .none kV doc pm an cdv ct) ⟨us,[]⟩=pure (ps.zip us)):B9 K fd ps []:=by
 obtain ⟨oc,od,kV,doc,pm,an,cdv,ct,osl,rfl,lk,hcd⟩:=F.ex;exact .all (h kV doc pm an cdv ct)
theorem fun_mk {x qual:fZ} {st:hZ} {f:fT} {oc:fV} {od an:Option fT} {osl:Array (Option fV)} {kV doc pm cdv ct:fV} (l:K.lookup f=some ⟨oc,od,.func (j9 x qual (BX st) (Jr st) (Zd st) .none kV doc pm an cdv ct),osl⟩)
  (c:kP K cdv qual=true) (k:jT K (.ref f)=true):Fun K x qual st f (j9 x qual (BX st) (Jr st) (Zd st) .none kV doc pm an cdv ct):=⟨⟨oc,od,kV,doc,pm,an,cdv,ct,osl,Z,l,c⟩,k⟩
end
theorem Jt {A:iD} {k:Nat} (hr:DC k A):A.units+1 < cLine:=Nat.lt_of_le_of_lt (Nat.add_le_add_left (by decide:1 <= 64) _) hr.units
section
variable {X:Cx}
theorem pv (i:Nat) {x:fZ} {pos:Pos} (hN:X.N[i]? = some x:=by rfl) (hv:Vis X.env.scope x:=by first | exact Or.inl Z | exact Or.inr (Or.inl Z) | exact Or.inr (Or.inr Z)) (hd:(x == ("__debug__":fZ))=false:=by decide)
  (hcd:(x == ("__classdict__":fZ))=false:=by decide):PE X (.Name x pos) (tVar i):=cW hN hv hd hcd
end
theorem CV {A B:Prop} (h:B):if false=true then A else B:=by
 rw [if_neg gS];exact h
theorem IA {A B:Prop} (h:A):if true=true then A else B:=by
 rw [if_pos Z];exact h
theorem Jl {c A B:Prop} [Decidable c] (h1:c->A) (h2:¬ c->B):if c then A else B:=by
 by_cases h:c
 ·rw [if_pos h];exact h1 h
 ·rw [if_neg h];exact h2 h
theorem DT {c A B:Prop} [Decidable c] (hc:c) (h:B):if (!decide c)=true then A else B:=by
 rw [D7_ hc];exact CV h
def Same (H H':Hp):Prop:=∀ b o,H b=some o->H' b=some o
theorem Same.refl (H:Hp):Same H H:=λ_ _ h=>h
theorem Same.trans {H H1 H2:Hp} (a:Same H H1) (b:Same H1 H2):Same H H2:=λc o h=>b c o (a c o h)
theorem Same.free {H H':Hp} (e:Same H H') {l:fT} (h:H' l=Option.none):H l=Option.none:=by
 cases q:H l with
 | none=>rfl
 | some o=>
  rw [e l o q] at h;cases h
theorem Same.seq {K:PySem.W.Frag} {H H':Hp} {a:fT} {xs:List V} (e:Same H H') (h:SqL K H a xs):SqL K H' a xs:=by
 rcases h with (h | ⟨o,h⟩) | h
 ·exact .inl (.inl (e _ _ h))
 ·exact .inl (.inr ⟨o,e _ _ h⟩)
 ·exact .inr h
abbrev NoX:fV->fW->Prop:=λ_ _=>False
abbrev ifsRun (ifs:List i4) (env:Env):Sem Bool:=
 forIn ifs true λc r=>if r=true then do let ok <- isTrue c env (eval c env);pure (ForInStep.yield ok) else pure (ForInStep.yield r)
theorem SJ {prog:gL} {w:gX} {A:iD} {R:Result->fW->Prop} {s:fW} {elt target iter:i4} {ifs:List i4} {scope:Scope} {pos:Pos} {it acc:fV} {env:Env} (I:Nat->fW->Prop)
  (turn:∀ n s,I n s->gT (gW prog w) A (pyNext it) (λr s₁=>match r with
   | none=>R (.ok .next) s₁
   | some v=>gT (gW prog w) A (letOwnedTupleGo target it v) (λ_ s₁'=>gT (gW prog w) A (assign target env v) (λ_ s₂=>
     gT (gW prog w) A (ifsRun ifs env) (λok s₃=>
      if ok=true then gT (gW prog w) A (eval elt env) (λx s₄=>
       gT (gW prog w) A (call (.builtin "list.append") [acc,x]) (λ_ s₅=>∃ m,m < n/\I m s₅) NoX s₄) NoX s₃
      else ∃ m,m < n/\I m s₃) NoX s₂) NoX s₁') NoX s₁) NoX s)
  (n:Nat) (h:I n s):codeAny (gW prog w) A (.compLoop (.ListComp elt [⟨target,iter,ifs,0⟩] scope pos) 0 it acc env) R s:=by
 refine codeAny_loop Z I (λn s hI=>?_) n h;show gT _ A ((compTurn (.ListComp elt [⟨target,iter,ifs,0⟩] scope pos) 0 it acc env).onRaise (λx=>do noteFrame x env;theTreesLotGoes x)) _ _ s;refine wpAny_noted ?_;rw [compTurn_list];refine gQ (wpAny_standAt (gQ (wpAny_mono (turn n s hI) (λr s₁ h₁=>?_) λ_ _ h'=>h'.elim)));cases r with
 | none=>exact wpAny_pure h₁
 | some v=>
  refine gQ (wpAny_mono h₁ (λ_ s₁' h₁'=>?_) λ_ _ h'=>h'.elim);refine gQ (wpAny_mono h₁' (λ_ s₂ h₂=>gQ (wpAny_mono h₂ (λok s₃ h₃=>?_) λ_ _ h'=>h'.elim)) λ_ _ h'=>h'.elim);cases ok with
  | false=>exact wpAny_pure ⟨Z,h₃⟩
  | true=>
   exact gQ (gQ (wpAny_mono h₃ (λx s₄ h₄=>gQ (wpAny_mono h₄ (λ_ s₅ h₅=>wpAny_pure (wpAny_pure ⟨Z,h₅⟩)) λ_ _ h'=>h'.elim)) λ_ _ h'=>h'.elim))
def Jm (names:List (fZ × iO)) (cells:List (fZ × fT)):List (fZ × fT):=
 names.foldl (λcs y=>if y.2 == .free then (y.1,(cells.lookup y.1).getD 0) :: cs else cs) []
theorem FL {scope:Scope} {env:Env} (h:∀ y ∈ scope.names,y.2 = .free->∃ c,env.cells.lookup y.1=some c):closureFor scope env=pure (Jm scope.names env.cells):=by
 have all:∀ (names:List (fZ × iO)) (cs:List (fZ × fT)),(∀ y ∈ names,y.2 = .free->∃ c,env.cells.lookup y.1=some c) -> (forIn (m:=Sem) names cs λ(y:fZ × iO) (r:List (fZ × fT))=>if (y.2 == NameKind.free)=true then do let c <- cellOf env y.1;pure (ForInStep.yield ((y.1,c) :: r)) else pure (ForInStep.yield r)) =
    pure (names.foldl (λcs y=>if y.2 == .free then (y.1,(env.cells.lookup y.1).getD 0) :: cs else cs) cs):=by
  intro names;induction names with
  | nil=>intro cs _;rfl
  | cons y r ih=>
   intro cs hy;rw [List.forIn_cons];by_cases hk:y.2 = .free
   ·obtain ⟨c,hc⟩:=hy y gU hk;have hb:(y.2 == NameKind.free)=true:=by simp [hk]
    rw [if_pos hb,j6,if_pos hb,hc];have e:cellOf env y.1=pure c:=by unfold cellOf;rw [hc]
    rw [e];exact ih _ λz hz=>hy z (gD _ hz)
   ·have hb:¬ (y.2 == NameKind.free)=true:=by simpa using hk
    rw [if_neg hb,j6,if_neg hb];exact ih _ λz hz=>hy z (gD _ hz)
 unfold closureFor;have e:=all scope.names [] h;exact (congrArg (λz=>z >>= λcs=>pure cs) e).trans Z
theorem WP {cells:List (fZ × fT)}:∀ (names:List (fZ × iO)) (cs:List (fZ × fT)) {p:fZ × fT},
  p ∈ names.foldl (λcs y=>if y.2 == .free then (y.1,(cells.lookup y.1).getD 0) :: cs else cs) cs->p ∈ cs\/(p.2=(cells.lookup p.1).getD 0/\(p.1,NameKind.free) ∈ names)
 | [],cs,p,h=>.inl h
 | (n,k) :: r,cs,p,h=>by
  rw [j6] at h;rcases WP r _ h with h | ⟨h1,h2⟩
  ·by_cases hk:k = .free
   ·subst hk;rw [if_pos (by rfl)] at h;rcases gR.mp h with e | h
    ·subst e;exact .inr ⟨Z,gU⟩
    ·exact .inl h
   ·rw [if_neg (by simpa using hk)] at h;exact .inl h
  ·exact .inr ⟨h1,gD _ h2⟩
theorem RF {cells:List (fZ × fT)} {x:fZ}:∀ (names:List (fZ × iO)) (cs:List (fZ × fT)),((∃ p ∈ cs,p.1=x)\/(x,NameKind.free) ∈ names) ->
  ∃ p ∈ names.foldl (λcs y=>if y.2 == .free then (y.1,(cells.lookup y.1).getD 0) :: cs else cs) cs,p.1=x
 | [],cs,h=>by
  rcases h with h | h
  ·exact h
  ·simp at h
 | (n,k) :: r,cs,h=>by
  rw [j6];refine RF r _ ?_;rcases h with ⟨p,hp,e⟩ | h
  ·refine .inl ⟨p,?_,e⟩;split
   ·exact gD _ hp
   ·exact hp
  ·rcases gR.mp h with e | h
   ·cases e;exact .inl ⟨_,by rw [if_pos (by rfl)];exact gU,Z⟩
   ·exact .inr h
theorem HC {β:Type} {x:fZ}:∀ {l:List (fZ × β)},(∃ p ∈ l,p.1=x)->∃ c,l.lookup x=some c
 | [],h=>by obtain ⟨p,hp,_⟩:=h;simp at hp
 | (n,b) :: r,h=>by
  rw [iK];by_cases hx:x=n
  ·subst hx;exact ⟨b,by simp⟩
  ·have hb:(x == n)=false:=by simpa using hx
   rw [hb];refine HC ?_;obtain ⟨p,hp,e⟩:=h;rcases gR.mp hp with z | z
   ·subst z;exact absurd e.symm hx
   ·exact ⟨p,z,e⟩
theorem HV {names:List (fZ × iO)} {cells:List (fZ × fT)} {x:fZ} {c:fT} (h:(Jm names cells).lookup x=some c):c=(cells.lookup x).getD 0/\(x,NameKind.free) ∈ names:=by
 have hm:=PySem.mem_of_lookup h;rcases WP names [] hm with z | z
 ·simp at z
 ·exact z
theorem GL {names:List (fZ × iO)} {cells:List (fZ × fT)} {x:fZ} (h:(x,NameKind.free) ∈ names):∃ c,(Jm names cells).lookup x=some c:=
 HC (RF names [] (.inr h))
theorem HD {env:Env} {x:fZ} {k:iO}:∀ {names:List (fZ × iO)},
  (names.map λ(n,k)=>if (k == NameKind.free && env.scope.kind == .function && env.kindOf n == some .cell) then (n,NameKind.cell) else (n,k)).lookup x=some k->∃ k',(x,k') ∈ names/\(k' = k\/k' = .free)
 | [],h=>by simp at h
 | (n,k0) :: r,h=>by
  have h:jW x ((if (k0 == NameKind.free && env.scope.kind == .function && env.kindOf n == some .cell)=true then (n,NameKind.cell) else (n,k0)) :: _)=_:=h;by_cases hx:x=n
  ·subst hx;by_cases hc:(k0 == NameKind.free && env.scope.kind == .function && env.kindOf x == some .cell)=true
   ·have:k0 = .free:=by
     simp only [kJ,beq_iff_eq] at hc;exact hc.1.1
    exact ⟨k0,gU,.inr this⟩
   ·rw [if_neg hc] at h;simp only [iK,beq_self_eq_true] at h;exact ⟨k0,gU,.inl (Option.some.inj h)⟩
  ·have hb:(x == n)=false:=by simpa using hx
   have ih:=@HD env x k r;by_cases hc:(k0 == NameKind.free && env.scope.kind == .function && env.kindOf n == some .cell)=true
   ·rw [if_pos hc] at h;simp only [iK,hb] at h;obtain ⟨k',h1,h2⟩:=ih h;exact ⟨k',gD _ h1,h2⟩
   ·rw [if_neg hc] at h;simp only [iK,hb] at h;obtain ⟨k',h1,h2⟩:=ih h;exact ⟨k',gD _ h1,h2⟩
abbrev compN (X:Cx) (T:List fZ) (js:List Nat):List fZ:=T ++ js.map λj=>X.N.getD j ""
abbrev bL (T:List fZ) (js:List Nat) (σ:St):St:=T.map (λ_=>none) ++ js.map λj=>σ.getD j none
abbrev C5 (X:Cx) (T:List fZ) (js:List Nat) (scope:Scope) (fp:List fT) (pl:List (fT × j5)) (s:fW) (H:Hp):Cx:=
 { X with N:=compN X T js,s₀:=s,H₀:=H,env:=compEnvC scope (Jm scope.names X.env.cells) s.heap.objs.size X.env,outer:=X.stack,stack:=X.stack,ex:=fp,fn:=λ_=>false,pn:=X.pn ++ pl,xe:=NoX }
structure Yi (X:Cx) (T:List fZ) (js:List Nat) (scope:Scope):Prop where
 kind:scope.kind = .function
 nocell:∀ y ∈ scope.names,y.2 ≠ .cell
 loc:∀ y ∈ scope.names,y.2 = .local->scope.names.lookup y.1=some .local
 free:∀ y ∈ scope.names,y.2 = .free->X.env.kindOf y.1=some .cell\/X.env.kindOf y.1=some .free
 caps:∀ j ∈ js,(X.N.getD j "",NameKind.free) ∈ scope.names
 capk:∀ j ∈ js,(compEnvC scope (Jm scope.names X.env.cells) 0 X.env).kindOf (X.N.getD j "")=some .cell\/(compEnvC scope (Jm scope.names X.env.cells) 0 X.env).kindOf (X.N.getD j "")=some .free
section
variable {X:Cx} {T:List fZ} {js:List Nat} {scope:Scope}
theorem Yi.cells (S:Yi X T js scope) (ok:X.Ok) {x:fZ} {c:fT} (h:(Jm scope.names X.env.cells).lookup x=some c):X.env.cells.lookup x=some c:=by
 obtain ⟨h1,h2⟩:=HV h;obtain ⟨c',hc⟩:=ok.has x (S.free _ h2 Z);rw [hc] at h1;rw [hc,h1];rfl
theorem Yi.ok (S:Yi X T js scope) {fS:List (fT × j5)} {σ:St} {H:Hp} {s:fW} {fp:List fT} (I:Inv X fS σ H s) (hf:∀ b ∈ fp,ZI X fS H b) (ho:∀ b ∈ fp,b < s.heap.objs.size) :
  (C5 X T js scope fp fS s H).Ok:=by
 have ok:=I.ok
 refine ⟨ok.mod,S.kind,ok.glob,ok.blt,gA _,λx y c h1 h2=>ok.inj x y c (S.cells ok h1) (S.cells ok h2),λx hx=>?_,λx c h=>(nomatch h),ok.hd,ok.frames,.inl Z,λb hb=>⟨iB (ho b hb),λx c h=>(hf b hb).2.2.2.2.1 x c (S.cells ok h)⟩, I.bs,iV ok.bsz I.sz,λb o e hb=>?_,λb hb hs=>?_,I.stack,I.stkFree⟩
 ·have hx':(relabel scope X.env).names.lookup x=some .cell\/(relabel scope X.env).names.lookup x=some .free:=hx;have go:∀ k,(relabel scope X.env).names.lookup x=some k->(k = .cell\/k = .free)->∃ c,(Jm scope.names X.env.cells).lookup x=some c:=λk e hk=>by
   obtain ⟨k',h1,h2⟩:=HD e;refine GL ?_;rcases h2 with z | z
   ·rcases hk with q | q
    ·exact absurd (z.trans q) (S.nocell _ h1)
    ·rw [z,q] at h1;exact h1
   ·rw [z] at h1;exact h1
  rcases hx' with e | e
  ·exact go _ e (.inl Z)
  ·exact go _ e (.inr Z)
 ·rcases (hf b hb).2.2.2.1 with z | z
  ·exact ok.noex b o e z
  ·exact absurd (gP (Heap.lt_size e) (iV ok.bsz z)) (iI _)
 ·have f:=hf b hb;rcases gR.mp (I.stkSub b hs) with z | z
  ·exact f.2.1 z
  ·exact f.2.2.1 z
theorem Yi.inv (S:Yi X T js scope) {fS:List (fT × j5)} {σ:St} {H:Hp} {s:fW} {fp:List fT} {h':iC} {m:fZ->Option fV} {tk:Nat} (I:Inv X fS σ H s) (hf:∀ b ∈ fp,ZI X fS H b) (ho:∀ b ∈ fp,b < s.heap.objs.size)
  (hn:h'.Ns s.heap.objs.size m) (hk:∀ b o,s.heap.get? b=some o->h'.get? b=some o) :
  Inv (C5 X T js scope fp fS s H) [] (bL T js σ) H { s with heap:=h',toks:=tk }:=by
 have ok:=I.ok;refine ⟨S.ok I hf ho,Z,I.bare,Un.kept hk,⟨m,hn,λi x v h1 h2 h3=>?_⟩,λx c h=>?_,I.hok.fresh (gA _),λx c h=>I.freeC x c (S.cells ok h),λp hp=>?_,I.hok.kept hk,?_⟩
 ·have hi:T.length <= i:=by
   by_cases hi:i < T.length
   ·have h2:(T.map (λ_=>(none:Option V)) ++ js.map λj=>σ.getD j none)[i]? = some (some v):=h2;rw [gY (by simpa using hi),gE] at h2;cases e:T[i]? with
    | none=>rw [e] at h2;cases h2
    | some z=>rw [e] at h2;cases h2
   ·lia
  have h2:(T.map (λ_=>(none:Option V)) ++ js.map λj=>σ.getD j none)[i]? = some (some v):=h2;rw [gV (by simpa using hi),gE] at h2;have h1:(T ++ js.map λj=>X.N.getD j "")[i]? = some x:=h1;rw [gV hi,gE] at h1;rw [fU] at h2;cases e:js[i - T.length]? with
  | none=>rw [e] at h2;cases h2
  | some j=>
   rw [e] at h1 h2;have h1:X.N.getD j "" = x:=Option.some.inj h1;have h2:σ.getD j none=some v:=Option.some.inj h2;have hj:j ∈ js:=i7 e;have hσ:σ[j]? = some (some v):=by
    rw [fY] at h2;cases q:σ[j]? with
    | none=>rw [q] at h2;cases h2
    | some z=>rw [q] at h2;exact congrArg some h2
   have hjN:j < X.N.length:=by
    rw [<- I.len];exact (gK.mp hσ).1
   have hN:X.N[j]? = some x:=by
    rw [<- h1,fY,fX hjN];rfl
   have hkx:X.env.kindOf x=some .cell\/X.env.kindOf x=some .free:=by
    have:=S.free _ (S.caps j hj) Z;rw [h1] at this;exact this
   obtain ⟨m0,_,hl⟩:=I.loc;have vis:Vis X.env.scope x:=by
    rcases hkx with q | q
    ·exact .inr (.inl q)
    ·exact .inr (.inr q)
   obtain ⟨u,r,l⟩:=hl j x v hN hσ vis;refine ⟨u,r,.inr ⟨?_,?_⟩⟩
   ·have:=S.capk j hj;rw [h1] at this;exact this
   ·rcases l with ⟨q,_⟩ | ⟨_,c,hc,z⟩
    ·rcases hkx with z | z
     ·rw [z] at q;cases q
     ·rw [z] at q;cases q
    ·obtain ⟨c',hc'⟩:=GL (cells:=X.env.cells) (S.caps j hj);rw [h1] at hc';have e1:=S.cells ok hc';rw [hc] at e1;cases e1;obtain ⟨oc,hoc,hd⟩:=z;exact ⟨c,hc',oc,hk _ _ hoc,hd⟩
 ·obtain ⟨v,oc,hoc,hd⟩:=I.cell x c (S.cells ok h);exact ⟨v,oc,hk _ _ hoc,hd⟩
 ·have hp:p ∈ (X.pn ++ fS) ++ []:=hp;rw [jH] at hp;obtain ⟨e,n,ne,nf,d⟩:=I.pin p hp;refine ⟨hk _ _ e,n,iB (Heap.lt_size e),λhs=>?_,d⟩;rcases gR.mp (I.stkSub _ hs) with z | z
  ·exact ne z
  ·exact nf z
 ·simp
end
def PIf (X:Cx) (ifs:List i4) (t:TT):Prop:=
 ∀ (fS:List (fT × j5)) (s:fW) (σ:St) (H:Hp) (Q:Bool->Hp->Prop),Inv X fS σ H s->t σ H Q->gT (gW X.prog X.w) X.A (ifsRun ifs X.env) (TP X fS σ Q) X.xe s
def dJ:TT:=λ_ H Q=>Q true H
theorem CS {X:Cx}:PIf X [] dJ:=λfS s σ H Q I h=>wpAny_tests_nil ⟨H,I,h⟩
theorem QI {X:Cx} {c:i4} {t:TT} (hc:PT X c t):PIf X [c] t:=λfS s σ H Q I h=>wpAny_tests_one (hc fS s σ H Q I h)
def NZ (J:It) (p:fT) (Q:VK) (g:TG) (ti:TT) (te:TE) (σ0:St) (H0:Hp):Prop:=
 ∃ W:Nat->Nat->St->Hp->Prop,(∃ m,W 0 m σ0 H0) /\
 ∀ i m σ H,W i m σ H->(J.stop i H/\Q (.ref p) H)\/(J.go i H/\∃ N:St->Hp->Prop,(∀ σ' H',N σ' H'->∃ m',m' < m/\W (i+1) m' σ' H')/\∀ x H',J.yld i H x H'->g x σ H' λσ2 H2=>
  ti σ2 H2 λb H3=>if b=true then te σ2 H3 λv H4=>∃ xs,H4 p=some (.lst xs)/\xs.length < hJ/\N σ2 (upd H4 p (.lst (xs ++ [v]))) else N σ2 H3)
def tComp (T:List fZ) (js:List Nat) (wi:TI) (g:TG) (ti:TT) (te:TE):TE:=λσ H Q=>wi σ H λJ H1=>∀ p,H1 p=none->NZ J p Q g ti te (bL T js σ) (upd H1 p (.lst []))
section
variable {X:Cx} {T:List fZ} {js:List Nat} {scope:Scope} {elt tg iter:i4} {ifs:List i4} {wi:TI} {g:TG} {ti:TT} {te:TE} {pos:Pos}
theorem TD {fS:List (fT × j5)} {σ:St} {H1:Hp} {s2:fW} {Q:VK} {it:fT} {fp:List fT} {tn:Nat->iC->Prop} {J:It} {E:fV->fW->Prop} {RR:fV->fT->Result->fW->Prop}
  (hc:X.calm=true) (S:Yi X T js scope)
  (hb:∀ fp pl s H,PG (C5 X T js scope fp pl s H) tg g/\PIf (C5 X T js scope fp pl s H) ifs ti/\PE (C5 X T js scope fp pl s H) elt te)
  (I:Inv X fS σ H1 s2) (Tn:Turn X.prog X.w X.K tg J fp it tn) (st0:tn 0 s2.heap) (hf:∀ b ∈ fp,ZI X fS H1 b)
  (hq:∀ p,H1 p=none->NZ J p Q g ti te (bL T js σ) (upd H1 p (.lst [])))
  (hR:∀ (D C:fT) (s':fW) (H':Hp) (m:fZ->Option fV),Inv X fS σ H' s'->Q (.ref D) H'->s'.heap.Ns C m->H' C=none->C ≠ X.env.locals->X.s₀.heap.objs.size <= C->(∀ x c,X.env.cells.lookup x=some c->c ≠ C)->(∀ p ∈ X.pn ++ fS,p.1 ≠ C) ->
   RR (.ref D) C (.ok .next) s') :
  gT (gW X.prog X.w) X.A (newList []) (λacc s₃=>gT (gW X.prog X.w) X.A (newFunctionEnv scope X.env.globals (Jm scope.names X.env.cells) [] X.env.qual none .none (some X.env)) (λcenv s₄=>
   codeAny (gW X.prog X.w) X.A (.compStart (.ListComp elt [⟨tg,iter,ifs,0⟩] scope pos) 0 (.ref it) acc { cenv with scope:=relabel scope X.env }) (RR acc cenv.locals) s₄) E s₃) E s2:=by
 refine wpAny_newObj_type (wpAny_newFunctionEnv S.nocell (by intro y hy;simp at hy) (λh₁ hns₁ hsb₁=>?_) S.kind);dsimp only at hns₁ hsb₁ ⊢;have I2:=I.lnew (its:=[]) (ys:=[]) (t':=s2.toks) .nil (iG _);have hD:H1 s2.heap.objs.size=none:=I.fresh;obtain ⟨W,⟨m0,w0⟩,turn⟩:=hq s2.heap.objs.size hD;generalize hs3:({ s2 with heap:=s2.heap.push { cls:=.type "list",data:=.seq ([]:List fV).toArray },toks:=s2.toks }:fW)=s3 at I2;have hh3:s3.heap=s2.heap.push { cls:=.type "list",data:=.seq ([]:List fV).toArray }:=by rw [<- hs3]
 generalize hDD:s2.heap.objs.size=D at *;have hC:s3.heap.objs.size=D+1:=by rw [hh3,Heap.size_push,hDD]
 have ho:∀ b ∈ fp,b < D:=λb hb=>by
  obtain ⟨o,e,_⟩:=Tn.obj _ _ st0 b hb;rw [<- hDD];exact Heap.lt_size e
 have hf3:∀ b ∈ fp,ZI X fS (upd H1 D (.lst [])) b:=λb hb=>⟨by rw [Zk (iB (ho b hb))];exact (hf b hb).1,(hf b hb).2⟩;have ho3:∀ b ∈ fp,b < s3.heap.objs.size:=λb hb=>by rw [hC];exact Nat.lt_succ_of_lt (ho b hb)
 have kk:∀ b o,s3.heap.get? b=some o->h₁.get? b=some o:=λb o e=>hsb₁.extBut b o (by rw [<- hh3];exact iB (Heap.lt_size e)) (Heap.get?_push_of_some _ (by rw [<- hh3];exact e));obtain ⟨mC,hns⟩:∃ m,h₁.Ns s3.heap.objs.size m:=⟨_,by rw [hh3];exact hns₁⟩;have I3:=S.inv (tk:=s2.toks+([]:List (fZ × fV)).length) I2 hf3 ho3 hns kk;have Xc:∀ fp pl s H,(C5 X T js scope fp pl s H).calm=true:=λ_ _ _ _=>hc;obtain ⟨bG,bI,bE⟩:=hb fp fS s3 (upd H1 D (.lst []));have fpOk:∀ {H':Hp},(∀ b ∈ fp,H' b=none)->∀ b ∈ fp,ZI (C5 X T js scope fp fS s3 (upd H1 D (.lst []))) [] H' b:=λhn b hb=>by
  obtain ⟨f0,f1,f2,f3,f4,f5⟩:=hf3 b hb;refine ⟨hn b hb,iB (ho3 b hb),λhs=>?_,.inl hb,λx c h=>f4 x c (S.cells I.ok h),λp hp=>?_⟩
  ·rcases gR.mp (I2.stkSub _ hs) with z | z
   ·exact f1 z
   ·exact f2 z
  ·have hp:p ∈ (X.pn ++ fS) ++ []:=hp;rw [jH] at hp;exact f5 p hp
 have st3:tn 0 h₁:=Tn.keep _ _ _ st0 λb hb o e=>kk b o (by rw [hh3];exact Heap.get?_push_of_some _ e);have eEnv:({ newEnv scope (s2.heap.push { cls:=.type "list",data:=.seq ([]:List fV).toArray }).objs.size X.env.globals (Jm scope.names X.env.cells) X.env.qual none .none (some X.env) builtinsNs with scope:=relabel scope X.env }:Env)=compEnvC scope (Jm scope.names X.env.cells) s3.heap.objs.size X.env:=by
  rw [hh3];rfl
 have eC:(newEnv scope (s2.heap.push { cls:=.type "list",data:=.seq ([]:List fV).toArray }).objs.size X.env.globals (Jm scope.names X.env.cells) X.env.qual none .none (some X.env) builtinsNs).locals=s3.heap.objs.size:=by
  rw [hh3];rfl
 have nfin:∀ {s':fW} {σ':St} {H':Hp},Inv (C5 X T js scope fp fS s3 (upd H1 D (.lst []))) [] σ' H' s'->Q (.ref D) H'->RR (.ref D) s3.heap.objs.size (.ok .next) s':=λ{s' σ' H'} J' q=>by
  have I4:Inv X fS σ H' s':=I2.call' (ch:=fp) J'.os J'.base J'.hok J'.bare λb hb=>⟨(hf3 b hb).2.2.2.1,(hf3 b hb).2.1,(hf3 b hb).2.2.2.2.1,(hf3 b hb).2.2.2.2.2⟩;obtain ⟨m',hn',_⟩:=J'.loc;refine hR D s3.heap.objs.size s' H' m' I4 q hn' J'.free (Nat.ne_of_gt I2.lt) I2.sz (λx c h=>?_) (λp hp=>?_)
  ·obtain ⟨v,z⟩:=I2.cell x c h;exact iB z.lt
  ·exact iB (Heap.lt_size (I2.pin p hp).1)
 have loop:codeAny (gW X.prog X.w) X.A (.compLoop (.ListComp elt [⟨tg,iter,ifs,0⟩] scope pos) 0 (.ref it) (.ref D) (compEnvC scope (Jm scope.names X.env.cells) s3.heap.objs.size X.env)) (RR (.ref D) s3.heap.objs.size)
   { s3 with heap:=h₁,toks:=s2.toks+([]:List (fZ × fV)).length }:=by
  refine SJ (λn s'=>∃ i σ' H',Inv (C5 X T js scope fp fS s3 (upd H1 D (.lst []))) [] σ' H' s'/\tn i s'.heap/\(∀ b ∈ fp,H' b=none)/\W i n σ' H') ?_ m0 ⟨0,_,_,I3,st3,λb hb=>(hf3 b hb).1,w0⟩;rintro n s4 ⟨i,σ4,H4,I4,st4,fr4,w4⟩;rcases turn i n σ4 H4 w4 with ⟨stop,qn⟩ | ⟨go,N,hN,step⟩
  ·refine thn (Tn.done (C5 X T js scope fp fS s3 (upd H1 D (.lst []))) Z Z Z hc i [] s4 σ4 H4 NoX I4 (fpOk fr4) st4 stop) λr s5 ⟨hr,I5⟩=>?_;subst hr;exact nfin I5 qn
  ·refine thn (Tn.item (C5 X T js scope fp fS s3 (upd H1 D (.lst []))) Z Z Z hc i [] s4 σ4 H4 NoX I4 (fpOk fr4) st4 go) λr s5 ⟨u,hr,h5⟩=>?_;subst hr;refine thn h5 λ_ s6 ⟨x,H6,I6,r6,y6,st6,fr6⟩=>?_;have I6':=I6.pinned (fpOk fr6) (Tn.obj _ _ st6);refine thn (bG _ s6 σ4 H6 x u _ I6' r6 (step x H6 y6)) λ_ s7 ⟨σ7,H7,I7,q7⟩=>?_;refine thn (bI _ s7 σ7 H7 _ I7 q7) λok s8 ⟨H8,I8,q8⟩=>?_
   have again:∀ {s9:fW} {σ9:St} {H9:Hp},Inv (C5 X T js scope fp fS s3 (upd H1 D (.lst []))) ([] ++ SU fp s6.heap) σ9 H9 s9->N σ9 H9 ->
     ∃ m,m < n/\∃ i σ' H',Inv (C5 X T js scope fp fS s3 (upd H1 D (.lst []))) [] σ' H' s9/\tn i s9.heap/\(∀ b ∈ fp,H' b=none)/\W i m σ' H':=λ{s9 σ9 H9} I9 n9=>by
    obtain ⟨m',hm,w9⟩:=hN σ9 H9 n9;refine ⟨m',hm,i+1,σ9,H9,I9.unpinned,Tn.keep _ _ _ st6 λb hb o e=>(I9.pin (b,o) (iE _ (iE _ (GR hb e)))).1,λb hb=>?_,w9⟩;obtain ⟨o,e,d⟩:=Tn.obj _ _ st6 b hb;exact (I9.pin (b,o) (iE _ (iE _ (GR hb e)))).2.1
   cases ok with
   | false=>
    rw [if_neg gS] at q8 ⊢;exact again I8 q8
   | true=>
    rw [if_pos Z] at q8 ⊢;refine thn (bE _ s8 σ7 H8 _ I8 q8) λv s9 ⟨y,H9,I9,r9,q9⟩=>?_;obtain ⟨xs,hx,hz,q9⟩:=q9;refine thn (Yo _ s9 σ7 H9 (.ref D) [y] (.ref D) [v] (λ_ H10=>N σ7 H10) I9 Z (.cons r9 .nil) ⟨D,xs,y,Z,Z,hx,hz,q9⟩) λ_ s10 ⟨_,H10,I10,_,n10⟩=>?_;exact again I10 n10
 have es:({ s2 with heap:=h₁,toks:=s2.toks+([]:List (fZ × fV)).length }:fW) = { s3 with heap:=h₁,toks:=s2.toks+([]:List (fZ × fV)).length }:=by rw [<- hs3]
 rw [eEnv,eC,es];exact codeAny_compStart_list loop (Tn.self X.A 0 _ _ _ st3 loop)
theorem EB (hc:X.calm=true) (S:Yi X T js scope) (hi:PI X tg iter wi)
  (hb:∀ fp pl s H,PG (C5 X T js scope fp pl s H) tg g/\PIf (C5 X T js scope fp pl s H) ifs ti/\PE (C5 X T js scope fp pl s H) elt te)
  (hs:∀ x,foldedSetIterable iter X.env x=pure x:=by intro _;rfl):PE X (.ListComp elt [⟨tg,iter,ifs,0⟩] scope pos) (tComp T js wi g ti te):=by
 intro fS s σ H Q I h;rw [eval_ListComp];refine wpAny_comprehension_free (use:=none) (cl:=Jm scope.names X.env.cells) Z hs (FL λy hy hk=>I.ok.has y.1 (S.free y hy hk)) S.kind S.loc ?_;show gT (gW X.prog X.w) X.A (eval iter X.env) _ _ s;refine thn (hi fS s σ H _ I h) λv s1 h1=>thn h1 λitv s2 h2=>?_;obtain ⟨it,fp,tn,J,H2,e,I2,Tn,st2,f2,hq⟩:=h2;subst e;refine TD (E:=X.xe) (RR:=λacc C=>compPost (gW X.prog X.w) X.A X.xe none (EP X fS σ Q) acc C) hc S hb I2 Tn st2 f2 hq ?_;intro D C s' H' m I' q hn hC hCL hCs hCc hCp;refine ⟨m,hn,λh' hs'=>?_⟩;exact ⟨.ref D,H',I'.turned (t':=s'.toks) (λb o hb e=>hs'.extBut b o hb e) hC hCL (.inr hCs) hCc hCp,Z,q⟩
theorem HQ {i:Nat} {y:fZ} {py spos:Pos} (hc:X.calm=true) (hN:X.N.Nodup) (hyi:X.N[i]? = some y) (hy:X.env.scope.names.lookup y=some .local) (S:Yi X T js scope) (hi:PI X tg iter wi)
  (hb:∀ fp pl s H,PG (C5 X T js scope fp pl s H) tg g/\PIf (C5 X T js scope fp pl s H) ifs ti/\PE (C5 X T js scope fp pl s H) elt te)
  (hsw:swapsWith (.ListComp elt [⟨tg,iter,ifs,0⟩] scope pos) (some (.Name y py)) spos.line X.env=pure true:=by rfl)
  (hs:∀ x,foldedSetIterable iter X.env x=pure x:=by intro _;rfl):PS X (.Assign [.Name y py] (.ListComp elt [⟨tg,iter,ifs,0⟩] scope pos) spos) (tAsg (tComp T js wi g ti te) (FV i)):=by
 intro fS s σ H D I h;rw [exec_Assign_Name_used _ _ _ _ hsw];refine gQ (wpAny_standAt (gQ ?_));show gT _ X.A (do let _ <- comprehension (.ListComp elt [⟨tg,iter,ifs,0⟩] scope pos) scope X.env _ (newList []) false (eval iter X.env) (some (assign (.Name y py) X.env))) _ _ s
 refine gQ (wpAny_mono (wpAny_comprehension_free (use:=some (assign (.Name y py) X.env)) (cl:=Jm scope.names X.env.cells) (Q:=λ_ s'=>SP X fS D .next s') (E:=X.xe) Z hs (FL λy hy hk=>I.ok.has y.1 (S.free y hy hk)) S.kind S.loc ?_) (λ_ s' hq=>wpAny_pure (wpAny_pure hq)) λ_ _ e=>e);refine thn (hi fS s σ H _ I h) λv s1 h1=>thn h1 λitv s2 h2=>?_;obtain ⟨it,fp,tn,J,H2,e,I2,Tn,st2,f2,hq⟩:=h2;subst e;refine TD (E:=X.xe) (Q:=λx H1=>FV i x σ H1 D.nx) (RR:=λacc C=>compPost (gW X.prog X.w) X.A X.xe (some (assign (.Name y py) X.env)) (λ_ s'=>SP X fS D .next s') acc C) hc S hb I2 Tn st2 f2 hq ?_;intro Da C s' H' m I' q hn hC hCL hCs hCc hCp;show gT _ X.A (assign (.Name y py) X.env (.ref Da)) _ _ _;refine wpAny_assign_Name (SO I' hN hyi (.inl hy) (v:=.ref Da) Z (λs3 I3 hsb=>?_) (.inr hy));obtain ⟨a,hsb,ha⟩:=hsb;have haC:a ≠ C:=by
  rcases ha with z | z
  ·rw [z];exact Ne.symm hCL
  ·exact hCc _ _ z
 refine ⟨m,hn.sameBut hsb (Ne.symm haC),λh' hs'=>?_⟩;exact ⟨_,H',I3.turned (t':=s3.toks) (λb o hb e=>hs'.extBut b o hb e) hC hCL (.inr hCs) hCc hCp,q⟩
end
def Itd (hi:Int) (n:Nat):It:=⟨λi _=>i < n,λi H x H'=>H' = H/\x = .int (hi - i),λi _=>n <= i⟩
theorem US {P:gL} {w:gX} {K:PySem.W.Frag} {tg:i4} (it:fT) (hi:Int) (n:Nat):Turn P w K tg (Itd hi n) [it] it (λi h=>IsRangeIter h it (hi+(i:Nat) * (-1)) ((n:Int) - (i:Nat)) (-1)) where
 mem:=by simp
 obj:=λi h st b hb=>by
  have e:b=it:=by simpa using hb
  subst e;exact ⟨_,st,λv z=>by
   have z':Data.fields _=Data.cell v:=z;cases z'⟩
 keep:=λi h h' st k=>k it (by simp) _ st
 item:=by
  intro X hP hw hK hc i fS s σ H E I hf st hg;subst hP hw hK;obtain ⟨f0,f1,f2,f3,f4,f5⟩:=hf it (by simp);have W:=Walks.range (prog:=X.prog) (w:=X.w) (I.ok.hd hc) it hi (-1) n;refine W.item i s _ _ hg st λv h' tk hv st' kk=>?_;obtain ⟨t,rfl⟩:=hv;have I1:Inv X fS σ H { s with heap:=h',toks:=tk }:=I.turned (λb o hb e=>kk b o (by simpa using hb) e) f0 f1 f3 f4 f5;refine ⟨_,Z,dF (s:={ s with heap:=h',toks:=tk }) (n:="range_iterator") st' Z Z (by decide) ⟨.int (hi - i),H,I1,⟨t,?_⟩,⟨Z,Z⟩,st',λb hb=>(hf b hb).1⟩⟩;rw [show hi+(i:Int) * (-1)=hi - i by lia]
 done:=by
  intro X hP hw hK hc i fS s σ H E I hf st hg;subst hP hw hK;obtain ⟨f0,f1,f2,f3,f4,f5⟩:=hf it (by simp);exact wpAny_pyNext_range_end (I.ok.hd hc) st (by have:n <= i:=hg;lia) λh' eb=>⟨Z,I.turned (t':=s.toks) (λb o hb e=>eb b o hb e) f0 f1 f3 f4 f5⟩
 self:=λ_ _ _ _ _ st h=>wpAny_pyIter_rangeiter st h
theorem HG (a b:Int):Builtin.Range.rangeSize a b (-1)=(((a - b).toNat:Nat):Int):=by
 unfold Builtin.Range.rangeSize;rw [if_neg (by decide)];split
 ·rw [show -(-1:Int)=1 by decide,Int.ediv_one];lia
 ·lia
theorem YB {a b:Int} (ha:-(2 ^ 62) <= a) (ha':a < 2 ^ 62) (hb:-(2 ^ 62) <= b) (hb':b < 2 ^ 62):Builtin.Range.small a b (-1)=true:=by
 unfold Builtin.Range.small;rw [HG];simp only [Builtin.Range.rangeFitsLong,kJ,Bool.or_eq_true,decide_eq_true_eq,beq_iff_eq,show ¬ ((-1:Int) > 0) by decide,if_false]
 lia
section
variable {X:Cx} {tg:i4}
theorem eJ {fS:List (fT × j5)} {σ:St} {H:Hp} {s:fW} {R:It->Hp->Prop} {E:fV->fW->Prop} {lo hi:Int} {t u v:Tok} {tk:Nat} (I:Inv X fS σ H s) (h1:-(2 ^ 62) <= lo) (h2:lo < 2 ^ 62) (h3:-(2 ^ 62) <= hi) (h4:hi < 2 ^ 62)
  (q:R (Itd lo (lo - hi).toNat) H):gT (gW X.prog X.w) X.A (pyIter (.ref s.heap.objs.size)) (PIE X fS σ tg R) E { s with heap:=s.heap.push { cls:=.type "range",data:=.fields #[.int lo t,.int hi u,.int (-1) v] },toks:=tk }:=by
 refine wpAny_pyIter_range (IsRange.new ..) (YB h1 h2 h3 h4) ?_;have I1:Inv X fS σ H { s with heap:=s.heap.push { cls:=.type "range",data:=.fields #[.int lo t,.int hi u,.int (-1) v] },toks:=tk }:=I.kept λb o e=>Heap.get?_push_of_some _ e
 refine ⟨(s.heap.push { cls:=.type "range",data:=.fields #[.int lo t,.int hi u,.int (-1) v] }).objs.size,[(s.heap.push { cls:=.type "range",data:=.fields #[.int lo t,.int hi u,.int (-1) v] }).objs.size],_,_,H,Z, I1.kept (t':=tk) λb o e=>Heap.get?_push_of_some _ e,US _ lo (lo - hi).toNat,?_,λb hb=>?_,q⟩
 ·have e1:lo+((0:Nat):Int) * (-1)=lo:=by simp
  have e2:(((lo - hi).toNat:Nat):Int) - ((0:Nat):Int)=Builtin.Range.rangeSize lo hi (-1):=by rw [HG];simp
  show IsRangeIter _ _ (lo+((0:Nat):Int) * (-1)) ((((lo - hi).toNat:Nat):Int) - ((0:Nat):Int)) (-1);rw [e1,e2];exact Heap.get?_push_size _ Z
 ·have e:b=(s.heap.push { cls:=.type "range",data:=.fields #[.int lo t,.int hi u,.int (-1) v] }).objs.size:=by simpa using hb
  subst e;exact I1.fpOk (gA _) (I1.hok.fresh (gA _))
def iRngD (ta:TA):TI:=λσ H R=>ta σ H λvs H1=>E2 λ(i j:Int)=>vs=[.int i,.int j,.int (-1)]/\(-(2 ^ 62) <= i/\i < 2 ^ 62/\-(2 ^ 62) <= j/\j < 2 ^ 62)/\R (Itd i (i - j).toNat) H1
theorem SQ {a b c:i4} {ta:TA} {p pos:Pos} (hg:Gl X "range") (hm:X.mg "range" = none) (ha:PA X [a,b,c] ta) (hs:gB [a,b,c] X.env=[(false,eval a X.env),(false,eval b X.env),(false,eval c X.env)]:=by rfl)
  (hs2:gB [b,c] X.env=[(false,eval b X.env),(false,eval c X.env)]:=by rfl) :
  PI X tg (.Call (.Name "range" p) [a,b,c] [] pos) (iRngD ta):=by
 intro fS s σ H R I h;refine Call_ (HH I hg hm boot_range (PyProof.Rows.callWith_type1 (thn (ha pos fS s σ H _ I h) λus s1 ⟨vs,H1,I1,r1,q1⟩=>?_) (by rw [hs,hs2]) (by rw [hs2];rfl)));obtain ⟨i,j,e,⟨q1,q2,q3,q4⟩,q⟩:=q1;subst e;cases r1 with
 | cons r rr=>
  cases rr with
  | cons r' rr=>
   cases rr with
   | cons r'' rr=>
    cases rr;obtain ⟨t,rfl⟩:=r;obtain ⟨t',rfl⟩:=r';obtain ⟨t'',rfl⟩:=r'';exact call_range_3 (by decide) (eJ I1 q1 q2 q3 q4 q) (.inl (PyProof.noPylong_small (by decide)))
end
theorem OQ {hi:Int} {n:Nat} {g:TG} {tb:TS} {D:OR} {σ:St} {H:Hp} (Pv:Nat->St->Hp->Prop) (h0:Pv 0 σ H)
  (hs:∀ i σ H,i < n->Pv i σ H->g (.int (hi - i)) σ H λσ2 H2=>tb { D with nx:=Pv (i+1),ct:=Pv (i+1),bk:=D.nx } σ2 H2) (hd:∀ σ H,Pv n σ H->D.nx σ H) :
  ∃ W:Nat->Nat->St->Hp->Prop,(∃ m,W 0 m σ H)/\∀ i m σ H,W i m σ H ->
   ((Itd hi n).stop i H/\D.nx σ H)\/((Itd hi n).go i H/\∃ N:St->Hp->Prop,(∀ σ' H',N σ' H'->∃ m',m' < m/\W (i+1) m' σ' H')/\∀ x H',(Itd hi n).yld i H x H'->g x σ H' λσ2 H2=>tb { D with nx:=N,ct:=N,bk:=D.nx } σ2 H2):=by
 refine ⟨λi m σ H=>m=n - i/\i <= n/\Pv i σ H,⟨n,by simp,iG _,h0⟩,?_⟩;rintro i m σ H ⟨rfl,hi',p⟩;by_cases hlt:i < n
 ·refine .inr ⟨hlt,Pv (i+1),λσ' H' p'=>⟨n - (i+1),by lia,Z,hlt,p'⟩,λx H' y=>?_⟩;obtain ⟨e,y⟩:=y;subst e y;exact hs i σ _ hlt p
 ·have e:i=n:=by lia
  subst e;exact .inl ⟨gA _,hd σ H p⟩
def Itz (K : PySem.W.Frag) (a b : fT) : It :=
  ⟨λi H => E4 λxs ys x y => SqL K H a xs /\ SqL K H b ys /\ xs[i]? = some x /\ ys[i]? = some y,
   λi H v H' => E3 λt x y => v = .ref t /\ H t = none /\ H' = upd H t (.tup [x, y]) /\ (∀ xs, SqL K H a xs -> xs[i]? = some x) /\ ∀ ys, SqL K H b ys -> ys[i]? = some y,
   λi H => E2 λxs ys => SqL K H a xs /\ SqL K H b ys /\ (xs.length <= i \/ ys.length <= i)⟩
theorem Inv.turnedL {X:Cx} {fS:List (fT × j5)} {σ:St} {H:Hp} {s:fW} {h':iC} {t':Nat} {ch:List fT} (I:Inv X fS σ H s) (hch:∀ b ∈ ch,ZI X fS H b)
  (k:∀ b o,b ∉ ch->s.heap.get? b=some o->h'.get? b=some o):Inv X fS σ H { s with heap:=h',toks:=t' }:=by
 have nit:∀ b u,H b=some u->b ∉ ch:=λb u e z=>by rw [(hch b z).1] at e;cases e
 refine I.step (g':=s.gens) (d':=s.drawn) (ch:=ch) (λb hb=>?_) (λb o _ _ hc e _=>k b o hc e) (λb o _ _ hc e _=>⟨o.slots,k b o hc e⟩) (λ_ _ _ _ n=>n) (λb o hc e=>⟨o,k b o hc e⟩) (λ_ _ e=>e) (λ_ _ _ e=>e) (λb ps e=>⟨#[],by rw [e];simp⟩) (λm hm=>?_) (λb u e=>?_) I.bare
 ·obtain ⟨f0,f1,f2,f3,f4,f5⟩:=hch b hb;exact ⟨f3,f1,f4,f5⟩
 ·obtain ⟨o,es,ep,ho,r⟩:=hm;exact ⟨o,es,ep,k _ o (λz=>(hch _ z).2.1 Z) ho,r⟩
 ·refine (I.hok b u e).stay (λc v hc q=>k c v ?_ q) (λ_ q=>q) λ_ _ q=>q;rcases hc with z | z
  ·rw [z];exact nit b u e
  ·exact nit c _ z
theorem SqL.ne {X:Cx} {fS:List (fT × j5)} {σ:St} {H:Hp} {s:fW} {a b:fT} {xs:List V} {o:j5} {n:String} (I:Inv X fS σ H s) (h:SqL X.K H a xs) (e:s.heap.get? b=some o) (hc:o.cls = .type n) (hn:n ≠ "list"):a ≠ b:=by
 rintro rfl;obtain ⟨its,r,⟨o',n',e',c',_,_⟩,_⟩:=I.list h;rw [e] at e';cases e';rw [hc] at c';cases c';exact hn Z
structure ZipSt (z TI TO i1 i2 a b:fT) (i:Nat) (h:iC):Prop where
 hz:IsZip h z TI TO .none
 hTI:IsPair h TI (.ref i1) (.ref i2)
 hTO:∃ x y,IsPair h TO x y
 h1:h.IsListIter i1 a i
 h2:h.IsListIter i2 b i
structure ZipNe (z TI TO i1 i2:fT):Prop where
 TIz:TI ≠ z
 TOz:TO ≠ z
 i1z:i1 ≠ z
 i2z:i2 ≠ z
 TITO:TI ≠ TO
 TIi1:TI ≠ i1
 TIi2:TI ≠ i2
 TOi1:TO ≠ i1
 TOi2:TO ≠ i2
 i12:i1 ≠ i2
theorem turn_zip {P:gL} {w:gX} {K:PySem.W.Frag} {es:List i4} {k:Nat} {tp:Pos} (z TI TO i1 i2 a b:fT) (N:ZipNe z TI TO i1 i2) :
  Turn P w K (.Tuple es k tp) (Itz K a b) [z,TI,TO,i1,i2] z (ZipSt z TI TO i1 i2 a b) where
 mem:=by simp
 obj:=λi h st c hc=>by
  obtain ⟨x,y,hTO⟩:=st.hTO;obtain ⟨o1,e1,c1,d1⟩:=st.h1;obtain ⟨o2,e2,c2,d2⟩:=st.h2;have hc:c=z\/c=TI\/c=TO\/c=i1\/c=i2:=by simpa using hc
  rcases hc with rfl | rfl | rfl | rfl | rfl
  ·exact ⟨_,st.hz,λv q=>by have q':Data.fields _=Data.cell v:=q;cases q'⟩
  ·exact ⟨_,st.hTI,λv q=>by have q':Data.seq _ _=Data.cell v:=q;cases q'⟩
  ·exact ⟨_,hTO,λv q=>by have q':Data.seq _ _=Data.cell v:=q;cases q'⟩
  ·exact ⟨_,e1,λv q=>by rw [d1] at q;cases q⟩
  ·exact ⟨_,e2,λv q=>by rw [d2] at q;cases q⟩
 keep:=λi h h' st k=>by
  obtain ⟨x,y,hTO⟩:=st.hTO;exact ⟨k z (by simp) _ st.hz,k TI (by simp) _ st.hTI,⟨x,y,k TO (by simp) _ hTO⟩,st.h1.at λo e=>k i1 (by simp) o e,st.h2.at λo e=>k i2 (by simp) o e⟩
 item:=by
  intro X hP hw hK hc i fS s σ H E I hf st hg;subst hP hw hK;obtain ⟨xs,ys,x,y,hqa,hqb,hx,hy⟩:=hg;obtain ⟨its,rv,p,hz⟩:=I.list hqa;obtain ⟨jts,rw',q,hz'⟩:=I.list hqb;obtain ⟨u,hu,ru⟩:=rv.get hx;obtain ⟨v,hv,rv'⟩:=rw'.get hy;obtain ⟨x0,y0,hTO⟩:=st.hTO;obtain ⟨o1,e1,c1,d1⟩:=id st.h1;obtain ⟨o2,e2,c2,d2⟩:=id st.h2
  have D:ZipApart z TI TO i1 i2 a b:=⟨N.TIz,N.TOz,N.i1z,N.i2z,N.TITO,N.TIi1,N.TIi2,N.TOi1,N.TOi2,N.i12,SqL.ne I hqa st.hz Z (by decide),SqL.ne I hqa hTO Z (by decide),SqL.ne I hqa e1 c1 (by decide),SqL.ne I hqa e2 c2 (by decide), SqL.ne I hqb st.hz Z (by decide),SqL.ne I hqb hTO Z (by decide),SqL.ne I hqb e1 c1 (by decide),SqL.ne I hqb e2 c2 (by decide)⟩;refine wpAny_pyNext_zip_item D st.hz st.hTI hTO st.h1 st.h2 p.isList q.isList (x:=u) (y:=v) (by simpa using hu) (by simpa using hv) λh' a1 a2 a3 a4 a5 a6 kk=>?_;have lt:∀ {c:fT} {o:j5},s.heap.get? c=some o->c ≠ s.heap.objs.size:=λe=>iB (Heap.lt_size e);refine ⟨_,Z,wpAny_letOwnedTupleGo_zip a1 λh'' hz'' hs''=>?_⟩;have hfr:H s.heap.objs.size=none:=I.fresh;have I1:Inv X fS σ H { s with heap:=h'',toks:=s.toks }:=I.turnedL (t':=s.toks) (ch:=[z,TI,TO,i1,i2]) hf λc o hc e=>by
   simp only [gR,iQ,or_false,not_or] at hc;exact hs''.extBut c o hc.1 (kk c o hc.1 hc.2.2.1 hc.2.2.2.1 hc.2.2.2.2 e)
  have hT:h''.get? s.heap.objs.size=some { cls:=.type "tuple",data:=.seq #[u,v] }:=hs''.extBut _ _ (Ne.symm (lt st.hz)) a5;have hsz:h''.objs.size=s.heap.objs.size+1:=by rw [hs''.1,a6]
  have I2:Inv X fS σ (upd H s.heap.objs.size (.tup [x,y])) { s with heap:=h'',toks:=s.toks }:=by
   refine I.step (g':=s.gens) (d':=s.drawn) (ch:=[z,TI,TO,i1,i2]) (λc hc=>⟨(hf c hc).2.2.2.1,(hf c hc).2.1,(hf c hc).2.2.2.2.1,(hf c hc).2.2.2.2.2⟩) (λc o _ _ hc e _=>?_) (λc o _ _ hc e _=>⟨o.slots,?_⟩) (λc o _ e n=>by rw [Zk (lt e)];exact n) (λc o hc e=>⟨o,?_⟩) (λc ts e=>by rw [Zk (Zf e hfr)];exact e) (λc o ts e=>by rw [Zk (Zf e hfr)];exact e) (λc ps e=>⟨#[],by rw [Zk (Zf e hfr),e];simp⟩) (λm hm=>?_) (λc o e=>?_) I.bare
   ·simp only [gR,iQ,or_false,not_or] at hc;exact hs''.extBut c o hc.1 (kk c o hc.1 hc.2.2.1 hc.2.2.2.1 hc.2.2.2.2 e)
   ·simp only [gR,iQ,or_false,not_or] at hc;exact hs''.extBut c o hc.1 (kk c o hc.1 hc.2.2.1 hc.2.2.2.1 hc.2.2.2.2 e)
   ·simp only [gR,iQ,or_false,not_or] at hc;exact hs''.extBut c o hc.1 (kk c o hc.1 hc.2.2.1 hc.2.2.2.1 hc.2.2.2.2 e)
   ·obtain ⟨o,es',ep,ho,r⟩:=hm;have nl:=λc (hc:c ∈ [z,TI,TO,i1,i2])=>(hf c hc).2.1;exact ⟨o,es',ep,hs''.extBut _ _ (Ne.symm (nl z (by simp))) (kk _ o (Ne.symm (nl z (by simp))) (Ne.symm (nl TO (by simp))) (Ne.symm (nl i1 (by simp))) (Ne.symm (nl i2 (by simp))) ho),r⟩
   ·by_cases hc:c=s.heap.objs.size
    ·subst hc;rw [Zb] at e;cases e;exact ⟨by show 2 <= hJ;decide,[u,v],.cons ru (.cons rv' .nil),⟨_,hT,Z,_,Z⟩⟩
    ·rw [Zk hc] at e;have:=I1.hok c o e;exact this.stay (λd o' _ q=>q) (λd q=>by rw [Zk (Zf q hfr)];exact q) λd ts q=>by rw [Zk (Zf q hfr)];exact q
  refine ⟨.ref s.heap.objs.size,upd H s.heap.objs.size (.tup [x,y]),I2,Z,⟨_,x,y,Z,hfr,Z,λxs' hx'=>?_,λys' hy'=>?_⟩,?_,λc hc=>?_⟩
  ·rw [I.list_inj hx' hqa];exact hx
  ·rw [I.list_inj hy' hqb];exact hy
  ·exact ⟨hz'',hs''.extBut _ _ N.TIz (kk _ _ N.TIz N.TITO N.TIi1 N.TIi2 st.hTI),⟨_,_,hs''.extBut _ _ N.TOz a2⟩,a3.extBut hs''.extBut N.i1z,a4.extBut hs''.extBut N.i2z⟩
  ·have hne:c ≠ s.heap.objs.size:=by
    have hc:c=z\/c=TI\/c=TO\/c=i1\/c=i2:=by simpa using hc
    rcases hc with rfl | rfl | rfl | rfl | rfl
    ·exact lt st.hz
    ·exact lt st.hTI
    ·exact lt hTO
    ·exact lt e1
    ·exact lt e2
   rw [Zk hne];exact (hf c hc).1
 done:=by
  intro X hP hw hK hc i fS s σ H E I hf st hg;subst hP hw hK;obtain ⟨xs,ys,hqa,hqb,hx⟩:=hg;obtain ⟨its,rv,p,hz⟩:=I.list hqa;obtain ⟨jts,rw',q,hz'⟩:=I.list hqb;obtain ⟨x0,y0,hTO⟩:=st.hTO;obtain ⟨o1,e1,c1,d1⟩:=id st.h1;obtain ⟨o2,e2,c2,d2⟩:=id st.h2
  have D:ZipApart z TI TO i1 i2 a b:=⟨N.TIz,N.TOz,N.i1z,N.i2z,N.TITO,N.TIi1,N.TIi2,N.TOi1,N.TOi2,N.i12,SqL.ne I hqa st.hz Z (by decide),SqL.ne I hqa hTO Z (by decide),SqL.ne I hqa e1 c1 (by decide),SqL.ne I hqa e2 c2 (by decide), SqL.ne I hqb st.hz Z (by decide),SqL.ne I hqb hTO Z (by decide),SqL.ne I hqb e1 c1 (by decide),SqL.ne I hqb e2 c2 (by decide)⟩;have l1:=rv.length;have l2:=rw'.length
  refine wpAny_pyNext_zip_end (I.ok.hd hc) D st.hz st.hTI hTO st.h1 st.h2 p.isList q.isList (by
   rcases hx with hx | hx
   ·exact .inl (by simp;lia)
   ·exact .inr (by simp;lia)) λh' kk=>⟨Z,I.turnedL (t':=s.toks) (ch:=[z,TI,TO,i1,i2]) hf λc o hc e=>?_⟩
  simp only [gR,iQ,or_false,not_or] at hc;exact kk c o hc.1 hc.2.2.1 hc.2.2.2.1 hc.2.2.2.2 e
 self:=λ_ _ _ _ _ st h=>wpAny_pyIter_zip st.hz h
section
variable {X:Cx} {es:List i4} {k:Nat} {tp:Pos}
def iZip (K:PySem.W.Frag) (ta:TA):TI:=λσ H R=>ta σ H λvs H1=>E2 λa b=>vs=[.ref a,.ref b]/\(∃ xs,SqL K H1 a xs)/\(∃ ys,SqL K H1 b ys)/\R (Itz K a b) H1
theorem NN {a b:i4} {ta:TA} {p pos:Pos} (hg:Gl X "zip") (hm:X.mg "zip" = none) (ha:PA X [a,b] ta) (hs:gB [a,b] X.env=[(false,eval a X.env),(false,eval b X.env)]:=by rfl) (hs2:gB [b] X.env=[(false,eval b X.env)]:=by rfl)
  (hv:bootBuiltins "zip" = some (.type "zip"):=by first | rfl | decide +kernel) :
  PI X (.Tuple es k tp) (.Call (.Name "zip" p) [a,b] [] pos) (iZip X.K ta):=by
 intro fS s σ H R I h;refine Call_ (HH I hg hm hv (PyProof.Rows.callWith_type1 (thn (ha pos fS s σ H _ I h) λus s1 ⟨vs,H1,I1,r1,q1⟩=>?_) (by rw [hs,hs2]) (by rw [hs2];rfl)));obtain ⟨a,b,e,⟨xs,hqa⟩,⟨ys,hqb⟩,q⟩:=q1;subst e;obtain ⟨u,v,rfl,ru,rv⟩:=r1.two;obtain rfl:u=Value.ref a:=ru;obtain rfl:v=Value.ref b:=rv;obtain ⟨its,rvx,p1,hz⟩:=I1.list hqa;obtain ⟨jts,rwx,p2,hz'⟩:=I1.list hqb;refine call_zip_2 p1.isList p2.isList λh' a1 a2 a3 a4 a5 a6 kk=>?_;refine wpAny_pyIter_zip (s:={ s1 with heap:=h' }) a1 ?_;have I2:Inv X fS σ H1 { s1 with heap:=h' }:=I1.kept (t':=s1.toks) kk;refine ⟨s1.heap.objs.size+4,[s1.heap.objs.size+4,s1.heap.objs.size+2,s1.heap.objs.size+3,s1.heap.objs.size,s1.heap.objs.size+1],_,_,H1,Z,I2,turn_zip (s1.heap.objs.size+4) (s1.heap.objs.size+2) (s1.heap.objs.size+3) s1.heap.objs.size (s1.heap.objs.size+1) a b ?_,⟨a1,a2,⟨_,_,a3⟩,a4,a5⟩,λc hc=>?_,q⟩
 ·refine ⟨?_,?_,?_,?_,?_,?_,?_,?_,?_,?_⟩ <;> (show (_:Nat) ≠ _;lia)
 ·have hge:s1.heap.objs.size <= c:=by
   simp only [gR,iQ,or_false] at hc;rcases hc with rfl | rfl | rfl | rfl | rfl
   ·exact l9 _ _
   ·exact l9 _ _
   ·exact l9 _ _
   ·exact gA _
   ·exact l9 _ _
  exact I1.fpOk hge (I1.hok.fresh hge)
end
section
variable {prog:gL} {w:gX} {A:iD} {E:fV->fW->Prop}
theorem TL {it l:fT} {items:Array fV} (hne:l ≠ it):∀ (n i:Nat) (s:fW) (Q:List fV->fW->Prop),s.heap.IsListIter it l i->s.heap.IsList l items->i+n <= items.size ->
  (∀ h',h'.IsListIter it l (i+n)->Heap.SameBut it s.heap h'->Q ((items.toList.drop i).take n) { s with heap:=h' })->gT (gW prog w) A (draw (.ref it) n) Q E s
 | 0,i,s,Q,hit,_,_,hQ=>by
  show gT _ _ (pure []) Q E s;exact wpAny_pure (by simpa using hQ s.heap hit (Heap.SameBut.refl ..))
 | n+1,i,s,Q,hit,ht,hle,hQ=>by
  have hlt:i < items.size:=by lia
  show gT _ _ (pyNext (.ref it) >>= _) Q E s;refine gQ (wpAny_pyNext_list_item hit ht (x:=items[i]) (by simp [hlt]) λh₁ hit₁ hs₁=>?_);refine gQ (wpAny_holding (TL hne n (i+1) _ _ hit₁ (ht.extBut hs₁.extBut hne) (by lia) λh₂ hit₂ hs₂=>wpAny_pure ?_));have hd:items.toList.drop i=items[i] :: items.toList.drop (i+1):=by simp [List.drop_eq_getElem_cons,hlt]
  have:=hQ h₂ (by rw [show i+(n+1)=i+1+n by lia];exact hit₂) (hs₁.trans hs₂);rw [hd,List.take_succ_cons] at this;exact this
theorem LK {s:fW} {l:fT} {items:Array fV} {Q:List fV->fW->Prop} (hh:A.handled=none) (ht:s.heap.IsList l items)
  (hQ:∀ h',Heap.ExtBut s.heap.objs.size s.heap h'->Q items.toList { s with heap:=h' }):gT (gW prog w) A (unpackItems (.ref l) items.size none) Q E s:=by
 have hlt:l ≠ s.heap.objs.size:=by obtain ⟨o,ho,_⟩:=ht;exact iB (Heap.lt_size ho)
 unfold unpackItems;refine gQ ?_;unfold notIterableAtAll;refine gQ (wpAny_specialOf ht.typeIs slot_list_iter.lookup ?_);refine wpAny_pure ?_;simp only [lI,if_false];refine gQ (wpAny_holding (wpAny_pyIter_list ht ?_));refine gQ (wpAny_holding (TL hlt items.size 0 _ _ ⟨_,Heap.get?_push_size _ Z,Z,Z⟩ (ht.push _) (by lia) λh₁ hit₁ hs₁=>?_));have hall:List.take items.size (List.drop 0 items.toList)=items.toList:=by
  rw [List.drop_zero];exact iJ (by simp)
 rw [hall];rw [if_neg (by simp)];have ht₁:h₁.IsList l items:=(ht.push _).extBut hs₁.extBut hlt;refine gQ (wpAny_holding (wpAny_pyNext_list_end hh hit₁ ht₁ (by simp) λh₂ he₂=>?_));simp only [Option.isSome_none,lI,if_false];refine wpAny_pure (hQ h₂ λb o hb e=>he₂ b o hb (hs₁.extBut b o hb (Heap.get?_push_of_some _ e)))
end
section
variable {X:Cx} {pos:Pos}
def gTupL (K:PySem.W.Frag) (n:Nat) (t:TGs):TG:=λv σ H Q=>E2 λa xs=>v = .ref a/\SqL K H a xs/\xs.length=n/\t xs σ H Q
theorem pg_tupL {es:List i4} {k:Nat} {t:TGs} {n:Nat} (hc:X.calm=true) (h:PGs X es t)
    (hn:(assignEach es X.env).length=n:=by rfl) (hst:(assignEach es X.env).findIdx? (·.1)=none:=by rfl):PG X (.Tuple es k pos) (gTupL X.K n t):=by
  intro fS s σ H v u Q I r hw;obtain ⟨a,xs,e1,hq,hl,hw⟩:=hw;subst e1;cases r;obtain ⟨its,rv,ht,hz⟩:=I.list hq;rw [assign_Tuple];refine gQ (wpAny_standAt ?_);unfold unpack;have e:(assignEach es X.env).length=its.toArray.size:=by simp [hn,<- hl,rv.length]
  rw [e,hst];refine gQ (wpAny_holding (LK (I.ok.hd hc) ht.isList λh' hx=>?_));have I1:Inv X fS σ H { s with heap:=h' }:=I.kept (t':=s.toks) λb o e=>hx b o (iB (Heap.lt_size e)) e;exact h fS _ σ H xs _ Q I1 (by simpa using rv) hw
end
section
variable {X:Cx}
theorem VG:KJ X (.builtin "isinstance") (λxs H Q=>∃ x c t b,xs=[x,c]/\X8 X.K H x t/\((∃ T,c = .ty T/\i5 X.K t (.type T)=some b)\/∃ C,c = .ref C/\i5 X.K t (.ref C)=some b)/\Q (.bl b) H):=by
 intro fS s σ H xs us Q I r h;obtain ⟨x,c,t,b,rfl,ty,hk,q⟩:=h;obtain ⟨u,v,rfl,ru,rv⟩:=r.two;rcases hk with ⟨T,rfl,hk⟩ | ⟨C,rfl,hk⟩
 ·cases (show v=Value.type T from rv);exact TX I ru ty hk λtk=>⟨.bl b,H,I.tok tk,Z,q⟩
 ·cases (show v=Value.ref C from rv);exact TX I ru ty hk λtk=>⟨.bl b,H,I.tok tk,Z,q⟩
end
theorem kit_ii (K:PySem.W.Frag):i5 K (.type "int") (.type "int")=some true:=by
 unfold i5;rw [if_pos D9_]
theorem kit_ll (K:PySem.W.Frag):i5 K (.type "list") (.type "list")=some true:=by
 unfold i5;rw [if_pos D9_]
theorem O7 (K:PySem.W.Frag):i5 K (.type "tuple") (.type "tuple")=some true:=by
 unfold i5;rw [if_pos D9_]
theorem kit_bb (K:PySem.W.Frag):i5 K (.type "bool") (.type "bool")=some true:=by
 unfold i5;rw [if_pos D9_]
theorem kit_ib (K:PySem.W.Frag):i5 K (.type "int") (.type "bool")=some false:=by
 unfold i5 PySem.W.kitCls;rw [if_neg D9_];show (if PySem.W.kitMeta "bool" = true then PySem.W.subIn K (.type "int") (.type "bool") else none)=some false;rw [if_pos D9_]
 first | rfl | decide +kernel
abbrev CompOkP (outer:List (fZ × iO)) (N:List fZ) (js:List Nat) (scope:Scope):Prop:=
 scope.kind = .function/\(∀ y ∈ scope.names,y.2 ≠ .cell)/\(∀ y ∈ scope.names,y.2 = .local->scope.names.lookup y.1=some .local) /\
 (∀ y ∈ scope.names,y.2 = .free->outer.lookup y.1=some .cell\/outer.lookup y.1=some .free) /\
 (∀ j ∈ js,(N.getD j "",NameKind.free) ∈ scope.names) /\
 ∀ j ∈ js,(scope.names.map λ(y:fZ × iO)=>if (y.2 == NameKind.free && outer.lookup y.1 == some .cell)=true then (y.1,NameKind.cell) else (y.1,y.2)).lookup (N.getD j "")=some .cell \/
  (scope.names.map λ(y:fZ × iO)=>if (y.2 == NameKind.free && outer.lookup y.1 == some .cell)=true then (y.1,NameKind.cell) else (y.1,y.2)).lookup (N.getD j "")=some .free
theorem Yi.of {X:Cx} {T:List fZ} {js:List Nat} {scope:Scope} (outer:List (fZ × iO)) (N:List fZ) (h1:X.env.scope.names=outer) (hk:X.env.scope.kind = .function) (h2:X.N=N) (h:CompOkP outer N js scope):Yi X T js scope:=by
 obtain ⟨a,b,c,d,e,f⟩:=h;subst h1 h2;refine ⟨a,b,c,d,e,λj hj=>?_⟩;have z:(compEnvC scope (Jm scope.names X.env.cells) 0 X.env).kindOf (X.N.getD j "")=(scope.names.map λ(y:fZ × iO)=>if (y.2 == NameKind.free && X.env.scope.names.lookup y.1 == some .cell)=true then (y.1,NameKind.cell) else (y.1,y.2)).lookup (X.N.getD j ""):=by
  show (scope.names.map λ(n,k)=>if (k == NameKind.free && X.env.scope.kind == .function && X.env.kindOf n == some .cell) then (n,NameKind.cell) else (n,k)).lookup (X.N.getD j "")=_;rw [hk];congr 1;refine lF λy _=>?_;obtain ⟨n,k⟩:=y;show (if (k == NameKind.free && (ScopeKind.function == ScopeKind.function) && X.env.kindOf n == some NameKind.cell)=true then _ else _)=_;rw [show (ScopeKind.function == ScopeKind.function)=true from rfl,Bool.and_true];rfl
 rw [z];exact f j hj
structure Ok (P:gL) (w:gX) (K:PySem.W.Frag) (mg:fZ->Option fV) (base:iC) (x:fZ) (ps:List fZ) (k:Nat) (sp:Sp):Prop where
 ex:∃ f fd,Ym P w K mg base CX0 k f fd ps sp/\B9 K fd ps []/\mg x=some (.ref f)/\jT K (.ref f)=true
section
variable {X:Cx} {k j:Nat} {ps:List fZ} {sp:Sp} {x:fZ} {p pos:Pos} {e:i4} {es:List i4} {t:TA}
theorem Zg (O:Ok X.prog X.w X.K X.mg X.base x ps k sp) (hr:DC j X.A) (ha:PA X (e :: es) t) (hg:Gl X x:=by rfl) (hj:k <= j:=by decide) (hdb:(x == ("__debug__":fZ))=false:=by decide) (he:gB (e :: es) X.env=(false,eval e X.env) :: gB es X.env:=by rfl) (hpl:(backTo pos (gB es X.env)).any (·.1)=false:=by rfl) :
    PE X (.Call (.Name x p) (e :: es) [] pos) (tCall sp [] E0 t):=by
  obtain ⟨f,fd,F,b,m,kp⟩:=O.ex;exact dU F (hr.mono hj) hg m kp b .nil pass0 ha hdb he hpl
end
section
variable {X:Cx} {p pos:Pos} {a b:i4} {ta tb:TE} {t:TA}
theorem Zy (hm:X.mg "len" = none) (ha:PE X a ta) (hg:Gl X "len":=by rfl) (hs:gB [a] X.env=(false,eval a X.env) :: gB [] X.env:=by rfl):PE X (.Call (.Name "len" p) [a] [] pos) (tCB (λxs H Q=>∃ p ys,xs=[.ref p]/\(SqL X.K H p ys\/SqT X.K H p ys)/\Q (.int ys.length) H) (Yw ta IV)):=
 DU UF hg hm D9_ (Zo ha Jh hs) (by decide) (by decide) hs Z
theorem BB (hm:X.mg "isinstance" = none) (ha:PE X a ta) (hb:PE X b tb) (hg:Gl X "isinstance":=by rfl) (hs:gB [a,b] X.env=(false,eval a X.env) :: gB [b] X.env:=by rfl) (hs2:gB [b] X.env=(false,eval b X.env) :: gB [] X.env:=by rfl) :
  PE X (.Call (.Name "isinstance" p) [a,b] [] pos) (tCB (λxs H Q=>∃ x c t b,xs=[x,c]/\X8 X.K H x t/\((∃ T,c = .ty T/\i5 X.K t (.type T)=some b)\/∃ C,c = .ref C/\i5 X.K t (.ref C)=some b)/\Q (.bl b) H) (Yw ta (Yw tb IV))):=
 DU VG hg hm D9_ (Zo ha (Zo hb Jh hs2) hs) (by decide) (by decide) hs (by rw [hs2];rfl)
theorem O6 (hc:X.calm=true) (hm:X.mg "min" = none) (ha:PE X a ta) (hb:PE X b tb) (hg:Gl X "min":=by rfl) (hs:gB [a,b] X.env=(false,eval a X.env) :: gB [b] X.env:=by rfl) (hs2:gB [b] X.env=(false,eval b X.env) :: gB [] X.env:=by rfl) :
  PE X (.Call (.Name "min" p) [a,b] [] pos) (tCB (λxs H Q=>∃ i j,xs=[.int i,.int j]/\Q (.int (if j < i then j else i)) H) (Yw ta (Yw tb IV))):=
 DU (dM hc) hg hm D9_ (Zo ha (Zo hb Jh hs2) hs) (by decide) (by decide) hs (by rw [hs2];rfl)
theorem P6 (hc:X.calm=true) (hm:X.mg "max" = none) (ha:PE X a ta) (hb:PE X b tb) (hg:Gl X "max":=by rfl) (hs:gB [a,b] X.env=(false,eval a X.env) :: gB [b] X.env:=by rfl) (hs2:gB [b] X.env=(false,eval b X.env) :: gB [] X.env:=by rfl) :
  PE X (.Call (.Name "max" p) [a,b] [] pos) (tCB (λxs H Q=>∃ i j,xs=[.int i,.int j]/\Q (.int (if i < j then j else i)) H) (Yw ta (Yw tb IV))):=
 DU (eU hc) hg hm D9_ (Zo ha (Zo hb Jh hs2) hs) (by decide) (by decide) hs (by rw [hs2];rfl)
theorem Jo (hm:X.mg "list" = none) (ha:PE X a ta) (hg:Gl X "list":=by rfl) (hs:gB [a] X.env=(false,eval a X.env) :: gB [] X.env:=by rfl):PE X (.Call (.Name "list" p) [a] [] pos) (tCB (λxs H Q=>∃ p ys,xs=[.ref p]/\(SqL X.K H p ys\/SqT X.K H p ys)/\∀ l,H l=none->Q (.ref l) (upd H l (.lst ys))) (Yw ta IV)):=
 AR TM hg hm D9_ (Zo ha Jh hs) (by decide) (by decide) hs Z
theorem LJ {T:String} {x:fZ} (hm:X.mg x=none) (hg:Gl X x:=by rfl) (hv:bootBuiltins x=some (.type T):=by first | rfl | decide +kernel) (hn:x ≠ "__name__":=by decide) (hd:(x == ("__debug__":fZ))=false:=by decide):PE X (.Name x pos) (tC (.ty T)):=pe_bltn hg hm hv Z hn hd
end
section
variable {X:Cx} {p pos:Pos} {a b:i4} {ta tb:TE} {t:TA}
theorem JX (K:PySem.W.Frag) (h:X.K=K:=by rfl):IxR X (rIxL K):=h ▸ VU
theorem MJ (K:PySem.W.Frag) (h:X.K=K:=by rfl):IxR X (rIxT K):=h ▸ fI
theorem XR (K:PySem.W.Frag) (h:X.K=K:=by rfl):OpR X (compareOp .In) (rIn K false):=h ▸ SI
theorem N1 (K:PySem.W.Frag) {es:List i4} {k:Nat} {t:TGs} {n:Nat} (hc:X.calm=true) (hp:PGs X es t) (h:X.K=K:=by rfl)
    (hn:(assignEach es X.env).length=n:=by rfl) (hst:(assignEach es X.env).findIdx? (·.1)=none:=by rfl):PG X (.Tuple es k pos) (gTup K n t):=by
  subst h;exact WA hc hp hn hst
end
abbrev bR (p:fT) (g:TG) (ti:TT) (te:TE) (x:V) (N:St->Hp->Prop) (σ:St) (H:Hp):Prop:=
 g x σ H λσ2 H2=>ti σ2 H2 λb H3=>if b=true then te σ2 H3 λv H4=>∃ xs,H4 p=some (.lst xs)/\xs.length < hJ/\N σ2 (upd H4 p (.lst (xs ++ [v]))) else N σ2 H3
section
variable {p:fT} {Q:VK} {g:TG} {ti:TT} {te:TE} {σ0:St} {H0:Hp}
theorem EI {lo:Int} {n:Nat} (Pv:Nat->St->Hp->Prop) (h0:Pv 0 σ0 H0) (hs:∀ i σ H,i < n->Pv i σ H->bR p g ti te (.int (lo+i)) (Pv (i+1)) σ H) (hd:∀ σ H,Pv n σ H->Q (.ref p) H):NZ (Itr lo n) p Q g ti te σ0 H0:=by
 unfold NZ;refine ⟨λi m σ H=>m=n - i/\i <= n/\Pv i σ H,⟨n,by simp,iG _,h0⟩,?_⟩;rintro i m σ H ⟨rfl,hi',q⟩;by_cases hlt:i < n
 ·refine .inr ⟨hlt,Pv (i+1),λσ' H' p'=>⟨n - (i+1),by lia,Z,hlt,p'⟩,λx H' y=>?_⟩;obtain ⟨e,y⟩:=y;subst e y;exact hs i σ _ hlt q
 ·have e:i=n:=by lia
  subst e;exact .inl ⟨gA _,hd σ H q⟩
theorem EH {K:PySem.W.Frag} {a:fT} {xs:List V} (Pv:Nat->St->Hp->Prop) (h0:Pv 0 σ0 H0) (hl:∀ i σ H,i <= xs.length->Pv i σ H->SqL K H a xs)
  (hs:∀ i x σ H,xs[i]? = some x->Pv i σ H->bR p g ti te x (Pv (i+1)) σ H) (hd:∀ σ H,Pv xs.length σ H->Q (.ref p) H):NZ (Itl K a) p Q g ti te σ0 H0:=by
 unfold NZ;refine ⟨λi m σ H=>m=xs.length - i/\i <= xs.length/\Pv i σ H,⟨xs.length,by simp,iG _,h0⟩,?_⟩;rintro i m σ H ⟨rfl,hi,q⟩;have q':=hl i σ H hi q;by_cases hlt:i < xs.length
 ·refine .inr ⟨⟨xs,xs[i],q',by simp [hlt]⟩,Pv (i+1),λσ' H' p'=>⟨xs.length - (i+1),by lia,Z,hlt,p'⟩,λx H' y=>?_⟩;obtain ⟨e,y⟩:=y;subst e;exact hs i x σ _ (y xs q') q
 ·have e:i=xs.length:=by lia
  subst e;exact .inl ⟨⟨xs,q',gA _⟩,hd σ H q⟩
theorem XH {K:PySem.W.Frag} {a b:fT} {xs ys:List V} (hxy:xs.length=ys.length) (Pv:Nat->St->Hp->Prop) (h0:Pv 0 σ0 H0) (hl:∀ i σ H,i <= xs.length->Pv i σ H->SqL K H a xs/\SqL K H b ys)
  (hs:∀ i x y t σ H,xs[i]? = some x->ys[i]? = some y->Pv i σ H->H t=none->bR p g ti te (.ref t) (Pv (i+1)) σ (upd H t (.tup [x,y]))) (hd:∀ σ H,Pv xs.length σ H->Q (.ref p) H):NZ (Itz K a b) p Q g ti te σ0 H0:=by
 unfold NZ;refine ⟨λi m σ H=>m=xs.length - i/\i <= xs.length/\Pv i σ H,⟨xs.length,by simp,iG _,h0⟩,?_⟩;rintro i m σ H ⟨rfl,hi,q⟩;obtain ⟨q1,q2⟩:=hl i σ H hi q;by_cases hlt:i < xs.length
 ·refine .inr ⟨⟨xs,ys,xs[i],ys[i]'(by lia),q1,q2,by simp [hlt],by simp [show i < ys.length by lia]⟩,Pv (i+1),λσ' H' p'=>⟨xs.length - (i+1),by lia,Z,hlt,p'⟩,λx H' y=>?_⟩;obtain ⟨t,u,v,rfl,ht,rfl,y1,y2⟩:=y;exact hs i u v t σ H (y1 xs q1) (y2 ys q2) q ht
 ·have e:i=xs.length:=by lia
  subst e;exact .inl ⟨⟨xs,ys,q1,q2,.inl (gA _)⟩,hd σ H q⟩
end
theorem DN {p:fT} {te:TE} {x:V} {N:St->Hp->Prop} {σ:St} {H:Hp} {i:Nat} (h:te (σ.set i (some x)) H λv H4=>∃ xs,H4 p=some (.lst xs)/\xs.length < hJ/\N (σ.set i (some x)) (upd H4 p (.lst (xs ++ [v])))):bR p (FV i) dJ te x N σ H:=by
 show (if true=true then (te (σ.set i (some x)) H λv H4=>∃ xs,H4 p=some (.lst xs)/\xs.length < hJ/\N (σ.set i (some x)) (upd H4 p (.lst (xs ++ [v])))) else N (σ.set i (some x)) H);rw [if_pos Z];exact h
theorem SX {K:PySem.W.Frag} {p t:fT} {te:TE} {x y:V} {N:St->Hp->Prop} {σ:St} {H:Hp} {i j:Nat} (ht:SqT K H t [x,y])
  (h:te ((σ.set i (some x)).set j (some y)) H λv H4=>∃ xs,H4 p=some (.lst xs)/\xs.length < hJ/\N ((σ.set i (some x)).set j (some y)) (upd H4 p (.lst (xs ++ [v])))):bR p (gTup K 2 (fA (FV i) (fA (FV j) gNil))) dJ te (.ref t) N σ H:=by
 refine ⟨t,[x,y],Z,ht,Z,x,[y],Z,y,[],Z,Z,?_⟩;show (if true=true then (te ((σ.set i (some x)).set j (some y)) H λv H4=>∃ xs,H4 p=some (.lst xs)/\xs.length < hJ/\N ((σ.set i (some x)).set j (some y)) (upd H4 p (.lst (xs ++ [v])))) else N ((σ.set i (some x)).set j (some y)) H);rw [if_pos Z];exact h
theorem E1 {t r:TS} {D:OR} {σ:St} {H:Hp} (M:St->Hp->Prop) (h:∀ nx:St->Hp->Prop,(∀ σ' H',M σ' H'->nx σ' H')->t { D with nx:=nx } σ H) (hr:∀ σ' H',M σ' H'->r D σ' H'):tSeq t r D σ H:=h _ hr
theorem Same.upd {H:Hp} {p:fT} {o:HO} (h:H p=none):Same H (upd H p o):=λb u e=>by rw [Zk (Zf e h)];exact e
theorem Same.tup {K:PySem.W.Frag} {H H':Hp} {a:fT} {xs:List V} (e:Same H H') (h:SqT K H a xs):SqT K H' a xs:=by
 rcases h with (h | ⟨o,h⟩) | h
 ·exact .inl (.inl (e _ _ h))
 ·exact .inl (.inr ⟨o,e _ _ h⟩)
 ·exact .inr h
theorem SqL.upd {K:PySem.W.Frag} {H:Hp} {a p:fT} {o:HO} {xs:List V} (h:SqL K H a xs) (hp:H p=none):SqL K (L2.upd H p o) a xs:=(Same.upd hp).seq h
theorem getI {ns:List Int} {i:Nat} (h:i < ns.length):(ns.map V.int)[i]? = some (.int (ns.getD i 0)):=by
 rw [gE,fX h,fY,fX h];rfl
theorem Yz {ns:List Int} {i:Nat} (h:i < ns.length):atI (ns.map V.int) (i:Int)=some (.int (ns.getD i 0)):=AT (getI h)
theorem BQ {ns:List Int} {i:Nat} {x:V} (h:(ns.map V.int)[i]? = some x):i < ns.length/\x = .int (ns.getD i 0):=by
 have hi:i < ns.length:=by simpa using (gK.mp h).1
 rw [getI hi] at h;exact ⟨hi,(Option.some.inj h).symm⟩
theorem Js {n:Nat} (h:n <= 100000):n < hJ:=Nat.lt_of_le_of_lt h (by decide)
theorem E9 {n:Nat} (h:n <= 100000):n <= hJ:=l6 (Js h)
end L2
namespace Tf
open PySem L2
structure NY (fQ fR:List Int):Prop where
 len:fR.length=fQ.length
 lo:1 <= fQ.length
 hi:fQ.length <= 50
 need:∀ i,i < fQ.length->1 <= fQ.getD i 0/\fQ.getD i 0 <= 200
 heat:∀ i,i < fQ.length->0 <= fR.getD i 0/\fR.getD i 0 <= fQ.getD i 0
theorem take_map_succ {β:Type} {f:Int->β} {fs:List Int} {i:Nat} (h:i < fs.length):(fs.take (i+1)).map f=(fs.take i).map f ++ [f (fs.getD i 0)]:=by
 rw [List.take_add_one,fX h,gO,fY,fX h];rfl
theorem HF {β:Type} {f:Nat->β} {i:Nat}:(i9 (i+1)).map f=(i9 i).map f ++ [f i]:=by
 rw [kF,gO];rfl
theorem getD_map {f:Int->Int} {fs:List Int} {i:Nat} (h:i < fs.length):(fs.map f).getD i 0=f (fs.getD i 0):=by
 simp [fY,gE,fX h]
theorem CC {f:Nat->Int} {n i:Nat} (h:i < n):((i9 n).map f).getD i 0=f i:=by
 simp [fY,gE,lG h]
theorem getD_mem {fs:List Int} {i:Nat} (h:i < fs.length):fs.getD i 0 ∈ fs:=by
 rw [fY,fX h];exact List.getElem_mem h
theorem FI {xs ys:List Int} (hl:xs.length=ys.length) (h:∀ i,i < xs.length->xs.getD i 0=ys.getD i 0):xs=ys:=by
 refine jA hl λi h1 h2=>?_;have:=h i h1;rw [fY,fY,fX h1,fX h2] at this;exact this
theorem WQ (z m:Int) (hm:0 < m):∃ n:Nat,1+z % m=(n:Int)/\1 <= n/\(n:Int) <= m:=by
 have h1:=gM z (show m ≠ 0 by lia);have h2:=gC z hm;exact ⟨(1+z % m).toNat,by lia,by lia,by lia⟩
theorem sIx_lo {n:Nat} {i:Int} (h0:0 <= i) (h1:i <= n) (d:Nat):HT.sIx n d (some i)=i.toNat:=by
 simp only [HT.sIx];rw [if_neg (by lia)]
 lia
theorem cut_take {xs:List V} {k:Nat} (h:k <= xs.length):DD xs none (some (k:Int))=xs.take k:=by
 unfold DD;rw [sIx_lo (by lia) (by lia)];simp [HT.sIx]
theorem cut_drop {xs:List V} {k:Nat} (h:k <= xs.length):DD xs (some (k:Int)) none=xs.drop k:=by
 unfold DD;rw [sIx_lo (by lia) (by lia)];simp only [HT.sIx,kX];rw [iJ];simp
def AD (fQ fR:List Int) (n:Nat):List Int:=((i9 n).filter λi=>decide (fR.getD i 0=fQ.getD i 0)).map λi=>((i:Nat):Int)+1
theorem FH (fQ fR:List Int) (n:Nat):(AD fQ fR n).length <= n:=by
 unfold AD;rw [fU];exact iV (kG _ _) (by simp)
theorem MC {fQ fR:List Int} {n:Nat} (h:fR.getD n 0=fQ.getD n 0):AD fQ fR (n+1)=AD fQ fR n ++ [(n:Int)+1]:=by
 unfold AD;rw [kF,jJ,gO,List.filter_cons_of_pos (by simpa using h)];rfl
theorem OW {fQ fR:List Int} {n:Nat} (h:¬ fR.getD n 0=fQ.getD n 0):AD fQ fR (n+1)=AD fQ fR n:=by
 unfold AD;rw [kF,jJ,gO,List.filter_cons_of_neg (by simpa using h)];simp
structure K7 (fQ fR:List Int) (f:Nat):Prop where
 le:f <= fQ.length
 eq:∀ i,i < fQ.length->fQ.length - f <= i->fR.getD i 0=fQ.getD i 0
 ne:f < fQ.length->fR.getD (fQ.length - f - 1) 0 ≠ fQ.getD (fQ.length - f - 1) 0
end Tf
namespace L2
open PySem PySem.Spec PyProof.Rows
section
variable {X:Cx} {p pos:Pos} {a b:i4} {ta tb:TE}
theorem call_sum (hc:X.calm=true):KJ X (.builtin "sum") (λvs H Q=>∃ (p:fT) (ns:List Int),vs=[.ref p]/\SqL X.K H p (ns.map V.int)/\Q (.int ns.sum) H):=by
 intro fS s σ H vs us Q I r h;obtain ⟨p,ns,rfl,hq,q⟩:=h;obtain ⟨u,rfl,rx⟩:=r.one;cases rx;obtain ⟨its,rv,pl,hz⟩:=I.list hq;have hi:=OB rv
 have key:∀ items:Array fV,s.heap.IsList p items->AllInts items->(∀ h' tk t',(∀ b o,s.heap.get? b=some o->h'.get? b=some o)->EP X fS σ Q (.int (numsOf items.toList).sum t') { s with heap:=h',toks:=tk }) ->
   gT (gW X.prog X.w) X.A (call (.builtin "sum") [.ref p]) (EP X fS σ Q) X.xe s:=λitems hl hall h=>by
  obtain ⟨xs,rfl⟩:=hall.items;rw [nums_intItems] at h;refine sum_intListG (I.ok.hd hc) hl λh' tk t' hk=>?_;have:=h h' tk t' hk;rw [preSum_eq,iJ (by simp)];exact this
 refine key its.toArray pl.isList hi.allInts λh' tk t' hk=>?_;rw [show its.toArray.toList=its from rfl,hi.numsOf];exact ⟨.int ns.sum,H,I.kept hk,⟨_,Z⟩,q⟩
theorem D0 (hc:X.calm=true) (hm:X.mg "sum" = none) (ha:PE X a ta) (hg:Gl X "sum":=by rfl) (hs:gB [a] X.env=(false,eval a X.env) :: gB [] X.env:=by rfl):PE X (.Call (.Name "sum" p) [a] [] pos) (tCB (λvs H Q=>∃ (p:fT) (ns:List Int),vs=[.ref p]/\SqL X.K H p (ns.map V.int)/\Q (.int ns.sum) H) (Yw ta IV)):=
 DU (call_sum hc) hg hm D9_ (Zo ha Jh hs) (by decide) (by decide) hs Z
theorem AJ {x:fZ} {i:Int} (h:∃ t,X.mg x=some (.int i t)) (hg:Gl X x:=by rfl) (hd:(x == ("__debug__":fZ))=false:=by decide):PE X (.Name x pos) (tC (.int i)):=by
 obtain ⟨t,h⟩:=h;exact cC hg h ⟨t,Z⟩ hd
end
theorem Same.set {H H2:Hp} {p:fT} {o:HO} (s:Same H H2) (hp:H p=none):Same H (L2.upd H2 p o):=λb u e=>by rw [Zk (Zf e hp)];exact s b u e
theorem D6 {K:PySem.W.Frag} {a b p:fT} {Q:VK} {te:TE} {xs ys:List Int} {H1:Hp} {caps:St} (f:Int->Int->Int) (hl:xs.length=ys.length) (hz:xs.length <= 1000) (hA:SqL K H1 a (xs.map V.int)) (hB:SqL K H1 b (ys.map V.int)) (hp:H1 p=none)
  (ht:∀ (x y:Int) (H:Hp) (Q':VK),Q' (.int (f x y)) H->te (some (.int x) :: some (.int y) :: caps) H Q')
  (q:∀ H',Same H1 H'->H' p=some (.lst ((jU f xs ys).map V.int))->Q (.ref p) H') :
  NZ (Itz K a b) p Q (gTup K 2 (fA (FV 0) (fA (FV 1) gNil))) dJ te (none :: none :: caps) (upd H1 p (.lst [])):=by
 refine XH (xs:=xs.map V.int) (ys:=ys.map V.int) (by simpa using hl) (λi σ H2=>(∃ v w,σ=v :: w :: caps)/\Same H1 H2/\H2 p=some (.lst (((jU f xs ys).take i).map V.int))) ?_ ?_ ?_ ?_
 ·exact ⟨⟨_,_,Z⟩,Same.upd hp,by rw [kB];exact Zb⟩
 ·rintro i σ H2 _ ⟨_,s2,_⟩;exact ⟨s2.seq hA,s2.seq hB⟩
 ·rintro i x y t σ H2 hx hy ⟨⟨v,w,rfl⟩,s2,h2⟩ ft;obtain ⟨hi,rfl⟩:=BQ hx;obtain ⟨hi',rfl⟩:=BQ hy;refine SX (SqT.of Zb) (ht _ _ _ _ ?_);have npt:p ≠ t:=Zf h2 ft;refine ⟨_,by rw [Zk npt];exact h2,Js (by rw [fU,iH];lia),⟨_,_,Z⟩,(s2.trans (Same.upd ft)).set hp,?_⟩;rw [Zb];have hlt:i < (jU f xs ys).length:=by rw [jZ];lia
  have e:(jU f xs ys).getD i 0=f (xs.getD i 0) (ys.getD i 0):=by
   simp only [fY,List.getElem?_zipWith,fX hi,fX hi',Option.getD_some]
  rw [Tf.take_map_succ (f:=V.int) hlt,e]
 ·rintro σ H2 ⟨_,s2,h2⟩;rw [fU,iJ (by rw [jZ];lia)] at h2;exact q H2 s2 h2
end L2
namespace Tf
open PySem L2
def Jb (rs:List Int) (a:Int) (i:Nat):Int:=max 0 (a - (rs.drop i).sum)
def Yy (rs:List Int) (a:Int) (i:Nat):Int:=min (Jb rs a (i+1)) (rs.getD i 0)
theorem W9 {rs:List Int} {i:Nat} (h:i < rs.length):(rs.drop i).sum=rs.getD i 0+(rs.drop (i+1)).sum:=by
 rw [List.drop_eq_getElem_cons h,lM,fY,fX h];rfl
theorem YO {rs:List Int} {a:Int} {n:Nat} (h:rs.length <= n) (ha:0 <= a):Jb rs a n=a:=by
 unfold Jb;rw [kT h,List.sum_nil];lia
theorem QA (rs:List Int) (a:Int) (i:Nat):0 <= Jb rs a i:=by unfold Jb;lia
theorem HR {rs:List Int} {a:Int} {i:Nat} (h:i < rs.length) (h0:0 <= rs.getD i 0):Jb rs a i=Jb rs a (i+1) - Yy rs a i:=by
 unfold Yy Jb;rw [W9 h];lia
theorem GG {rs:List Int} {a:Int} {i:Nat} (h0:0 <= rs.getD i 0):0 <= Yy rs a i/\Yy rs a i <= rs.getD i 0:=by
 have:=QA rs a (i+1);unfold Yy;lia
def IM (rs:List Int) (a:Int):List Int:=(i9 rs.length).map (Yy rs a)
theorem DB (rs:List Int) (a:Int):(IM rs a).length=rs.length:=by unfold IM;simp
theorem U3 {rs:List Int} {a:Int} {i:Nat} (h:i < rs.length):(IM rs a).getD i 0=Yy rs a i:=by unfold IM;exact CC h
def HM (fQ fR:List Int):List Int:=jU (λn h=>n - h) fQ fR
def U1 (fQ fR:List Int) (a:Int):List Int:=jU (λh s=>h+s) fR (IM (HM fQ fR) a)
def SB (fR:List Int) (a:Int):List Int:=jU (λh s=>h - s) fR (IM fR a)
theorem FZ {f:Int->Int->Int} {xs ys:List Int} {i:Nat} (h1:i < xs.length) (h2:i < ys.length):(jU f xs ys).getD i 0=f (xs.getD i 0) (ys.getD i 0):=by
 simp only [fY,List.getElem?_zipWith,fX h1,fX h2,Option.getD_some]
theorem AM {fQ fR:List Int} (h:fR.length=fQ.length):(HM fQ fR).length=fQ.length:=by unfold HM;rw [jZ];lia
theorem GV {fQ fR:List Int} (h:fR.length=fQ.length) {i:Nat} (hi:i < fQ.length):(HM fQ fR).getD i 0=fQ.getD i 0 - fR.getD i 0:=FZ hi (by lia)
theorem NK {fQ fR:List Int} {a:Int} (h:fR.length=fQ.length):(U1 fQ fR a).length=fQ.length:=by unfold U1;rw [jZ,DB,AM h];lia
theorem PM {fQ fR:List Int} {a:Int} (h:fR.length=fQ.length) {i:Nat} (hi:i < fQ.length):(U1 fQ fR a).getD i 0=fR.getD i 0+Yy (HM fQ fR) a i:=by
 unfold U1;rw [FZ (by lia) (by rw [DB,AM h];exact hi),U3 (by rw [AM h];exact hi)]
theorem NC {fR:List Int} {a:Int}:(SB fR a).length=fR.length:=by unfold SB;rw [jZ,DB];lia
theorem PU {fR:List Int} {a:Int} {i:Nat} (hi:i < fR.length):(SB fR a).getD i 0=fR.getD i 0 - Yy fR a i:=by
 unfold SB;rw [FZ hi (by rw [DB];exact hi),U3 hi]
theorem cX {n k:Nat} {f:Nat->Int} {v:Int}:((i9 n).map f).set k v=(i9 n).map λi=>if i=k then v else f i:=by
 refine jA (by simp) λi h1 h2=>?_;rw [List.getElem_set];simp only [kA,jK];by_cases h:k=i
 ·rw [if_pos h,if_pos h.symm]
 ·rw [if_neg h,if_neg (Ne.symm h)]
theorem YY (xs:List Int):xs=(i9 xs.length).map λi=>xs.getD i 0:=
 FI (by simp) λi hi=>by rw [CC hi]
theorem HY {n:Nat} {f g:Nat->Int} (h:∀ i,i < n->f i=g i):(i9 n).map f=(i9 n).map g:=
 lF λi hi=>h i (kI.mp hi)
theorem setI {xs:List Int} {k:Nat} {v:Int}:(xs.map V.int).set k (.int v)=(xs.set k v).map V.int:=by rw [lJ]
theorem KA:∀ {xs:List Int},(∀ x ∈ xs,1 <= x/\x <= 200)->(xs.length:Int) <= xs.sum/\xs.sum <= 200 * (xs.length:Int)
 | [],_=>by simp
 | x :: xs,h=>by
  have h1:=h x gU;have h2:=KA (xs:=xs) λy hy=>h y (gD _ hy);rw [lM,iN]
  lia
theorem mem_getD {xs:List Int} {x:Int} (h:x ∈ xs):∃ i,i < xs.length/\xs.getD i 0=x:=by
 obtain ⟨i,hi,e⟩:=List.mem_iff_getElem.mp h;exact ⟨i,hi,by rw [fY,fX hi];exact e⟩
theorem NY.sum {fQ fR:List Int} (B:NY fQ fR):1 <= fQ.sum/\fQ.sum <= 10000:=by
 have h:=KA (xs:=fQ) λx hx=>by
  obtain ⟨i,hi,e⟩:=mem_getD hx;rw [<- e];exact B.need i hi
 have h1:=B.lo;have h2:=B.hi
 lia
end Tf
namespace L2
open PySem
theorem upd_self {H:Hp} {b:fT} {o:HO} (h:H b=some o):upd H b o=H:=by
 funext c;by_cases e:c=b
 ·rw [e,Zb,h]
 ·rw [Zk e]
theorem SqL.off {K:PySem.W.Frag} {H:Hp} {a b:fT} {o:HO} {xs:List V} (h:SqL K H a xs) (n:a ≠ b):SqL K (L2.upd H b o) a xs:=by
 rcases h with (h | ⟨o',h⟩) | h
 ·exact .inl (.inl (by rw [Zk n];exact h))
 ·exact .inl (.inr ⟨o',by rw [Zk n];exact h⟩)
 ·exact .inr h
theorem KC {n k:Nat} (h:k < n):ixN n (k:Int)=some k:=by
 unfold ixN;rw [if_pos (by lia),if_pos (by lia),kX]
end L2
namespace L2
open PySem PySem.Spec PyProof.Rows
theorem AK.at {xs:List V} {us:List fV} (r:AK xs us) {j:Nat} (h:j < us.length):∃ x,xs[j]? = some x/\AW x us[j]:=by
 have hx:j < xs.length:=by rw [r.length];exact h
 obtain ⟨u,e,ru⟩:=r.get (fX hx);rw [fX h] at e;exact ⟨_,fX hx,by rw [Option.some.inj e];exact ru⟩
end L2
namespace Tf
open PySem L2
def AX (b:Bool):fZ:=if b=true then "warm" else "cold"
theorem EG (b:Bool):decide (V.str (AX b)=V.str "warm")=b:=by
 cases b
 ·exact decide_eq_false (λh=>absurd (V.str.inj h) D9_)
 ·exact D7_ Z
theorem GJ (b:Bool):decide (V.str (AX b)=V.str "cold") = !b:=by
 cases b
 ·exact D7_ Z
 ·exact decide_eq_false (λh=>absurd (V.str.inj h) D9_)
structure Zu (H:Hp) (ts:List fT) (ss:List (Bool × Int)):Prop where
 len:ts.length=ss.length
 at':∀ (i:Nat) (z:Bool × Int),ss[i]? = some z->∃ t,ts[i]? = some t/\H t=some (.tup [.str (AX z.1),.int z.2])
theorem Zu.same {H H':Hp} {ts:List fT} {ss:List (Bool × Int)} (S:Zu H ts ss) (h:Same H H'):Zu H' ts ss:=
 ⟨S.len,λi z e=>let ⟨t,e1,e2⟩:=S.at' i z e;⟨t,e1,h _ _ e2⟩⟩
theorem Zu.nil (H:Hp):Zu H [] []:=⟨Z,λi z e=>by simp at e⟩
theorem Zu.snoc {H:Hp} {ts:List fT} {ss:List (Bool × Int)} (S:Zu H ts ss) {t:fT} {z:Bool × Int} (h:H t=some (.tup [.str (AX z.1),.int z.2])):Zu H (ts ++ [t]) (ss ++ [z]):=by
 refine ⟨by simp [S.len],λi y e=>?_⟩;by_cases hi:i < ss.length
 ·rw [gY hi] at e;obtain ⟨t',e1,e2⟩:=S.at' i y e;exact ⟨t',by rw [gY (by rw [S.len];exact hi)];exact e1,e2⟩
 ·rw [gV (by lia)] at e;have hi0:i - ss.length=0:=by
   have:=(gK.mp e).1;simp at this
   lia
  rw [hi0] at e;have e:z=y:=by simpa using e
  subst e;refine ⟨t,?_,h⟩;rw [gV (by rw [S.len];lia),S.len,hi0];rfl
structure Zr (fQ fR:List Int):Prop where
 len:fR.length=fQ.length
 lo:∀ i,i < fQ.length->0 <= fR.getD i 0
 hi:∀ i,i < fQ.length->fR.getD i 0 <= fQ.getD i 0
theorem NY.ok {fQ fR:List Int} (B:NY fQ fR):Zr fQ fR:=⟨B.len,λi h=>(B.heat i h).1,λi h=>(B.heat i h).2⟩
theorem Zr.rooms0 {fQ fR:List Int} (h:Zr fQ fR):∀ i,i < (HM fQ fR).length->0 <= (HM fQ fR).getD i 0:=λi hi=>by
 rw [AM h.len] at hi;rw [GV h.len hi];have:=h.hi i hi
 lia
theorem Zr.warm {fQ fR:List Int} (h:Zr fQ fR) (m:Int):Zr fQ (U1 fQ fR m):=by
 refine ⟨NK h.len,λi hi=>?_,λi hi=>?_⟩
 all_goals
  rw [PM h.len hi];have b:=GG (a:=m) (h.rooms0 i (by rw [AM h.len];exact hi));rw [GV h.len hi] at b;have:=h.lo i hi
  lia
theorem Zr.cold {fQ fR:List Int} (h:Zr fQ fR) (m:Int):Zr fQ (SB fR m):=by
 refine ⟨by rw [NC,h.len],λi hi=>?_,λi hi=>?_⟩
 all_goals
  rw [PU (by rw [h.len];exact hi)];have b:=GG (a:=m) (h.lo i hi);have:=h.hi i hi
  lia
def C8 (fQ fR:List Int) (z:Bool × Int):List Int:=if z.1=true then U1 fQ fR z.2 else SB fR z.2
def Yh (fQ fR:List Int) (z:Bool × Int):Int:=if z.1=true then Jb (HM fQ fR) z.2 0 else Jb fR z.2 0
theorem Zr.seas {fQ fR:List Int} (h:Zr fQ fR) (z:Bool × Int):Zr fQ (C8 fQ fR z):=by
 unfold C8;split
 ·exact h.warm _
 ·exact h.cold _
structure WZ where
 fR:List Int
 room:Int
 heat:Int
def AE (fQ:List Int) (s:WZ) (z:Bool × Int):WZ:=
 ⟨C8 fQ s.fR z,if z.1=true then s.room+Yh fQ s.fR z else s.room,if z.1=true then s.heat else s.heat+Yh fQ s.fR z⟩
def BF (fQ fR:List Int) (ss:List (Bool × Int)):WZ:=ss.foldl (AE fQ) ⟨fR,0,0⟩
theorem YC (fQ fR:List Int) (ss:List (Bool × Int)) (z:Bool × Int):BF fQ fR (ss ++ [z])=AE fQ (BF fQ fR ss) z:=by
 unfold BF;rw [jR];rfl
theorem QK {fQ fR:List Int} (h:Zr fQ fR) (ss:List (Bool × Int)):Zr fQ (BF fQ fR ss).fR:=by
 have:∀ (ss:List (Bool × Int)) (s:WZ),Zr fQ s.fR->Zr fQ (ss.foldl (AE fQ) s).fR:=by
  intro ss;induction ss with
  | nil=>intro s h;exact h
  | cons z ss ih=>intro s h;exact ih _ (h.seas z)
 exact this ss _ h
theorem B5 {α:Type} {ss:List α} {i:Nat} {z:α} (h:ss[i]? = some z):ss.take (i+1)=ss.take i ++ [z]:=by
 rw [List.take_add_one,h];rfl
def Ju (x l m:Int):Int:=if x < l then l else if m < x then m else x
end Tf
namespace L2
theorem none_of {H H':Hp} {t:PySem.Addr} (s:Same H H') (h:H' t=none):H t=none:=by
 cases e:H t with
 | none=>rfl
 | some o=>exact absurd ((s _ _ e).symm.trans h) (by simp)
end L2
namespace Tf
theorem XN {x y l m:Int} (h:l <= m) (e:x <= y):Ju x l m <= Ju y l m:=by
 unfold Ju
 repeat' split
 all_goals lia
theorem TW {x d1 l1 m1 d2 l2 m2:Int} (h1:l1 <= m1) (h2:l2 <= m2) :
  Ju (x+(d1+d2)) (Ju (l1+d2) l2 m2) (Ju (m1+d2) l2 m2)=Ju (Ju (x+d1) l1 m1+d2) l2 m2:=by
 unfold Ju
 repeat' split
 all_goals lia
end Tf
namespace Tf
open PySem L2
structure Rl where
 d:Int
 l:Int
 m:Int
abbrev Rl.vs (r:Rl):List V:=[.int r.d,.int r.l,.int r.m]
def Rl.Ok (r:Rl):Prop:=r.l <= r.m
def Rl.ap (r:Rl) (x:Int):Int:=Ju (x+r.d) r.l r.m
def Rl.jn (a b:Rl):Rl:=⟨a.d+b.d,b.ap a.l,b.ap a.m⟩
theorem Rl.jn_ok {a b:Rl} (ha:a.Ok) (hb:b.Ok):(a.jn b).Ok:=XN hb (by have:a.l <= a.m:=ha;lia)
theorem Rl.ap_jn {a b:Rl} (ha:a.Ok) (hb:b.Ok) (x:Int):(a.jn b).ap x=b.ap (a.ap x):=TW ha hb
theorem Rl.jn_assoc {a b c:Rl} (hb:b.Ok) (hc:c.Ok):(a.jn b).jn c=a.jn (b.jn c):=by
 have e:∀ x,(b.jn c).ap x=c.ap (b.ap x):=Rl.ap_jn hb hc;show (⟨a.d+b.d+c.d,c.ap (b.ap a.l),c.ap (b.ap a.m)⟩:Rl)=⟨a.d+(b.d+c.d),(b.jn c).ap a.l,(b.jn c).ap a.m⟩;rw [e,e,Int.add_assoc]
def Rl.rep (r:Rl):Nat->Rl
 | 0=>r
 | n+1=>(r.rep n).jn r
theorem Rl.rep_ok {r:Rl} (h:r.Ok):∀ n,(r.rep n).Ok
 | 0=>h
 | n+1=>Rl.jn_ok (Rl.rep_ok h n) h
theorem Rl.rep_add {r:Rl} (h:r.Ok) (a:Nat):∀ b,(r.rep a).jn (r.rep b)=r.rep (a+b+1)
 | 0=>rfl
 | b+1=>by
  show (r.rep a).jn ((r.rep b).jn r)=(r.rep (a+b+1)).jn r;rw [<- Rl.jn_assoc (Rl.rep_ok h b) h,Rl.rep_add h a b]
def Jx (full h:Int) (z:Bool × Int):Int:=if z.1=true then min full (h+z.2) else max 0 (h - z.2)
def Zt (full h:Int) (ss:List (Bool × Int)):Int:=ss.foldl (Jx full) h
def CU (ss:List (Bool × Int)):Int:=ss.foldl (λt z=>t+if z.1=true then z.2 else -z.2) 0
def CY (full:Int) (z:Bool × Int):Rl:=if z.1=true then ⟨z.2,min full z.2,full⟩ else ⟨-z.2,0,max 0 (full - z.2)⟩
def CJ (full:Int) (ss:List (Bool × Int)):Rl:=⟨CU ss,Zt full 0 ss,Zt full full ss⟩
theorem HK (full h:Int) (ss:List (Bool × Int)) (z:Bool × Int):Zt full h (ss ++ [z])=Jx full (Zt full h ss) z:=by unfold Zt;rw [jR];rfl
theorem eK (ss:List (Bool × Int)) (z:Bool × Int):CU (ss ++ [z])=CU ss+if z.1=true then z.2 else -z.2:=by unfold CU;rw [jR];rfl
theorem VJ (a b:List (Bool × Int)):CU (a ++ b)=CU a+CU b:=by
 have go:∀ (b:List (Bool × Int)) (t:Int),b.foldl (λt z=>t+if z.1=true then z.2 else -z.2) t=t+b.foldl (λt z=>t+if z.1=true then z.2 else -z.2) 0:=by
  intro b;induction b with
  | nil=>intro t;show t=t+0;lia
  | cons z b ih=>intro t;rw [j6,j6,ih,ih (0+_)];lia
 unfold CU;rw [jR,go]
theorem GP {full h:Int} {z:Bool × Int} (hz:0 <= z.2) (h0:0 <= h) (h1:h <= full):0 <= Jx full h z/\Jx full h z <= full:=by
 unfold Jx;split <;> lia
theorem DK {full h:Int} {ss:List (Bool × Int)} (hz:∀ z ∈ ss,0 <= z.2) (h0:0 <= h) (h1:h <= full):0 <= Zt full h ss/\Zt full h ss <= full:=by
 induction ss generalizing h with
 | nil=>exact ⟨h0,h1⟩
 | cons z ss ih=>
  have:=GP (hz z (gU ..)) h0 h1;exact ih (λy hy=>hz y (gD _ hy)) this.1 this.2
theorem KO {full h k:Int} {z:Bool × Int} (e:h <= k):Jx full h z <= Jx full k z:=by unfold Jx;split <;> lia
theorem Jn {full h k:Int} (ss:List (Bool × Int)) (e:h <= k):Zt full h ss <= Zt full k ss:=by
 induction ss generalizing h k with
 | nil=>exact e
 | cons z ss ih=>exact ih (KO e)
theorem DL {full:Int} (hf:0 <= full) (ss:List (Bool × Int)):(CJ full ss).Ok:=Jn ss hf
theorem JU {full:Int} {z:Bool × Int} (hf:0 <= full) (hz:0 <= z.2):(CY full z).Ok:=by
 unfold CY Rl.Ok;split <;> (dsimp only;lia)
theorem QD {full h:Int} {z:Bool × Int} (hz:0 <= z.2) (h0:0 <= h) (h1:h <= full):(CY full z).ap h=Jx full h z:=by
 unfold CY Jx Rl.ap Ju;by_cases e:z.1=true
 ·rw [if_pos e,if_pos e];dsimp only;repeat' split
  all_goals lia
 ·rw [if_neg e,if_neg e];dsimp only;repeat' split
  all_goals lia
theorem NE {full:Int} {ss:List (Bool × Int)} {z:Bool × Int} (hf:0 <= full) (hs:∀ z ∈ ss,0 <= z.2) (hz:0 <= z.2):CJ full (ss ++ [z])=(CJ full ss).jn (CY full z):=by
 have a:=DK hs (iU 0) hf;have b:=DK hs hf (iU full);show (⟨CU (ss ++ [z]),Zt full 0 (ss ++ [z]),Zt full full (ss ++ [z])⟩:Rl)=⟨CU ss+(CY full z).d,(CY full z).ap (Zt full 0 ss),(CY full z).ap (Zt full full ss)⟩;rw [QD hz a.1 a.2,QD hz b.1 b.2,eK,HK,HK];congr 1;unfold CY;split <;> rfl
theorem VW {full h : Int} {ss : List (Bool × Int)} (hz : ∀ z ∈ ss, 0 <= z.2) (h0 : 0 <= h) (h1 : h <= full) : (CJ full ss).ap h = Zt full h ss := by
  have key : ∀ n, ∀ ss : List (Bool × Int), ss.length = n -> (∀ z ∈ ss, 0 <= z.2) -> (CJ full ss).ap h = Zt full h ss := by
    intro n;induction n with
    | zero =>
      intro ss hl _;cases ss with
      | nil => show Ju (h + 0) 0 full = h; unfold Ju; repeat' split
               all_goals lia
      | cons _ _ => cases hl
    | succ n ih =>
      intro ss hl hz;have hne : ss ≠ [] := by intro e; rw [e] at hl; cases hl
      obtain ⟨b, z, rfl⟩ : ∃ b z, ss = b ++ [z] := ⟨ss.dropLast, ss.getLast hne, (List.dropLast_concat_getLast hne).symm⟩;have hb : ∀ z ∈ b, 0 <= z.2 := λy hy => hz y (jC _ hy);have hz' : 0 <= z.2 := hz z (by simp);have i1 := DK hb h0 h1;rw [NE (by lia) hb hz', Rl.ap_jn (DL (by lia) b) (JU (by lia) hz'), ih b (by simpa using hl) hb, QD hz' i1.1 i1.2, HK]
  exact key _ ss Z hz
theorem Zu.take {H:Hp} {ts:List fT} {ss:List (Bool × Int)} (S:Zu H ts ss) (k:Nat):Zu H (ts.take k) (ss.take k):=by
 refine ⟨by rw [iH,iH,S.len],λi z e=>?_⟩;have hi:i < k:=by have:=(gK.mp e).1;rw [iH] at this;lia
 rw [jQ hi] at e;obtain ⟨t,e1,e2⟩:=S.at' i z e;exact ⟨t,by rw [jQ hi];exact e1,e2⟩
theorem Zu.item {H:Hp} {ts:List fT} {ss:List (Bool × Int)} (S:Zu H ts ss) {i:Nat} {x:V} (h:(ts.map V.ref)[i]? = some x):∃ t z,x = .ref t/\ss[i]? = some z/\H t=some (.tup [.str (AX z.1),.int z.2]):=by
 rw [gE] at h;cases e:ts[i]? with
 | none=>rw [e] at h;cases h
 | some t=>
  rw [e] at h;have hi:i < ss.length:=by rw [<- S.len];exact (gK.mp e).1
  obtain ⟨t',e1,e2⟩:=S.at' i _ (fX hi);rw [e] at e1;cases e1;exact ⟨t,_,(Option.some.inj h).symm,fX hi,e2⟩
def down (hs:List Int) (i:Nat):Int:=(hs.drop i).sum
theorem A8 {hs:List Int} {i:Nat} (h:i < hs.length):down hs i=hs.getD i 0+down hs (i+1):=W9 h
theorem BT {hs:List Int} {i:Nat} (h:hs.length <= i):down hs i=0:=by unfold down;rw [kT h];rfl
theorem IF {P:Nat->Prop} (n:Nat) (h0:P n) (hs:∀ i,i < n->P (i+1)->P i):∀ i,i <= n->P i:=by
 have go:∀ k i,i+k=n->P i:=by
  intro k;induction k with
  | zero=>intro i e;rw [show i=n by lia];exact h0
  | succ k ih=>intro i e;exact hs i (by lia) (ih (i+1) (by lia))
 exact λi hi=>go (n - i) i (by lia)
theorem O8 {fQ fR:List Int} (hl:fR.length=fQ.length):∀ i,i <= fQ.length->down (HM fQ fR) i=down fQ i - down fR i:=by
 refine IF _ ?_ λi hi ih=>?_
 ·rw [BT (by rw [AM hl];lia),BT (by lia),BT (by lia)];lia
 ·rw [A8 (hs:=HM fQ fR) (i:=i) (by rw [AM hl];exact hi),A8 (hs:=fQ) (i:=i) hi,A8 (hs:=fR) (i:=i) (by lia),ih,GV hl hi];lia
theorem EW (rs:List Int) (a:Int) (i:Nat):Jb rs a i=max 0 (a - down rs i):=rfl
theorem Zr.down {fQ fR:List Int} (h:Zr fQ fR):∀ i,i <= fQ.length->0 <= Tf.down fR i/\Tf.down fR i <= Tf.down fQ i:=by
 refine IF _ ?_ λi hi ih=>?_
 ·rw [BT (by have:=h.len;lia),BT (gA _)];lia
 ·have hl:=h.len;have a:=h.lo i hi;have b:=h.hi i hi;rw [A8 hi,A8 (by lia)];lia
theorem ZS {fQ fR:List Int} {a:Int} (h:Zr fQ fR) (ha:0 <= a):∀ i,i <= fQ.length->down (U1 fQ fR a) i=min (down fQ i) (down fR i+a):=by
 refine IF _ ?_ λi hi ih=>?_
 ·rw [BT (by rw [NK h.len];lia),BT (gA _),BT (by rw [h.len];lia)];lia
 ·have hl:=h.len;have b:=h.hi i hi;have b0:=h.lo i hi;have d1:=h.down (i+1) hi;rw [A8 (by rw [NK hl];lia),ih,PM hl hi,A8 hi,A8 (show i < fR.length by lia)];unfold Yy;rw [EW,O8 hl (i+1) hi,GV hl hi]
  lia
theorem ZX {fQ fR:List Int} {a:Int} (h:Zr fQ fR) (ha:0 <= a):∀ i,i <= fQ.length->down (SB fR a) i=max 0 (down fR i - a):=by
 refine IF _ ?_ λi hi ih=>?_
 ·rw [BT (by rw [NC,h.len];lia),BT (by rw [h.len];lia)];lia
 ·have hl:=h.len;have b0:=h.lo i hi;have d1:=h.down (i+1) hi;rw [A8 (by rw [NC];lia),ih,PU (by lia),A8 (show i < fR.length by lia)];unfold Yy;rw [EW]
  lia
theorem MW {fQ fR:List Int} {z:Bool × Int} (h:Zr fQ fR) (hz:0 <= z.2) {i:Nat} (hi:i <= fQ.length):down (C8 fQ fR z) i=Jx (down fQ i) (down fR i) z:=by
 unfold C8 Jx;split
 ·exact ZS h hz i hi
 ·exact ZX h hz i hi
theorem bY {fQ fR:List Int} {ss:List (Bool × Int)} (h:Zr fQ fR) (hz:∀ z ∈ ss,0 <= z.2) {i:Nat} (hi:i <= fQ.length):down (BF fQ fR ss).fR i=Zt (down fQ i) (down fR i) ss:=by
 have go:∀ (ss:List (Bool × Int)) (s:WZ),(∀ z ∈ ss,0 <= z.2)->Zr fQ s.fR->down (ss.foldl (AE fQ) s).fR i=Zt (down fQ i) (down s.fR i) ss:=by
  intro ss;induction ss with
  | nil=>intro s _ _;rfl
  | cons z ss ih=>
   intro s hz h;have h1:=ih (AE fQ s z) (λy hy=>hz y (gD _ hy)) (h.seas z);rw [j6,h1];show Zt _ (down (C8 fQ s.fR z) i) ss=Zt _ (Jx _ _ z) ss;rw [MW h (hz z (gU ..)) hi]
 exact go ss _ hz h
theorem QF {fQ fR:List Int} {z:Bool × Int} (h:Zr fQ fR):Yh fQ fR z=if z.1=true then max 0 (z.2 - (down fQ 0 - down fR 0)) else max 0 (z.2 - down fR 0):=by
 unfold Yh;split
 ·rw [EW,O8 h.len 0 (iG _)]
 ·rw [EW]
def Jg (full h:Int) (ss:List (Bool × Int)):Nat->Int
 | 0=>h
 | n+1=>Zt full (Jg full h ss n) ss
theorem IJ {full h:Int} {ss:List (Bool × Int)} (hz:∀ z ∈ ss,0 <= z.2) (h0:0 <= h) (h1:h <= full):∀ n,0 <= Jg full h ss n/\Jg full h ss n <= full
 | 0=>⟨h0,h1⟩
 | n+1=>DK hz (IJ hz h0 h1 n).1 (IJ hz h0 h1 n).2
theorem ZT {full h:Int} {ss:List (Bool × Int)} (hf:0 <= full) (hz:∀ z ∈ ss,0 <= z.2) (h0:0 <= h) (h1:h <= full):∀ n,((CJ full ss).rep n).ap h=Jg full h ss (n+1)
 | 0=>VW hz h0 h1
 | n+1=>by
  have i:=IJ hz h0 h1 (n+1);show (((CJ full ss).rep n).jn (CJ full ss)).ap h=_;rw [Rl.ap_jn (Rl.rep_ok (DL hf ss) n) (DL hf ss),ZT hf hz h0 h1 n,VW hz i.1 i.2];rfl
structure C4 (H:Hp) (ts:List fT) (Rs:List Rl):Prop where
 len:ts.length=Rs.length
 at':∀ (i:Nat) (R:Rl),Rs[i]? = some R->∃ t,ts[i]? = some t/\H t=some (.tup R.vs)
theorem C4.same {H H':Hp} {ts:List fT} {Rs:List Rl} (S:C4 H ts Rs) (h:Same H H'):C4 H' ts Rs:=
 ⟨S.len,λi z e=>let ⟨t,e1,e2⟩:=S.at' i z e;⟨t,e1,h _ _ e2⟩⟩
theorem C4.nil (H:Hp):C4 H [] []:=⟨Z,λi z e=>by simp at e⟩
theorem C4.snoc {H:Hp} {ts:List fT} {ss:List Rl} (S:C4 H ts ss) {t:fT} {z:Rl} (h:H t=some (.tup z.vs)):C4 H (ts ++ [t]) (ss ++ [z]):=by
 refine ⟨by simp [S.len],λi y e=>?_⟩;by_cases hi:i < ss.length
 ·rw [gY hi] at e;obtain ⟨t',e1,e2⟩:=S.at' i y e;exact ⟨t',by rw [gY (by rw [S.len];exact hi)];exact e1,e2⟩
 ·rw [gV (by lia)] at e;have hi0:i - ss.length=0:=by
   have:=(gK.mp e).1;simp at this
   lia
  rw [hi0] at e;have e:z=y:=by simpa using e
  subst e;refine ⟨t,?_,h⟩;rw [gV (by rw [S.len];lia),S.len,hi0];rfl
theorem C4.ix {H:Hp} {ts:List fT} {Rs:List Rl} (S:C4 H ts Rs) {i:Nat} {R:Rl} (h:Rs[i]? = some R):∃ t,atI (ts.map V.ref) (i:Int)=some (.ref t)/\H t=some (.tup R.vs):=by
 obtain ⟨t,e1,e2⟩:=S.at' i R h;exact ⟨t,AT (by rw [gE,e1];rfl),e2⟩
theorem DO {xs:List V} {k:Nat}:DD xs (some (k:Int)) none=xs.drop k:=by
 by_cases h:k <= xs.length
 ·exact cut_drop h
 ·rw [kT (by lia)];have e:HT.sIx xs.length 0 (some (k:Int))=xs.length:=by
   simp only [HT.sIx];rw [if_neg (by lia)]
   lia
  unfold DD;rw [e,List.drop_length,List.take_nil]
theorem GH {xs:List V} {k:Nat}:DD xs none (some (k:Int))=xs.take k:=by
 by_cases h:k <= xs.length
 ·exact cut_take h
 ·rw [iJ (by lia)];have e:HT.sIx xs.length xs.length (some (k:Int))=xs.length:=by
   simp only [HT.sIx];rw [if_neg (by lia)]
   lia
  unfold DD;rw [e];simp [HT.sIx]
def Zm (fQ fR:List Int) (ss:List (Bool × Int)):Nat->WZ
 | 0=>⟨fR,0,0⟩
 | n+1=>ss.foldl (AE fQ) (Zm fQ fR ss n)
theorem PN {fQ:List Int}:∀ (ss:List (Bool × Int)) (s:WZ),Zr fQ s.fR->Zr fQ (ss.foldl (AE fQ) s).fR:=by
 intro ss;induction ss with
 | nil=>intro s h;exact h
 | cons z ss ih=>intro s h;exact ih _ (h.seas z)
theorem A9 {fQ fR:List Int} (h:Zr fQ fR) (ss:List (Bool × Int)):∀ n,Zr fQ (Zm fQ fR ss n).fR
 | 0=>h
 | n+1=>PN ss _ (A9 h ss n)
theorem d7 (fQ:List Int) (s:WZ) (ss:List (Bool × Int)) (z:Bool × Int):(ss ++ [z]).foldl (AE fQ) s=AE fQ (ss.foldl (AE fQ) s) z:=by rw [jR];rfl
theorem d8 {fQ:List Int} {i:Nat} (hi:i <= fQ.length):∀ (ss:List (Bool × Int)) (s:WZ),(∀ z ∈ ss,0 <= z.2)->Zr fQ s.fR->down (ss.foldl (AE fQ) s).fR i=Zt (down fQ i) (down s.fR i) ss:=by
 intro ss;induction ss with
 | nil=>intro s _ _;rfl
 | cons z ss ih=>
  intro s hz h;have h1:=ih (AE fQ s z) (λy hy=>hz y (gD _ hy)) (h.seas z);rw [j6,h1];show Zt _ (down (C8 fQ s.fR z) i) ss=Zt _ (Jx _ _ z) ss;rw [MW h (hz z (gU ..)) hi]
theorem K6 {fQ fR:List Int} {ss:List (Bool × Int)} (h:Zr fQ fR) (hz:∀ z ∈ ss,0 <= z.2) {i:Nat} (hi:i <= fQ.length):∀ n,down (Zm fQ fR ss n).fR i=Jg (down fQ i) (down fR i) ss n
 | 0=>rfl
 | n+1=>by
  show down (ss.foldl (AE fQ) (Zm fQ fR ss n)).fR i=Zt _ (Jg _ _ ss n) ss;rw [d8 hi ss _ hz (A9 h ss n),K6 h hz hi n]
def farL (fQ fR:List Int) (ss:List (Bool × Int)) (many some:Nat):List Int:=((ss.take some).foldl (AE fQ) (Zm fQ fR ss many)).fR
theorem eP {hs:List Int} {n:Nat} (hl:hs.length=n):(i9 n).map (λi=>down hs i - down hs (i+1))=hs:=by
 refine jA (by simp [hl]) λi h1 h2=>?_;rw [kA,jK,A8 h2,fY,fX h2];show hs[i]+_ - _=hs[i]
 lia
theorem Zr.fQ {fQ fR:List Int} (h:Zr fQ fR):Zr fQ fQ:=⟨Z,λi hi=>by have a:=h.lo i hi;have b:=h.hi i hi;lia,λi hi=>iU _⟩
theorem bS {fQ:List Int} (h:Zr fQ fQ):∀ i,i <= fQ.length->down fQ i <= down fQ 0:=by
 intro i;induction i with
 | zero=>intro _;exact iU _
 | succ i ih=>
  intro hi;have:=ih (by lia);rw [A8 (hs:=fQ) (i:=i) (by lia)] at this;have:=h.lo i (by lia)
  lia
end Tf
namespace L2
open PySem PySem.Spec PyProof.Rows
section
variable {X:Cx}
theorem op_eqI (hu:X.A.units < cLine):OpR X (compareOp .Eq) (λx y H Q=>∃ (p q:fT) (xs ys:List Int),x = .ref p/\y = .ref q/\SqL X.K H p (xs.map V.int)/\SqL X.K H q (ys.map V.int)/\xs.length=ys.length/\Q (.bl (decide (xs=ys))) H):=by
 intro fS s σ H x y v u Q I rx ry h;obtain ⟨p,q,xs,ys,rfl,rfl,h1,h2,hl,hq⟩:=h;cases rx;cases ry;obtain ⟨its,r1,pl1,_⟩:=I.list h1;obtain ⟨jts,r2,pl2,_⟩:=I.list h2;have l1:=r1.length;have l2:=r2.length;rw [fU] at l1 l2;refine SeqAt.eq_listAt (e:=λj=>xs.getD j 0 == ys.getD j 0) pl1.isList pl2.isList (by simp only [gG];lia) hu (λj a b=>?_) ?_
 ·obtain ⟨x,e,ru⟩:=r1.at (j:=j) (by simpa using a);obtain ⟨x',e',ru'⟩:=r2.at (j:=j) (by simpa using b);obtain ⟨_,rfl⟩:=BQ e;obtain ⟨_,rfl⟩:=BQ e';obtain ⟨t,e1⟩:=ru;obtain ⟨t',e2⟩:=ru';show SeqAt.EqAt _ s its[j] jts[j] _;rw [e1,e2];exact SeqAt.EqAt.int_int _ _ _ _
 ·have ed:(i9 its.toArray.size).all (λj=>xs.getD j 0 == ys.getD j 0)=decide (xs=ys):=by
   rw [jO,List.all_eq_true,decide_eq_true_iff];simp only [kI,gG,beq_iff_eq];refine ⟨λh=>jA hl λi h1 h2=>?_,λh j _=>by rw [h]⟩;have:=h i (by lia);rw [fY,fY,fX h1,fX h2] at this;exact this
  rw [ed];exact ⟨.bl _,H,I,Z,hq⟩
end
end L2
namespace PySem
theorem F.lri_no_len:typeLookup (Value.type "list_reverseiterator") (Str.ofString "__len__")=pure none:=by
 rw [typeLookup_type,builtinLookup_eq_fast];rfl
theorem F.lri_hint:typeLookup (Value.type "list_reverseiterator") (Str.ofString "__length_hint__")=pure (some (.builtin "list_reverseiterator.__length_hint__")):=by
 rw [typeLookup_type,builtinLookup_eq_fast];rfl
theorem F.sub_lri_self:isSubtype (.type "list_reverseiterator") (.type "list_reverseiterator")=pure true:=by
 rw [isSubtype_type];rfl
theorem LG {prog:gL} {w:gX} {A:iD} {s:fW} {R:Result->fW->Prop} {I:fT} {fp wr:List fT} {G:Array GenState->Array GenState->Prop} {n:Nat} {P:Nat->fV->Prop} {St:Nat->fW->Prop}
  (W:WalksS prog w (Around.in1 A) I fp wr G n P St) (hT:∀ i s,St i s->Shared.TypeIs s (.ref I) "list_reverseiterator") (S:fT) (res:fV) (c₀:Nat) (hst:St 0 s) (hSf:S ∉ fp) (hI:I ∈ fp)
  (hS:s.heap.get? S=some { cls:=.type "list",data:=.seq #[] c₀ })
  (hR:∀ (s':fW) (acc':Array fV) (c':Nat),Moved (S :: wr) G s s'->s'.heap.get? S=some { cls:=.type "list",data:=.seq acc' c' }->ItemsOf P acc' n->R (.ok (.ret res)) s') (hn:n <= hJ) :
  gT (gW prog w) (Around.in1 A) (Builtin.List.listExtendWith (.ref S) (.ref I) res)
   (λfin s'=>match fin with | .done f=>R (.ok f) s' | .again c'=>c'.quiet=true/\codeAny (gW prog w) A c' R s') (λe s'=>R (.error e) s') s:=by
 have hSI:S ≠ I:=λe=>hSf (e ▸ hI);unfold Builtin.List.listExtendWith;refine gQ (wpAny_typeOf (hT 0 s hst) ?_);have h1:Builtin.List.listSameRef (.ref S) (.ref I)=false:=by
  show (S == I)=false;simp [hSI]
 rw [h1];simp only [show (Value.type "list_reverseiterator" == Value.type "list")=false by decide,show (Value.type "list_reverseiterator" == Value.type "tuple")=false by decide,Bool.or_false,lI,if_false];refine gQ (W.self 0 s _ _ hst ?_);refine gQ (wpAny_holding ?_);unfold Builtin.List.listLengthHint;refine gQ (wpAny_specialOf (hT 0 s hst) F.lri_no_len ?_);refine wpAny_ite_false Z ?_;refine wpAny_ite_false Z ?_;refine gQ (wpAny_specialOf (hT 0 s hst) F.lri_hint ?_);dsimp only;rw [show splitId "list_reverseiterator.__length_hint__" = some ("list_reverseiterator","__length_hint__") by rfl];dsimp only;refine gQ (wpAny_isInstance (hT 0 s hst) F.sub_lri_self ?_);refine wpAny_ite_false Z ?_;refine wpAny_ite_true Z ?_;refine wpAny_ite_false Z ?_;refine wpAny_pure ?_;refine wpAny_ite_false Z ?_;refine wpAny_pure ⟨plainId_quiet F.plain_extend_loop { pos:=[.ref S,.ref I,res] },?_⟩;exact codeAny_extend_loopS W hn S hSf res n 0 s #[] c₀ Z (iG n) hst hS (ItemsOf.nil P) hR
theorem HX {prog:gL} {w:gX} {A:iD} {s:fW} {R:Result->fW->Prop} {I:fT} {fp wr:List fT} {G:Array GenState->Array GenState->Prop} {n:Nat} {P:Nat->fV->Prop} {St:Nat->fW->Prop}
  (W:WalksS prog w (Around.in1 A) I fp wr G n P St) (hT:∀ i s,St i s->Shared.TypeIs s (.ref I) "list_reverseiterator") (S:fT) (hst:St 0 s) (hSf:S ∉ fp) (hI:I ∈ fp)
  (hS:s.heap.get? S=some { cls:=.type "list",data:=.seq #[] })
  (hR:∀ (s':fW) (acc':Array fV) (c':Nat),Moved (S :: wr) G s s'->s'.heap.get? S=some { cls:=.type "list",data:=.seq acc' c' }->ItemsOf P acc' n->R (.ok (.ret .none)) s') (hn:n <= hJ) :
  gT (gW prog w) (Around.in1 A) (Builtin.«list.__init__» { pos:=[.ref S,.ref I] })
   (λfin s'=>match fin with | .done f=>R (.ok f) s' | .again c'=>c'.quiet=true/\codeAny (gW prog w) A c' R s') (λe s'=>R (.error e) s') s:=by
 refine gQ (gQ (wpAny_seqItems hS Z (wpAny_pure (gQ (wpAny_updateSeq hS Z ?_ (by simp [sizeLine_eq]) (by simp [sizeLine_eq]))))));have hS₂:=Heap.get?_update_self (Obj.mapSeq λ(x:Array fV)=>#[]) hS Z;have oth:=λ(b:fT) (o:j5) (hb:b ≠ S) (e:s.heap.get? b=some o)=>Eq.trans (Heap.get?_update_other s.heap (Obj.mapSeq λ(x:Array fV)=>#[]) (Ne.symm hb)) e;refine gQ (wpAny_letGo (LG W hT S .none _ (W.frame 0 s _ s.toks hst (gA _) λb hb o e=>oth b o (λh=>hSf (h ▸ hb)) e) hSf hI hS₂ (λs' acc' c' hm hS' hacc=>hR s' acc' c' ?_ hS' hacc) hn));exact Moved.trans W.gtrans (Moved.then_heap (Moved.refl W.grefl) (gA s.toks) λb o hb e=>oth b o (λh=>hb (h ▸ gU)) e) hm
theorem QO {prog:gL} {w:gX} {A:iD} {E:fV->fW->Prop} {s:fW} {I:fT} {fp wr:List fT} {G:Array GenState->Array GenState->Prop} {n:Nat} {P:Nat->fV->Prop} {St:Nat->fW->Prop} {Q:fV->fW->Prop}
  (W:WalksS prog w (Around.in1 (Around.in1 A)) I fp wr G n P St) (hT:∀ i s,St i s->Shared.TypeIs s (.ref I) "list_reverseiterator") (hst:St 0 s) (hfp:∀ b ∈ fp,b < s.heap.objs.size) (hI:I ∈ fp)
  (hQ:∀ (s':fW) (acc':Array fV) (c':Nat),Moved (s.heap.objs.size :: wr) G { s with heap:=s.heap.push { cls:=.type "list",data:=.seq #[] } } s' ->
   s'.heap.get? s.heap.objs.size=some { cls:=.type "list",data:=.seq acc' c' }->ItemsOf P acc' n->Q (.ref s.heap.objs.size) s') (hn:n <= hJ) :
  gT (gW prog w) A (call (.type "list") [.ref I]) Q E s:=by
 have hSf:s.heap.objs.size ∉ fp:=λhm=>iI _ (hfp _ hm);refine callType_codes F.called_list (F.typeCall_list_1 (.ref I)) F.entry_list_init (code_list_new (Q₁:=λobj s₁=>obj = .ref s.heap.objs.size/\s₁ = { s with heap:=s.heap.push { cls:=.type "list",data:=.seq #[] } }) (.ref I) ⟨Z,Z⟩) λobj s₁ h₁=>?_;obtain ⟨rfl,rfl⟩:=h₁;have hS:=Heap.get?_push_size s.heap (o:={ cls:=Value.type "list",data:=Data.seq #[] }) Z;refine ⟨⟨_,hS,Z⟩,F.args_list_init_2 _ _,?_⟩;exact HX W hT s.heap.objs.size (W.frame 0 s _ s.toks hst (gA _) λb _ o e=>Heap.get?_push_of_some _ e) hSf hI hS (λs' acc' c' hm hS' hacc=>⟨Z,hQ s' acc' c' hm hS' hacc⟩) hn
end PySem
namespace L2
open PySem PySem.Spec PyProof.Rows
def ItRv (K:PySem.W.Frag) (a:fT) (n:Nat):It:=
 ⟨λi H=>∃ xs,SqL K H a xs/\xs.length=n/\i < n,λi H x H'=>H' = H/\∀ xs,SqL K H a xs->xs.length=n->xs[n - 1 - i]? = some x,λi H=>∃ xs,SqL K H a xs/\xs.length=n/\n <= i⟩
theorem turn_rev {P:gL} {w:gX} {K:PySem.W.Frag} {tg:i4} (a it:fT) (n:Nat):Turn P w K tg (ItRv K a n) [it] it (λi h=>i <= n/\h.IsRevIter it a ((n:Int) - 1 - i)) where
 mem:=by simp
 obj:=λi h st b hb=>by
  have e:b=it:=by simpa using hb
  subst e;obtain ⟨_,o,e,c,d⟩:=st;exact ⟨o,e,λv z=>by rw [d] at z;cases z⟩
 keep:=λi h h' st k=>by
  obtain ⟨l,o,e,c,d⟩:=st;exact ⟨l,o,k it (by simp) o e,c,d⟩
 item:=by
  intro X hP hw hK hc i fS s σ H E I hf st hg;subst hP hw hK;obtain ⟨xs,hq,hl,hi⟩:=hg;obtain ⟨its,rv,p,hz⟩:=I.list hq;have hlen:=rv.length;obtain ⟨f0,f1,f2,f3,f4,f5⟩:=hf it (by simp);obtain ⟨st0,st⟩:=st;obtain ⟨o,e,c,d⟩:=id st;have ne:a ≠ it:=SqL.ne I hq e c (by decide);have W:=Walks.listRev (prog:=X.prog) (w:=X.w) (I.ok.hd hc) it a ne its.toArray;have es:its.toArray.size=n:=by rw [gG];lia
  rw [es] at W;refine W.item i s _ _ hi ⟨st0,st,p.isList⟩ λv h' tk hv st' kk=>?_;have I1:Inv X fS σ H { s with heap:=h',toks:=tk }:=I.turned (λb o hb e=>kk b o (by simpa using hb) e) f0 f1 f3 f4 f5;obtain ⟨s1,s2,s3⟩:=st';obtain ⟨o',e',c',d'⟩:=id s2;have hx:∃ x,xs[n - 1 - i]? = some x:=⟨_,fX (by lia)⟩;obtain ⟨x,hx⟩:=hx;obtain ⟨u,hu,ru⟩:=rv.get hx;have ev:v=u:=by
   have:its[n - 1 - i]? = some v:=by simpa using hv
   rw [hu] at this;exact (Option.some.inj this).symm
  subst ev;exact ⟨v,Z,dF (s:={ s with heap:=h',toks:=tk }) e' c' d' (by decide) ⟨x,H,I1,ru,⟨Z,λys hy hl'=>by rw [I.list_inj hy hq];exact hx⟩,⟨s1,s2⟩,λb hb=>(hf b hb).1⟩⟩
 done:=by
  intro X hP hw hK hc i fS s σ H E I hf st hg;subst hP hw hK;obtain ⟨xs,hq,hl,hi⟩:=hg;obtain ⟨its,rv,p,hz⟩:=I.list hq;have hlen:=rv.length;obtain ⟨f0,f1,f2,f3,f4,f5⟩:=hf it (by simp);obtain ⟨st0,st⟩:=st;obtain ⟨o,e,c,d⟩:=id st;have ne:a ≠ it:=SqL.ne I hq e c (by decide);have W:=Walks.listRev (prog:=X.prog) (w:=X.w) (I.ok.hd hc) it a ne its.toArray;have es:its.toArray.size=n:=by rw [gG];lia
  rw [es] at W;have ei:i=n:=by lia
  subst ei;exact W.done s _ _ ⟨st0,st,p.isList⟩ λh' tk kk=>⟨Z,I.turned (λb o hb e=>kk b o (by simpa using hb) e) f0 f1 f3 f4 f5⟩
 self:=λ_ _ _ _ _ st h=>wpAny_pyIter_revIter st.2 h
section
variable {X:Cx} {tg:i4}
def iRev (K:PySem.W.Frag) (ta:TA):TI:=λσ H R=>ta σ H λvs H1=>E2 λp xs=>vs=[.ref p]/\SqL K H1 p xs/\R (ItRv K p xs.length) H1
theorem pi_rev {a:i4} {ta:TA} {p pos:Pos} (hg:Gl X "reversed") (hm:X.mg "reversed" = none) (ha:PA X [a] ta) (hs:gB [a] X.env=(false,eval a X.env) :: gB [] X.env:=by rfl) :
  PI X tg (.Call (.Name "reversed" p) [a] [] pos) (iRev X.K ta):=by
 intro fS s σ H R I h;refine Call_ (HH I hg hm boot_reversed (PyProof.Rows.callWith_type1 (thn (ha pos fS s σ H _ I h) λus s1 ⟨vs,H1,I1,r1,q1⟩=>?_) hs Z));obtain ⟨p,xs,rfl,hq,q⟩:=q1;obtain ⟨u,rfl,rx⟩:=T0 r1;cases rx;obtain ⟨its,rv,pl,hz⟩:=I1.list hq;have hlen:=rv.length;refine call_reversed_list pl.isList ?_;have es:(its.toArray.size:Int) - 1=(xs.length:Int) - 1 - (0:Nat):=by rw [gG];lia
 refine wpAny_pyIter_revIter ⟨_,Heap.get?_push_size _ Z,Z,Z⟩ ?_;refine ⟨s1.heap.objs.size,[s1.heap.objs.size],_,_,H1,Z,I1.kept (t':=s1.toks) λb o e=>Heap.get?_push_of_some _ e,turn_rev p _ xs.length,⟨iG _,⟨_,Heap.get?_push_size _ Z,Z,by rw [<- es];rfl⟩⟩,λb hb=>?_,q⟩;have e:b=s1.heap.objs.size:=by simpa using hb
 subst e;exact I1.fpOk (gA _) (I1.hok.fresh (gA _))
def tRevL (K:PySem.W.Frag) (ta:TA):TE:=λσ H Q=>ta σ H λvs H1=>E2 λp ys=>vs=[.ref p]/\SqL K H1 p ys/\∀ l,H1 l=none->Q (.ref l) (upd H1 l (.lst ys.reverse))
theorem Y7 {a:i4} {ta:TA} {p p' pos pos':Pos} (hm:X.mg "list" = none) (hm':X.mg "reversed" = none) (ha:PA X [a] ta) (hc:X.calm=true:=by rfl) (hg:Gl X "list":=by rfl) (hg':Gl X "reversed":=by rfl)
  (hs:gB [a] X.env=(false,eval a X.env) :: gB [] X.env:=by rfl) (hs':gB [.Call (.Name "reversed" p') [a] [] pos'] X.env=(false,eval (.Call (.Name "reversed" p') [a] [] pos') X.env) :: gB [] X.env:=by rfl) :
  PE X (.Call (.Name "list" p) [.Call (.Name "reversed" p') [a] [] pos'] [] pos) (tRevL X.K ta):=by
 intro fS s σ H Q I h;refine wpAny_Call_Name_kw (HH I hg hm (show bootBuiltins "list" = some (.type "list") by decide +kernel) ?_ (by decide) (by decide));refine PyProof.Rows.callWith_type1 ?_ hs' Z;rw [hs'];show gT _ _ (spliced ((false,eval (.Call (.Name "reversed" p') [a] [] pos') X.env) :: backTo pos (gB [] X.env))) _ _ s;refine Calls.spliced_cons ?_;refine Call_ (HH I hg' hm' boot_reversed (PyProof.Rows.callWith_type1 (thn (ha pos' fS s σ H _ I h) λus s1 ⟨vs,H1,I1,r1,q1⟩=>?_) hs Z));obtain ⟨p,ys,rfl,hq,q⟩:=q1;obtain ⟨u,rfl,rx⟩:=T0 r1;cases rx;obtain ⟨its,rv,pl,hz⟩:=I1.list hq;have hlen:=rv.length;refine call_reversed_list pl.isList ?_;refine Calls.spliced_nil ?_;have hlt:p < s1.heap.objs.size:=by
  obtain ⟨o,n,e,_,_,_⟩:=pl;exact Heap.lt_size e
 have ne:p ≠ s1.heap.objs.size:=iB hlt;have esz:(s1.heap.push (revObj p ((its.toArray.size:Int) - 1))).objs.size=s1.heap.objs.size+1:=Heap.size_push _ _;have pl':(s1.heap.push (revObj p ((its.toArray.size:Int) - 1))).IsList p its.toArray:=by
  obtain ⟨o,ho,hc',n,hd⟩:=pl.isList;exact ⟨o,Heap.get?_push_of_some _ ho,hc',n,hd⟩
 refine QO (Walks.listRev (prog:=X.prog) (w:=X.w) (A:=X.A.in1.in1) (I1.ok.hd hc) s1.heap.objs.size p ne its.toArray).toS (λi s2 st=>st.2.1.typeIs) ⟨iG _,⟨_,Heap.get?_push_size _ Z,Z,?_⟩,pl'⟩ ?_ (by simp) ?_ ?_
 ·show Data.fields #[.ref p,rawInt ((its.toArray.size:Int) - 1)]=Data.fields #[.ref p,rawInt ((its.toArray.size:Int) - 1 - ((0:Nat):Int))];rw [show ((its.toArray.size:Int) - 1 - ((0:Nat):Int))=(its.toArray.size:Int) - 1 by lia]
 ·intro b hb;show b < (s1.heap.push (revObj p ((its.toArray.size:Int) - 1))).objs.size;rw [esz];simp only [gR,iQ,or_false] at hb;rcases hb with rfl | rfl
  ·exact l8 _
  ·exact Nat.lt_succ_of_lt hlt
 ·intro s' acc' c' hm he hi;have eacc:acc' = its.reverse.toArray:=by
   apply Array.ext
   ·rw [hi.1];simp
   ·intro j h1 h2;have h3:=hi.2 j acc'[j] (Array.getElem?_eq_getElem h1);have h4:j < its.length:=by simpa using h2
    have h5:its[its.length - 1 - j]? = some acc'[j]:=by simpa using h3
    rw [fX (by lia)] at h5;have h6:=Option.some.inj h5;rw [<- h6];simp
  subst eacc;have hk:∀ b u,s1.heap.get? b=some u->s'.heap.get? b=some u:=λb u e=>by
   have hb:b < s1.heap.objs.size:=Heap.lt_size e;refine hm.heap b u ?_ (Heap.get?_push_of_some _ (Heap.get?_push_of_some _ e));simp only [gR,iQ,or_false];rintro (z | z)
   ·have z:b=(s1.heap.push (revObj p ((its.toArray.size:Int) - 1))).objs.size:=z;rw [esz] at z;subst z;exact iI _ (Nat.lt_of_succ_lt hb)
   ·subst z;exact iI _ hb
  have es:s' = { s1 with heap:=s'.heap,toks:=s'.toks }:=by
   obtain ⟨_,hg1,hd1,ho1,_⟩:=hm;cases s';simp only at hg1 hd1 ho1;subst hg1 hd1 ho1;rfl
  have ea:(s1.heap.push (revObj p ((its.toArray.size:Int) - 1))).objs.size=s1.heap.objs.size+1:=esz;have I2:=I1.laid (h':=s'.heap) (t':=s'.toks) (a:=(s1.heap.push (revObj p ((its.toArray.size:Int) - 1))).objs.size) (o:=.lst ys.reverse) hk (by rw [esz];exact Nat.le_succ _) (show BM X.prog X.w _ s'.heap _ (.lst ys.reverse) from ⟨by rw [List.length_reverse];exact hz,its.reverse,c',rv.reverse,he⟩);rw [<- es] at I2;exact ⟨.ref _,_,I2,Z,q _ (I1.hok.fresh (by rw [esz];exact Nat.le_succ _))⟩
 ·rw [gG];lia
end
theorem for_rev {K:PySem.W.Frag} {a:fT} {xs:List V} {g:TG} {tb:TS} {D:OR} {σ:St} {H:Hp} (Pv:Nat->St->Hp->Prop) (h0:Pv 0 σ H) (hl:∀ i σ H,i <= xs.length->Pv i σ H->SqL K H a xs)
  (hs:∀ i x σ H,i < xs.length->xs[xs.length - 1 - i]? = some x->Pv i σ H->g x σ H λσ2 H2=>tb { D with nx:=Pv (i+1),ct:=Pv (i+1),bk:=D.nx } σ2 H2) (hd:∀ σ H,Pv xs.length σ H->D.nx σ H) :
  ∃ W:Nat->Nat->St->Hp->Prop,(∃ m,W 0 m σ H)/\∀ i m σ H,W i m σ H ->
   ((ItRv K a xs.length).stop i H/\D.nx σ H)\/((ItRv K a xs.length).go i H/\∃ N:St->Hp->Prop,(∀ σ' H',N σ' H'->∃ m',m' < m/\W (i+1) m' σ' H')/\∀ x H',(ItRv K a xs.length).yld i H x H'->g x σ H' λσ2 H2=>tb { D with nx:=N,ct:=N,bk:=D.nx } σ2 H2):=by
 refine ⟨λi m σ H=>m=xs.length - i/\i <= xs.length/\Pv i σ H,⟨xs.length,by simp,iG _,h0⟩,?_⟩;rintro i m σ H ⟨rfl,hi,p⟩;have q:=hl i σ H hi p;by_cases hlt:i < xs.length
 ·refine .inr ⟨⟨xs,q,Z,hlt⟩,Pv (i+1),λσ' H' p'=>⟨xs.length - (i+1),by lia,Z,hlt,p'⟩,λx H' y=>?_⟩;obtain ⟨e,y⟩:=y;subst e;exact hs i x σ _ hlt (y xs q Z) p
 ·have e:i=xs.length:=by lia
  subst e;exact .inl ⟨⟨xs,q,Z,gA _⟩,hd σ H p⟩
theorem dE {K:PySem.W.Frag} {a b:fT} {xs ys:List V} (hxy:xs.length=ys.length) {g:TG} {tb:TS} {D:OR} {σ:St} {H:Hp} (Pv:Nat->St->Hp->Prop) (h0:Pv 0 σ H) (hl:∀ i σ H,i <= xs.length->Pv i σ H->SqL K H a xs/\SqL K H b ys)
  (hs:∀ i x y t σ H,xs[i]? = some x->ys[i]? = some y->Pv i σ H->H t=none->g (.ref t) σ (upd H t (.tup [x,y])) λσ2 H2=>tb { D with nx:=Pv (i+1),ct:=Pv (i+1),bk:=D.nx } σ2 H2) (hd:∀ σ H,Pv xs.length σ H->D.nx σ H) :
  ∃ W:Nat->Nat->St->Hp->Prop,(∃ m,W 0 m σ H)/\∀ i m σ H,W i m σ H ->
   ((Itz K a b).stop i H/\D.nx σ H)\/((Itz K a b).go i H/\∃ N:St->Hp->Prop,(∀ σ' H',N σ' H'->∃ m',m' < m/\W (i+1) m' σ' H')/\∀ x H',(Itz K a b).yld i H x H'->g x σ H' λσ2 H2=>tb { D with nx:=N,ct:=N,bk:=D.nx } σ2 H2):=by
 refine ⟨λi m σ H=>m=xs.length - i/\i <= xs.length/\Pv i σ H,⟨xs.length,by simp,iG _,h0⟩,?_⟩;rintro i m σ H ⟨rfl,hi,p⟩;obtain ⟨q1,q2⟩:=hl i σ H hi p;by_cases hlt:i < xs.length
 ·refine .inr ⟨⟨xs,ys,xs[i],ys[i]'(by lia),q1,q2,by simp [hlt],by simp [show i < ys.length by lia]⟩,Pv (i+1),λσ' H' p'=>⟨xs.length - (i+1),by lia,Z,hlt,p'⟩,λx H' y=>?_⟩;obtain ⟨t,u,v,rfl,ht,rfl,y1,y2⟩:=y;exact hs i u v t σ H (y1 xs q1) (y2 ys q2) p ht
 ·have e:i=xs.length:=by lia
  subst e;exact .inl ⟨⟨xs,ys,q1,q2,.inl (gA _)⟩,hd σ H p⟩
end L2
namespace Tf
open PySem L2
def BZ (ns:List Int):List Int:=(i9 ns.length).map (down ns)
def FB (ns:List Int) (i:Nat):List Int:=(i9 i).map λj=>down ns (ns.length - (j+1))
theorem VP (ns:List Int) (i:Nat):(FB ns i).length=i:=by unfold FB;rw [fU,iS]
theorem TU (ns:List Int) (i:Nat):FB ns (i+1)=FB ns i ++ [down ns (ns.length - (i+1))]:=by unfold FB;rw [kF,gO];rfl
theorem AC (ns:List Int):(BZ ns).length=ns.length:=by unfold BZ;rw [fU,iS]
theorem UJ (ns:List Int):(FB ns ns.length).reverse=BZ ns:=by
 unfold FB BZ;apply jA
 ·simp
 ·intro i h1 h2;simp only [fU,iS] at h2;simp only [List.getElem_reverse,kA,jK,fU,iS];congr 1
  lia
theorem JI {ns:List Int} {i:Nat} (h:i < ns.length):(BZ ns)[i]? = some (down ns i):=by
 unfold BZ;rw [gE,lG h];rfl
theorem XZ {R:List Int} (h:1 <= R.length):jU (λd a=>d - a) (BZ R) ((BZ R).drop 1 ++ [0])=R:=by
 have e:(BZ R).drop 1 ++ [0]=(i9 R.length).map λi=>down R (i+1):=by
  apply jA
  ·rw [i6,k8,AC,fU,iS];show _ - 1+1=_;lia
  ·intro i h1 h2;rw [fU,iS] at h2;rw [kA,jK,List.getElem_append];have hd:((BZ R).drop 1).length=R.length - 1:=by rw [k8,AC]
   split
   ·rename_i h3;rw [hd] at h3;rw [List.getElem_drop];unfold BZ;rw [kA,jK,Nat.add_comm]
   ·rename_i h3;rw [hd] at h3;rw [BT (by lia)];simp
 rw [e];unfold BZ;rw [List.zipWith_map_left,List.zipWith_map_right,List.zipWith_self];exact eP Z
def mR (F:Int):Int->List (Bool × Int)->Int
 | _,[]=>0
 | x,z :: ss=>(if z.1=true then max 0 (z.2 - (F - x)) else 0)+mR F (Jx F x z) ss
def mH (F:Int):Int->List (Bool × Int)->Int
 | _,[]=>0
 | x,z :: ss=>(if z.1=true then 0 else max 0 (z.2 - x))+mH F (Jx F x z) ss
theorem JA (F:Int):∀ (ss:List (Bool × Int)) (x:Int),0 <= mR F x ss
 | [],_=>iU 0
 | z :: ss,x=>by
  have:=JA F ss (Jx F x z);show 0 <= (if z.1=true then max 0 (z.2 - (F - x)) else 0)+mR F (Jx F x z) ss;split <;> lia
theorem JR (F:Int):∀ (ss:List (Bool × Int)) (x:Int),0 <= mH F x ss
 | [],_=>iU 0
 | z :: ss,x=>by
  have:=JR F ss (Jx F x z);show 0 <= (if z.1=true then 0 else max 0 (z.2 - x))+mH F (Jx F x z) ss;split <;> lia
theorem DH (full h:Int) (z:Bool × Int) (ss:List (Bool × Int)):Zt full h (z :: ss)=Zt full (Jx full h z) ss:=rfl
theorem U9 (z:Bool × Int) (ss:List (Bool × Int)):CU (z :: ss)=(if z.1=true then z.2 else -z.2)+CU ss:=by
 have:=VJ [z] ss;rw [show [z] ++ ss=z :: ss from rfl] at this;rw [this];congr 1;show (0:Int)+_=_;rw [jL]
theorem XL {F:Int}:∀ (ss:List (Bool × Int)) (x:Int),(∀ z ∈ ss,0 <= z.2)->0 <= x->x <= F->Zt F x ss=x+CU ss - mR F x ss+mH F x ss
 | [],x,_,_,_=>by show x=x+0 - 0+0;lia
 | z :: ss,x,hz,h0,h1=>by
  have hz0:=hz z (gU ..);have hi:=GP hz0 h0 h1;have ih:=XL ss (Jx F x z) (λy hy=>hz y (gD _ hy)) hi.1 hi.2;rw [DH,ih,U9];show _=x+_ - ((if z.1=true then max 0 (z.2 - (F - x)) else 0)+mR F (Jx F x z) ss)+((if z.1=true then 0 else max 0 (z.2 - x))+mH F (Jx F x z) ss);generalize mR F (Jx F x z) ss=a;generalize mH F (Jx F x z) ss=b;unfold Jx;split <;> lia
theorem S4 {F:Int}:∀ (ss:List (Bool × Int)) (x:Int),(∀ z ∈ ss,0 <= z.2)->0 <= x->x <= F->0 < mR F x ss->Zt F x ss=Zt F F ss
 | [],x,_,_,_,h=>absurd h (by show ¬ (0:Int) < 0;lia)
 | z :: ss,x,hz,h0,h1,h=>by
  have hz0:=hz z (gU ..);have hi:=GP hz0 h0 h1;have hF:=GP hz0 (kK h0 h1) (iU F);have h:0 < (if z.1=true then max 0 (z.2 - (F - x)) else 0)+mR F (Jx F x z) ss:=h;rw [DH,DH];by_cases hp:0 < mR F (Jx F x z) ss
  ·have ih:=S4 ss (Jx F x z) (λy hy=>hz y (gD _ hy)) hi.1 hi.2 hp;have m1:=Jn (full:=F) ss (KO (full:=F) (z:=z) h1);have m2:=Jn (full:=F) ss hF.2
   lia
  ·have h0':=JA F ss (Jx F x z);have e:Jx F x z=Jx F F z:=by
    unfold Jx;by_cases hw:z.1=true
    ·rw [if_pos hw] at h ⊢;rw [if_pos hw]
     lia
    ·rw [if_neg hw] at h
     lia
   rw [e]
theorem RZ {F:Int}:∀ (ss:List (Bool × Int)) (x:Int),(∀ z ∈ ss,0 <= z.2)->0 <= x->x <= F->0 < mH F x ss->Zt F x ss=Zt F 0 ss
 | [],x,_,_,_,h=>absurd h (by show ¬ (0:Int) < 0;lia)
 | z :: ss,x,hz,h0,h1,h=>by
  have hz0:=hz z (gU ..);have hi:=GP hz0 h0 h1;have hF:=GP hz0 (iU 0) (kK h0 h1);have h:0 < (if z.1=true then 0 else max 0 (z.2 - x))+mH F (Jx F x z) ss:=h;rw [DH,DH];by_cases hp:0 < mH F (Jx F x z) ss
  ·have ih:=RZ ss (Jx F x z) (λy hy=>hz y (gD _ hy)) hi.1 hi.2 hp;have m1:=Jn (full:=F) ss (KO (full:=F) (z:=z) h0);have m2:=Jn (full:=F) ss hF.1
   lia
  ·have h0':=JR F ss (Jx F x z);have e:Jx F x z=Jx F 0 z:=by
    unfold Jx;by_cases hw:z.1=true
    ·rw [if_pos hw] at h
     lia
    ·rw [if_neg hw] at h ⊢;rw [if_neg hw]
     lia
   rw [e]
theorem CI {fQ:List Int}:∀ (ss:List (Bool × Int)) (s:WZ),(∀ z ∈ ss,0 <= z.2)->Zr fQ s.fR->(ss.foldl (AE fQ) s).room=s.room+mR (down fQ 0) (down s.fR 0) ss/\(ss.foldl (AE fQ) s).heat=s.heat+mH (down fQ 0) (down s.fR 0) ss
 | [],s,_,_=>⟨(jE _).symm,(jE _).symm⟩
 | z :: ss,s,hz,h=>by
  have hz0:=hz z (gU ..);obtain ⟨a,b⟩:=CI ss (AE fQ s z) (λy hy=>hz y (gD _ hy)) (h.seas z);have e:down (AE fQ s z).fR 0=Jx (down fQ 0) (down s.fR 0) z:=MW h hz0 (iG _);rw [j6,a,b,e];show (if z.1=true then s.room+Yh fQ s.fR z else s.room)+_=s.room+((if z.1=true then max 0 (z.2 - (down fQ 0 - down s.fR 0)) else 0)+_)/\(if z.1=true then s.heat else s.heat+Yh fQ s.fR z)+_=s.heat+((if z.1=true then 0 else max 0 (z.2 - down s.fR 0))+_);rw [QF h];by_cases hw:z.1=true
  ·rw [if_pos hw,if_pos hw,if_pos hw,if_pos hw,if_pos hw];lia
  ·rw [if_neg hw,if_neg hw,if_neg hw,if_neg hw,if_neg hw];lia
theorem GN {fQ:List Int}:∀ (ss:List (Bool × Int)) (s t:WZ),s.fR=t.fR->(ss.foldl (AE fQ) s).fR=(ss.foldl (AE fQ) t).fR
 | [],_,_,e=>e
 | z :: ss,s,t,e=>GN ss _ _ (by show C8 fQ s.fR z=C8 fQ t.fR z;rw [e])
theorem MX {fQ fR:List Int} {ss:List (Bool × Int)} (h:Zr fQ fR) (hz:∀ z ∈ ss,0 <= z.2):∀ n,(Zm fQ fR ss (n+1)).fR=(Zm fQ (BF fQ fR ss).fR ss n).fR /\
  (Zm fQ fR ss (n+1)).room=(BF fQ fR ss).room+(Zm fQ (BF fQ fR ss).fR ss n).room/\(Zm fQ fR ss (n+1)).heat=(BF fQ fR ss).heat+(Zm fQ (BF fQ fR ss).fR ss n).heat
 | 0=>⟨Z,(jE _).symm,(jE _).symm⟩
 | n+1=>by
  obtain ⟨a,b,c⟩:=MX h hz n;have h1:=A9 h ss (n+1);have h2:=A9 (QK h ss) ss n;obtain ⟨b1,c1⟩:=CI ss (Zm fQ fR ss (n+1)) hz h1;obtain ⟨b2,c2⟩:=CI ss (Zm fQ (BF fQ fR ss).fR ss n) hz h2;refine ⟨GN ss _ _ a,?_,?_⟩
  ·show (ss.foldl (AE fQ) (Zm fQ fR ss (n+1))).room=_+(ss.foldl (AE fQ) (Zm fQ (BF fQ fR ss).fR ss n)).room;rw [b1,b2,b,a];lia
  ·show (ss.foldl (AE fQ) (Zm fQ fR ss (n+1))).heat=_+(ss.foldl (AE fQ) (Zm fQ (BF fQ fR ss).fR ss n)).heat;rw [c1,c2,c,a];lia
theorem YS {fQ fR:List Int} {ss:List (Bool × Int)} (h:Zr fQ fR) (hz:∀ z ∈ ss,0 <= z.2) (hl:Zt (down fQ 0) 0 ss <= down fR 0) (hm:down fR 0 <= Zt (down fQ 0) (down fQ 0) ss) (n:Nat) :
  (Zt (down fQ 0) 0 ss=Zt (down fQ 0) (down fQ 0) ss->(Zm fQ fR ss n).room=n * (BF fQ fR ss).room/\(Zm fQ fR ss n).heat=n * (BF fQ fR ss).heat) /\
  (Zt (down fQ 0) 0 ss ≠ Zt (down fQ 0) (down fQ 0) ss->(Zm fQ fR ss n).room=max (down fR 0+n * CU ss - Jg (down fQ 0) (down fR 0) ss n) 0/\(Zm fQ fR ss n).heat=max (-(down fR 0+n * CU ss - Jg (down fQ 0) (down fR 0) ss n)) 0):=by
 have d:=h.down 0 (iG _);have hF:0 <= down fQ 0:=kK d.1 d.2;have pr:=CI ss ⟨fR,0,0⟩ hz h;have pr1:(BF fQ fR ss).room=mR (down fQ 0) (down fR 0) ss:=by have:=pr.1;rw [jL] at this;exact this
 have pr2:(BF fQ fR ss).heat=mH (down fQ 0) (down fR 0) ss:=by have:=pr.2;rw [jL] at this;exact this
 have dy:∀ n,down (Zm fQ fR ss n).fR 0=Jg (down fQ 0) (down fR 0) ss n:=K6 h hz (iG _);have step:∀ n,(Zm fQ fR ss (n+1)).room=(Zm fQ fR ss n).room+mR (down fQ 0) (Jg (down fQ 0) (down fR 0) ss n) ss/\(Zm fQ fR ss (n+1)).heat=(Zm fQ fR ss n).heat+mH (down fQ 0) (Jg (down fQ 0) (down fR 0) ss n) ss:=λn=>by
  have:=CI ss (Zm fQ fR ss n) hz (A9 h ss n);rw [dy n] at this;exact this
 generalize down fQ 0=F at *;generalize down fR 0=x at *;have hy:=IJ (full:=F) (h:=x) hz d.1 d.2;have hb:∀ n,Zt F 0 ss <= Jg F x ss n/\Jg F x ss n <= Zt F F ss:=λn=>by
  cases n with
  | zero=>exact ⟨hl,hm⟩
  | succ n=>exact ⟨Jn ss (hy n).1,Jn ss (hy n).2⟩
 refine ⟨λe=>?_,λne=>?_⟩
 ·have hx:∀ n,Jg F x ss n=x:=λn=>by have:=hb n;lia
  induction n with
  | zero=>exact ⟨by show (0:Int)=((0:Nat):Int) * _;simp,by show (0:Int)=((0:Nat):Int) * _;simp⟩
  | succ n ih=>
   rw [(step n).1,(step n).2,ih.1,ih.2,hx n,pr1,pr2,show ((n+1:Nat):Int)=(n:Int)+1 by lia,kY,kY,kZ,kZ];exact ⟨Z,Z⟩
 ·have bal:∀ n,Jg F x ss (n+1)=Jg F x ss n+CU ss - mR F (Jg F x ss n) ss+mH F (Jg F x ss n) ss:=λn=>XL ss _ hz (hy n).1 (hy n).2;have one:∀ n,(0 <= CU ss->mH F (Jg F x ss n) ss=0)/\(CU ss < 0->mR F (Jg F x ss n) ss=0):=λn=>by
   have b:=bal n;have n1:=JA F ss (Jg F x ss n);have n2:=JR F ss (Jg F x ss n);have r1:=S4 ss _ hz (hy n).1 (hy n).2;have r2:=RZ ss _ hz (hy n).1 (hy n).2;have eq:Jg F x ss (n+1)=Zt F (Jg F x ss n) ss:=rfl;have hbn:=hb n;rw [eq] at b;refine ⟨λhd=>?_,λhd=>?_⟩
   ·by_cases hp:0 < mH F (Jg F x ss n) ss
    ·have e2:=r2 hp;by_cases hq:0 < mR F (Jg F x ss n) ss
     ·have e1:=r1 hq;exact absurd (e2.symm.trans e1) ne
     ·lia
    ·lia
   ·by_cases hp:0 < mR F (Jg F x ss n) ss
    ·have e1:=r1 hp;by_cases hq:0 < mH F (Jg F x ss n) ss
     ·have e2:=r2 hq;exact absurd (e2.symm.trans e1) ne
     ·lia
    ·lia
  have tot:(0 <= (Zm fQ fR ss n).room/\0 <= (Zm fQ fR ss n).heat)/\(0 <= CU ss->(Zm fQ fR ss n).heat=0)/\(CU ss < 0->(Zm fQ fR ss n).room=0)/\Jg F x ss n=x+n * CU ss - (Zm fQ fR ss n).room+(Zm fQ fR ss n).heat:=by
   clear hl hm;induction n with
   | zero=>exact ⟨⟨iU 0,iU 0⟩,λ_=>rfl,λ_=>rfl,by show x=x+((0:Nat):Int) * CU ss - 0+0;simp⟩
   | succ n ih=>
    obtain ⟨⟨i0,i00⟩,i1,i2,i3⟩:=ih;have o:=one n;have b:=bal n;have st:=step n;have n1:=JA F ss (Jg F x ss n);have n2:=JR F ss (Jg F x ss n);rw [st.1,st.2,b,show ((n+1:Nat):Int)=(n:Int)+1 by lia,kY,kZ];refine ⟨⟨by lia,by lia⟩,λhd=>by have:=i1 hd;have:=o.1 hd;lia,λhd=>by have:=i2 hd;have:=o.2 hd;lia,by rw [i3];lia⟩
  obtain ⟨⟨t0,t00⟩,t1,t2,t3⟩:=tot;rw [t3];by_cases hd:0 <= CU ss
  ·have:=t1 hd;constructor <;> lia
  ·have:=t2 (by lia);constructor <;> lia
def BI (fQ fR:List Int) (ss:List (Bool × Int)) (n so:Nat):WZ:=(ss.take so).foldl (AE fQ) (Zm fQ fR ss n)
theorem YL {fQ:List Int} {s:WZ} {ss:List (Bool × Int)} (hz:∀ z ∈ ss,0 <= z.2) (h:Zr fQ s.fR):ss.foldl (AE fQ) s=⟨(BF fQ s.fR ss).fR,s.room+(BF fQ s.fR ss).room,s.heat+(BF fQ s.fR ss).heat⟩:=by
 have a:=GN (fQ:=fQ) ss s ⟨s.fR,0,0⟩ Z;obtain ⟨b,c⟩:=CI ss s hz h;obtain ⟨b',c'⟩:=CI ss ⟨s.fR,0,0⟩ hz h;have b':(BF fQ s.fR ss).room=mR (down fQ 0) (down s.fR 0) ss:=b'.trans (jL _);have c':(BF fQ s.fR ss).heat=mH (down fQ 0) (down s.fR 0) ss:=c'.trans (jL _);rw [b',c',<- b,<- c];show _=(⟨(List.foldl (AE fQ) ⟨s.fR,0,0⟩ ss).fR,_,_⟩:WZ);rw [<- a]
end Tf
namespace L2
open PySem PySem.Spec PyProof.Rows
section
variable {X:Cx} {p pos:Pos} {a b:i4} {ta tb:TE}
theorem PB (hc:X.calm=true):KJ X (.builtin "max") (λvs H Q=>∃ (p:fT) (ns:List Int),vs=[.ref p]/\SqL X.K H p (ns.map V.int)/\0 < ns.length/\∀ M ∈ ns,(∀ a ∈ ns,a <= M)->Q (.int M) H):=by
  intro fS s σ H vs us Q I r h;obtain ⟨p,ns,rfl,hq,hne,q⟩:=h;obtain ⟨u,rfl,rx⟩:=r.one;cases rx;obtain ⟨its,rv,pl,hz⟩:=I.list hq;have hi:=OB rv;obtain ⟨xs,e⟩:=hi.allInts.items;have hns:ns=xs.toList.map (·.1):=by rw [<- hi.numsOf,<- nums_intItems,<- e]
  have hsz:0 < xs.size:=by rw [hns,fU,jV] at hne;exact hne
  refine max_intList (I.ok.hd hc) (e ▸ pl.isList) hsz λv h' tk hv hk=>?_;obtain ⟨t,rfl⟩:=intItems_at hv;obtain ⟨h1,h2⟩:=argBest_gt (numAt xs) (xs.size - 1);refine ⟨.int (numAt xs (argBest (λi j=>decide (numAt xs i > numAt xs j)) (xs.size - 1))),H,I.kept hk,⟨_,Z⟩,q _ ?_ λa ha=>?_⟩
  · rw [hns,numAt_eq]
    exact getD_mem (by rw [fU,jV];lia)
  · rw [hns] at ha
    obtain ⟨j,hj,rfl⟩:=mem_getD ha;rw [fU,jV] at hj;rw [<- numAt_eq];exact h2 j (by lia)
theorem pe_max1 (hc:X.calm=true) (hm:X.mg "max" = none) (ha:PE X a ta) (hg:Gl X "max":=by rfl) (hs:gB [a] X.env=(false,eval a X.env) :: gB [] X.env:=by rfl):PE X (.Call (.Name "max" p) [a] [] pos) (tCB (λvs H Q=>∃ (p:fT) (ns:List Int),vs=[.ref p]/\SqL X.K H p (ns.map V.int)/\0 < ns.length/\∀ M ∈ ns,(∀ a ∈ ns,a <= M)->Q (.int M) H) (Yw ta IV)):=
 DU (PB hc) hg hm D9_ (Zo ha Jh hs) (by decide) (by decide) hs Z
theorem pe_abs (hm:X.mg "abs" = none) (ha:PE X a ta) (hg:Gl X "abs":=by rfl) (hs:gB [a] X.env=(false,eval a X.env) :: gB [] X.env:=by rfl):PE X (.Call (.Name "abs" p) [a] [] pos) (tCB (λxs H Q=>∃ i,xs=[.int i]/\Q (.int (if i < 0 then -i else i)) H) (Yw ta IV)):=
 DU call_abs hg hm D9_ (Zo ha Jh hs) (by decide) (by decide) hs Z
end
end L2
namespace Tf
open PySem L2
theorem OP {e d:Int} (he:0 <= e) (hd:0 < d):∃ q:Nat,(e+d - 1) / d=q/\e <= q * d/\∀ m:Nat,q=m+1->m * d < e:=by
 have a:=Int.mul_ediv_add_emod (e+d - 1) d;have b:=gM (e+d - 1) (show d ≠ 0 by lia);have c:=gC (e+d - 1) hd;have n0:0 <= (e+d - 1) / d:=Int.ediv_nonneg (by lia) (by lia);refine ⟨((e+d - 1) / d).toNat,by lia,?_,λm hm=>?_⟩
 ·rw [show ((((e+d - 1) / d).toNat:Nat):Int)=(e+d - 1) / d by lia,Int.mul_comm]
  lia
 ·have:(e+d - 1) / d=(m:Int)+1:=by lia
  rw [this,Int.mul_add,Int.mul_one,Int.mul_comm] at a
  lia
theorem OH:∀ (ss:List (Bool × Int)),(∀ z ∈ ss,0 <= z.2/\z.2 <= 1000000)->-((ss.length:Int) * 1000000) <= CU ss/\CU ss <= (ss.length:Int) * 1000000
 | [],_=>by show -((0:Nat):Int) * 1000000 <= 0/\_;exact ⟨by decide,by decide⟩
 | z :: ss,h=>by
  have ih:=OH ss λy hy=>h y (gD _ hy);have hz:=h z (gU ..);rw [U9,iN];split <;> lia
def RK (z:Bool × Int) (h u:Int):Int:=if z.1=true then h+u else h - u
def FR (fQ fR:List Int) (z:Bool × Int):List Int:=if z.1=true then HM fQ fR else fR
theorem b4 {rs:List Int} {a:Int} (h0:∀ i,i < rs.length->0 <= rs.getD i 0) {k:Nat} (hk:k <= rs.length):∀ i,i <= k->Jb rs a i <= Jb rs a k:=by
 refine IF k (iU _) λi hi ih=>?_;have:=HR (a:=a) (show i < rs.length by lia) (h0 i (by lia));have:=(GG (a:=a) (h0 i (by lia))).1
 lia
theorem d9 (rs:List Int) (a:Int) (i:Nat):0 <= Jb rs a i:=by unfold Jb;lia
def goL (fQ fR:List Int) (z:Bool × Int) (k:Nat):List Int:=(i9 fQ.length).map λi=>RK z (fR.getD i 0) (if k <= i then Yy (FR fQ fR z) z.2 i else 0)
theorem N8 (fQ fR:List Int) (z:Bool × Int) (k:Nat):(goL fQ fR z k).length=fQ.length:=by unfold goL;simp
theorem cE {fQ fR:List Int} {z:Bool × Int} {k i:Nat} (hi:i < fQ.length):(goL fQ fR z k).getD i 0=RK z (fR.getD i 0) (if k <= i then Yy (FR fQ fR z) z.2 i else 0):=CC hi
theorem QJ {fQ fR:List Int} (hl:fR.length=fQ.length) (z:Bool × Int):(FR fQ fR z).length=fQ.length:=by unfold FR;split;exact AM hl;exact hl
theorem cB {fQ fR:List Int} (hO:Zr fQ fR) (z:Bool × Int):∀ i,i < (FR fQ fR z).length->0 <= (FR fQ fR z).getD i 0:=by
 intro i hi;rw [QJ hO.len] at hi;unfold FR;split
 ·exact hO.rooms0 i (by rw [AM hO.len];exact hi)
 ·exact hO.lo i hi
theorem b6 {fQ fR:List Int} (hl:fR.length=fQ.length) (z:Bool × Int):goL fQ fR z fQ.length=fR:=by
 refine FI (by rw [N8,hl]) λi hi=>?_;rw [N8] at hi;rw [cE hi,if_neg (by lia)];unfold RK;split <;> lia
theorem eG {fQ fR:List Int} {z:Bool × Int} {j:Nat} (hj:j < fQ.length):(goL fQ fR z (j+1)).set j (RK z (fR.getD j 0) (Yy (FR fQ fR z) z.2 j))=goL fQ fR z j:=by
 unfold goL;refine jA (by simp) λi h1 h2=>?_;simp only [fU,iS] at h2;rw [List.getElem_set];simp only [kA,jK];by_cases e:j=i
 ·rw [if_pos e,if_pos (by lia),e]
 ·rw [if_neg e];by_cases hi:j <= i
  ·rw [if_pos hi,if_pos (by lia)]
  ·rw [if_neg hi,if_neg (by lia)]
theorem goL_fin {fQ fR:List Int} (hO:Zr fQ fR) (z:Bool × Int) {k:Nat} (hk:k <= fQ.length) (hs:Jb (FR fQ fR z) z.2 k <= 0\/k=0):Jb (FR fQ fR z) z.2 k=Yh fQ fR z/\goL fQ fR z k=C8 fQ fR z:=by
 have hrl:=QJ hO.len z;have hr0:=cB hO z;have e0:Jb (FR fQ fR z) z.2 0=Yh fQ fR z:=by unfold FR Yh;split <;> rfl
 have z0:=d9 (FR fQ fR z) z.2;have le:=λi (hi:i <= k)=>b4 (a:=z.2) hr0 (by lia) i hi;refine ⟨?_,?_⟩
 ·rw [<- e0];rcases hs with hs | rfl
  ·have a:=le 0 (iG _);have b:=z0 0;have c:=z0 k
   lia
  ·rfl
 ·refine FI (by rw [N8,(hO.seas z).len]) λi hi=>?_;rw [N8] at hi;have es:(if k <= i then Yy (FR fQ fR z) z.2 i else 0)=Yy (FR fQ fR z) z.2 i:=by
   by_cases h:k <= i
   ·rw [if_pos h]
   ·rw [if_neg h];rcases hs with hs | rfl
    ·have a:=le (i+1) (by lia);have b:=z0 (i+1);have c:=hr0 i (by lia);unfold Yy
     lia
    ·lia
  rw [cE hi,es];unfold RK FR C8;by_cases hb:z.1=true
  ·rw [if_pos hb,if_pos hb,if_pos hb,PM hO.len hi]
  ·rw [if_neg hb,if_neg hb,if_neg hb,PU (by rw [hO.len];exact hi)]
theorem P1 {fQ fR:List Int} {ss:List (Bool × Int)} (h:Zr fQ fR) (hz:∀ z ∈ ss,0 <= z.2) {j:Nat} (e:(Zm fQ fR ss (j+1)).fR=(Zm fQ fR ss j).fR):∀ k:Nat,(Zm fQ fR ss (j+k)).fR=(Zm fQ fR ss j).fR /\
  (Zm fQ fR ss (j+k)).room=(Zm fQ fR ss j).room+k * ((Zm fQ fR ss (j+1)).room - (Zm fQ fR ss j).room)/\(Zm fQ fR ss (j+k)).heat=(Zm fQ fR ss j).heat+k * ((Zm fQ fR ss (j+1)).heat - (Zm fQ fR ss j).heat)
 | 0=>⟨Z,by show _=_+((0:Nat):Int) * _;simp,by show _=_+((0:Nat):Int) * _;simp⟩
 | k+1=>by
  obtain ⟨a,b,c⟩:=P1 h hz e k;have f:=CI ss (Zm fQ fR ss (j+k)) hz (A9 h ss _);have g:=CI ss (Zm fQ fR ss j) hz (A9 h ss _);have f1:(Zm fQ fR ss (j+(k+1))).room=_:=f.1;have f2:(Zm fQ fR ss (j+(k+1))).heat=_:=f.2;have g1:(Zm fQ fR ss (j+1)).room=_:=g.1;have g2:(Zm fQ fR ss (j+1)).heat=_:=g.2;rw [a] at f1 f2;refine ⟨(GN ss _ _ a).trans e,?_,?_⟩
  ·rw [f1,b,g1,show ((k+1:Nat):Int)=(k:Int)+1 by lia,kY (k:Int) 1,kZ];generalize mR (down fQ 0) (down (Zm fQ fR ss j).fR 0) ss=m;rw [show (Zm fQ fR ss j).room+m - (Zm fQ fR ss j).room=m by lia]
   lia
  ·rw [f2,c,g2,show ((k+1:Nat):Int)=(k:Int)+1 by lia,kY (k:Int) 1,kZ];generalize mH (down fQ 0) (down (Zm fQ fR ss j).fR 0) ss=m;rw [show (Zm fQ fR ss j).heat+m - (Zm fQ fR ss j).heat=m by lia]
   lia
def RC (b:fT) (H H':Hp):Prop:=∀ x o,x ≠ b->H x=some o->H' x=some o
theorem RC.refl (b:fT) (H:Hp):RC b H H:=λ_ _ _ h=>h
theorem _root_.L2.Same.keep {H H':Hp} (s:Same H H') (b:fT):RC b H H':=λx o _ h=>s x o h
theorem RC.trans {b:fT} {H H' H2:Hp} (k:RC b H H') (k':RC b H' H2):RC b H H2:=λx o n h=>k' x o n (k x o n h)
theorem RC.upd {b:fT} {H:Hp} {o:HO}:RC b H (L2.upd H b o):=λx u n h=>by rw [Zk n];exact h
theorem RC.seq {K:PySem.W.Frag} {b a:fT} {H H':Hp} {xs:List V} (k:RC b H H') (h:SqL K H a xs) (n:a ≠ b):SqL K H' a xs:=by
 rcases h with (h | ⟨o,h⟩) | h
 ·exact .inl (.inl (k _ _ n h))
 ·exact .inl (.inr ⟨o,k _ _ n h⟩)
 ·exact .inr h
end Tf
namespace L2
open PySem PySem.Spec PyProof.Rows
theorem BM.there {P:gL} {w:gX} {H:Hp} {h:iC} {a:fT} {o:HO} (x:BM P w H h a o):∃ u,h.get? a=some u:=by
 cases o with
 | lst xs=>obtain ⟨_,_,_,_,e⟩:=x;exact ⟨_,e⟩
 | tup xs=>obtain ⟨_,_,_,o,e,_⟩:=x;exact ⟨_,e⟩
 | dK kvs=>obtain ⟨_,_,_,_,o,_,_,e,_⟩:=x;exact ⟨_,e⟩
 | dT kvs=>obtain ⟨_,_,_,_,o,_,_,e,_⟩:=x;exact ⟨_,e⟩
 | set S n=>obtain ⟨o,_,_,_,e,_⟩:=x;exact ⟨_,e⟩
 | ins C dx fs=>obtain ⟨_,_,_,e,_⟩:=x;exact ⟨_,e⟩
 | own y=>obtain ⟨_,e⟩:=x;exact ⟨_,e⟩
 | xd fs=>obtain ⟨_,⟨_,_,_,e,_⟩,_⟩:=x;exact ⟨_,e⟩
 | rng lo hi=>obtain ⟨_,_,_,e⟩:=x;exact ⟨_,e⟩
 | frz ob u=>obtain ⟨e,_⟩:=x;exact ⟨_,e⟩
 | tbl ps=>exact ⟨_,(show h.get? a=some _ from x)⟩
 | met f y=>exact ⟨_,(show h.get? a=some _ from x)⟩
 | ext φ=>obtain ⟨_,⟨_,e⟩,_⟩:=x;exact ⟨_,e⟩
theorem HOk.gone {P:gL} {w:gX} {H:Hp} {h:iC} {a:fT} (ok:HOk P w H h) (e:h.get? a=none):H a=none:=by
 cases q:H a with
 | none=>rfl
 | some u=>
  obtain ⟨v,z⟩:=(ok a u q).there;rw [e] at z;cases z
structure Fly (h0:iC) (x:fT) (cls:fV) (H:Hp) (h:iC):Prop where
 new:h0.get? x=none
 un:H x=none
 tr:∃ oe vs T oT ts,h.get? x=some oe/\oe.cls=cls/\oe.data = .fields vs/\vs[1]? = some (.ref T)/\h0.get? T=none/\H T=none/\T ≠ x/\h.get? T=some oT/\oT.data = .fields ts/\ts[3]? = some .none
def CX1 (P:gL) (w:gX):CXT:=λouter H s E e s'=>E3 λx cls H'=>e = .ref x/\s'.os=s.os/\AllBare s'.gens/\Un (frs outer) [] H H' s.heap s'.heap/\HOk P w H' s'.heap/\Fly s.heap x cls H' s'.heap/\E cls (some x) H'
section
variable {fs fr ds:List fT} {H₀ H:Hp} {h₀ h h':iC} {P:gL} {w:gX}
theorem VC (u:Un fs [] H₀ H h₀ h) (k1:∀ b o,b ∉ ds->b ∉ fr->h.get? b=some o->h'.get? b=some o) (k2:∀ b o,b ∈ fr->h.get? b=some o->∃ sl,h'.get? b=some { o with slots:=sl })
  (hds:∀ d ∈ ds,h₀.get? d=none) (hfr:∀ b ∈ fr,b ∈ fs\/h₀.get? b=none) (hfs:∀ b ∈ fs,b ∈ fr):Un fs [] H₀ H h₀ h' where
 keep:=λb o e n hb hx=>k1 b o (λz=>by rw [hds b z] at e;cases e) (λz=>(hfr b z).elim hb λq=>by rw [q] at e;cases e) (u.keep b o e n hb hx)
 slot:=λb o e n hb hx=>by
  obtain ⟨sl,e1⟩:=u.slot b o e n hb hx;obtain ⟨sl',e2⟩:=k2 b _ (hfs b hb) e1;exact ⟨sl',e2⟩
 free:=u.free
 there:=λb o e hx=>by
  obtain ⟨o',e1⟩:=u.there b o e hx;by_cases hb:b ∈ fr
  ·obtain ⟨sl,e2⟩:=k2 b _ hb e1;exact ⟨_,e2⟩
  ·exact ⟨o',k1 b o' (λz=>by rw [hds b z] at e;cases e) hb e1⟩
 tups:=u.tups
 frzs:=u.frzs
 tbls:=u.tbls
theorem Q0 (ok:HOk P w H h) (k1:∀ b o,b ∉ ds->b ∉ fr->h.get? b=some o->h'.get? b=some o) (hds:∀ d ∈ ds,H d=none) (hfr:∀ b ∈ fr,H b=none):HOk P w H h':=λb u e=>by
 have ok':∀ c v,H c=some v->c ∉ ds/\c ∉ fr:=λc v q=>⟨λz=>(by rw [hds c z] at q;cases q),λz=>(by rw [hfr c z] at q;cases q)⟩;refine (ok b u e).stay (λc v hc q=>?_) (λ_ q=>q) λ_ _ q=>q;rcases hc with z | z
 ·subst z;exact k1 c v (ok' c u e).1 (ok' c u e).2 q
 ·exact k1 c v (ok' c _ z).1 (ok' c _ z).2 q
theorem RU {l:List Env} {x:fT} {cls:fV} (hL:Heap.Left (kD h (ds ++ frs l)) l x cls h h') :
  ∀ b o,b ∉ ds->b ∉ frs l->h.get? b=some o->h'.get? b=some o:=λb o h1 h2 e=>
 hL.1 b o (jG _ e λz=>(iM.mp z).elim h1 h2)
end
def cxAt (CX:CXT) (P:gL) (w:gX) (K:PySem.W.Frag) (mg:fZ->Option fV) (base:iC) (N:List fZ) (env:Env) (fn:fZ->Bool) (A:iD) (outer:List Env) (s:fW) (H:Hp) (E:XK):Cx where
 prog:=P
 w:=w
 K:=K
 mg:=mg
 base:=base
 A:=A.deeper env
 N:=N
 s₀:=s
 H₀:=H
 env:=env
 outer:=outer
 stack:=env :: outer
 ex:=[]
 calm:=true
 fn:=fn
 pn:=[]
 xe:=λe s'=>gT (gW P w) (A.deeper env) (leaving env e) (λ_ s''=>CX outer H s E e s'') (λe' s''=>CX outer H s E e' s'') s'
section
variable {P:gL} {w:gX} {K:PySem.W.Frag} {mg:fZ->Option fV} {base:iC} {N:List fZ} {env:Env} {fn:fZ->Bool} {A:iD} {outer:List Env} {s:fW} {H:Hp} {E:XK}
theorem fE {fS:List (fT × j5)} {σ:St} {H1:Hp} {s1:fW} {h1:iC} {e:fT} {cls:fV} {vs:List fV} (hf:env.frame=some env.locals) (hL0:s.heap.get? env.locals=none) (I:Inv (cxAt (CX1 P w) P w K mg base N env fn A outer s H E) fS σ H1 s1)
  (hx:Heap.MadeExcOf s1.heap h1 e cls vs) (hE:E cls (some e) H1):(cxAt (CX1 P w) P w K mg base N env fn A outer s H E).xe (.ref e) { s1 with heap:=h1 }:=by
 have st:s1.heap.FunFrames base (env :: outer):=I.stack;have hsubF:∀ b ∈ frs outer,b ∈ frs (env :: outer):=λb hb=>by unfold frs;rw [iT,hf];exact gD _ hb
 have free:∀ b ∈ frs (env :: outer),H1 b=none:=I.stkFree;have sub:∀ b ∈ frs (env :: outer),b=env.locals\/b ∈ frs outer:=λb hb=>gR.mp (I.stkSub b hb);obtain ⟨t,he,ht,_⟩:=hx.there;have st1:h1.FunFrames base (env :: outer):=st.of_keeps λb o q _=>⟨o,hx.keeps b o q,Z⟩;have hH1:∀ d,s1.heap.get? d=none->H1 d=none:=λd q=>I.hok.gone q;have hs0:∀ d,s1.heap.get? d=none->s.heap.get? d=none:=λd q=>by
  cases z:s.heap.get? d with
  | none=>rfl
  | some o=>
   obtain ⟨o',y⟩:=I.base.there d o z (by intro q;exact absurd (show d ∈ ([]:List fT) from q) (by simp));rw [q] at y;cases y
 show gT (gW P w) (A.deeper env) (leaving env (.ref e)) _ _ _
 refine wpAny_leaving_first (base:=kD h1 ([e] ++ frs (env :: outer))) (s:={ s1 with heap:=h1 }) I.ok.frames (kU st1 λen henv a ha=>iE _ (kC.mpr ⟨en,henv,ha⟩)) hf he (λb o q=>kM _ q) (jB _ (by simp)) Z Z λh2 hL=>?_;have k1:=RU hL;have k2:∀ b o,b ∈ frs (env :: outer)->h1.get? b=some o->∃ sl,h2.get? b=some { o with slots:=sl }:=λb o hb q=>by
  obtain ⟨_,o',e',nr⟩:=st1.mem hb;rw [q] at e';cases e';exact hL.2.2.2 b o q nr
 have u1:Un (frs outer) [] H H1 s.heap h1:=I.base.trans (Un.kept hx.keeps);have hd0:∀ d ∈ [e],s.heap.get? d=none:=λd hd=>by
  have:d=e:=by simpa using hd
  subst this;exact hs0 d hx.new
 have hd1:∀ d ∈ [e],H1 d=none:=λd hd=>by
  have:d=e:=by simpa using hd
  subst this;exact hH1 d hx.new
 have hf0:∀ b ∈ frs (env :: outer),b ∈ frs outer\/s.heap.get? b=none:=λb hb=>(sub b hb).elim (λz=>.inr (by rw [z];exact hL0)) .inl;refine ⟨e,cls,H1,Z,I.os,I.bare,VC u1 k1 k2 hd0 hf0 hsubF,Q0 (I.hok.kept hx.keeps) k1 hd1 free,⟨hd0 e (by simp),hd1 e (by simp),?_⟩,hE⟩;obtain ⟨oe,ws,T,oT,ts,a1,a2,a3,a4,a5,a6,a7,a8,a9⟩:=hL.2.2.1;have hT:s1.heap.get? T=none:=by
  cases z:s1.heap.get? T with
  | none=>rfl
  | some o=>
   have z1:=hx.keeps _ _ z;by_cases hT:T ∈ frs (env :: outer)
   ·obtain ⟨_,o',e',nr⟩:=st1.mem hT;obtain ⟨sl,y⟩:=k2 T o' hT e';rw [a7] at y;cases y;exact absurd a8 (nr ts)
   ·have:=jG ([e] ++ frs (env :: outer)) z1 (λq=>by
     rcases iM.mp q with q | q
     ·have:T=e:=by simpa using q
      exact a6 this
     ·exact hT q)
    rw [a5] at this;cases this
 exact ⟨oe,ws,T,oT,ts,a1,a2,a3,a4,hs0 T hT,hH1 T hT,a6,a7,a8,a9⟩
theorem Je (hf:env.frame=some env.locals) (hL0:s.heap.get? env.locals=none):FS (CX1 P w) (cxAt (CX1 P w) P w K mg base N env fn A outer s H E) E:=by
 intro fS σ H1 s1 e s' I hc;obtain ⟨x,cls,H2,rfl,os,bare,u,ok,F,hE⟩:=hc;have st:s1.heap.FunFrames base (env :: outer):=I.stack;have hsubF:∀ b ∈ frs outer,b ∈ frs (env :: outer):=λb hb=>by unfold frs;rw [iT,hf];exact gD _ hb
 have free1:∀ b ∈ frs (env :: outer),H1 b=none:=I.stkFree;have sub:∀ b ∈ frs (env :: outer),b=env.locals\/b ∈ frs outer:=λb hb=>gR.mp (I.stkSub b hb);have u:Un (frs (env :: outer)) [] H1 H2 s1.heap s'.heap:=u;have free:∀ b ∈ frs (env :: outer),H2 b=none:=λb hb=>by
  obtain ⟨_,o,ho,_⟩:=st.mem hb;exact u.free b o ho (free1 b hb) (by simp)
 have st1:s'.heap.FunFrames base (env :: outer):=by
  have all:∀ (l:List Env),(∀ b ∈ frs l,b ∈ frs (env :: outer))->s1.heap.FunFrames base l->s'.heap.FunFrames base l:=by
   intro l;induction l with
   | nil=>intro _ _;trivial
   | cons en r ih=>
    intro hs hl;obtain ⟨hk,⟨L,o,hf',hn,ho,hd⟩,hr⟩:=hl;have hL:L ∈ frs (env :: outer):=hs L (by unfold frs;rw [iT,hf'];exact gU);obtain ⟨sl,e⟩:=u.slot L o ho (free1 L hL) hL (by simp);exact ⟨hk,⟨L,_,hf',hn,e,hd⟩,ih (λb hb=>hs b (by unfold frs;rw [iT,hf'];exact gD _ hb)) hr⟩
  exact all _ (λ_ hb=>hb) st
 obtain ⟨oe,ws,T,oT,ts,a1,a2,a3,a4,a5,a6,a7,a8,a9,a10⟩:=F.tr;have hs0:∀ d,s1.heap.get? d=none->s.heap.get? d=none:=λd q=>by
  cases z:s.heap.get? d with
  | none=>rfl
  | some o=>
   obtain ⟨o',y⟩:=I.base.there d o z (by intro q;exact absurd (show d ∈ ([]:List fT) from q) (by simp));rw [q] at y;cases y
 have hs1:∀ d,s'.heap.get? d=none->s1.heap.get? d=none:=λd q=>by
  cases z:s1.heap.get? d with
  | none=>rfl
  | some o=>
   obtain ⟨o',y⟩:=u.there d o z (by simp);rw [q] at y;cases y
 show gT (gW P w) (A.deeper env) (leaving env (.ref x)) _ _ _
 refine wpAny_leaving_next (base:=kD s'.heap ([x,T] ++ frs (env :: outer))) (cls:=cls) I.ok.frames (kU st1 λen henv a ha=>iE _ (kC.mpr ⟨en,henv,ha⟩)) hf ⟨oe,ws,T,oT,ts,a1,a2,a3,a4,jB _ (by simp),a7,a8,a9,a10⟩ (λb o q=>kM _ q) (jB _ (by simp)) λh2 hL=>?_;have k1:=RU hL;have k2:∀ b o,b ∈ frs (env :: outer)->s'.heap.get? b=some o->∃ sl,h2.get? b=some { o with slots:=sl }:=λb o hb q=>by
  obtain ⟨_,o',e',nr⟩:=st1.mem hb;rw [q] at e';cases e';exact hL.2.2.2 b o q nr
 have u1:Un (frs outer) [] H H2 s.heap s'.heap:=by
  have u0:Un (frs outer) [] H H1 s.heap s1.heap:=I.base;refine ⟨λb o q n hb hx=>?_,λb o q n hb hx=>?_,λb o q n hx=>?_,λb o q hx=>?_,λb xs q=>u.tups b xs (u0.tups b xs q),λb o xs q=>u.frzs b o xs (u0.frzs b o xs q),λb ps q=>?_⟩
  ·exact u.keep b o (u0.keep b o q n hb hx) (u0.free b o q n hx) (λz=>(sub b z).elim (λy=>by rw [y,hL0] at q;cases q) hb) hx
  ·obtain ⟨sl,e1⟩:=u0.slot b o q n hb hx;obtain ⟨sl',e2⟩:=u.slot b _ e1 (u0.free b o q n hx) (hsubF b hb) hx;exact ⟨sl',e2⟩
  ·obtain ⟨o',e1⟩:=u0.there b o q hx;exact u.free b o' e1 (u0.free b o q n hx) hx
  ·obtain ⟨o',e1⟩:=u0.there b o q hx;exact u.there b o' e1 hx
  ·obtain ⟨m1,e1⟩:=u0.tbls b ps q;obtain ⟨m2,e2⟩:=u.tbls b _ e1;exact ⟨m1 ++ m2,by rw [e2,lH]⟩
 have two:∀ d ∈ [x,T],d=x\/d=T:=λd hd=>by simpa using hd
 have hd0:∀ d ∈ [x,T],s.heap.get? d=none:=λd hd=>hs0 d ((two d hd).elim (λz=>by rw [z];exact F.new) λz=>by rw [z];exact a5);have hd1:∀ d ∈ [x,T],H2 d=none:=λd hd=>(two d hd).elim (λz=>by rw [z];exact F.un) λz=>by rw [z];exact a6
 have hf0:∀ b ∈ frs (env :: outer),b ∈ frs outer\/s.heap.get? b=none:=λb hb=>(sub b hb).elim (λz=>.inr (by rw [z];exact hL0)) .inl;refine ⟨x,cls,H2,Z,os.trans I.os,bare,VC u1 k1 k2 hd0 hf0 hsubF,Q0 ok k1 hd1 free,⟨hd0 x (by simp),F.un,?_⟩,hE⟩;obtain ⟨oe',ws',T',oT',ts',c1,c2,c3,c4,c5,c6,c7,c8,c9⟩:=hL.2.2.1;have hT:T' = T\/s'.heap.get? T' = none:=by
  by_cases hTT:T' = T
  ·exact .inl hTT
  ·refine .inr ?_;cases z:s'.heap.get? T' with
   | none=>rfl
   | some o=>
    by_cases hT:T' ∈ frs (env :: outer)
    ·obtain ⟨_,o',e',nr⟩:=st1.mem hT;obtain ⟨sl,y⟩:=k2 T' o' hT e';rw [c7] at y;cases y;exact absurd c8 (nr ts')
    ·have:=jG ([x,T] ++ frs (env :: outer)) z (λq=>by
      rcases iM.mp q with q | q
      ·exact (two T' q).elim c6 hTT
      ·exact hT q)
     rw [c5] at this;cases this
 have hT0:s.heap.get? T' = none/\H2 T' = none:=by
  rcases hT with z | z
  ·rw [z];exact ⟨hd0 T (by simp),a6⟩
  ·exact ⟨hs0 T' (hs1 T' z),ok.gone z⟩
 exact ⟨oe',ws',T',oT',ts',c1,c2,c3,c4,hT0.1,hT0.2,c6,c7,c8,c9⟩
end
section
variable {P:gL} {w:gX} {K:PySem.W.Frag} {mg:fZ->Option fV} {base:iC} {N:List fZ} {qual:fZ} {scope:Scope} {f:fT} {cd:fV} {A:iD} {outer:List Env} {s:fW} {H:Hp} {E:XK}
theorem Yu:FS (CX1 P w) (LY (CX1 P w) P w K mg base N qual scope f cd A outer s H E) E:=
 Je (env:=envOfC qual scope s.heap.objs.size f cd) (fn:=λ_=>true) Z (Heap.get?_none_of_le (gA _))
end
abbrev TJ:=St->Hp->(Hp->Prop)->Prop
def PJ (X:Cx) (es:List i4) (t:TJ):Prop:=
 ∀ (fS:List (fT × j5)) (s:fW) (σ:St) (H:Hp) (acc:fZ) (Q:VK),Inv X fS σ H s->acc.length+2000 * es.length <= 100000->t σ H (λH'=>∀ z,Q (.str z) H') ->
  gT (gW X.prog X.w) X.A (joinParts acc (evalEach es X.env)) (EP X fS σ Q) X.xe s
def jNil:TJ:=λ_ H Q=>Q H
def jStr (t:TJ):TJ:=t
def jInt (te:TE) (t:TJ):TJ:=λσ H Q=>te σ H λx H1=>∃ i:Int,x = .int i/\i.natAbs.log2 < 1920/\t σ H1 Q
section
variable {X:Cx} {e:i4} {es:List i4} {te:TE} {t:TJ} {pos p2:Pos}
theorem JQ:PJ X [] jNil:=by
 intro fS s σ H acc Q I hl h;exact wpAny_mkStr ⟨.str acc,H,I.tok _,⟨_,Z⟩,h acc⟩ (E9 (by simpa using hl))
theorem FN {y:fZ} {k:Nat} (hr:PJ X es t) (hy:y.length <= 2000:=by decide +kernel):PJ X (.Constant (.str y) k pos :: es) (jStr t):=by
 intro fS s σ H acc Q I hl h;have hl:acc.length+2000 * (es.length+1) <= 100000:=hl;refine joinParts_cons (x:=eval (.Constant (.str y) k pos) X.env) (rest:=evalEach es X.env) (Calls.Constant_str ?_);show (acc ++ y).length <= hJ/\gT _ _ (joinParts (acc ++ y) (evalEach es X.env)) _ _ _;refine ⟨E9 (by rw [strLen_append];lia),hr fS _ σ H (acc ++ y) Q (I.tok _) (by rw [strLen_append];lia) h⟩
theorem HE (he:PE X e te) (hr:PJ X es t):PJ X (.FormattedValue e (-1) none pos :: es) (jInt te t):=by
 intro fS s σ H acc Q I hl h;have hl:acc.length+2000 * (es.length+1) <= 100000:=hl;refine joinParts_cons (x:=eval (.FormattedValue e (-1) none pos) X.env) (rest:=evalEach es X.env) (FormattedValue_plain (thn (he fS s σ H _ I h) λv s1 ⟨x,H1,I1,r1,q1⟩=>?_));obtain ⟨i,rfl,hi,q⟩:=q1;obtain ⟨tk,rfl⟩:=r1;have hz:=int_text_len_1921 hi;refine formatField_int_small hi ?_;show (acc ++ Str.ofString (toString i)).length <= hJ/\gT _ _ (joinParts (acc ++ Str.ofString (toString i)) (evalEach es X.env)) _ _ _;refine ⟨E9 (by rw [strLen_append];lia),hr fS _ σ H1 _ Q (I1.tok _) (by rw [strLen_append];lia) q⟩
def tFstr (t:TJ):TE:=λσ H Q=>t σ H λH'=>∀ z,Q (.str z) H'
theorem FF {v1 v2:i4} {rest:List i4} (h:PJ X (v1 :: v2 :: rest) t) (hn:rest.length <= 20:=by decide):PE X (.JoinedStr (v1 :: v2 :: rest) pos) (tFstr t):=by
 intro fS s σ H Q I hw;refine JoinedStr_many (h fS s σ H Str.empty Q I ?_ hw);show 0+2000 * (rest.length+1+1) <= 100000
 lia
end
structure Exc (K:PySem.W.Frag) (mg:fZ->Option fV) (x:fZ) (C:fT):Prop where
 g:mg x=some (.ref C)
 ex:PySem.W.excIn K C [.type "ValueError",.type "Exception",.type "BaseException",.type "object"] "ValueError.__new__" = true
section
variable {X:Cx} {x:fZ} {C:fT} {e:i4} {es:List i4} {t:TA} {np cpos pos:Pos} {E:XK}
theorem Exc.own {K:PySem.W.Frag} {mg:fZ->Option fV} {h:iC} (O:Exc K mg x C) (KX:K.In h):OwnCls x C [.type "ValueError",.type "Exception",.type "BaseException",.type "object"] "ValueError.__new__" mg h:=by
 refine ⟨O.g,?_⟩;have q:=O.ex;unfold PySem.W.excIn at q;split at q
 ·rename_i dd cd sl ho;split at q
  ·rename_i C' bm k0 k1 k2 k3 n k5 hm hs;simp only [kJ,beq_iff_eq,Bool.not_eq_true'] at q;obtain ⟨⟨⟨⟨⟨e1,e2⟩,hdel⟩,ht⟩,hok⟩,hni⟩:=q;subst e1 e2;obtain ⟨nm,bs,mro,ns,qn,hd,sn,sub,ab,col,del⟩:=cd;dsimp only at hm hdel hok hni;subst hm hdel;have hsl:sl = #[k0,k1,k2,k3,some (.builtin "ValueError.__new__"),k5]:=by
    obtain ⟨l⟩:=sl;have hs:l=_:=hs;rw [hs]
   subst hsl;exact ⟨bm,ns,nm,qn,bs,hd,sn,sub,ab,col,dd,k0,k1,k2,k3,k5,_,KX _ _ ho,.of_isNs (PySem.W.isNs_of_in KX hok),PySem.W.nsMap_none_of_in KX hok hni,PySem.W.tail_of_in KX ht⟩
  ·cases q
 ·cases q
def Throws (X:Cx) (E:XK):Prop:=∀ (fS:List (fT × j5)) (σ:St) (H:Hp) (s:fW) (h':iC) (e:fT) (cls:fV) (vs:List fV),Inv X fS σ H s->Heap.MadeExcOf s.heap h' e cls vs->E cls (some e) H->X.xe (.ref e) { s with heap:=h' }
def tRaise (C:fT) (E:XK) (t:TA):TS:=λ_ σ H=>t σ H λvs H1=>vs.length <= hJ/\∀ e,H1 e=none->E (.ref C) (some e) H1
theorem D5 (hc:X.calm=true) (O:Exc X.K X.mg x C) (hT:Throws X E) (ha:PA X (e :: es) t) (hg:Gl X x:=by rfl) (hdb:(x == ("__debug__":fZ))=false:=by decide)
    (he:gB (e :: es) X.env=(false,eval e X.env) :: gB es X.env:=by rfl) (hplain:(backTo cpos (gB es X.env)).any (·.1)=false:=by rfl) :
    PS X (.Raise (some (.Call (.Name x np) (e :: es) [] cpos)) none pos) (tRaise C E t):=by
  intro fS s σ H D I h;obtain ⟨tl,N,nm,q,bs,hdct,sn,sub,ab,col,dd,k0,k1,k2,k3,k5,mN,hC,hN,hni,T⟩:=(O.own I.ok.mod.kin).obj
  refine wpAny_Raise_call_subT (C:=C) (nm:=nm) (q:=q) (N:=N) (bs:=bs) (bm:=tl) (hdct:=hdct) (sn:=sn) (sub:=sub) (ab:=ab) (col:=col) (dd:=dd) (k0:=k0) (k1:=k1) (k2:=k2) (k3:=k3) (k5:=k5) F.excBase_ValueError (mN:=mN) (T.hasType F.excBase_ValueError.hasBase) (I.ok.hd hc) (by rw [he];show (false || (backTo cpos (gB es X.env)).any (·.1))=false;rw [hplain];rfl) hni (K5 I hg O.g ⟨Z,?_⟩ hdb);have hA:=ha cpos fS s σ H _ I h;rw [he] at hA ⊢;refine Calls.evalArgs_plain (thn hA λus s2 ⟨vs,H2,I2,r2,q2⟩=>?_);refine ⟨Z,by rw [<- r2.length];exact q2.1,I2.bk _ _ hC,hN.keeps I2.bk,T.keeps I2.bk,λh' ex hx=>?_⟩;exact hT fS σ H2 s2 h' ex (.ref C) us I2 hx (q2.2 ex (I2.hok.gone hx.new))
theorem CG {P:gL} {w:gX} {K:PySem.W.Frag} {mg:fZ->Option fV} {base:iC} {N:List fZ} {qual:fZ} {scope:Scope} {f:fT} {cd:fV} {A:iD} {outer:List Env} {s:fW} {H:Hp} {E:XK} :
  Throws (LY (CX1 P w) P w K mg base N qual scope f cd A outer s H E) E:=λfS σ H1 s1 h' e cls vs I hx hE=>
 fE (env:=envOfC qual scope s.heap.objs.size f cd) (fn:=λ_=>true) Z (Heap.get?_none_of_le (gA _)) I hx hE
theorem Fun.okX {P:gL} {w:gX} {K:PySem.W.Frag} {mg:fZ->Option fV} {base:iC} {x qual:fZ} {st:hZ} {f:fT} {fd:iF} {N ps:List fZ} {k:Nat} {sp:Sp} (F:Fun K x qual st f fd) (S:Zj N ps (Zd st)) (len:∀ vs H Q E,sp vs H Q E->vs.length=ps.length)
  (hbody:∀ (cdv:fV) (A:iD) (outer:List Env) (s:fW) (H:Hp) (vs:List V) (Q:VK) (E:XK),DC k (A.deeper (envOfC qual (Zd st) s.heap.objs.size f cdv))->sp vs H Q E ->
   ∃ t,PSs (LY (CX1 P w) P w K mg base N qual (Zd st) f cdv A outer s H E) (Jr st) t/\t { nx:=λ_ H'=>Q .non H',rt:=Q } (GW N vs) H):Ym P w K mg base (CX1 P w) (k+1) f fd ps sp:=by
 obtain ⟨oc,od,kV,doc,pm,an,cdv,ct,osl,rfl,lk,hcd⟩:=F.ex;exact fn_of lk hcd S len λA outer s H vs Q E hr hsp=>hbody cdv A outer s H vs Q E hr hsp
structure OkX (P:gL) (w:gX) (K:PySem.W.Frag) (mg:fZ->Option fV) (base:iC) (x:fZ) (ps:List fZ) (k:Nat) (sp:Sp):Prop where
 ex:∃ f fd,Ym P w K mg base (CX1 P w) k f fd ps sp/\B9 K fd ps []/\mg x=some (.ref f)/\jT K (.ref f)=true
theorem Yc {k j:Nat} {ps:List fZ} {sp:Sp} {p pos:Pos} (O:OkX X.prog X.w X.K X.mg X.base x ps k sp) (hr:DC j X.A) (hx:FS (CX1 X.prog X.w) X E) (ha:PA X (e :: es) t) (hg:Gl X x:=by rfl) (hj:k <= j:=by decide) (hdb:(x == ("__debug__":fZ))=false:=by decide) (he:gB (e :: es) X.env=(false,eval e X.env) :: gB es X.env:=by rfl) (hpl:(backTo pos (gB es X.env)).any (·.1)=false:=by rfl) :
    PE X (.Call (.Name x p) (e :: es) [] pos) (tCall sp [] E t):=by
  obtain ⟨f,fd,F,b,m,kp⟩:=O.ex;exact dU F (hr.mono hj) hg m kp b .nil hx ha hdb he hpl
end
end L2
namespace L2
open PySem PySem.Spec PyProof.Rows PySem.W
structure ExcK (K:Frag) (C:fT):Prop where
 cls:(clsIn K C).isSome=true
 ga:findIn K (.ref C) "__getattribute__" = some (some (.builtin "BaseException.__getattribute__"))
 gn:findIn K (.ref C) "__getattr__" = some none
 at':findIn K (.ref C) "__class__" = some (some (.builtin "object.__class__"))
 base:mroIn K C (.type "BaseException")=some true
 obj:mroIn K C (.type "object")=some true
section
variable {prog:gL} {w:gX} {A:iD} {E:fV->fW->Prop} {h:iC} {g:Array GenState} {d:Drawn} {t:Nat} {os:OsState} {a C:fT} {o:j5} {K:Frag}
theorem fK {M:Model} (hx:h.get? a=some o) (hc:o.cls = .ref C):Looks M h (typeOf (.ref a)) (.ref C):=λA Q E s k q=>by
 show gT M A (loadPart a _ >>= λo=>pure o.cls) Q E s;exact gQ (wpAny_loadPart (k _ _ hx) (wpAny_pure (by rw [hc];exact q)))
theorem xc_get {R:Result->fW->Prop} (X:K.In h) (B:ExcK K C) (hx:h.get? a=some o) (hc:o.cls = .ref C) (hq:R (.ok (.ret (.ref C))) ⟨h,g,d,t,os⟩) :
  codeAny (gW prog w) A (.call (.builtin "getset_descriptor.__get__") ⟨[.builtin "object.__class__",.ref a,.ref C],[]⟩) R ⟨h,g,d,t,os⟩:=by
 have hT5:(⟨h,g,d,t,os⟩:fW).TypeIs (.builtin "object.__class__") "getset_descriptor":=F.typeOf_object_class;have hs:Looks (gW prog w) h (isSubtype (.ref C) (.type (".".intercalate ("object.__class__".cutAt '.').dropLast))) true:=by
  rw [F.owner_object_class];exact looks_mroIn X B.obj
 refine codeAny_call_builtin F.slot_gs_get.plain F.entry_gs_get (F.slot_gs_get.check _ _ _ _ _ _ _ _ hT5 (F.args_gs_get _ _ _) ?_)
 repeat (any_goals (first | assumption | (with_reducible refine wpAny_loadPart_at hx ?_;rw [hc]) | with_reducible refine hs.at ?_ | wp_step))
 refine ⟨Code.quiet_builtin _ D9_,codeAny_builtin F.entry_object_class ?_⟩
 repeat (any_goals (first | assumption | (with_reducible refine wpAny_loadPart_at hx ?_;rw [hc]) | wp_step))
theorem xc_entry {tk:Tok} {Q:Fin->fW->Prop} (X:K.In h) (B:ExcK K C) (hx:h.get? a=some o) (hc:o.cls = .ref C) (hq:Q (.done (.ret (.ref C))) ⟨h,g,d,t,os⟩) :
  gT (gW prog w) A (Builtin.«object.__getattribute__» ⟨[.ref a,.str "__class__" tk],[]⟩) Q E ⟨h,g,d,t,os⟩:=by
 have hT5:(⟨h,g,d,t,os⟩:fW).TypeIs (.builtin "object.__class__") "getset_descriptor":=F.typeOf_object_class;have f5:=F.typeOf_object_class;have f6:=F.slot_gs_get.lookup;have f7:=F.slot_gs_set.lookup;have l1:Looks (gW prog w) h (typeLookup (.ref C) "__class__") (some (.builtin "object.__class__")):=looks_findIn X B.at'
 repeat (any_goals (first | assumption | (with_reducible refine wpAny_loadPart_at hx ?_;rw [hc]) | with_reducible refine l1.at ?_ | wp_step))
 refine xc_get X B hx hc ?_
 repeat (any_goals (first | assumption | wp_step))
theorem xc_check {M:Model} {nv:fV} {Q:Unit->fW->Prop} (X:K.In h) (B:ExcK K C) (hx:h.get? a=some o) (hc:o.cls = .ref C) (hq:Q () ⟨h,g,d,t,os⟩) :
  gT M A (checkBuiltinCall "BaseException.__getattribute__" ⟨[.ref a,nv],[]⟩) Q E ⟨h,g,d,t,os⟩:=by
 have hk:builtinKind "BaseException.__getattribute__" = some .slot:=by decide +kernel
 have hsp:splitId "BaseException.__getattribute__" = some ("BaseException","__getattribute__"):=by decide +kernel
 have hs:Looks M h (isSubtype (.ref C) (.type "BaseException")) true:=looks_mroIn X B.base;have ha:=F.args_bexc_ga (.ref a) nv;simp only [checkBuiltinCall,hk,hsp];refine gQ ?_;unfold isInstance
 repeat (first | (with_reducible refine wpAny_loadPart_at hx ?_;rw [hc]) | with_reducible refine hs.at ?_ | wp_step)
 exact hq
theorem xc_by {tk:Tok} {Q:fV->fW->Prop} (X:K.In h) (B:ExcK K C) (hx:h.get? a=some o) (hc:o.cls = .ref C) (hq:Q (.ref C) ⟨h,g,d,t,os⟩):gT (gW prog w) A (getAttrBy (.ref a) (.str "__class__" tk) false) Q E ⟨h,g,d,t,os⟩:=by
 have f3:=F.excAttr_ValueError.ga.bind (.ref a);have l1:Looks (gW prog w) h (typeLookup (.ref C) "__getattribute__") (some (.builtin "BaseException.__getattribute__")):=looks_findIn X B.ga;have l2:Looks (gW prog w) h (typeLookup (.ref C) "__getattr__") none:=looks_findIn X B.gn;have hx2:(Value.builtin "BaseException.__getattribute__" == Value.builtin "object.__getattribute__")=false:=by decide +kernel
 have hx1:(onTheHeap (Value.ref C) && Value.builtin "BaseException.__getattribute__" == Value.builtin "object.__getattribute__")=false:=by rw [hx2];rfl
 repeat (any_goals (first | assumption | (with_reducible refine wpAny_loadPart_at hx ?_;rw [hc]) | with_reducible refine l1.at ?_ | with_reducible refine l2.at ?_ | wp_step))
 refine codeAny_call_builtin F.excAttr_ValueError.ga.plain F.entry_bexc_ga (xc_check X B hx hc (xc_entry X B hx hc ?_))
 repeat (any_goals (first | assumption | wp_step))
theorem xc_attr {Q:Option fV->fW->Prop} (X:K.In h) (B:ExcK K C) (hx:h.get? a=some o) (hc:o.cls = .ref C) (hq:Q (some (.ref C)) ⟨h,g,d,t+1,os⟩):gT (gW prog w) A (getAttr? (.ref a) "__class__") Q E ⟨h,g,d,t,os⟩:=by
 unfold getAttr? getAttrBy?
 repeat (any_goals (first | assumption | with_reducible apply xc_by X B hx hc | wp_step))
theorem XF (B:ExcK K C):KitX K (.ref a) (.ref C) (λh=>∃ o,h.get? a=some o/\o.cls = .ref C) where
 ty:=λ_ _ _ ⟨o,hx,hc⟩=>fK hx hc
 it:=λ_ _ X _=>by
  have hcD:=B.cls;unfold clsIn at hcD;split at hcD
  ·rename_i c' d' cd' sl' ho;intro A' Q' E' s' k q;unfold isType loadHead;exact gQ (wpAny_loadPart (k _ _ (X _ _ ho)) (wpAny_pure q))
  ·cases hcD
 ne:=λh tp dd its n sl X htp=>by
  refine Bool.eq_false_iff.mpr λq=>?_;have e:C=tp:=Value.ref.inj (beq_iff_eq.mp q);subst e;have hcD:=B.cls;unfold clsIn at hcD;split at hcD
  ·rename_i c' d' cd' sl' ho;have z:=(X _ _ ho).symm.trans htp;cases z
  ·cases hcD
 ca:=λ{_ _ _ _ _ s} X p k=>by
  obtain ⟨h,g,d,t,os⟩:=s;obtain ⟨o,hx,hc⟩:=p;exact xc_attr X B hx hc k
end
end L2
namespace L2
open PySem PySem.Spec PyProof.Rows
def IE (f:fT) (name qual:fZ) (params:Arguments) (body:i4) (scope:Scope) (Jm:List (fZ × fT)) (pm cv ctv:fV):iC->Prop:=λh=>h.get? f=some { cls:=.type "function",data:=.func (i8 name qual params body scope Jm pm cv ctv) }
def DJ (c:fT) (qual:fZ):iC->Prop:=λh=>h.CodeRec (.ref c) qual
theorem DJ.stay {c:fT} {qual:fZ} {h h':iC} (p:DJ c qual h) (k:∀ o,h.get? c=some o->h'.get? c=some o):DJ c qual h':=by
 obtain ⟨c',oc,vs,tq,e,e1,e2,e3⟩:=p;cases e;exact ⟨c,oc,vs,tq,Z,k _ e1,e2,e3⟩
section
variable {X:Cx} {params:Arguments} {body:i4} {scope:Scope} {pos:Pos} {Jm:List (fZ × fT)} {c P:fT}
def tLam (X:Cx) (P:fT) (params:Arguments) (body:i4) (scope:Scope) (pos:Pos) (Jm:List (fZ × fT)):TE:=λσ H Q=>∃ ps:Array fV,H P=some (.tbl ps)/\TriplesOk ps.toList /\
 (codeAmong pos ps.toList=none->∀ (f c':fT) (ctv:fV),H c' = none->H f=none->f ≠ c'->f ≠ P->c' ≠ P ->
  Q (.ref f) (upd (upd (upd H P (.tbl (ps ++ #[rawInt pos.line,rawInt pos.col,.ref c']))) c' (.ext (DJ c' (X.env.qual ++ "<lambda>")))) f (.ext (IE f "<lambda>" (X.env.qual ++ "<lambda>") params body scope Jm ((X.mg "__name__").getD .none) (.ref c') ctv)))) /\
 (∀ cv,codeAmong pos ps.toList=some cv->∀ (f:fT) (ctv:fV),H f=none->Q (.ref f) (upd H f (.ext (IE f "<lambda>" (X.env.qual ++ "<lambda>") params body scope Jm ((X.mg "__name__").getD .none) cv ctv))))
theorem pe_lam (hdef:defaultsOf params X.env=([],[])) (hcl:closureFor scope X.env=pure Jm) (hcode:X.env.code = .ref c) (hC:PySem.W.CodeHd X.base c P) (hB:X.base.BuiltinsAt X.mg P):PE X (.Lambda params body scope pos) (tLam X P params body scope pos Jm):=by
 intro fS s σ H Q I h;obtain ⟨ps,hT,ht,h1,h2⟩:=h;have hP:s.heap.get? P=some (l4 ps):=I.hok P _ hT;have hgl:s.heap.Ns iA X.mg:=I.mod.glob.keeps I.bk;have hgP:iA ≠ P:=λe=>by
  obtain ⟨o,es,ep,e1,e2,_⟩:=hgl;rw [e,hP] at e1;cases e1;cases e2
 have hB':s.heap.BuiltinsAt X.mg P:=let ⟨bm,o,a1,a2,a3,a4,a5,r⟩:=hB;⟨bm,o,a1,a2,a3,a4,I.bk _ _ a5,r⟩
 have hC':=hC.keeps I.bk;have lt:∀ {b:fT} {u:HO},H b=some u->b < s.heap.objs.size:=λe=>I.hok.lt e;refine PySem.W.kla_eval hdef ?_;cases hf:codeAmong pos ps.toList with
 | none=>
  refine PySem.W.kla_makeFunction hcl I.ok.glob hgl hcode hC' hP ht hf hgP hB' λc' ctv h' tk hx hge hlt hrec hP'=>?_;have hszP:P < s.heap.objs.size:=Heap.lt_size hP;have ncP:c' ≠ P:=λe=>iI _ (gP hszP (e ▸ hge));have hle:s.heap.objs.size <= h'.objs.size:=iV hge (l6 hlt);have nfP:h'.objs.size ≠ P:=λe=>iI _ (gP hszP (e ▸ hle));have nfc:h'.objs.size ≠ c':=λe=>iI _ (e ▸ hlt);have old:∀ {b:fT},b < s.heap.objs.size->b ≠ c'/\b ≠ h'.objs.size:=λhb=>⟨λe=>iI _ (gP hb (e ▸ hge)),λe=>iI _ (gP hb (e ▸ hle))⟩;generalize eO:PySem.W.kla_obj "<lambda>" (X.env.qual ++ "<lambda>") params body scope Jm ((X.mg "__name__").getD .none) c' ctv=ob;have kk:∀ b o,b ≠ P->s.heap.get? b=some o->(h'.push ob).get? b=some o:=λb o n e=>Heap.get?_push_of_some _ (hx b o n e);have q:=h1 hf h'.objs.size c' ctv (I.hok.fresh hge) (I.hok.fresh hle) nfc nfP ncP;generalize eH:upd (upd (upd H P (.tbl (ps ++ #[rawInt pos.line,rawInt pos.col,.ref c']))) c' (.ext (DJ c' (X.env.qual ++ "<lambda>")))) h'.objs.size (.ext (IE h'.objs.size "<lambda>" (X.env.qual ++ "<lambda>") params body scope Jm ((X.mg "__name__").getD .none) (.ref c') ctv))=H' at q;have at_old:∀ {b:fT},b < s.heap.objs.size->b ≠ P->H' b=H b:=λ{b} hb n=>by rw [<- eH,Zk (old hb).2,Zk (old hb).1,Zk n]
  have at_P:H' P=some (.tbl (ps ++ #[rawInt pos.line,rawInt pos.col,.ref c'])):=by rw [<- eH,Zk (Ne.symm nfP),Zk (Ne.symm ncP)];exact Zb
  have at_c:H' c' = some (.ext (DJ c' (X.env.qual ++ "<lambda>"))):=by rw [<- eH,Zk (Ne.symm nfc)];exact Zb
  have at_f:H' h'.objs.size=some (.ext (IE h'.objs.size "<lambda>" (X.env.qual ++ "<lambda>") params body scope Jm ((X.mg "__name__").getD .none) (.ref c') ctv)):=by rw [<- eH];exact Zb
  have noP:∀ {b:fT} {u:HO},H b=some u->(∀ ps',u ≠ .tbl ps')->b ≠ P:=λ{b u} e n z=>by rw [z,hT] at e;cases e;exact n _ Z
  refine ⟨.ref h'.objs.size,H',?_,Z,q⟩
  refine I.step (g':=s.gens) (d':=s.drawn) (t':=tk) (ch:=[]) (λ_ z=>nomatch z) (λb o _ _ _ e n=>kk b o (λz=>by rw [z,hT] at n;cases n) e) (λb o _ _ _ e n=>⟨o.slots,kk b o (λz=>by rw [z,hT] at n;cases n) e⟩) (λb o _ e n=>(at_old (Heap.lt_size e) (λz=>by rw [z,hT] at n;cases n)).trans n) (λb o _ e=>?_) (λb xs e=>(at_old (lt e) (noP e λ_ z=>by cases z)).trans e) (λb o u e=>(at_old (lt e) (noP e λ_ z=>by cases z)).trans e) (λb ps' e=>?_) (λm hm=>?_) ?_ I.bare
  ·by_cases hb:b=P
   ·exact ⟨_,Heap.get?_push_of_some _ (hb ▸ hP')⟩
   ·exact ⟨o,kk b o hb e⟩
  ·by_cases hb:b=P
   ·subst hb;rw [hT] at e;cases e;exact ⟨_,at_P⟩
   ·exact ⟨#[],((at_old (lt e) hb).trans e).trans (by simp)⟩
  ·have nL:X.env.locals ≠ P:=λz=>by have:=I.free;rw [z,hT] at this;cases this
   obtain ⟨o,es,ep,e1,e2,r⟩:=hm;exact ⟨o,es,ep,kk _ _ nL e1,e2,r⟩
  ·intro b u e;by_cases hbf:b=h'.objs.size
   ·subst hbf;rw [at_f] at e;cases e;exact ⟨by rw [<- eO];exact Heap.get?_push_size _ Z,⟨_,by rw [<- eO];exact Heap.get?_push_size _ Z⟩,λh1 h2 p k=>k _ p⟩
   ·by_cases hbc:b=c'
    ·subst hbc;rw [at_c] at e;cases e;have hr:DJ b (X.env.qual ++ "<lambda>") (h'.push ob):=DJ.stay (h:=h') hrec λo e=>Heap.get?_push_of_some _ e;obtain ⟨c2,oc,vs,tq,e0,e1,e2,e3⟩:=id hr;cases e0;exact ⟨hr,⟨_,e1⟩,λh1 h2 p k=>DJ.stay p k⟩
    ·by_cases hbP:b=P
     ·subst hbP;rw [at_P] at e;cases e;exact Heap.get?_push_of_some _ hP'
     ·have e':H b=some u:=by rw [<- eH,Zk hbf,Zk hbc,Zk hbP] at e;exact e
      refine (I.hok b u e').stay (λcc v hc qq=>kk cc v ?_ qq) (λcc r=>(at_old (lt r) (noP r λ_ z=>by cases z)).trans r) λcc xs r=>(at_old (lt r) (noP r λ_ z=>by cases z)).trans r;rcases hc with rfl | hc
      ·exact hbP
      ·exact noP hc λ_ z=>by cases z
 | some cv=>
  refine PySem.W.kla_makeFunctionHit hcl I.ok.glob hgl hcode hC' hP ht hf hB' λctv h' tk hk hle=>?_;have kk:∀ b o,s.heap.get? b=some o->(h'.push { cls:=.type "function",data:=.func (i8 "<lambda>" (X.env.qual ++ "<lambda>") params body scope Jm ((X.mg "__name__").getD .none) cv ctv) }).get? b=some o:=λb o e=>Heap.get?_push_of_some _ (hk b o e);exact ⟨.ref h'.objs.size,_,I.laid (t':=tk) kk hle (show BM X.prog X.w _ _ _ (.ext _) from ⟨Heap.get?_push_size _ Z,⟨_,Heap.get?_push_size _ Z⟩,λh1 h2 p k=>k _ p⟩),Z,h2 cv hf h'.objs.size ctv (I.hok.fresh hle)⟩
end
def AL (cs:List (fT × j5)) (H:Hp):Hp:=λb=>match cs.lookup b with
 | some o=>some (.frz o (.ext λ_=>True))
 | none=>H b
def D4 (cs:List (fT × j5)) (H:Hp):Hp:=λb=>match cs.lookup b with
 | some _=>none
 | none=>H b
theorem AA {cs:List (fT × j5)} {H:Hp} {b:fT} {o:j5} (e:cs.lookup b=some o):AL cs H b=some (.frz o (.ext λ_=>True)):=by unfold AL;rw [e]
theorem Yf {cs:List (fT × j5)} {H:Hp} {b:fT} (e:cs.lookup b=none):AL cs H b=H b:=by unfold AL;rw [e]
theorem IG {cs:List (fT × j5)} {H:Hp} {b:fT} {o:j5} (e:cs.lookup b=some o):D4 cs H b=none:=by unfold D4;rw [e]
theorem AN {cs:List (fT × j5)} {H:Hp} {b:fT} (e:cs.lookup b=none):D4 cs H b=H b:=by unfold D4;rw [e]
section
variable {fs:List fT} {cs:List (fT × j5)} {H H1:Hp} {h h':iC} {P:gL} {w:gX}
theorem aO (u:Un fs [] H H1 h h'):Un fs [] (AL cs H) (AL cs H1) h h' where
 keep:=λb o e n hb hx=>u.keep b o e (by
  cases q:cs.lookup b with
  | some o'=>rw [AA q] at n;cases n
  | none=>rw [Yf q] at n;exact n) hb hx
 slot:=λb o e n hb hx=>u.slot b o e (by
  cases q:cs.lookup b with
  | some o'=>rw [AA q] at n;cases n
  | none=>rw [Yf q] at n;exact n) hb hx
 free:=λb o e n hx=>by
  cases q:cs.lookup b with
  | some o'=>rw [AA q] at n;cases n
  | none=>rw [Yf q] at n ⊢;exact u.free b o e n hx
 there:=u.there
 tups:=λb xs e=>by
  cases q:cs.lookup b with
  | some o'=>rw [AA q] at e;cases e
  | none=>rw [Yf q] at e ⊢;exact u.tups b xs e
 frzs:=λb o v e=>by
  cases q:cs.lookup b with
  | some o'=>rw [AA q] at e ⊢;exact e
  | none=>rw [Yf q] at e ⊢;exact u.frzs b o v e
 tbls:=λb ps e=>by
  cases q:cs.lookup b with
  | some o'=>rw [AA q] at e;cases e
  | none=>rw [Yf q] at e ⊢;exact u.tbls b ps e
theorem LP (ok:HOk P w H h) (hc:∀ b o,cs.lookup b=some o->h.get? b=some o) (hn:∀ b o,cs.lookup b=some o->H b=none):HOk P w (AL cs H) h:=λb u e=>by
 cases q:cs.lookup b with
 | some o=>
  rw [AA q] at e;cases e;exact ⟨hc b o q,trivial,⟨o,hc b o q⟩,λ_ _ _ _=>trivial⟩
 | none=>
  rw [Yf q] at e;have out:∀ {c:fT} {v:HO},H c=some v->cs.lookup c=none:=λ{c v} r=>by
   cases z:cs.lookup c with
   | none=>rfl
   | some o=>rw [hn c o z] at r;cases r
  exact (ok b u e).stay (λ_ _ _ r=>r) (λc r=>by rw [Yf (out r)];exact r) λc xs r=>by rw [Yf (out r)];exact r
theorem dropC_un (u:Un fs [] (AL cs H) H1 h h') (ok1:HOk P w H1 h') (hn:∀ b o,cs.lookup b=some o->H b=none/\h.get? b=some o):Un fs [] H (D4 cs H1) h h' where
 keep:=λb o e n hb hx=>by
  cases q:cs.lookup b with
  | some o'=>
   have z:=u.frzs b o' _ (AA q);rw [(hn b o' q).2] at e;cases e;exact (ok1 b _ z).1
  | none=>exact u.keep b o e (by rw [Yf q];exact n) hb hx
 slot:=λb o e n hb hx=>by
  cases q:cs.lookup b with
  | some o'=>
   have z:=u.frzs b o' _ (AA q);rw [(hn b o' q).2] at e;cases e;exact ⟨o.slots,(ok1 b _ z).1⟩
  | none=>exact u.slot b o e (by rw [Yf q];exact n) hb hx
 free:=λb o e n hx=>by
  cases q:cs.lookup b with
  | some o'=>exact IG q
  | none=>rw [AN q];exact u.free b o e (by rw [Yf q];exact n) hx
 there:=u.there
 tups:=λb xs e=>by
  cases q:cs.lookup b with
  | some o'=>rw [(hn b o' q).1] at e;cases e
  | none=>rw [AN q];exact u.tups b xs (by rw [Yf q];exact e)
 frzs:=λb o v e=>by
  cases q:cs.lookup b with
  | some o'=>rw [(hn b o' q).1] at e;cases e
  | none=>rw [AN q];exact u.frzs b o v (by rw [Yf q];exact e)
 tbls:=λb ps e=>by
  cases q:cs.lookup b with
  | some o'=>rw [(hn b o' q).1] at e;cases e
  | none=>rw [AN q];exact u.tbls b ps (by rw [Yf q];exact e)
theorem SN (ok:HOk P w H h) (hf:∀ b o,cs.lookup b=some o->∃ v,H b=some (.frz o v)):HOk P w (D4 cs H) h:=λb u e=>by
 cases q:cs.lookup b with
 | some o=>rw [IG q] at e;cases e
 | none=>
  rw [AN q] at e;have out:∀ {c:fT} {v:HO},H c=some v->(∀ o v',v ≠ .frz o v')->cs.lookup c=none:=λ{c v} r nf=>by
   cases z:cs.lookup c with
   | none=>rfl
   | some o=>
    obtain ⟨v',z'⟩:=hf c o z;rw [z'] at r;cases r;exact absurd Z (nf _ _)
  exact (ok b u e).stay (λ_ _ _ r=>r) (λc r=>by rw [AN (out r λ_ _ z=>by cases z)];exact r) λc xs r=>by rw [AN (out r λ_ _ z=>by cases z)];exact r
theorem YK (hf:∀ b o,cs.lookup b=some o->H b=some (.frz o (.ext λ_=>True))):AL cs (D4 cs H)=H:=by
 funext b;cases q:cs.lookup b with
 | some o=>rw [AA q,hf b o q]
 | none=>rw [Yf q,AN q]
end
theorem UR {X:Cx} {CX:CXT} {k:Nat} {f:fT} {fd:iF} {ps:List fZ} {sp:Sp} {fS:List (fT × j5)} {σ:St} {H:Hp} {s:fW} {Q:VK} {E:XK} {us:List fV} {vs:List V} {cs:List (fT × j5)}
  (F:Ym X.prog X.w X.K X.mg X.base CX k f fd ps sp) (hr:DC k X.A) (hb:B9 X.K fd ps []) (I:Inv X fS σ H s) (r:AK vs us)
  (hc:∀ b o,cs.lookup b=some o->H b=none/\s.heap.get? b=some o) (hbase:∀ b o o',cs.lookup b=some o->X.base.get? b=some o'->False) (hfr:∀ b o,cs.lookup b=some o->b ∉ frs X.stack)
  (hx:∀ e s',CX X.stack (AL cs H) s E e s'->X.xe e s') (h:sp vs (AL cs H) (λv H'=>Q v (D4 cs H')) E):gT (gW X.prog X.w) X.A (call (.ref f) us) (EP X fS σ Q) X.xe s:=by
 have hl:us.length=ps.length:=by rw [<- r.length];exact F.len _ _ _ _ h
 have e0:=I.env0;have out:∀ {b:fT},(∀ o,cs.lookup b=some o->False)->cs.lookup b=none:=λ{b} n=>by
  cases z:cs.lookup b with
  | none=>rfl
  | some o=>exact (n o z).elim
 have e1:Env0 X.prog X.w X.K X.mg X.base X.A X.stack s (AL cs H):=⟨e0.frames,e0.mod,λb o e=>⟨(e0.bs b o e).1,by rw [Yf (out λo' z=>hbase b o' o z e)];exact (e0.bs b o e).2⟩,e0.bsz,e0.funs,λb hb=>by rw [Yf (out λo' z=>hfr b o' z hb)];exact e0.frf b hb,LP e0.hok (λb o z=>(hc b o z).2) λb o z=>(hc b o z).1,e0.bare⟩;have hbb:=hb s us I.kIn (by rw [jH];exact hl);rw [jH] at hbb;refine wpAny_call (codeAny_mono (F.run X.A X.stack s (AL cs H) ⟨us,[]⟩ us vs _ E hr e1 hbb r h) λr s' hq=>?_);cases r with
 | error e=>exact hx e s' hq
 | ok fl=>
  cases fl with
  | next=>exact False.elim hq
  | brk=>exact False.elim hq
  | cont=>exact False.elim hq
  | ret u=>
   obtain ⟨v,H',os,bare,un,hok,rv,q⟩:=hq;exact I.after ⟨v,D4 cs H',os,bare,dropC_un un hok hc,SN hok λb o z=>⟨_,un.frzs b o _ (AA z)⟩,rv,q⟩
theorem YN {cs:List (fT × j5)} {H:Hp} (hn:∀ b o,cs.lookup b=some o->H b=none):D4 cs (AL cs H)=H:=by
 funext b;cases q:cs.lookup b with
 | some o=>rw [IG q,hn b o q]
 | none=>rw [AN q,Yf q]
theorem WK {P:gL} {w:gX} {outer:List Env} {cs:List (fT × j5)} {H0:Hp} {s s':fW} {E:XK} {e:fV} (hn:∀ b o,cs.lookup b=some o->H0 b=none/\s.heap.get? b=some o/\b ∉ frs outer)
  (h:CX1 P w outer H0 s (λcls x H1=>(∀ b,x=some b->cs.lookup b=none)->E cls x (AL cs H1)) e s'):CX1 P w outer (AL cs H0) s E e s':=by
 obtain ⟨x,cls,H',rfl,os,bare,un,ok,⟨fn,fu,oe,vs,T,oT,ts,t1,t2,t3,t4,t5,t6,t7,t8,t9,t10⟩,hE⟩:=h;have out:∀ {b:fT},s.heap.get? b=none->cs.lookup b=none:=λ{b} n=>by
  cases z:cs.lookup b with
  | none=>rfl
  | some o=>rw [(hn b o z).2.1] at n;cases n
 refine ⟨x,cls,AL cs H',Z,os,bare,aO un,LP ok (λb o z=>?_) (λb o z=>?_),⟨fn,by rw [Yf (out fn)];exact fu,oe,vs,T,oT,ts,t1,t2,t3,t4,t5,by rw [Yf (out t5)];exact t6,t7,t8,t9,t10⟩,hE λb e=>by cases e;exact out fn⟩
 ·obtain ⟨a1,a2,a3⟩:=hn b o z;exact un.keep b o a2 a1 a3 (by simp)
 ·obtain ⟨a1,a2,a3⟩:=hn b o z;exact un.free b o a2 a1 (by simp)
section
variable {P:gL} {w:gX} {K:PySem.W.Frag} {mg:fZ->Option fV} {base:iC} {k:Nat} {f c':fT} {name qual:fZ} {params:Arguments} {body:i4} {scope:Scope} {Jm:List (fZ × fT)} {pm ctv:fV} {N:List fZ} {sp:Sp}
structure LamAt (P:gL) (w:gX) (K:PySem.W.Frag) (mg:fZ->Option fV) (base:iC) (k:Nat) (f c':fT) (name qual:fZ) (params:Arguments) (body:i4) (scope:Scope) (Jm:List (fZ × fT)) (pm ctv:fV) (N:List fZ) (H:Hp) (Q:VK) (E:XK) (H0:Hp) (cs:List (fT × j5)) (σ:St):Prop where
 eq:H=AL cs H0
 un:∀ b o,cs.lookup b=some o->H0 b=none
 fn:H0 f=some (.ext (IE f name qual params body scope Jm pm (.ref c') ctv))
 cd:H0 c' = some (.ext (DJ c' qual))
 cell:∀ x c,Jm.lookup x=some c->∃ o v,cs.lookup c=some o/\o.data = .cell v
 len:σ.length=N.length
 val:∀ (i:Nat) (x:fZ) (v:V),N[i]? = some x->σ[i]? = some (some v)->∃ c o u,Jm.lookup x=some c/\cs.lookup c=some o/\o.data = .cell (some u)/\AW v u
 run:∀ (A:iD) (outer:List Env) (s:fW),DC k (A.deeper (j8 qual scope s.heap.objs.size f (.ref c') Jm)) ->
  ∃ t,PE (cxAt (CX1 P w) P w K mg base N (j8 qual scope s.heap.objs.size f (.ref c') Jm) (λ_=>false) A outer s H0 (λcls x H1=>(∀ b,x=some b->cs.lookup b=none)->E cls x (AL cs H1))) body t/\t σ H0 (λv H1=>Q v (AL cs H1))
theorem lam_ok (hco:scope.isCoroutine=false) (hgen:scope.isGenerator=false) (hk:scope.kind = .function) (hfree:∀ x ∈ scope.names,x.2 ≠ .cell/\x.2 ≠ .local) (inj:∀ x y c,Jm.lookup x=some c->Jm.lookup y=some c->x=y)
  (has:∀ x,scope.names.lookup x=some .free->∃ c,Jm.lookup x=some c) (hsp:∀ vs H Q E,sp vs H Q E->vs=[]/\∃ H0 cs σ,LamAt P w K mg base k f c' name qual params body scope Jm pm ctv N H Q E H0 cs σ) :
  Ym P w K mg base (CX1 P w) (k+1) f (i8 name qual params body scope Jm pm (.ref c') ctv) [] sp:=by
 refine ⟨λvs H Q E h=>by rw [(hsp vs H Q E h).1];rfl,λA outer s H args us vs Q E hr e0 hb r h=>?_⟩;obtain ⟨rfl,H0,cs,σ,L⟩:=hsp vs H Q E h;obtain rfl:=L.eq;have outS:∀ {b:fT} {u:HO},H0 b=some u->cs.lookup b=none:=λ{b u} e=>by
  cases z:cs.lookup b with
  | none=>rfl
  | some o=>rw [L.un b o z] at e;cases e
 have outN:∀ {b:fT},AL cs H0 b=none->cs.lookup b=none/\H0 b=none:=λ{b} n=>by
  cases z:cs.lookup b with
  | none=>rw [Yf z] at n;exact ⟨Z,n⟩
  | some o=>rw [AA z] at n;cases n
 have fo:s.heap.get? f=some { cls:=.type "function",data:=.func (i8 name qual params body scope Jm pm (.ref c') ctv) }:=(e0.hok f _ ((Yf (outS L.fn)).trans L.fn)).1;have co:s.heap.CodeRec (.ref c') qual:=(e0.hok c' _ ((Yf (outS L.cd)).trans L.cd)).1;have cells:∀ b o,cs.lookup b=some o->H0 b=none/\s.heap.get? b=some o/\b ∉ frs outer:=λb o z=>⟨L.un b o z,(e0.hok b _ (AA z)).1,λhb=>by have:=e0.frf b hb;rw [AA z] at this;cases this⟩;have lim:s.heap.NoLimit:=e0.mod.nolimit.keeps λb o e=>(e0.bs b o e).1;refine PySem.W.kla_callFunE hr.depth fo Z hco hgen Z co (hb _ _ _ _ ?_);refine wpAny_newFunctionEnv (λx hx=>(hfree x hx).1) (λy hy=>absurd hy (by simp)) (λh₁ hns hsb=>⟨lim.fresh _ hsb,?_⟩) hk;have hk₁:∀ b o,s.heap.get? b=some o->h₁.get? b=some o:=λb o e=>hsb.extBut b o (iB (Heap.lt_size e)) (Heap.get?_push_of_some _ e);obtain ⟨t,ht,hq⟩:=L.run A outer s (hr.deeper _);have noCell:∀ {x:fZ},scope.names.lookup x=some .cell->False:=λ{x} e=>(hfree (x,.cell) (PySem.mem_of_lookup e)).1 Z;have noLocal:∀ {x:fZ},scope.names.lookup x=some .local->False:=λ{x} e=>(hfree (x,.local) (PySem.mem_of_lookup e)).2 Z;have I:Inv (cxAt (CX1 P w) P w K mg base N (j8 qual scope s.heap.objs.size f (.ref c') Jm) (λ_=>false) A outer s H0 (λcls x H1=>(∀ b,x=some b->cs.lookup b=none)->E cls x (AL cs H1))) [] σ H0 { s with heap:=h₁,toks:=s.toks+0 }:=by
  refine ⟨⟨e0.mod,hk,Z,Z,gA _,inj,λx hx=>?_,λx c z _=>absurd (show false=true from z) (by simp),λ_=>hr.hd,Around.frames_deeper e0.frames,.inr ⟨Z,Z⟩,λb z=>absurd (show b ∈ ([]:List fT) from z) (by simp),λb o e=>⟨(e0.bs b o e).1,(outN (e0.bs b o e).2).2⟩,e0.bsz,λb _ _ z=>absurd (show b ∈ ([]:List fT) from z) (by simp),λb z=>absurd (show b ∈ ([]:List fT) from z) (by simp),e0.funs,λb hb=>(outN (e0.frf b hb)).2⟩, rfl,e0.bare,Un.kept hk₁,⟨_,hns,λi x v h1 h2 h3=>?_⟩,λx c h=>?_,(outN (e0.hok.fresh (gA _))).2,λx c h=>?_,λp hp=>absurd (show p ∈ ([]:List (fT × j5)) from hp) (by simp),?_,L.len⟩
  ·have hx:scope.names.lookup x=some .cell\/scope.names.lookup x=some .free:=hx;rcases hx with hx | hx
   ·exact (noCell hx).elim
   ·exact has x hx
  ·obtain ⟨c,o,u,a1,a2,a3,rv⟩:=L.val i x v h1 h2;refine ⟨u,rv,.inr ⟨.inr ?_,c,a1,o,hk₁ _ _ (cells c o a2).2.1,a3⟩⟩;have h3:scope.names.lookup x=some .local\/scope.names.lookup x=some .cell\/scope.names.lookup x=some .free:=h3;rcases h3 with z | z | z
   ·exact (noLocal z).elim
   ·exact (noCell z).elim
   ·exact z
  ·obtain ⟨o,v,a1,a2⟩:=L.cell x c h;exact ⟨v,o,hk₁ _ _ (cells c o a1).2.1,a2⟩
  ·obtain ⟨o,v,a1,a2⟩:=L.cell x c h;exact L.un c o a1
  ·have ok:HOk P w (D4 cs (AL cs H0)) s.heap:=SN e0.hok λb o z=>⟨_,AA z⟩;rw [YN L.un] at ok;exact ok.kept hk₁
 show codeAny _ _ (.expr body (j8 qual scope s.heap.objs.size f (.ref c') Jm)) _ _;refine PySem.W.kla_codeExpr (wpAny_mono (ht [] _ σ H0 _ I hq) (λv s' hs=>?_) λe s' hs=>?_)
 ·obtain ⟨x,H',J,rv,q⟩:=hs;have un:Un (frs outer) [] H0 H' s.heap s'.heap:=J.base;exact ⟨x,AL cs H',J.os,J.bare,aO un,LP J.hok (λb o z=>un.keep b o (cells b o z).2.1 (cells b o z).1 (cells b o z).2.2 (by simp)) (λb o z=>un.free b o (cells b o z).2.1 (cells b o z).1 (by simp)),rv,q⟩
 ·exact wpAny_mono hs (λ_ s'' hc=>WK cells hc) λe' s'' hc=>WK cells hc
end
theorem TN {bs:List Bool} {i:Nat} {x:V} (h:(bs.map V.bl)[i]? = some x):i < bs.length/\x = .bl (bs.getD i false):=by
 rw [gE] at h;cases e:bs[i]? with
 | none=>rw [e] at h;cases h
 | some b=>
  rw [e] at h;have hi:=(gK.mp e).1;refine ⟨hi,?_⟩;rw [fY,e];exact (Option.some.inj h).symm
section
variable {X:Cx}
theorem op_eqB (hu:X.A.units < cLine):OpR X (compareOp .Eq) (λx y H Q=>∃ (p q:fT) (xs ys:List Bool),x = .ref p/\y = .ref q/\SqL X.K H p (xs.map V.bl)/\SqL X.K H q (ys.map V.bl)/\Q (.bl (decide (xs=ys))) H):=by
 intro fS s σ H x y v u Q I rx ry h;obtain ⟨p,q,xs,ys,rfl,rfl,h1,h2,hq⟩:=h;cases rx;cases ry;obtain ⟨its,r1,pl1,_⟩:=I.list h1;obtain ⟨jts,r2,pl2,_⟩:=I.list h2;have l1:=r1.length;have l2:=r2.length;rw [fU] at l1 l2;by_cases hl:xs.length=ys.length
 ·refine SeqAt.eq_listAt (e:=λj=>xs.getD j false == ys.getD j false) pl1.isList pl2.isList (by simp only [gG];lia) hu (λj a b=>?_) ?_
  ·obtain ⟨x,e,ru⟩:=r1.at (j:=j) (by simpa using a);obtain ⟨x',e',ru'⟩:=r2.at (j:=j) (by simpa using b);obtain ⟨_,rfl⟩:=TN e;obtain ⟨_,rfl⟩:=TN e';have ru:its[j]=_:=ru;have ru':jts[j]=_:=ru';show SeqAt.EqAt _ s its[j] jts[j] _;rw [ru,ru'];exact SeqAt.EqAt.bool_bool _ _
  ·have ed:(i9 its.toArray.size).all (λj=>xs.getD j false == ys.getD j false)=decide (xs=ys):=by
    rw [jO,List.all_eq_true,decide_eq_true_iff];simp only [kI,gG,beq_iff_eq];refine ⟨λh=>jA hl λi h1 h2=>?_,λh j _=>by rw [h]⟩;have:=h i (by lia);rw [fY,fY,fX h1,fX h2] at this;exact this
   rw [ed];exact ⟨.bl _,H,I,Z,hq⟩
 ·refine SeqAt.eq_list_lengthsAt pl1.isList pl2.isList (by simp only [gG,bne_iff_ne];lia) hu ?_;have:decide (xs=ys)=false:=decide_eq_false λe=>hl (by rw [e]);rw [this] at hq;exact ⟨.bl false,H,I,Z,hq⟩
end
def JT (x:fT) (cls:fV):iC->Prop:=λh=>∃ o,h.get? x=some o/\o.cls=cls
theorem excIs_ok {P:gL} {w:gX} {H:Hp} {h:iC} {x:fT} {cls:fV} (o:JT x cls h):BM P w H h x (.ext (JT x cls)):=
 let ⟨ob,e,c⟩:=o
 ⟨⟨ob,e,c⟩,⟨ob,e⟩,λ_ _ ⟨o1,e1,c1⟩ k=>⟨o1,k _ e1,c1⟩⟩
section
variable {X:Cx} {fS:List (fT × j5)} {σ:St} {H:Hp} {s:fW}
theorem Inv.adopt {x:fT} {o:HO} (I:Inv X fS σ H s) (h0:X.s₀.heap.get? x=none) (hL:x ≠ X.env.locals) (hC:∀ y c,X.env.cells.lookup y=some c->c ≠ x) (hP:∀ p ∈ X.pn ++ fS,p.1 ≠ x) (hn:H x=none)
  (new:BM X.prog X.w (upd H x o) s.heap x o):Inv X fS σ (upd H x o) s:=by
 have ne:∀ {b:fT} {u:HO},H b=some u->b ≠ x:=λe=>Zf e hn;refine ⟨I.ok,I.os,I.bare,⟨I.base.keep,I.base.slot,λb ob e n hx=>?_,I.base.there,λb xs e=>?_,λb ob u e=>?_,λb ps e=>?_⟩,I.loc,I.cell,?_,λy c e=>?_,λp hp=>?_,λb u e=>?_,I.len⟩
 ·have:b ≠ x:=λz=>by rw [z,h0] at e;cases e
  rw [Zk this];exact I.base.free b ob e n hx
 ·have q:=I.base.tups b xs e;rw [Zk (ne q)];exact q
 ·have q:=I.base.frzs b ob u e;rw [Zk (ne q)];exact q
 ·obtain ⟨m,q⟩:=I.base.tbls b ps e;exact ⟨m,by rw [Zk (ne q)];exact q⟩
 ·rw [Zk (Ne.symm hL)];exact I.free
 ·rw [Zk (hC y c e)];exact I.freeC y c e
 ·obtain ⟨a1,a2,a3,a4,a5⟩:=I.pin p hp;exact ⟨a1,by rw [Zk (hP p hp)];exact a2,a3,a4,a5⟩
 ·by_cases hb:b=x
  ·subst hb;rw [Zb] at e;cases e;exact new
  ·rw [Zk hb] at e;exact (I.hok b u e).stay (λ_ _ _ q=>q) (λc r=>by rw [Zk (ne r)];exact r) λc xs r=>by rw [Zk (ne r)];exact r
abbrev Cx.marked (X:Cx) (e:fV) (E:fV->fW->Prop):Cx:={ X with A:=X.A.mark (some e),calm:=false,xe:=E }
theorem Inv.marked {e:fV} {E:fV->fW->Prop} (I:Inv X fS σ H s):Inv (X.marked e E) fS σ H s:=
 ⟨⟨I.ok.mod,I.ok.kind,I.ok.glob,I.ok.blt,I.ok.above,I.ok.inj,I.ok.has,I.ok.cab,λz=>absurd (show false=true from z) (by decide),I.ok.frames,I.ok.stk,I.ok.exf,I.ok.bs,I.ok.bsz,I.ok.noex,I.ok.exfs,I.ok.funs,I.ok.frf⟩,I.os,I.bare,I.base,I.loc,I.cell,I.free,I.freeC,I.pin,I.hok,I.len⟩
theorem Inv.unmarked {e:fV} {E:fV->fW->Prop} (I:Inv (X.marked e E) fS σ H s) (hd:X.calm=true->X.A.handled=none):Inv X fS σ H s:=
 ⟨⟨I.ok.mod,I.ok.kind,I.ok.glob,I.ok.blt,I.ok.above,I.ok.inj,I.ok.has,I.ok.cab,hd,I.ok.frames,I.ok.stk,I.ok.exf,I.ok.bs,I.ok.bsz,I.ok.noex,I.ok.exfs,I.ok.funs,I.ok.frf⟩,I.os,I.bare,I.base,I.loc,I.cell,I.free,I.freeC,I.pin,I.hok,I.len⟩
theorem fF {M:Model} {A:iD} {E:fV->fW->Prop} {i:Nat} {n:fZ} {pos:Pos} {Q:Unit->fW->Prop} (I:Inv X fS σ H s) (hN:X.N.Nodup) (hi:X.N[i]? = some n) (hk:X.env.kindOf n=some .local)
  (h:∀ s',Inv X fS (σ.set i none) H s'->Q () s'):gT M A (do bindName X.env n .none;unbindBehindTheSuite X.env n pos) Q E s:=by
 obtain ⟨m,hn,hl⟩:=id I.loc;have hcls:(X.env.scope.kind == .class || (X.env.scope.kind == .module && X.env.locals != X.env.globals))=false:=by rw [I.ok.kind];rfl
 have hiσ:i < σ.length:=by rw [I.len];exact (gK.mp hi).1
 have cne:=I.cne;refine wpAny_nameGoes_keeps hk hn hcls λh' v hn' hs=>?_;obtain ⟨oL,_,_,hoL,_⟩:=id hn;have tracked:HOk X.prog X.w H h':=λb ob e=>by
  refine (I.hok b ob e).stay (λc w' hc q=>(hs.2 c ?_).trans q) (λ_ q=>q) λ_ _ q=>q;rintro rfl;have hfree:=I.free;rcases hc with hc | hc
  ·rw [<- hc,hfree] at e;cases e
  ·rw [hfree] at hc;cases hc
 have J:Inv X fS (σ.set i none) H { s with heap:=h' }:=by
  refine ⟨I.ok,I.os,I.bare,⟨λb o e n hb hx=>?_,λb o e n hb hx=>?_,I.base.free,λb o e hx=>?_,I.base.tups,I.base.frzs,I.base.tbls⟩,⟨_,hn',λj y v' e1 e2 e3=>?_⟩,λy c e=>?_,I.free,I.freeC,λp hp=>?_,tracked,by simpa using I.len⟩
  ·exact (hs.2 b (iB (gP (Heap.lt_size e) I.ok.above))).trans (I.base.keep b o e n hb hx)
  ·obtain ⟨sl,e1⟩:=I.base.slot b o e n hb hx;exact ⟨sl,(hs.2 b (iB (gP (Heap.lt_size e) I.ok.above))).trans e1⟩
  ·obtain ⟨o',e1⟩:=I.base.there b o e hx;exact ⟨o',(hs.2 b (iB (gP (Heap.lt_size e) I.ok.above))).trans e1⟩
  ·by_cases hj:j=i
   ·subst hj;rw [iX hiσ] at e2;cases e2
   ·rw [jD (Ne.symm hj)] at e2;obtain ⟨u',r',q⟩:=hl j y v' e1 e2 e3;refine ⟨u',r',?_⟩;rcases q with ⟨k,e⟩ | ⟨k,c,e,z⟩
    ·refine .inl ⟨k,?_⟩;have:y ≠ n:=λe=>hj (PQ hN e1 (e ▸ hi));simp [this,e]
    ·exact .inr ⟨k,c,e,z.sameBut hs (cne y c e)⟩
  ·obtain ⟨w',z⟩:=I.cell y c e;exact ⟨w',z.sameBut hs (cne y c e)⟩
  ·obtain ⟨e,n,ne,nf,d⟩:=I.pin p hp;exact ⟨(hs.2 p.1 ne).trans e,n,ne,nf,d⟩
 exact h _ (J.tok (s.toks+1))
theorem bC {M:Model} {EE:fV->fW->Prop} {Q:Unit->fW->Prop} {E:XK} {s':fW} {e:fV} (hf:X.env.frame=some X.env.locals) (hst:X.stack=X.env :: X.outer) (I:Inv X fS σ H s) (hc:CX1 X.prog X.w X.stack H s E e s')
  (k:∀ x cls H2 s2,e = .ref x->Inv X fS σ H2 s2->Fly s.heap x cls H2 s2.heap->E cls (some x) H2->Q () s2) :
  gT M X.A (noteFrame e X.env) (λ_ s2=>gT M X.A (setFlight e none) Q EE s2) EE s':=by
 obtain ⟨x,cls,H2,rfl,os,bare,u,ok,F,hE⟩:=hc;have st:s.heap.FunFrames X.base X.stack:=I.stack;have free1:∀ b ∈ frs X.stack,H b=none:=I.stkFree;have free:∀ b ∈ frs X.stack,H2 b=none:=λb hb=>by
  obtain ⟨_,o,ho,_⟩:=st.mem hb;exact u.free b o ho (free1 b hb) (by simp)
 have st1:s'.heap.FunFrames X.base X.stack:=by
  have all:∀ (l:List Env),(∀ b ∈ frs l,b ∈ frs X.stack)->s.heap.FunFrames X.base l->s'.heap.FunFrames X.base l:=by
   intro l;induction l with
   | nil=>intro _ _;trivial
   | cons en r ih=>
    intro hs hl;obtain ⟨hk,⟨L,o,hf',hn,ho,hd⟩,hr⟩:=hl;have hL:L ∈ frs X.stack:=hs L (by unfold frs;rw [iT,hf'];exact gU);obtain ⟨sl,e⟩:=u.slot L o ho (free1 L hL) hL (by simp);exact ⟨hk,⟨L,_,hf',hn,e,hd⟩,ih (λb hb=>hs b (by unfold frs;rw [iT,hf'];exact gD _ hb)) hr⟩
  exact all _ (λ_ hb=>hb) st
 obtain ⟨oe,ws,T,oT,ts,a1,a2,a3,a4,a5,a6,a7,a8,a9,a10⟩:=F.tr;have hs1:∀ d,s'.heap.get? d=none->s.heap.get? d=none:=λd q=>by
  cases z:s.heap.get? d with
  | none=>rfl
  | some o=>
   obtain ⟨o',y⟩:=u.there d o z (by simp);rw [q] at y;cases y
 have z1:1 < ws.size:=(Array.getElem?_eq_some_iff.mp a4).1;have z0:ws[0]? = some ws[0]:=Array.getElem?_eq_getElem (by lia);have hfr:X.A.frames=some (X.env :: X.outer):=by rw [<- hst];exact I.ok.frames
 have fr2:s'.heap.FunFrames (kD s'.heap ([x,T] ++ frs X.stack)) X.stack:=kU st1 λen henv a ha=>iE _ (kC.mpr ⟨en,henv,ha⟩)
 refine wpAny_looks_onW (base:=kD s'.heap ([x,T] ++ frs X.stack)) (cls:=cls) hfr hf ⟨λb o q=>kM _ q,jB _ (by simp),by rw [<- hst];exact fr2,⟨oe,ws,T,oT,ts,a1,⟨a2,z0⟩,a3,a4,jB _ (by simp),a7,a8,a9,a10⟩⟩ λh2 hN hs2=>?_;refine wpAny_landsW hN λh3 hF hs3=>?_;have hss:=hs2.trans hs3
 have k1:∀ b o,b ∉ [x,T]->b ∉ frs X.stack->s'.heap.get? b=some o->h3.get? b=some o:=λb o n1 n2 e=> hF.1 b o (jG _ e λz=>(iM.mp z).elim n1 n2);have k2:∀ b o,b ∈ frs X.stack->s'.heap.get? b=some o->∃ sl,h3.get? b=some { o with slots:=sl }:=λb o hb q=>by
  obtain ⟨_,o',e',nr⟩:=st1.mem hb;rw [q] at e';cases e';exact hss b o q nr
 have two:∀ d ∈ [x,T],d=x\/d=T:=λd hd=>by simpa using hd
 have hd0:∀ d ∈ [x,T],s.heap.get? d=none:=λd hd=>(two d hd).elim (λz=>by rw [z];exact F.new) λz=>by rw [z];exact a5
 have hd1:∀ d ∈ [x,T],H2 d=none:=λd hd=>(two d hd).elim (λz=>by rw [z];exact F.un) λz=>by rw [z];exact a6
 have un3:Un (frs X.stack) [] H H2 s.heap h3:=VC u k1 k2 hd0 (λb hb=>.inl hb) λ_ hb=>hb;have ok3:HOk X.prog X.w H2 h3:=Q0 ok k1 hd1 free;have J:Inv X fS σ H2 { s' with heap:=h3 }:=I.call' (s':={ s' with heap:=h3 }) (ch:=[]) os un3 ok3 bare λ_ z=>nomatch z
 refine k x cls H2 _ Z J ⟨F.new,F.un,?_⟩ hE;obtain ⟨oe',ws',T',oT',ts',c1,⟨c2,_⟩,c3,c4,c5,c6,c7,c8,c9⟩:=hF.2.2.2;have hT:T' = T\/s'.heap.get? T' = none:=by
  by_cases hTT:T' = T
  ·exact .inl hTT
  ·refine .inr ?_;cases z:s'.heap.get? T' with
   | none=>rfl
   | some o=>
    by_cases hT:T' ∈ frs X.stack
    ·obtain ⟨_,o',e',nr⟩:=st1.mem hT;obtain ⟨sl,y⟩:=k2 T' o' hT e';rw [c7] at y;cases y;exact absurd c8 (nr ts')
    ·have:=jG ([x,T] ++ frs X.stack) z (λq=>by
      rcases iM.mp q with q | q
      ·exact (two T' q).elim c6 hTT
      ·exact hT q)
     rw [c5] at this;cases this
 have hT0:s.heap.get? T' = none/\H2 T' = none:=by
  rcases hT with z | z
  ·rw [z];exact ⟨a5,a6⟩
  ·exact ⟨hs1 T' z,ok.gone z⟩
 exact ⟨oe',ws',T',oT',ts',c1,c2,c3,c4,hT0.1,hT0.2,c6,c7,c8,c9⟩
theorem SV {M:Model} {A:iD} {EE:fV->fW->Prop} {Q:Unit->fW->Prop} {h0:iC} {x:fT} {cls:fV} (I:Inv X fS σ H s) (F:Fly h0 x cls H s.heap)
    (k:∀ s2,Inv X fS σ H s2->JT x cls s2.heap->Q () s2):gT M A (setFlight (.ref x) none) Q EE s:=by
  obtain ⟨oe,ws,T,oT,ts,a1,a2,a3,a4,a5,a6,a7,a8,a9,a10⟩:=F.tr;have hsz:3 < ts.size:=(Array.getElem?_eq_some_iff.mp a10).1;refine wpAny_setFlight_none a1 a3 a4 a8 a9 hsz ?_;have same:∀ b u,s.heap.get? b=some u->(s.heap.update T (Obj.mapFields (·.setIfInBounds 3 .none))).get? b=some u:=λb u e=>by
    by_cases hb:b=T
    · subst hb
      rw [Heap.get?_update_self _ a8 (Obj.isFreed_of_fields (Obj.data_mapFields a9 _))];rw [a8] at e;cases e;obtain ⟨c,d,dt,sl⟩:=oT;obtain rfl:dt = .fields ts:=a9;have:ts.setIfInBounds 3 .none=ts:=by
        refine Array.ext_getElem? λi=>?_;rw [Array.getElem?_setIfInBounds];by_cases hi:3=i
        · subst hi
          rw [if_pos Z,if_pos hsz,a10]
        · rw [if_neg hi]
      show some (⟨c,d,Data.fields (ts.setIfInBounds 3 .none),sl⟩:j5)=_;rw [this]
    · exact (Heap.get?_update_other _ _ (Ne.symm hb)).trans e
  exact k _ (I.kept (t':=s.toks) same) ⟨oe,same _ _ a1,a2⟩
end
section
variable {X:Cx} {k i ie:Nat} {x0 tn n:fZ} {p cpos epos tp hpos pos:Pos} {CT:fT} {b₀:hZ} {suite:List hZ} {ts:TS}
def tTry (X:Cx) (k i ie:Nat) (CT:fT) (ts:TS):TS:=λD σ H=>tVar i σ H λv H1=>E8 λ(f:fT) (name qual:fZ) (params:Arguments) (body:i4) (scope:Scope) (Jm:List (fZ × fT)) (pm:fV)=>E3 λ(cv ctv:fV) (sp:Sp)=>v = .ref f/\H1 f=some (.ext (IE f name qual params body scope Jm pm cv ctv)) /\
 Ym X.prog X.w X.K X.mg X.base (CX1 X.prog X.w) k f (i8 name qual params body scope Jm pm cv ctv) [] sp/\B9 X.K (i8 name qual params body scope Jm pm cv ctv) [] [] /\
 sp [] H1 (λ_ H2=>D.nx σ H2) (λcls x H2=>E2 λxa C=>x=some xa/\cls = .ref C/\PySem.W.exmOne X.K (.ref C) (.ref CT)=some true/\ts { nx:=λσ' H'=>D.nx (σ'.set ie none) H',rt:=λ_ _=>False } (σ.set ie (some (.ref xa))) (upd H2 xa (.ext (JT xa (.ref C)))))
theorem ps_try (hf:X.env.frame=some X.env.locals) (hst:X.stack=X.env :: X.outer) (hex:X.ex=[]) (hN:X.N[i]? = some x0) (hv:Vis X.env.scope x0) (hr:DC k X.A) (hnd:X.N.Nodup) (hi:X.N[ie]? = some n) (hk:X.env.kindOf n=some .local) (hg:Gl X tn) (hCT:X.mg tn=some (.ref CT))
  (hsu:∀ x:fT,PSs (X.marked (.ref x) λ_ _=>False) (b₀ :: suite) ts) (hd1:(x0 == ("__debug__":fZ))=false:=by decide) (hd2:(x0 == ("__classdict__":fZ))=false:=by decide) (hd3:(tn == ("__debug__":fZ))=false:=by decide) (hsw:∀ l,swapsWith (.Call (.Name x0 p) [] [] cpos) none l X.env=pure false:=by exact λ_=>rfl) :
  PS X (.Try [.Expr (.Call (.Name x0 p) [] [] cpos) epos] [.ExceptHandler (some (.Name tn tp)) (some n) (b₀ :: suite) hpos] [] [] pos) (tTry X k i ie CT ts):=by
 intro fS s σ H D I h;refine wpAny_Try_except ?_;generalize hE:(λ(e:fV) (s₁:fW)=>gT (gW X.prog X.w) X.A (noteFrame e X.env) (λ_ s₂=>gT (gW X.prog X.w) X.A (setFlight e none) (λ_ s₃=>gT (gW X.prog X.w) X.A (handleBy e X.env [.ExceptHandler (some (.Name tn tp)) (some n) (b₀ :: suite) hpos]) (SP X fS D) X.xe s₃) X.xe s₂) X.xe s₁)=EE;have core:gT (gW X.prog X.w) X.A (eval (.Call (.Name x0 p) [] [] cpos) X.env) (EP (X.wish EE) fS σ (λ_ H2=>D.nx σ H2)) EE s:=by
  refine wpAny_Call_Name_kw (thn (cW (X:=X.wish EE) hN hv hd1 hd2 fS s σ H _ (I.wish EE) h) λu s1 ⟨v,H1,I1,r1,q1⟩=>?_);obtain ⟨f,name,qual,params,body,scope,Jm,pm,cv,ctv,sp,rfl,hff,F,hb,q⟩:=q1;cases r1;have fo:s1.heap.get? f=some { cls:=.type "function",data:=.func (i8 name qual params body scope Jm pm cv ctv) }:=(I1.hok f _ hff).1;show gT _ _ (callWith cpos (.ref f) [] [] []) _ _ _;refine Calls.callWith_function (o:={ cls:=.type "function",data:=.func (i8 name qual params body scope Jm pm cv ctv) }) (fd:=i8 name qual params body scope Jm pm cv ctv) ?_;refine evalArgs_nil3 ⟨⟨fo,Z⟩,UR (X:=X.wish EE) (us:=[]) (vs:=[]) (cs:=[]) F hr hb I1 .nil (λ_ _ z=>nomatch z) (λ_ _ _ z=>nomatch z) (λ_ _ z=>nomatch z) (λe s' hc=>?_) q⟩;have I0:Inv X fS σ H1 s1:=I1.unwish;have hc:CX1 X.prog X.w X.stack H1 s1 _ e s':=hc;show EE e s';rw [<- hE];refine bC hf hst I0 hc λx cls H2 s2 he J Fl hq=>?_;subst he;obtain ⟨xa,C,e1,rfl,hm,hs⟩:=hq;cases e1;refine wpAny_handleBy_cons (codeAny_handlers_test ?_) (by intro q;cases q);refine K5 (X:=X.marked (.ref x) λ_ _=>False) J.marked hg hCT ?_ hd3;obtain ⟨ob,ho,hoc⟩:JT x (.ref C) s2.heap:=let ⟨oe,_,_,_,_,a1,a2,_⟩:=Fl.tr;⟨oe,a1,a2⟩
  refine PySem.W.exm_one J.kIn (fK ho hoc) hm _ _ _ s2 (λ_ _ e=>e) ?_;refine codeAny_handlers_suite_as ?_;refine SV J Fl λs3 J3 x3=>?_;have h0:X.s₀.heap.get? x=none:=by
   cases z:X.s₀.heap.get? x with
   | none=>rfl
   | some o=>
    obtain ⟨o',y⟩:=I0.base.there x o z (by rw [hex];simp);rw [Fl.new] at y;cases y
  have old:∀ {b:fT} {o:j5},s1.heap.get? b=some o->b ≠ x:=λ{b o} e z=>by rw [z,Fl.new] at e;cases e
  have J4:Inv X fS σ (upd H2 x (.ext (JT x (.ref C)))) s3:=J3.adopt h0 (λz=>by obtain ⟨m,⟨o,_,_,e,_⟩,_⟩:=I0.loc;exact old e z.symm) (λy c e=>by obtain ⟨v,o,eo,_⟩:=I0.cell y c e;exact old eo) (λp hp=>old (I0.pin p hp).1) Fl.un (excIs_ok x3);refine PZ (X:=X.marked (.ref x) λ_ _=>False) (i:=ie) (v:=.ref x) J4.marked hnd hi (.inl hk) Z (λs4 J5=>?_) (.inr hk);refine wpAny_mono (hsu x fS s4 _ _ _ J5 hs) (λfl s5 hq=>?_) λ_ _ z=>z.elim;cases fl with
  | next=>
   obtain ⟨σ',H',J6,q⟩:=hq;exact fF (J6.unmarked I.ok.hd) hnd hi hk λs' J7=>⟨_,_,J7,q⟩
  | brk=>obtain ⟨_,_,_,q⟩:=hq;exact q.elim
  | cont=>obtain ⟨_,_,_,q⟩:=hq;exact q.elim
  | ret v=>obtain ⟨_,_,_,_,_,q⟩:=hq;exact q.elim
 refine wpAny_execs_cons (wpAny_Expr_any (thn core λv s1 ⟨x,H1,I1,r1,q1⟩=>?_) I.quiet (hsw _));exact wpAny_execs_nil (wpAny_execs_nil ⟨σ,H1,I1.unwish,q1⟩)
theorem cS:KJ X (.builtin "isinstance") (λxs H Q=>∃ x c C b,xs=[.ref x,c]/\H x=some (.ext (JT x (.ref C)))/\ExcK X.K C/\((∃ T,c = .ty T/\i5 X.K (.ref C) (.type T)=some b)\/∃ D,c = .ref D/\i5 X.K (.ref C) (.ref D)=some b)/\Q (.bl b) H):=by
 intro fS s σ H xs us Q I r h;obtain ⟨x,c,C,b,rfl,hx,B,hk,q⟩:=h;obtain ⟨u,v,rfl,ru,rv⟩:=r.two;cases (show u=Value.ref x from ru);have p:JT x (.ref C) s.heap:=(I.hok x _ hx).1;rcases hk with ⟨T,rfl,hk⟩ | ⟨D,rfl,hk⟩
 ·cases (show v=Value.type T from rv);exact iP (XF B) I.kIn p hk (λz=>nomatch z) λtk=>⟨.bl b,H,I.tok tk,Z,q⟩
 ·cases (show v=Value.ref D from rv);exact iP (XF B) I.kIn p hk (λz=>nomatch z) λtk=>⟨.bl b,H,I.tok tk,Z,q⟩
theorem pe_isiX {a b:i4} {ta tb:TE} (hm:X.mg "isinstance" = none) (ha:PE X a ta) (hb:PE X b tb) (hg:Gl X "isinstance":=by rfl) (hs:gB [a,b] X.env=(false,eval a X.env) :: gB [b] X.env:=by rfl) (hs2:gB [b] X.env=(false,eval b X.env) :: gB [] X.env:=by rfl) :
  PE X (.Call (.Name "isinstance" p) [a,b] [] pos) (tCB (λxs H Q=>∃ x c C b,xs=[.ref x,c]/\H x=some (.ext (JT x (.ref C)))/\ExcK X.K C/\((∃ T,c = .ty T/\i5 X.K (.ref C) (.type T)=some b)\/∃ D,c = .ref D/\i5 X.K (.ref C) (.ref D)=some b)/\Q (.bl b) H) (Yw ta (Yw tb IV))):=
 DU cS hg hm D9_ (Zo ha (Zo hb Jh hs2) hs) (by decide) (by decide) hs (by rw [hs2];rfl)
end
def DW (h:iC):List (fZ × fT)->List (fT × j5)
 | []=>[]
 | (_,c) :: r=>match h.get? c with
  | none=>DW h r
  | some u=>(c,u) :: DW h r
theorem ID {h:iC} {b:fT} {o:j5}:∀ {cells:List (fZ × fT)},(DW h cells).lookup b=some o->h.get? b=some o/\∃ x,(x,b) ∈ cells
 | [],e=>by cases e
 | (y,c) :: r,e=>by
  unfold DW at e;split at e
  ·obtain ⟨h1,x,hx⟩:=ID e;exact ⟨h1,x,gD _ hx⟩
  ·rename_i u q;rw [iK] at e;cases z:b == c with
   | true=>rw [z] at e;cases e;rw [eq_of_beq z];exact ⟨q,y,gU⟩
   | false=>
    rw [z] at e;obtain ⟨h1,x,hx⟩:=ID e;exact ⟨h1,x,gD _ hx⟩
theorem EA {h:iC} {b:fT} {o:j5} (e:h.get? b=some o):∀ {cells:List (fZ × fT)} {x:fZ},(x,b) ∈ cells->(DW h cells).lookup b=some o
 | [],_,hm=>by cases hm
 | (y,c) :: r,x,hm=>by
  unfold DW;by_cases hc:b=c
  ·subst hc;rw [e];show (jW b ((b,o) :: _))=_;rw [iK];simp
  ·have hm':(x,b) ∈ r:=by
    rcases gR.mp hm with z | z
    ·cases z;exact absurd Z hc
    ·exact z
   have ih:=EA e hm';cases q:h.get? c with
   | none=>exact ih
   | some u=>
    show (jW b ((c,u) :: _))=_;rw [iK,beq_eq_false_iff_ne.mpr hc];exact ih
structure MO (X:Cx) (σ:St) (H:Hp) (cs:List (fT × j5)):Prop where
 un:∀ b o,cs.lookup b=some o->H b=none
 all:∀ x c,X.env.cells.lookup x=some c->∃ o v,cs.lookup c=some o/\o.data = .cell v
 val:∀ (i:Nat) (x:fZ) (v:V),X.N[i]? = some x->σ[i]? = some (some v)->X.env.kindOf x=some .cell->∃ c o u,X.env.cells.lookup x=some c/\cs.lookup c=some o/\o.data = .cell (some u)/\AW v u
def tCallC (X:Cx) (sp:Sp) (t:TA):TE:=λσ H Q=>t σ H λvs H1=>∀ cs,MO X σ H1 cs->sp vs (AL cs H1) (λv H'=>Q v (D4 cs H')) E0
section
variable {X:Cx} {k j:Nat} {ps:List fZ} {sp:Sp} {x:fZ} {p pos:Pos} {e:i4} {es:List i4} {t:TA}
theorem pe_callC (O:OkX X.prog X.w X.K X.mg X.base x ps k sp) (hr:DC j X.A) (ha:PA X (e :: es) t) (hfn:∀ y,X.fn y=true) (hnd:∀ y c,(y,c) ∈ X.env.cells->X.env.cells.lookup y=some c) (hg:Gl X x:=by rfl) (hj:k <= j:=by decide) (hdb:(x == ("__debug__":fZ))=false:=by decide) (he:gB (e :: es) X.env=(false,eval e X.env) :: gB es X.env:=by rfl) (hpl:(backTo pos (gB es X.env)).any (·.1)=false:=by rfl) :
    PE X (.Call (.Name x p) (e :: es) [] pos) (tCallC X sp t):=by
  obtain ⟨f,fd,F,hb,hm,hk⟩:=O.ex;intro fS s σ H Q I h;refine wpAny_Call_Name_kw (K5 I hg hm ?_ hdb);refine kN (h₀:=X.base) I.ok.mod.kin hk (thn (ha pos fS s σ H _ I h) λus s1 ⟨vs,H1,I1,r,q⟩=>⟨I1.kIn,?_⟩) he hpl;generalize hcs:DW s1.heap X.env.cells=cs;have hc:∀ b o,cs.lookup b=some o->s1.heap.get? b=some o/\∃ y,X.env.cells.lookup y=some b:=λb o z=>by
    rw [<- hcs] at z;obtain ⟨h1,y,hy⟩:=ID z;exact ⟨h1,y,hnd y b hy⟩
  have hi:∀ y c o,X.env.cells.lookup y=some c->s1.heap.get? c=some o->cs.lookup c=some o:=λy c o e1 e2=>by
    rw [<- hcs];exact EA e2 (PySem.mem_of_lookup e1)
  have C:MO X σ H1 cs:=by
    refine ⟨λb o z=>?_,λy c e1=>?_,λi y v e1 e2 e3=>?_⟩
    · obtain ⟨_,y,hy⟩:=hc b o z
      exact I1.freeC y b hy
    · obtain ⟨v,o,eo,ed⟩:=I1.cell y c e1
      exact ⟨o,v,hi y c o e1 eo,ed⟩
    · obtain ⟨m,hn,hl⟩:=I1.loc
      obtain ⟨u,ru,lk⟩:=hl i y v e1 e2 (.inr (.inl e3));rcases lk with ⟨k1,_⟩ | ⟨_,c,ec,o,eo,ed⟩
      · rw [e3] at k1;cases k1
      · exact ⟨c,o,u,ec,hi y c o ec eo,ed,ru⟩
  refine UR (cs:=cs) F (hr.mono hj) hb I1 r (λb o z=>⟨C.un b o z,(hc b o z).1⟩) (λb o o' z e'=>?_) (λb o z hf=>?_) (λe s' hx=>?_) (q cs C)
  · obtain ⟨_,y,hy⟩:=hc b o z
    have h1:=I1.ok.cab y b (hfn y) hy;have h2:=Heap.lt_size e';have h3:=I1.ok.bsz;exact iI _ (gP h2 (iV h3 h1))
  · obtain ⟨_,y,hy⟩:=hc b o z
    rcases gR.mp (I1.stkSub b hf) with e1 | e1
    · exact I1.cne y b hy e1
    · obtain ⟨_,ob,ho,_⟩:=I1.ok.funs.mem e1
      have h1:=I1.ok.cab y b (hfn y) hy;have h2:=Heap.lt_size ho;exact iI _ (gP h2 h1)
  · obtain ⟨_,_,_,_,_,_,_,_,_,hE⟩:=hx
    exact hE.elim
end
theorem Fun.okT {P:gL} {w:gX} {K:PySem.W.Frag} {mg:fZ->Option fV} {base:iC} {x qual:fZ} {st:hZ} {f:fT} {fd:iF} {N ps:List fZ} {k:Nat} {sp:Sp} (F:Fun K x qual st f fd) (S:Zj N ps (Zd st)) (len:∀ vs H Q E,sp vs H Q E->vs.length=ps.length)
  (hbody:∀ (A:iD) (outer:List Env) (s:fW) (H:Hp) (vs:List V) (Q:VK) (E:XK),DC k (A.deeper (envOfC qual (Zd st) s.heap.objs.size f fd.code))->sp vs H Q E ->
   ∃ t,PSs (LY (CX1 P w) P w K mg base N qual (Zd st) f fd.code A outer s H E) (Jr st) t/\t { nx:=λ_ H'=>Q .non H',rt:=Q } (GW N vs) H):Ym P w K mg base (CX1 P w) (k+1) f fd ps sp:=by
 obtain ⟨oc,od,kV,doc,pm,an,cdv,ct,osl,rfl,lk,hcd⟩:=F.ex;exact fn_of lk hcd S len λA outer s H vs Q E hr hsp=>hbody A outer s H vs Q E hr hsp
theorem W8 {n:Nat} {names:List (fZ × iO)}:∀ {acc:List (fZ × fT)},(names.map (·.1)).Nodup->(∀ y c,(y,c) ∈ acc->acc.lookup y=some c/\y ∉ names.map (·.1))->∀ y c,(y,c) ∈ gZ n names acc->(gZ n names acc).lookup y=some c:=by
  induction names generalizing n with
  | nil=>intro acc _ h y c hy;exact (h y c hy).1
  | cons z r ih=>
    intro acc hn h;obtain ⟨nm,kd⟩:=z;have hn':nm ∉ r.map (·.1)/\(r.map (·.1)).Nodup:=kO.mp hn;unfold gZ;split
    · refine ih hn'.2 λy c hy=>?_
      rcases gR.mp hy with e | e
      · cases e
        exact ⟨by rw [iK];simp,hn'.1⟩
      · obtain ⟨h1,h2⟩:=h y c e
        have ne:y ≠ nm:=λq=>h2 (by rw [q];exact gU);exact ⟨by rw [iK,beq_eq_false_iff_ne.mpr ne];exact h1,λq=>h2 (gD _ q)⟩
    · exact ih hn'.2 λy c hy=>⟨(h y c hy).1,λq=>(h y c hy).2 (gD _ q)⟩
theorem Same.drop {cs:List (fT × j5)} {H H':Hp} (hn:∀ b o,cs.lookup b=some o->H b=none) (s:Same (AL cs H) H'):Same H (D4 cs H'):=λb o e=>by
 have q:cs.lookup b=none:=by
  cases z:cs.lookup b with
  | none=>rfl
  | some u=>rw [hn b u z] at e;cases e
 rw [AN q];exact s b o (by rw [Yf q];exact e)
theorem Same.cells {cs:List (fT × j5)} {H H':Hp} (s:Same (AL cs H) H'):AL cs (D4 cs H')=H':=YK λb o z=>s b _ (AA z)
structure Errs (mg:fZ->Option fV) (CT:fT) (C:Nat->fT):Prop where
 thaw:mg "ThawError" = some (.ref CT)
 g0:mg "UnknownBed" = some (.ref (C 0))
 g1:mg "UnknownDeed" = some (.ref (C 1))
 g2:mg "BadBeds" = some (.ref (C 2))
 g3:mg "BadNeed" = some (.ref (C 3))
 g4:mg "BadHeat" = some (.ref (C 4))
 g5:mg "BadYear" = some (.ref (C 5))
 g6:mg "BadAmount" = some (.ref (C 6))
 g7:mg "BadTimes" = some (.ref (C 7))
 g8:mg "UnknownSeason" = some (.ref (C 8))
 g9:mg "TooManyLaid" = some (.ref (C 9))
 g10:mg "TooManyDeeds" = some (.ref (C 10))
 g11:mg "NothingDone" = some (.ref (C 11))
structure BW (K:PySem.W.Frag) (CT:fT) (C:Nat->fT) (j:Nat):Prop where
 kx:ExcK K (C j)
 ex:PySem.W.exmOne K (.ref (C j)) (.ref CT)=some true
 one:∀ i,i < 12->i5 K (.ref (C j)) (.ref (C i))=some (decide (i=j))
 ve:i5 K (.ref (C j)) (.type "ValueError")=some true
theorem dG (j:Nat) (hj:j < 12):([0,1,2,3,4,5,6,7,8,9,10,11].map (λi:Nat=>decide (i=j)) ++ [true])=(i9 13).map (λk:Nat=>inV (.int ((0:Int)+(k:Int))) [.int (j:Int),.int 12]):=by
 have h:∀ j:Fin 12,([0,1,2,3,4,5,6,7,8,9,10,11].map (λi:Nat=>decide (i=j.val)) ++ [true])=(i9 13).map (λk:Nat=>inV (.int ((0:Int)+(k:Int))) [.int (j.val:Int),.int 12]):=by decide
 exact h ⟨j,hj⟩
def Jf (P:gL) (w:gX) (K:PySem.W.Frag) (mg:fZ->Option fV) (base:iC) (C:Nat->fT) (H:Hp) (f:fT) (j:Nat):Prop:=E8 λ(name qual:fZ) (params:Arguments) (body:i4) (scope:Scope) (Jm:List (fZ × fT)) (pm cv:fV)=>E2 λ(ctv:fV) (sp:Sp)=>
 H f=some (.ext (IE f name qual params body scope Jm pm cv ctv))/\Ym P w K mg base (CX1 P w) 14 f (i8 name qual params body scope Jm pm cv ctv) [] sp/\B9 K (i8 name qual params body scope Jm pm cv ctv) [] [] /\
 ∀ (H':Hp) (Q':VK) (E':XK),Same H H'->(∀ (H1:Hp) (xa:fT),Same H' H1->H1 xa=none->E' (.ref (C j)) (some xa) H1)->sp [] H' Q' E'
theorem FM {X:Cx} {x:fZ} {C:fT} {pos:Pos} (hm:X.mg x=some (.ref C)) (hg:Gl X x:=by rfl) (hd:(x == ("__debug__":fZ))=false:=by decide):PE X (.Name x pos) (tC (.ref C)):=cC hg hm (show AW (.ref C) (.ref C) from rfl) hd
theorem BE {X:Cx} {p pos:Pos} (K:PySem.W.Frag) {a b:i4} {ta tb:TE} (hm:X.mg "isinstance" = none) (ha:PE X a ta) (hb:PE X b tb) (h:X.K=K:=by rfl) (hg:Gl X "isinstance":=by rfl) (hs:gB [a,b] X.env=(false,eval a X.env) :: gB [b] X.env:=by rfl) (hs2:gB [b] X.env=(false,eval b X.env) :: gB [] X.env:=by rfl) :
  PE X (.Call (.Name "isinstance" p) [a,b] [] pos) (tCB (λxs H Q=>∃ x c C b,xs=[.ref x,c]/\H x=some (.ext (JT x (.ref C)))/\ExcK K C/\((∃ T,c = .ty T/\i5 K (.ref C) (.type T)=some b)\/∃ D,c = .ref D/\i5 K (.ref C) (.ref D)=some b)/\Q (.bl b) H) (Yw ta (Yw tb IV))):=by
 subst h;exact pe_isiX hm ha hb hg hs hs2
def BC (P:fT) (qual:fZ) (H:Hp):Prop:=∃ ps:Array fV,H P=some (.tbl ps)/\TriplesOk ps.toList/\∀ pos cv,codeAmong pos ps.toList=some cv->∃ c',cv = .ref c'/\H c' = some (.ext (DJ c' qual))
theorem BC.nil {P:fT} {qual:fZ} {H:Hp} (h:H P=some (.tbl #[])):BC P qual H:=⟨#[],h,trivial,λpos cv e=>by cases e⟩
theorem BC.same {P:fT} {qual:fZ} {H H':Hp} (h:BC P qual H) (s:Same H H'):BC P qual H':=by
 obtain ⟨ps,h1,h2,h3⟩:=h;refine ⟨ps,s _ _ h1,h2,λpos cv e=>?_⟩;obtain ⟨c',e1,e2⟩:=h3 pos cv e;exact ⟨c',e1,s _ _ e2⟩
theorem PY {pos:Pos} {a b:Int} {c:fV} (l:List fV) (h:TriplesOk l):codeAmong pos (l ++ [rawInt a,rawInt b,c])=codeAmong pos l\/codeAmong pos (l ++ [rawInt a,rawInt b,c])=some c:=by
 fun_induction TriplesOk l with
 | case1=>
  show (if _ then _ else _)=_\/(if _ then _ else _)=_;by_cases q:(a == (pos.line:Int) && b == (pos.col:Int))=true
  ·right;rw [if_pos q]
  ·left;rw [if_neg q]
 | case2 a' t b' u x rest ih=>
  simp only [List.cons_append,codeAmong];by_cases q:(a' == (pos.line:Int) && b' == (pos.col:Int))=true
  ·left;rw [if_pos q,if_pos q]
  ·rw [if_neg q,if_neg q];exact ih h
 | case3 l h1 h2=>exact h.elim
section
variable {X:Cx} {params:Arguments} {body:i4} {scope:Scope} {pos:Pos} {cl:List (fZ × fT)} {c P:fT} {σ:St} {H:Hp} {Q:VK}
theorem V7 (hT:BC P (X.env.qual ++ "<lambda>") H)
  (k:∀ (f c':fT) (ctv:fV) (H3:Hp),(∀ b o,b ≠ P->H b=some o->H3 b=some o)->H f=none->H3 f=some (.ext (IE f "<lambda>" (X.env.qual ++ "<lambda>") params body scope cl ((X.mg "__name__").getD .none) (.ref c') ctv))->H3 c' = some (.ext (DJ c' (X.env.qual ++ "<lambda>")))->BC P (X.env.qual ++ "<lambda>") H3->Q (.ref f) H3) :
  tLam X P params body scope pos cl σ H Q:=by
 obtain ⟨ps,h1,h2,h3⟩:=hT;refine ⟨ps,h1,h2,λhn f c' ctv nc nf n1 n2 n3=>?_,λcv hh f ctv nf=>?_⟩
 ·refine k f c' ctv _ (λb o nb e=>?_) nf Zb ((Zk (Ne.symm n1)).trans Zb) ?_
  ·rw [Zk (Zf e nf),Zk (Zf e nc),Zk nb];exact e
  ·refine ⟨_,(Zk (Ne.symm n2)).trans ((Zk (Ne.symm n3)).trans Zb),?_,λpos' cv e=>?_⟩
   ·rw [Array.toList_append];exact TriplesOk_snoc _ _ _ _ h2
   ·rw [Array.toList_append] at e;rcases PY (pos:=pos') (a:=pos.line) (b:=pos.col) (c:=.ref c') ps.toList h2 with z | z
    ·obtain ⟨c2,e1,e2⟩:=h3 pos' cv (z.symm.trans e);refine ⟨c2,e1,?_⟩;have nP:c2 ≠ P:=AF e2 h1 (by intro q;cases q);rw [Zk (Zf e2 nf),Zk (Zf e2 nc),Zk nP];exact e2
    ·have:=z.symm.trans e;cases this;exact ⟨c',Z,(Zk (Ne.symm n1)).trans Zb⟩
 ·obtain ⟨c',rfl,e2⟩:=h3 pos cv hh;have s:=Same.upd (o:=.ext (IE f "<lambda>" (X.env.qual ++ "<lambda>") params body scope cl ((X.mg "__name__").getD .none) (.ref c') ctv)) nf;exact k f c' ctv _ (λb o _ e=>s b o e) nf Zb (s _ _ e2) (BC.same ⟨ps,h1,h2,h3⟩ s)
theorem C6 (outer:List (fZ × iO)) (ho:X.env.cells=gZ (X.env.locals+1) outer []) (hdef:defaultsOf params X.env=([],[])) (h:∀ y ∈ scope.names,y.2 = .free->outer.lookup y.1=some .cell) (hcode:X.env.code = .ref c) (hC:PySem.W.CodeHd X.base c P) (hB:X.base.BuiltinsAt X.mg P) :
  PE X (.Lambda params body scope pos) (tLam X P params body scope pos (Jm scope.names X.env.cells)):=
 pe_lam hdef (FL λy hy hk=>by
  rw [ho];exact jP.mp (j7 outer _ [] (.inl (h y hy hk)))) hcode hC hB
end
theorem UC {names:List (fZ × iO)}:∀ {n:Nat} {acc:List (fZ × fT)},(∀ x c,(x,c) ∈ acc->c < n)->(∀ x y c,(x,c) ∈ acc->(y,c) ∈ acc->x=y)->∀ x y c,(x,c) ∈ gZ n names acc->(y,c) ∈ gZ n names acc->x=y:=by
 induction names with
 | nil=>intro n acc _ h x y c;exact h x y c
 | cons z r ih=>
  intro n acc hlt h;obtain ⟨nm,kd⟩:=z;unfold gZ;split
  ·refine ih (λx c hm=>?_) λx y c h1 h2=>?_
   ·rcases gR.mp hm with e | e
    ·cases e;exact l8 n
    ·exact Nat.lt_succ_of_lt (hlt x c e)
   ·rcases gR.mp h1 with e1 | e1
    ·cases e1;rcases gR.mp h2 with e2 | e2
     ·cases e2;rfl
     ·exact absurd (hlt y _ e2) (iI _)
    ·rcases gR.mp h2 with e2 | e2
     ·cases e2;exact absurd (hlt x _ e1) (iI _)
     ·exact h x y c e1 e2
  ·exact ih hlt h
section
variable {P:gL} {w:gX} {K:PySem.W.Frag} {mg:fZ->Option fV} {base:iC} {C:Nat->fT} {j n:Nat} {H3:Hp} {cs:List (fT × j5)} {f c':fT} {name qual:fZ} {params:Arguments} {body:i4} {scope:Scope} {pm ctv:fV} {N:List fZ} {σ:St}
theorem dR (outer:List (fZ × iO)) (hco:scope.isCoroutine=false) (hgen:scope.isGenerator=false) (hk:scope.kind = .function) (hfree:∀ x ∈ scope.names,x.2 ≠ .cell/\x.2 ≠ .local) (hsub:∀ y ∈ scope.names,y.2 = .free->outer.lookup y.1=some .cell)
  (hb:B9 K (i8 name qual params body scope (Jm scope.names (gZ n outer [])) pm (.ref c') ctv) [] []) (hf:H3 f=some (.ext (IE f name qual params body scope (Jm scope.names (gZ n outer [])) pm (.ref c') ctv))) (hc:H3 c' = some (.ext (DJ c' qual)))
  (un:∀ b o,cs.lookup b=some o->H3 b=none) (all:∀ x c,(gZ n outer []).lookup x=some c->∃ o v,cs.lookup c=some o/\o.data = .cell v) (len:σ.length=N.length)
  (val:∀ (i:Nat) (x:fZ) (v:V),N[i]? = some x->σ[i]? = some (some v)->(x,NameKind.free) ∈ scope.names/\∃ c o u,(gZ n outer []).lookup x=some c/\cs.lookup c=some o/\o.data = .cell (some u)/\AW v u)
  (run:∀ (A:iD) (out:List Env) (s:fW) (H0:Hp) (Q':VK) (E':XK),DC 13 (A.deeper (j8 qual scope s.heap.objs.size f (.ref c') (Jm scope.names (gZ n outer []))))->Same H3 H0->(∀ (H1:Hp) (xa:fT),Same H0 H1->H1 xa=none->E' (.ref (C j)) (some xa) H1) ->
   ∃ t,PE (cxAt (CX1 P w) P w K mg base N (j8 qual scope s.heap.objs.size f (.ref c') (Jm scope.names (gZ n outer []))) (λ_=>false) A out s H0 E') body t/\t σ H0 Q'):Jf P w K mg base C (AL cs H3) f j:=by
 have out:∀ {b:fT} {u:HO},H3 b=some u->cs.lookup b=none:=λ{b u} e=>by
  cases z:cs.lookup b with
  | none=>rfl
  | some o=>rw [un b o z] at e;cases e
 have sub:∀ {x:fZ} {c:fT},(Jm scope.names (gZ n outer [])).lookup x=some c->(gZ n outer []).lookup x=some c:=λ{x c} e=>by
  obtain ⟨e1,e2⟩:=HV e;obtain ⟨c2,e3⟩:=jP.mp (j7 outer n [] (x:=x) (.inl (hsub _ e2 Z)));rw [e3] at e1;rw [e3,e1];rfl
 refine ⟨name,qual,params,body,scope,_,pm,.ref c',ctv,λvs H Q E=>vs=[]/\∃ H0 cs σ,LamAt P w K mg base 13 f c' name qual params body scope (Jm scope.names (gZ n outer [])) pm ctv N H Q E H0 cs σ,?_,?_,hb,λH' Q' E' sH hE=>?_⟩
 ·rw [Yf (out hf)];exact hf
 ·refine lam_ok hco hgen hk hfree (λx y c e1 e2=>?_) (λx e=>?_) λvs H Q E h=>h
  ·exact UC (n:=n) (names:=outer) (acc:=[]) (λ_ _ z=>nomatch z) (λ_ _ _ z=>nomatch z) x y c (PySem.mem_of_lookup (sub e1)) (PySem.mem_of_lookup (sub e2))
  ·exact GL (PySem.mem_of_lookup e)
 ·have eH:=sH.cells;have s0:Same H3 (D4 cs H'):=sH.drop un;have frz:∀ b o,cs.lookup b=some o->H' b=some (.frz o (.ext λ_=>True)):=λb o z=>sH b _ (AA z);refine ⟨Z,D4 cs H',cs,σ,⟨eH.symm,λb o z=>IG z,s0 _ _ hf,s0 _ _ hc,λx c e=>all x c (sub e),len,λi x v h1 h2=>?_,λA ou s hr=>?_⟩⟩
  ·obtain ⟨hm,c,o,u,a1,a2,a3,a4⟩:=val i x v h1 h2;obtain ⟨c2,a5⟩:=GL (cells:=gZ n outer []) hm;have:=sub a5;rw [a1] at this;cases this;exact ⟨c,o,u,a5,a2,a3,a4⟩
  ·have hS:∀ H1,Same (D4 cs H') H1->Same H' (AL cs H1):=λH1 s1 b o e=>by
    cases z:cs.lookup b with
    | some o'=>
     rw [frz b o' z] at e;cases e;exact AA z
    | none=>
     rw [Yf z];exact s1 b o (by rw [AN z];exact e)
   exact run A ou s (D4 cs H') (λv H1=>Q' v (AL cs H1)) (λcls x H1=>(∀ b,x=some b->cs.lookup b=none)->E' cls x (AL cs H1)) hr s0 (λH1 xa s1 hx hcs=>hE _ xa (hS H1 s1) (by rw [Yf (hcs xa Z)];exact hx))
end
theorem T7 {P:gL} {w:gX} {X:Cx}:FS (CX1 P w) X E0:=λ_ _ _ _ _ _ _ ⟨_,_,_,_,_,_,_,_,_,hE⟩=>hE.elim
theorem Fun.okL {P:gL} {w:gX} {K:PySem.W.Frag} {mg:fZ->Option fV} {base:iC} {x qual:fZ} {st:hZ} {f:fT} {fd:iF} {N ps:List fZ} {k:Nat} {sp:Sp} (F:Fun K x qual st f fd) (S:Zj N ps (Zd st)) (len:∀ vs H Q E,sp vs H Q E->vs.length=ps.length)
  (hbody:∀ (A:iD) (outer:List Env) (s:fW) (H:Hp) (vs:List V) (Q:VK) (E:XK),DC k (A.deeper (envOfC qual (Zd st) s.heap.objs.size f fd.code))->sp vs H Q E ->
   ∃ t,PSs (LY (CX1 P w) P w K mg base N qual (Zd st) f fd.code A outer s H E).nox (Jr st) t/\t { nx:=λ_ H'=>Q .non H',rt:=Q } (GW N vs) H):Ym P w K mg base (CX1 P w) (k+1) f fd ps sp:=
 F.okT S len λA outer s H vs Q E hr hsp=>let ⟨t,h,q⟩:=hbody A outer s H vs Q E hr hsp;⟨t,h.nox,q⟩
section
open PySem.W
variable {K:Frag} {C D CT:fT} {b:Bool} {cd:ClassData}
theorem kit_no (n:(C == D)=false) (h1:clsIn K D=some cd) (h2:typeIn K (.ref D)=some (.type "type")) (h3:subIn K (.ref C) (.ref D)=some b):kitOne K (.ref C) (.ref D)=some b:=by
 unfold kitOne;have n':C ≠ D:=beq_eq_false_iff_ne.mp n;rw [if_neg (λz=>n' (Value.ref.inj (eq_of_beq z)))];unfold kitCls;dsimp only;rw [h1,h2,if_pos (by rfl)];exact h3
theorem kit_self:kitOne K (.ref C) (.ref C)=some true:=by
 unfold kitOne;rw [if_pos (beq_self_eq_true _)]
theorem kit_ve (h:subIn K (.ref C) (.type "ValueError")=some true):kitOne K (.ref C) (.type "ValueError")=some true:=by
 unfold kitOne;rw [if_neg (by simp)];unfold kitCls;dsimp only;rw [if_pos D9_];exact h
theorem exm_of (h0:subIn K (.ref CT) (.type "BaseException")=some true) (h1:clsIn K CT=some cd) (h2:typeIn K (.ref CT)=some (.type "type")) (h3:subIn K (.ref C) (.ref CT)=some true):exmOne K (.ref C) (.ref CT)=some true:=by
 unfold exmOne;rw [h0,if_pos (by rfl)];unfold kitCls;dsimp only;rw [h1,h2,if_pos (by rfl)];exact h3
theorem tabIn_of {x:fZ} {f c P:fT} {oc:fV} {od:Option fT} {fd:iF} {osl:Array (Option fV)} {cc:fV} {cod:Option fT} {vs:Array fV} {csl:Array (Option fV)} (h1:nsIn K iA x=some (some (.ref f))) (h2:K.lookup f=some ⟨oc,od,.func fd,osl⟩) (h3:fd.code = .ref c)
  (h4:K.lookup c=some ⟨cc,cod,.fields vs,csl⟩) (h5:vs[11]? = some (.ref P)):tabIn K x=some (c,P):=by
 unfold tabIn;rw [h1];dsimp only;rw [h2];dsimp only;rw [h3];dsimp only;rw [h4];dsimp only;rw [h5]
end
def Thr (mg:fZ->Option fV) (nm:fZ) (E:XK) (H:Hp):Prop:=∀ (C x:fT) (H':Hp),mg nm=some (.ref C)->Same H H'->H' x=none->E (.ref C) (some x) H'
theorem Thr.same {mg:fZ->Option fV} {nm:fZ} {E:XK} {H H':Hp} (h:Thr mg nm E H) (s:Same H H'):Thr mg nm E H':=λC x H2 hm s2 hx=>h C x H2 hm (s.trans s2) hx
abbrev Yl (m:Int):Prop:=0 <= m/\m <= 1000000
theorem tAsg_i {te:TE} {g:TG} {D:OR} {σ:St} {H:Hp} (h:te σ H λx H1=>g x σ H1 D.nx):tAsg te g D σ H:=h
theorem tLst_i {t:TA} {σ:St} {H:Hp} {Q:VK} (h:t σ H λxs H1=>xs.length <= hJ/\∀ p,H1 p=none->Q (.ref p) (upd H1 p (.lst xs))):ZH t σ H Q:=h
theorem UP {ta:TE} {tr:TA} {σ:St} {H:Hp} {Q:List V->Hp->Prop} (h:ta σ H λx H1=>tr σ H1 λxs H2=>Q (x :: xs) H2):Yw ta tr σ H Q:=h
def SameN (pc:fT) (H H':Hp):Prop:=∀ b o,(∀ ps,o ≠ .tbl ps)->b ≠ pc->H b=some o->H' b=some o
theorem BC.upd {P pc:fT} {qual:fZ} {H:Hp} {xs ys:List V} (hT:BC P qual H) (hp:H pc=some (.lst xs)):BC P qual (upd H pc (.lst ys)):=by
 obtain ⟨ps,h1,h2,h3⟩:=hT;refine ⟨ps,(Zk (AF h1 hp (by intro z;cases z))).trans h1,h2,λpos cv e=>?_⟩;obtain ⟨c',e1,e2⟩:=h3 pos cv e;exact ⟨c',e1,(Zk (AF e2 hp (by intro z;cases z))).trans e2⟩
section
variable {κ:Type} [DecidableEq κ]
def RJ (kvs:List (κ × V)) (k:κ):Option V:=(kvs.find? λkv=>decide (kv.1=k)).map (·.2)
def RB (kvs:List (κ × V)) (k:κ) (v:V):List (κ × V):=
 if (kvs.any λkv=>decide (kv.1=k))=true then kvs.map (λkv=>if kv.1=k then (kv.1,v) else kv) else kvs ++ [(k,v)]
theorem LQ {k:κ}:RJ ([]:List (κ × V)) k=none:=rfl
theorem EZ {p:κ × V} {r:List (κ × V)} {k:κ} (e:p.1=k):RJ (p :: r) k=some p.2:=by simp [RJ,kH,e]
theorem AI {p:κ × V} {r:List (κ × V)} {k:κ} (e:¬ p.1=k):RJ (p :: r) k=RJ r k:=by simp [RJ,kH,e]
theorem WD (k:κ):∀ kvs:List (κ × V),(kvs.any λkv=>decide (kv.1=k))=(RJ kvs k).isSome
 | []=>rfl
 | p :: r=>by
  rw [lB];by_cases e:p.1=k
  ·simp only [EZ e,D7_ e,Bool.true_or,Option.isSome_some]
  ·rw [AI e,decide_eq_false e,Bool.false_or];exact WD k r
theorem V8 (kvs:List (κ × V)) (k:κ) (v:V):(RB kvs k v).length <= kvs.length+1:=by
 unfold RB;split
 ·rw [fU];lia
 ·rw [i6,iN,jS];lia
theorem LN {kvs:List (κ × V)} {k:κ} (v:V) (h:RJ kvs k=none):RB kvs k v=kvs ++ [(k,v)]:=by
 unfold RB;rw [WD,h];exact if_neg (by decide)
theorem KV.val {kvs:List (κ × V)} {vs:List (κ × fV)} (r:KV kvs vs) (k:κ):W6 (RJ kvs k) (valueAt vs k):=by
 unfold KV at r;induction r with
 | nil=>exact True.intro
 | @cons p q ps qs h t ih=>
  obtain ⟨h1,h2⟩:=h;by_cases e:p.1=k
  ·have e':q.1=k:=h1.symm.trans e;have b:valueAt (q :: qs) k=some q.2:=by simp [valueAt,kH,e']
   rw [EZ e,b];exact h2
  ·have e':¬ q.1=k:=λz=>e (h1.trans z);have b:valueAt (q :: qs) k=valueAt qs k:=by simp [valueAt,kH,e']
   rw [AI e,b];exact ih
theorem KV.any {kvs:List (κ × V)} {vs:List (κ × fV)} (r:KV kvs vs) (k:κ):(kvs.any λkv=>decide (kv.1=k))=vs.any λkv=>decide (kv.1=k):=by
 unfold KV at r;induction r with
 | nil=>rfl
 | cons h t ih=>rw [lB,lB,ih,h.1]
theorem KV.repl {kvs:List (κ × V)} {vs:List (κ × fV)} (r:KV kvs vs) (k:κ) {y:V} {u:fV} (ry:AW y u) :
  KV (kvs.map λkv=>if kv.1=k then (kv.1,y) else kv) (vs.map λkv=>if kv.1=k then (kv.1,u) else kv):=by
 unfold KV at r ⊢;induction r with
 | nil=>exact .nil
 | @cons p q ps qs h t ih=>
  rw [jX,jX];refine .cons ?_ ih;obtain ⟨h1,h2⟩:=h;by_cases e:p.1=k
  ·rw [if_pos e,if_pos (h1.symm.trans e)];exact ⟨h1,ry⟩
  ·rw [if_neg e,if_neg (λz=>e (h1.trans z))];exact ⟨h1,h2⟩
theorem KV.put {kvs:List (κ × V)} {vs:List (κ × fV)} (r:KV kvs vs) (k:κ) {y:V} {u:fV} (ry:AW y u):KV (RB kvs k y) (stored vs k u):=by
 unfold RB stored;rw [r.any k];by_cases e:(vs.any λkv=>decide (kv.1=k))=true
 ·rw [if_pos e,if_pos e];exact r.repl k ry
 ·rw [if_neg e,if_neg e];exact Paired.snoc r ⟨Z,ry⟩
end
theorem kV_is {P:gL} {w:gX} {k:Key} {u:fV} (r:AW (kV k) u):(CH P w).is k u=true:=by
 cases k with
 | inl i=>obtain ⟨t,e⟩:=(show ∃ t,u=Value.int i t from r);subst e;exact VT P w i t
 | inr x=>obtain ⟨t,e⟩:=(show ∃ t,u=Value.str x t from r);subst e;exact W1 P w x t
theorem U4 {P:gL} {w:gX}:∀ {ks:List Key} {us:List fV},AK (ks.map kV) us->ItemsAre (CH P w) ks us
 | [],_,r=>by rw [List.map_nil] at r;cases r;exact .nil
 | k :: ks,_,r=>by
  rw [jX] at r;cases r with
  | cons h t=>exact .cons (kV_is h) (U4 t)
abbrev KT (H:Hp):List (List Key × V)->List (List Key × fT × fV)->Prop:=Paired λp q=>p.1=q.1/\H q.2.1=some (.tup (p.1.map kV))/\AW p.2 q.2.2
theorem KT.val {H:Hp} {kvs:List (List Key × V)} {xs:List (List Key × fT × fV)} (r:KT H kvs xs) (k:List Key):W6 (RJ kvs k) ((atKey xs k).map (·.2)):=by
  induction r with
  | nil=>exact True.intro
  | @cons p q ps qs h t ih=>
    obtain ⟨h1,_,h2⟩:=h;by_cases e:p.1=k
    · have e':q.1=k:=h1.symm.trans e
      have b:atKey (q :: qs) k=some q.2:=by simp [atKey,kH,e']
      rw [EZ e,b];exact h2
    · have e':¬ q.1=k:=λz=>e (h1.trans z)
      have b:atKey (q :: qs) k=atKey qs k:=by simp [atKey,kH,e']
      rw [AI e,b];exact ih
section
variable {P:gL} {w:gX} {H:Hp} {h:iC} {a:fT}
theorem rd_of {u:HO} (ok:HOk P w H h) (e:Rd H a u):BM P w H h a u:=e.ok ok
theorem dk_rd {kvs:List (Key × V)} (ok:HOk P w H h) (e:Rd H a (.dK kvs)):kvs.length <= hJ/\(a == sysModules)=false/\∃ vs,KV kvs vs/\h.DictOf (CH P w) a vs:=
 show BM P w H h a (.dK kvs) from rd_of ok e
theorem dk_of {kvs:List (Key × V)} (ok:HOk P w H h) (e:H a=some (.dK kvs)):kvs.length <= hJ/\(a == sysModules)=false/\∃ vs,KV kvs vs/\h.DictOf (CH P w) a vs:=dk_rd ok (.inl e)
theorem key_of {ks:List Key} (ok:HOk P w H h) (e:H a=some (.tup (ks.map kV))):(tupleKind (CH P w)).is h ks a:=by
 obtain ⟨_,its,r,o,h1,h2,n,h3⟩:=(show BM P w H h a (.tup (ks.map kV)) from ok a _ e);exact ⟨o,its.toArray,n,h1,h2,h3,by simpa using U4 r⟩
theorem dt_rd {kvs:List (List Key × V)} (ok:HOk P w H h) (e:Rd H a (.dT kvs)):kvs.length <= hJ/\(a == sysModules)=false /\
  ∃ xs,KT H kvs xs/\h.DictOfH (tupleKind (CH P w)) a xs:=by
 obtain ⟨z,y,xs,r,o,es,ep,h1,h2,h3,h4,h5⟩:=(show BM P w H h a (.dT kvs) from rd_of ok e);refine ⟨z,y,xs,r,o,es,ep,h1,h2,h3,h4,λx hx=>?_,h5⟩;have all:∀ {l:List (List Key × V)} {m:List (List Key × fT × fV)},KT H l m->∀ x ∈ m,(tupleKind (CH P w)).is h x.1 x.2.1:=by
  intro l m q;induction q with
  | nil=>intro x hx;exact nomatch hx
  | @cons p q ps qs hq t ih=>
   intro x hx;rcases gR.mp hx with e | hx
   ·subst e;exact key_of ok (by rw [<- hq.1];exact hq.2.1)
   ·exact ih x hx
 exact all r x hx
end
def CP (H:Hp) (a:fT) (y:V) (r:Option V):Prop:=
 (E2 λkvs k=>Rd H a (.dK kvs)/\y=kV k/\r=RJ kvs k)\/E3 λkvs k b=>Rd H a (.dT kvs)/\y = .ref b/\H b=some (.tup (k.map kV))/\r=RJ kvs k
theorem CP.k {H:Hp} {a:fT} {kvs:List (Key × V)} {k:Key} (e:H a=some (.dK kvs)):CP H a (kV k) (RJ kvs k):=.inl ⟨kvs,k,.inl e,Z,Z⟩
section
variable {X:Cx} {fS:List (fT × j5)} {σ:St} {H:Hp} {s:fW} {a:fT} {y v:V} {u r:fV} {o:Option V} {A:iD} {E:fV->fW->Prop}
theorem Inv.big (I:Inv X fS σ H s):sysModules < s.heap.objs.size:=by
 have h:iA < s.heap.objs.size:=(I.mod.glob.keeps I.bk).lt;exact Nat.lt_trans (by decide) h
theorem bK {Q:fV->fW->Prop} (hu:A.units+1 < cLine) (I:Inv X fS σ H s) (g:CP H a y (some v)) (ry:AW y u) (h:∀ w' s',Inv X fS σ H s'->AW v w'->Q w' s') :
    gT (gW X.prog X.w) A (getItem (.ref a) u) Q E s:=by
  rcases g with ⟨kvs,k,e,ey,l⟩ | ⟨kvs,k,b,e,ey,eb,l⟩
  · subst ey
    obtain ⟨z,hd,vs,rel,dd⟩:=dk_rd I.hok e;obtain ⟨w',hw,rw'⟩:=W6.some_of (v:=v) (o:=valueAt vs k) (by rw [l];exact rel.val k);exact wpAny_getItem_of (kV_is ry) dd.mapOf hw (h w' _ (I.tok _) rw')
  · subst ey
    cases (show u=Value.ref b from ry);obtain ⟨z,hd,xs,rel,dd⟩:=dt_rd I.hok e;obtain ⟨w',hw,rw'⟩:=W6.some_of (v:=v) (o:=(atKey xs k).map (·.2)) (by rw [l];exact rel.val k);obtain ⟨p,hp,hp2⟩:=Option.map_eq_some_iff.mp hw;refine wpAny_getItem_heap (tupleKind_room_in1 hu) (key_of I.hok eb) dd hp ?_;rw [hp2];exact h w' _ (I.tok _) rw'
theorem d_write {h':iC} {t':Nat} {ob:HO} (I:Inv X fS σ H s) (mu:Mut (H a)) (hs:Heap.SameBut a s.heap h') (he:∃ q,h'.get? a=some q) (new:BM X.prog X.w (upd H a ob) h' a ob) :
  Inv X fS σ (upd H a ob) { s with heap:=h',toks:=t' }:=
 I.write (x:=a) (e:=a) mu (.inl Z) (λb q hb z=>(hs.2 b hb).trans z) he new
theorem dk_new {P:gL} {w:gX} {H':Hp} {h':iC} {kvs:List (Key × V)} {vs:List (Key × fV)} (z:kvs.length <= hJ) (hd:(a == sysModules)=false) (rel:KV kvs vs) (dd:h'.DictOf (CH P w) a vs) :
  BM P w H' h' a (.dK kvs):=⟨z,hd,vs,rel,dd⟩
end
def NoSl (i:i4):Prop:=∀ ov iv,subscripted i false ov iv=operate [ov,iv] (getItem ov iv)
theorem subD_of {prog:gL} {w:gX} {A:iD} {E:fV->fW->Prop} {s:fW} {env:Env} {value slice:i4} {pos:Pos} {T id:String} {Q:fV->fW->Prop}
  (hl:typeLookup (.type T) "__getitem__" = pure (some (.builtin id))) (hs:NoSl slice)
  (h:gT (gW prog w) A (eval value env) (λo s₁=>gT (gW prog w) A (eval slice env) (λi s₂=>s₂.TypeIs o T/\gT (gW prog w) A (getItem o i) Q E s₂) E s₁) E s) :
  gT (gW prog w) A (eval (.Subscript value slice pos) env) Q E s:=by
 refine Subscript_ (wpAny_mono h (λo s₁ h₁=>wpAny_mono h₁ (λi s₂ h₂=>?_) λ_ _ x=>x) λ_ _ x=>x);obtain ⟨hT,h₂⟩:=h₂;unfold subscriptTail;refine gQ ?_;rw [getitemInPython_of_ne hT.not_modules];refine gQ (wpAny_specialOf hT hl ?_);have fin:gT (gW prog w) A (subscripted slice false o i) (λr s₃=>gT (gW prog w) A (letTemporaryGo value o r >>= λ_=>pure r) Q E s₃) E s₂:=by
  rw [hs o i];exact wpAny_operating (wpAny_mono h₂ (λr s₃ h₃=>gQ (wpAny_letTemporaryGo (wpAny_pure h₃))) λ_ _ x=>x)
 first
  | exact wpAny_pure (gQ fin)
  | exact gQ (wpAny_pure (gQ fin))
  | exact gQ fin
theorem VL {X:Cx} {fS:List (fT × j5)} {σ:St} {H:Hp} {s:fW} {a:fT} {y:V} {o:Option V} (I:Inv X fS σ H s) (g:CP H a y o):s.TypeIs (.ref a) "dict":=by
 rcases g with ⟨kvs,k,e,_,_⟩ | ⟨kvs,k,b,e,_,_,_⟩
 ·obtain ⟨_,_,vs,_,dd⟩:=dk_rd I.hok e;exact dd.typeIs
 ·obtain ⟨_,_,xs,_,dd⟩:=dt_rd I.hok e;exact dd.typeIs
def tDGet (td ty:TE):TE:=λσ H Q=>td σ H λx H1=>ty σ H1 λy H2=>E2 λa v=>x = .ref a/\CP H2 a y (some v)/\Q v H2
section
variable {X:Cx} {o i e value:i4} {pos pos' tpos:Pos} {td ty tv:TE}
theorem Yd (hu:X.A.units+1 < cLine) (ho:PE X o td) (hi:PE X i ty) (hs:NoSl i):PE X (.Subscript o i pos) (tDGet td ty):=by
 intro fS s σ H Q I h;refine subD_of PySem.F.slot_dict_getitem.lookup hs (thn (ho fS s σ H _ I h) λu s1 ⟨x,H1,I1,rx,q1⟩=>thn (hi fS s1 σ H1 _ I1 q1) λiv s2 ⟨y,H2,I2,ry,a,v,ex,g,q2⟩=>?_);subst ex;obtain rfl:u=Value.ref a:=rx;exact ⟨VL I2 g,bK hu I2 g ry λw' s3 I3 rw'=>⟨v,H2,I3,rw',q2⟩⟩
end
theorem dk_empty {P:gL} {w:gX} {H:Hp} (h:iC) (hb:sysModules < h.objs.size):BM P w H (h.push { cls:=.type "dict",data:=.dict #[] }) h.objs.size (.dK []):=
 ⟨iG _,beq_eq_false_iff_ne.mpr (Ne.symm (iB hb)),[],.nil,Heap.DictOf.new h⟩
def aX:List (TE × TE)->St->Hp->(List (V × V)->Hp->Prop)->Prop
 | [],_,H,Q=>Q [] H
 | (tk,tv) :: r,σ,H,Q=>tk σ H λx H1=>tv σ H1 λy H2=>aX r σ H2 λps H3=>Q ((x,y) :: ps) H3
abbrev VV:List (V × V)->List (fV × fV)->Prop:=Paired λp q=>AW p.1 q.1/\AW p.2 q.2
def PPs (X:Cx) (pos:Pos) (keys:List (Option i4)) (values:List i4) (trs:List (TE × TE)):Prop:=
 ∀ (fS:List (fT × j5)) (s:fW) (σ:St) (H:Hp) (Q:List (V × V)->Hp->Prop),Inv X fS σ H s->aX trs σ H Q ->
  gT (gW X.prog X.w) X.A (evalPairs (pairTrees keys values X.env pos)) (λvs s'=>E2 λps H'=>Inv X fS σ H' s'/\VV ps vs/\Q ps H') X.xe s
theorem pps_nil {X:Cx} {pos:Pos}:PPs X pos [] [] []:=λfS s σ H Q I h=>pairTrees_nil_walk ⟨[],H,I,.nil,h⟩
theorem LZ {X:Cx} {pos:Pos} {k v:i4} {ks:List (Option i4)} {vs:List i4} {tk tv:TE} {trs:List (TE × TE)} (hk:PE X k tk) (hv:PE X v tv) (hr:PPs X pos ks vs trs) :
  PPs X pos (some k :: ks) (v :: vs) ((tk,tv) :: trs):=λfS s σ H Q I h=>
 pairTrees_cons_walk (thn (hk fS s σ H _ I h) λu s1 ⟨x,H1,I1,rx,q1⟩=>thn (hv fS s1 σ H1 _ I1 q1) λw2 s2 ⟨y,H2,I2,ry,q2⟩=>
  thn (hr fS s2 σ H2 _ I2 q2) λws s3 ⟨ps,H3,I3,rel,q3⟩=>⟨(x,y) :: ps,H3,I3,.cons ⟨rx,ry⟩ rel,q3⟩)
def P4 (kvs more:List (Key × V)):List (Key × V):=more.foldl (λacc kv=>RB acc kv.1 kv.2) kvs
theorem KV.merge:∀ {more:List (Key × V)} {rs:List (Key × fV)} {kvs:List (Key × V)} {vs:List (Key × fV)},KV more rs->KV kvs vs->KV (P4 kvs more) (merged vs rs):=by
 intro more rs kvs vs r;unfold KV at r;induction r generalizing kvs vs with
 | nil=>intro q;exact q
 | @cons p q ps qs h t ih=>
  intro r0;have e:KV (RB kvs p.1 p.2) (stored vs q.1 q.2):=by
   have:=r0.put p.1 h.2;rw [<- h.1];exact this
  exact ih e
theorem J8:∀ (more kvs:List (Key × V)),(P4 kvs more).length <= kvs.length+more.length
 | [],kvs=>by show kvs.length <= kvs.length+0;lia
 | p :: r,kvs=>by
  have h1:=J8 r (RB kvs p.1 p.2);have h2:=V8 kvs p.1 p.2;show (P4 (RB kvs p.1 p.2) r).length <= _;rw [iN];lia
theorem OG {P:gL} {w:gX}:∀ {kvs:List (Key × V)} {ws:List (fV × fV)},VV (kvs.map λkv=>(kV kv.1,kv.2)) ws->∃ rs,Carries (CH P w) ws rs/\KV kvs rs
 | [],_,r=>by rw [List.map_nil] at r;cases r;exact ⟨[],True.intro,.nil⟩
 | p :: kvs,_,r=>by
  rw [jX] at r;cases r with
  | @cons a b as bs h t=>
   obtain ⟨rs,c,q⟩:=OG (P:=P) (w:=w) t;obtain ⟨b1,b2⟩:=b;exact ⟨(p.1,b2) :: rs,⟨kV_is h.1,Z,c⟩,.cons ⟨Z,h.2⟩ q⟩
def tDisp (trs:List (TE × TE)):TE:=λσ H Q=>∀ p,H p=none->aX trs σ (upd H p (.dK [])) λps H2=>H2 p=some (.dK [])/\∃ kvs:List (Key × V),ps=kvs.map (λkv=>(kV kv.1,kv.2))/\kvs.length <= 15/\Q (.ref p) (upd H2 p (.dK (P4 [] kvs)))
theorem pe_disp {X:Cx} {pos:Pos} {keys:List (Option i4)} {values:List i4} {trs:List (TE × TE)} (h:PPs X pos keys values trs) (hall:keys.all (·.isSome)=true) (hl:keys.length=values.length) (h0:keys ≠ [])
    (h15:keys.length <= 15):PE X (.Dict keys values pos) (tDisp trs):=by
  intro fS s σ H Q I q;have hn:=I.hok.fresh (gA s.heap.objs.size);have I1:=I.laid (a:=s.heap.objs.size) (o:=.dK []) (h':=s.heap.push { cls:=.type "dict",data:=.dict #[] }) (t':=s.toks) (λ_ _ q=>Heap.get?_push_of_some _ q) (gA _) (dk_empty s.heap I.big);refine wpAny_Dict_walk (knd:=CH X.prog X.w) hall hl h0 h15 (thn (h fS _ σ _ _ I1 (q _ hn)) λws s2 ⟨ps,H2,I2,rel,e,kvs,ep,lk,q2⟩=>?_);subst ep;obtain ⟨rs,c,rk⟩:=OG (P:=X.prog) (w:=X.w) rel;obtain ⟨z,hd,vs0,r0,dd⟩:=dk_of I2.hok e;cases r0;refine ⟨rs,c,dd,λh' dd' hs=>⟨.ref s.heap.objs.size,_,?_,Z,q2⟩⟩;have hz:(P4 [] kvs).length <= hJ:=by
    have h1:=J8 kvs [];rw [jS] at h1;rw [sizeLine_eq];lia
  have he:∃ q,h'.get? s.heap.objs.size=some q:=let ⟨q,_,_,hq,_⟩:=dd';⟨q,hq⟩
  exact d_write I2 (by rw [e];exact True.intro) hs he (dk_new hz hd (rk.merge .nil) dd')
structure OkM (P:gL) (w:gX) (K:PySem.W.Frag) (mg:fZ->Option fV) (base:iC) (C:fT) (m:fZ) (ps:List fZ) (k:Nat) (sp:Sp):Prop where
 ex:∃ f fd,Ym P w K mg base CX0 k f fd ps sp/\B9 K fd ps []/\Meth K C m f
section
variable {X:Cx} {k j:Nat} {ps:List fZ} {sp:Sp} {C:fT} {m x:fZ} {p pos apos:Pos} {o e:i4} {es:List i4} {ta:TE} {t:TA}
theorem Yp {pl:Sem Bool} (O:OkM X.prog X.w X.K X.mg X.base C m ps k sp) (c:Cls X.K C) (hr:DC j X.A) (he:PE X o ta) (ha:PA X (e :: es) t) (hj:k <= j:=by decide) (hst:gB (e :: es) X.env=(false,eval e X.env) :: gB es X.env:=by rfl) (hpl:(backTo pos (gB es X.env)).any (·.1)=false:=by rfl)
    (ht:eval (.Call (.Attribute o m apos) (e :: es) [] pos) X.env=(do
      let ov <- eval o X.env
      standAt apos.atName
      let (f,first) <- holding [ov] (getMethod ov m pl)
      callWith pos f first (backTo pos (gB (e :: es) X.env)) (backToKw pos (keywordEach [] X.env))):=by rfl):PE X (.Call (.Attribute o m apos) (e :: es) [] pos) (eM C m sp [] E0 ta t):=by
  obtain ⟨f,fd,F,b,M⟩:=O.ex;exact bD he c M F (hr.mono hj) b .nil pass0 ha hst hpl ht
theorem Zv {pl:Sem Bool} (O:OkM X.prog X.w X.K X.mg X.base C m ps k sp) (c:Cls X.K C) (hr:DC j X.A) (he:PE X o ta) (hj:k <= j:=by decide)
  (ht:eval (.Call (.Attribute o m apos) [] [] pos) X.env=(do
   let ov <- eval o X.env
   standAt apos.atName
   let (f,first) <- holding [ov] (getMethod ov m pl)
   callWith pos f first (backTo pos (gB [] X.env)) (backToKw pos (keywordEach [] X.env))):=by rfl):PE X (.Call (.Attribute o m apos) [] [] pos) (eM C m sp [] E0 ta IV):=by
 obtain ⟨f,fd,F,b,M⟩:=O.ex;exact pe_meth0 he c M F (hr.mono hj) b .nil pass0 ht
structure OkI (P:gL) (w:gX) (K:PySem.W.Frag) (mg:fZ->Option fV) (base:iC) (C:fT) (ps:List fZ) (k:Nat) (sp:Sp) (ds:List fV):Prop where
 ex:∃ f fd,Ym P w K mg base CX0 k f fd ps sp/\B9 K fd ps ds/\Mk K C f
theorem pe_makeO {dvs:List V} {ds:List fV} (O:OkI X.prog X.w X.K X.mg X.base C ps k sp ds) (hd:AK dvs ds) (hr:DC j X.A) (hm:X.mg x=some (.ref C)) (ha:PA X (e :: es) t) (hg:Gl X x:=by rfl) (hj:k+1 <= j:=by decide) (hdb:(x == ("__debug__":fZ))=false:=by decide)
    (he:gB (e :: es) X.env=(false,eval e X.env) :: gB es X.env:=by rfl) (hpl:(backTo pos (gB es X.env)).any (·.1)=false:=by rfl):PE X (.Call (.Name x p) (e :: es) [] pos) (tMake C sp dvs E0 t):=by
  obtain ⟨f,fd,F,b,M⟩:=O.ex;exact pe_make M F (hr.mono hj) hg hm b hd pass0 ha hdb he hpl
theorem okD {P:gL} {w:gX} {K:PySem.W.Frag} {mg:fZ->Option fV} {base:iC} {x qual:fZ} {st:hZ} {f:fT} {N ps:List fZ} {k:Nat} {sp:Sp} {dV kV doc pm cdv ct oc:fV} {an od:Option fT} {osl:Array (Option fV)}
  (lk:K.lookup f=some ⟨oc,od,.func (j9 x qual (BX st) (Jr st) (Zd st) dV kV doc pm an cdv ct),osl⟩) (hcd:kP K cdv qual=true) (S:Zj N ps (Zd st)) (len:∀ vs H Q E,sp vs H Q E->vs.length=ps.length)
  (hbody:∀ (cdv:fV) (A:iD) (outer:List Env) (s:fW) (H:Hp) (vs:List V) (Q:VK) (E:XK),DC k (A.deeper (envOfC qual (Zd st) s.heap.objs.size f cdv))->sp vs H Q E ->
   ∃ t,PSs (LY CX0 P w K mg base N qual (Zd st) f cdv A outer s H E).nox (Jr st) t/\t { nx:=λ_ H'=>Q .non H',rt:=Q } (GW N vs) H):Ym P w K mg base CX0 (k+1) f (j9 x qual (BX st) (Jr st) (Zd st) dV kV doc pm an cdv ct) ps sp:=by
 refine fn_of lk hcd S len λA outer s H vs Q E hr hsp=>?_;obtain ⟨t,h,q⟩:=hbody cdv A outer s H vs Q E hr hsp;exact ⟨t,h.nox,q⟩
end
structure FunD (K:PySem.W.Frag) (x qual:fZ) (st:hZ) (f:fT) (fd:iF):Prop where
 ex:∃ (oc:fV) (od:Option fT) (dV kV doc pm:fV) (an:Option fT) (cdv ct:fV) (osl:Array (Option fV)),
  fd=j9 x qual (BX st) (Jr st) (Zd st) dV kV doc pm an cdv ct/\K.lookup f=some ⟨oc,od,.func fd,osl⟩/\kP K cdv qual=true
theorem FunD.ok {P:gL} {w:gX} {K:PySem.W.Frag} {mg:fZ->Option fV} {base:iC} {x qual:fZ} {st:hZ} {f:fT} {fd:iF} {N ps:List fZ} {k:Nat} {sp:Sp} (F:FunD K x qual st f fd) (S:Zj N ps (Zd st)) (len:∀ vs H Q E,sp vs H Q E->vs.length=ps.length)
  (hbody:∀ (cdv:fV) (A:iD) (outer:List Env) (s:fW) (H:Hp) (vs:List V) (Q:VK) (E:XK),DC k (A.deeper (envOfC qual (Zd st) s.heap.objs.size f cdv))->sp vs H Q E ->
   ∃ t,PSs (LY CX0 P w K mg base N qual (Zd st) f cdv A outer s H E).nox (Jr st) t/\t { nx:=λ_ H'=>Q .non H',rt:=Q } (GW N vs) H):Ym P w K mg base CX0 (k+1) f fd ps sp:=by
 obtain ⟨oc,od,dV,kV,doc,pm,an,cdv,ct,osl,rfl,lk,hcd⟩:=F.ex;exact okD lk hcd S len hbody
theorem sqL_set {K:PySem.W.Frag} {H:Hp} {a p G dx:fT} {fs:List (fZ × V)} {o:HO} {xs:List V} (h:SqL K H a xs) (hp:H p=some (.ins G dx fs)):SqL K (upd H p o) a xs:=by
 rcases h with (h | ⟨ob,h⟩) | h
 ·exact .inl (.inl ((Zk (AF h hp (by intro z;cases z))).trans h))
 ·exact .inl (.inr ⟨ob,(Zk (AF h hp (by intro z;cases z))).trans h⟩)
 ·exact .inr h
theorem WC (K:PySem.W.Frag):i5 K (.type "str") (.type "str")=some true:=by
 unfold i5;rw [if_pos D9_]
end L2
namespace Tf
open PySem L2
structure Zq where
 fQ:List Int
 fR:List Int
 found:Int
 taken:Int
def BA (a b:fT) (x y:Int):List (Key × V):=[(.inr "needs",.ref a),(.inr "heats",.ref b),(.inr "found",.int x),(.inr "taken",.int y)]
def KF (H:Hp) (d:fT) (S:Zq):Prop:=E2 λa b=>H d=some (.dK (BA a b S.found S.taken))/\H a=some (.lst (S.fQ.map V.int))/\H b=some (.lst (S.fR.map V.int))
theorem KF.same {H H':Hp} {d:fT} {S:Zq} (h:KF H d S) (s:Same H H'):KF H' d S:=by
 obtain ⟨a,b,h1,h2,h3⟩:=h;exact ⟨a,b,s _ _ h1,s _ _ h2,s _ _ h3⟩
theorem IY:¬ ((Sum.inr "needs":Sum Int fZ)=(Sum.inr "heats":Sum Int fZ)):=by decide +kernel
theorem JL:¬ ((Sum.inr "needs":Sum Int fZ)=(Sum.inr "found":Sum Int fZ)):=by decide +kernel
theorem JO:¬ ((Sum.inr "heats":Sum Int fZ)=(Sum.inr "found":Sum Int fZ)):=by decide +kernel
theorem IP:¬ ((Sum.inr "needs":Sum Int fZ)=(Sum.inr "taken":Sum Int fZ)):=by decide +kernel
theorem JB:¬ ((Sum.inr "heats":Sum Int fZ)=(Sum.inr "taken":Sum Int fZ)):=by decide +kernel
theorem IN:¬ ((Sum.inr "found":Sum Int fZ)=(Sum.inr "taken":Sum Int fZ)):=by decide +kernel
theorem Yq (a b:fT) (x y:Int):RJ (BA a b x y) (Sum.inr "needs":Key)=some (.ref a):=by
 unfold BA;rw [EZ Z]
theorem Yt (a b:fT) (x y:Int):RJ (BA a b x y) (Sum.inr "heats":Key)=some (.ref b):=by
 unfold BA;rw [AI IY,EZ Z]
theorem HU (a b:fT) (x y:Int):RJ (BA a b x y) (Sum.inr "found":Key)=some (.int x):=by
 unfold BA;rw [AI JL,AI JO,EZ Z]
theorem HS (a b:fT) (x y:Int):RJ (BA a b x y) (Sum.inr "taken":Key)=some (.int y):=by
 unfold BA;rw [AI IP,AI JB,AI IN,EZ Z]
theorem UM (a b:fT) (x y:Int):P4 [] (BA a b x y)=BA a b x y:=by
 have e1:RB ([]:List (Key × V)) (.inr "needs") (.ref a)=[(.inr "needs",.ref a)]:=(LN _ LQ).trans Z;have e2:RB ([(.inr "needs",.ref a)]:List (Key × V)) (.inr "heats") (.ref b)=[(.inr "needs",.ref a),(.inr "heats",.ref b)]:=(LN _ ((AI IY).trans LQ)).trans Z;have e3:RB ([(.inr "needs",.ref a),(.inr "heats",.ref b)]:List (Key × V)) (.inr "found") (.int x)=[(.inr "needs",.ref a),(.inr "heats",.ref b),(.inr "found",.int x)]:=(LN _ ((AI JL).trans ((AI JO).trans LQ))).trans Z;have e4:RB ([(.inr "needs",.ref a),(.inr "heats",.ref b),(.inr "found",.int x)]:List (Key × V)) (.inr "taken") (.int y)=BA a b x y:=(LN _ ((AI IP).trans ((AI JB).trans ((AI IN).trans LQ)))).trans Z;show RB (RB (RB (RB ([]:List (Key × V)) (.inr "needs") (.ref a)) (.inr "heats") (.ref b)) (.inr "found") (.int x)) (.inr "taken") (.int y)=BA a b x y;rw [e1,e2,e3,e4]
def gF (pk ps:fT):List (fZ × V):=[("kept",.ref pk),("stages",.ref ps)]
theorem K1 (pk ps:fT):(gF pk ps).lookup ("kept":fZ)=some (.ref pk):=by
 unfold gF;rw [iK];simp
theorem ED (pk ps:fT):(gF pk ps).lookup ("stages":fZ)=some (.ref ps):=by
 unfold gF;rw [iK,show (("stages":fZ) == ("kept":fZ))=false by decide +kernel,iK];simp
theorem gF_no (pk ps:fT) {m:fZ} (h1:(m == ("kept":fZ))=false) (h2:(m == ("stages":fZ))=false):(gF pk ps).lookup m=none:=by
 unfold gF;rw [iK,h1,iK,h2];rfl
theorem gF_put (pk ps:fT):JY "stages" (.ref ps) (JY "kept" (.ref pk) [])=gF pk ps:=by
 have h:¬ (("kept":fZ) = "stages"):=by decide +kernel
 show (if ("kept":fZ) = "stages" then [(("kept":fZ),V.ref ps)] else (("kept":fZ),V.ref pk) :: JY "stages" (V.ref ps) [])=_;rw [if_neg h];rfl
structure Ya (G:fT) (H:Hp) (p:fT) (kept:List V) (Ss:List Zq):Prop where
 ex:∃ (dx pk ps:fT) (ds:List fT),H p=some (.ins G dx (gF pk ps))/\H pk=some (.lst kept)/\H ps=some (.lst (ds.map V.ref))/\ds.length=Ss.length/\∀ (i:Nat) (S:Zq),Ss[i]? = some S->∃ d,ds[i]? = some d/\KF H d S
theorem Ya.same {G:fT} {H H':Hp} {p:fT} {kept:List V} {Ss:List Zq} (h:Ya G H p kept Ss) (s:Same H H'):Ya G H' p kept Ss:=by
 obtain ⟨dx,pk,ps,ds,h1,h2,h3,h4,h5⟩:=h.ex;refine ⟨⟨dx,pk,ps,ds,s _ _ h1,s _ _ h2,s _ _ h3,h4,λi S e=>?_⟩⟩;obtain ⟨d,e1,e2⟩:=h5 i S e;exact ⟨d,e1,e2.same s⟩
structure DQ (G:fT) (ok:fT->Prop) (H:Hp) (p:fT) (kept:List V) (Ss:List Zq):Prop where
 ex:∃ (dx pk ps:fT) (ds:List fT),H p=some (.ins G dx (gF pk ps))/\ok pk/\H pk=some (.lst kept)/\ok ps/\H ps=some (.lst (ds.map V.ref))/\ds.length=Ss.length/\∀ (i:Nat) (S:Zq),Ss[i]? = some S->∃ d a b,ds[i]? = some d/\ok d/\ok a/\ok b/\H d=some (.dK (BA a b S.found S.taken))/\H a=some (.lst (S.fQ.map V.int))/\H b=some (.lst (S.fR.map V.int))
theorem DQ.keep {G:fT} {ok ok':fT->Prop} {H H':Hp} {p:fT} {kept:List V} {Ss:List Zq} (h:DQ G ok H p kept Ss) (k:∀ b o,ok b->H b=some o->H' b=some o) (kp:∀ o,H p=some o->H' p=some o) (ko:∀ b,ok b->ok' b):DQ G ok' H' p kept Ss:=by
 obtain ⟨dx,pk,ps,ds,h1,o2,h2,o3,h3,h4,h5⟩:=h.ex;refine ⟨⟨dx,pk,ps,ds,kp _ h1,ko _ o2,k _ _ o2 h2,ko _ o3,k _ _ o3 h3,h4,λi S e=>?_⟩⟩;obtain ⟨d,a,b,e1,o4,o5,o6,e2,e3,e4⟩:=h5 i S e;exact ⟨d,a,b,e1,ko _ o4,ko _ o5,ko _ o6,k _ _ o4 e2,k _ _ o5 e3,k _ _ o6 e4⟩
structure DF (K:PySem.W.Frag) (mg:fZ->Option fV) (G:fT):Prop where
 cl:Cls K G
 nK:LC K G "kept"
 nS:LC K G "stages"
 mgG:mg "Ground" = some (.ref G)
theorem U7 {fQ fR:List Int} {f g:Nat} (a:K7 fQ fR f) (b:K7 fQ fR g):f=g:=by
 have aux:∀ {f g:Nat},K7 fQ fR f->K7 fQ fR g->¬ f < g:=λ{f g} a b h=>by
  have hg:=b.le;exact a.ne (by lia) (b.eq _ (by lia) (by lia))
 have h1:=aux a b;have h2:=aux b a
 lia
theorem fN {fQ fR:List Int} {n i:Nat} (hi:i < n):inV (.int ((i:Int)+1)) ((AD fQ fR n).map V.int)=decide (fR.getD i 0=fQ.getD i 0):=by
 rw [jO,decide_eq_true_iff];unfold inV AD;rw [List.any_eq_true];constructor
 ·rintro ⟨y,hy,e⟩;obtain ⟨z,hz,rfl⟩:=kL.mp hy;obtain ⟨j,hj,rfl⟩:=kL.mp hz;have e:((j:Int)+1 == (i:Int)+1)=true:=e;have e:=eq_of_beq e;obtain rfl:j=i:=by lia
  exact D8_ (jN.mp hj).2
 ·intro h;exact ⟨.int ((i:Int)+1),kL.mpr ⟨_,kL.mpr ⟨i,jN.mpr ⟨kI.mpr hi,D7_ h⟩,Z⟩,Z⟩,beq_self_eq_true ((i:Int)+1)⟩
theorem QC (x y:Int):decide (V.int x=V.int y)=decide (x=y):=by
 by_cases h:x=y
 ·rw [D7_ h,D7_ (congrArg V.int h)]
 ·rw [decide_eq_false h,decide_eq_false (λz=>h (V.int.inj z))]
structure Yg (G:fT) (ok:fT->Prop) (H:Hp) (p pk ps:fT) (kept:List V) (Ss:List Zq):Prop where
 ne:pk ≠ ps
 ex:∃ (dx:fT) (ds:List fT),H p=some (.ins G dx (gF pk ps))/\H pk=some (.lst kept)/\H ps=some (.lst (ds.map V.ref))/\ds.length=Ss.length/\∀ (i:Nat) (S:Zq),Ss[i]? = some S->∃ d,ds[i]? = some d/\KF H d S/\∃ a b,H d=some (.dK (BA a b S.found S.taken))/\H a=some (.lst (S.fQ.map V.int))/\H b=some (.lst (S.fR.map V.int))/\a ≠ pk/\a ≠ ps/\b ≠ pk/\b ≠ ps/\ok a/\ok b
theorem Yg.at {G:fT} {ok:fT->Prop} {H:Hp} {p pk ps:fT} {kept:List V} {Ss:List Zq} (h:Yg G ok H p pk ps kept Ss):Ya G H p kept Ss:=by
 obtain ⟨dx,ds,h1,h2,h3,h4,h5⟩:=h.ex;refine ⟨⟨dx,pk,ps,ds,h1,h2,h3,h4,λi S e=>?_⟩⟩;obtain ⟨d,e1,e2,_⟩:=h5 i S e;exact ⟨d,e1,e2⟩
def FU (pk ps:fT) (H H':Hp):Prop:=∀ b o,b ≠ pk->b ≠ ps->H b=some o->H' b=some o
theorem FU.trans {pk ps:fT} {H H1 H2:Hp} (a:FU pk ps H H1) (b:FU pk ps H1 H2):FU pk ps H H2:=λc o n1 n2 e=>b c o n1 n2 (a c o n1 n2 e)
theorem _root_.L2.Same.keep2 {H H':Hp} (s:Same H H') (pk ps:fT):FU pk ps H H':=λb o _ _ e=>s b o e
theorem Yg.same {G:fT} {ok:fT->Prop} {H H':Hp} {p pk ps:fT} {kept:List V} {Ss:List Zq} (h:Yg G ok H p pk ps kept Ss) (s:Same H H'):Yg G ok H' p pk ps kept Ss:=by
 obtain ⟨dx,ds,h1,h2,h3,h4,h5⟩:=h.ex;refine ⟨h.ne,dx,ds,s _ _ h1,s _ _ h2,s _ _ h3,h4,λi S e=>?_⟩;obtain ⟨d,e1,e2,a,b,e3,e4,e5,r⟩:=h5 i S e;exact ⟨d,e1,e2.same s,a,b,s _ _ e3,s _ _ e4,s _ _ e5,r⟩
theorem Yg.push {G:fT} {ok:fT->Prop} {H H':Hp} {p pk ps:fT} {kept:List V} {Ss:List Zq} {x:V} {d a b:fT} {S:Zq} (h:Yg G ok H p pk ps kept Ss) (k:FU pk ps H H') (hk:H' pk=some (.lst (kept ++ [x]))) (hs:∀ ds:List fT,H ps=some (.lst (ds.map V.ref))->H' ps=some (.lst (ds.map V.ref ++ [.ref d])))
  (h1:H d=some (.dK (BA a b S.found S.taken))) (h2:H a=some (.lst (S.fQ.map V.int))) (h3:H b=some (.lst (S.fR.map V.int))) (n1:a ≠ pk) (n2:a ≠ ps) (n3:b ≠ pk) (n4:b ≠ ps) (oa:ok a) (ob:ok b):Yg G ok H' p pk ps (kept ++ [x]) (Ss ++ [S]):=by
 obtain ⟨dx,ds,g1,g2,g3,g4,g5⟩:=h.ex;have kd:∀ {d:fT} {kvs:List (Key × V)},H d=some (.dK kvs)->H' d=some (.dK kvs):=λ{d kvs} e=>k d _ (AF e g2 (by intro z;cases z)) (AF e g3 (by intro z;cases z)) e;refine ⟨h.ne,dx,ds ++ [d],k p _ (AF g1 g2 (by intro z;cases z)) (AF g1 g3 (by intro z;cases z)) g1,hk,?_,by simp [g4],λi T e=>?_⟩
 ·rw [hs ds g3,gO];rfl
 ·by_cases hi:i < Ss.length
  ·rw [gY hi] at e;obtain ⟨d',e1,_,a',b',e3,e4,e5,m1,m2,m3,m4,mo⟩:=g5 i T e;refine ⟨d',by rw [gY (by lia)];exact e1,⟨a',b',kd e3,k _ _ m1 m2 e4,k _ _ m3 m4 e5⟩,a',b',kd e3,k _ _ m1 m2 e4,k _ _ m3 m4 e5,m1,m2,m3,m4,mo⟩
  ·rw [gV (by lia)] at e;have hi0:i - Ss.length=0:=by
    cases z:i - Ss.length with
    | zero=>rfl
    | succ n=>rw [z] at e;cases e
   rw [hi0] at e;cases e;refine ⟨d,by rw [gV (by lia),show i - ds.length=0 by lia];rfl,⟨a,b,kd h1,k _ _ n1 n2 h2,k _ _ n3 n4 h3⟩,a,b,kd h1,k _ _ n1 n2 h2,k _ _ n3 n4 h3,n1,n2,n3,n4,oa,ob⟩
def DS (b:Bool) (ss:List (Bool × Int)):Int:=((ss.filter λz=>z.1 == b).map (·.2)).sum
theorem kinds_eq (a b:Bool):decide (V.str (AX a)=V.str (AX b))=(a == b):=by
 cases b with
 | true=>rw [show AX true = "warm" from rfl,EG];cases a <;> rfl
 | false=>rw [show AX false = "cold" from rfl,GJ];cases a <;> rfl
def JK (b:Bool) (ss:List (Bool × Int)):List Int:=(ss.filter λz=>z.1 == b).map (·.2)
theorem S1 {b:Bool} {ss:List (Bool × Int)} {i:Nat} {z:Bool × Int} (e:ss[i]? = some z) (h:(z.1 == b)=true):JK b (ss.take (i+1))=JK b (ss.take i) ++ [z.2]:=by
 unfold JK;rw [B5 e,jJ,gO,jI,h];rfl
theorem XI {b:Bool} {ss:List (Bool × Int)} {i:Nat} {z:Bool × Int} (e:ss[i]? = some z) (h:¬ (z.1 == b)=true):JK b (ss.take (i+1))=JK b (ss.take i):=by
 unfold JK;rw [B5 e,jJ,gO,jI,if_neg h];simp
theorem U8 (b:Bool) (ss:List (Bool × Int)):(JK b ss).length <= ss.length:=by
 unfold JK;rw [fU];exact kG _ _
theorem MF (b:Bool) (ss:List (Bool × Int)):(JK b ss).sum=DS b ss:=rfl
def D7 (b:Bool) (ss:List (Bool × Int)) (n so:Nat):Int:=(n:Int) * DS b ss+DS b (ss.take so)
def CZ (S:Zq) (ss:List (Bool × Int)) (n so:Nat):Zq:=⟨S.fQ,(BI S.fQ S.fR ss n so).fR,S.found+D7 true ss n so - (BI S.fQ S.fR ss n so).room,S.taken+D7 false ss n so - (BI S.fQ S.fR ss n so).heat⟩
theorem sum_le:∀ (l:List Int),(∀ x ∈ l,0 <= x/\x <= 1000000)->0 <= l.sum/\l.sum <= 1000000 * (l.length:Int)
 | [],_=>⟨iU 0,iU 0⟩
 | x :: r,h=>by
  have h1:=h x gU;have h2:=sum_le r λy hy=>h y (gD _ hy);rw [lM,iN]
  lia
theorem amtOf_le (b:Bool) {ss:List (Bool × Int)} (hz:∀ z ∈ ss,0 <= z.2/\z.2 <= 1000000) (hn:ss.length <= 1000):-(2 ^ 64) < DS b ss/\DS b ss < 2 ^ 64:=by
 have h:=sum_le (JK b ss) λx hx=>by
  unfold JK at hx;obtain ⟨z,hz',rfl⟩:=kL.mp hx;exact hz z (jN.mp hz').1
 have hl:=U8 b ss;rw [MF] at h
 lia
structure W0 (G:fT) (ok:fT->Prop) (H:Hp) (p:fT) (kept:List V) (Ss:List Zq):Prop where
 ex:∃ (dx pk ps:fT) (ds:List fT),H p=some (.ins G dx (gF pk ps))/\H pk=some (.lst kept)/\H ps=some (.lst (ds.map V.ref))/\ds.length=Ss.length/\∀ (i:Nat) (S:Zq),Ss[i]? = some S->∃ d a b,ds[i]? = some d/\ok a/\ok b/\H d=some (.dK (BA a b S.found S.taken))/\H a=some (.lst (S.fQ.map V.int))/\H b=some (.lst (S.fR.map V.int))
theorem Ya.y {G:fT} {H:Hp} {p:fT} {kept:List V} {Ss:List Zq} (h:Ya G H p kept Ss):W0 G (λ_=>True) H p kept Ss:=by
 obtain ⟨dx,pk,ps,ds,h1,h2,h3,h4,h5⟩:=h.ex;refine ⟨⟨dx,pk,ps,ds,h1,h2,h3,h4,λi S e=>?_⟩⟩;obtain ⟨d,e1,a,b,e2,e3,e4⟩:=h5 i S e;exact ⟨d,a,b,e1,trivial,trivial,e2,e3,e4⟩
theorem Yg.y {G:fT} {ok:fT->Prop} {H:Hp} {p pk ps:fT} {kept:List V} {Ss:List Zq} (h:Yg G ok H p pk ps kept Ss):W0 G (λb=>b ≠ pk/\b ≠ ps/\ok b) H p kept Ss:=by
 obtain ⟨dx,ds,h1,h2,h3,h4,h5⟩:=h.ex;refine ⟨⟨dx,pk,ps,ds,h1,h2,h3,h4,λi S e=>?_⟩⟩;obtain ⟨d,e1,_,a,b,e2,e3,e4,m1,m2,m3,m4,m5,m6⟩:=h5 i S e;exact ⟨d,a,b,e1,⟨m1,m2,m5⟩,⟨m3,m4,m6⟩,e2,e3,e4⟩
inductive Deed where
 | sea (z:Bool × Int)
 | yrs (ss:List (Bool × Int)) (n:Nat)
def Deed.row:Deed->List (Bool × Int)
 | .sea z=>[z]
 | .yrs ss _=>ss
def Deed.more:Deed->Nat
 | .sea _=>0
 | .yrs _ n=>n
def XM (H:Hp) (t:fT):Deed->Prop
 | .sea z=>H t=some (.tup [.str (AX z.1),.int z.2])
 | .yrs ss n=>E2 λu ts=>H t=some (.tup [.str "years",.ref u,.int ((n:Int)+1)])/\H u=some (.tup (ts.map V.ref))/\Zu H ts ss
theorem GQ (b:Bool):decide (V.str (AX b)=V.str "years")=false:=by
 cases b
 ·exact decide_eq_false (λh=>absurd (V.str.inj h) D9_)
 ·exact decide_eq_false (λh=>absurd (V.str.inj h) D9_)
theorem QX (b:Bool):decide (V.str (AX b)=V.str "lay")=false:=by
 cases b
 ·exact decide_eq_false (λh=>absurd (V.str.inj h) D9_)
 ·exact decide_eq_false (λh=>absurd (V.str.inj h) D9_)
theorem Yg.weak {G:fT} {ok ok':fT->Prop} {H:Hp} {p pk ps:fT} {kept:List V} {Ss:List Zq} (h:Yg G ok H p pk ps kept Ss) (w:∀ b,ok b->ok' b):Yg G ok' H p pk ps kept Ss:=by
 obtain ⟨dx,ds,h1,h2,h3,h4,h5⟩:=h.ex;refine ⟨h.ne,dx,ds,h1,h2,h3,h4,λi S e=>?_⟩;obtain ⟨d,e1,e2,a,b,e3,e4,e5,m1,m2,m3,m4,m5,m6⟩:=h5 i S e;exact ⟨d,e1,e2,a,b,e3,e4,e5,m1,m2,m3,m4,w a m5,w b m6⟩
theorem DQ.x {G:fT} {ok:fT->Prop} {H:Hp} {p:fT} {fQ fR:List Int} {x y:Int} (h:DQ G ok H p [] [⟨fQ,fR,x,y⟩]) (h1:fQ ≠ []) (h2:fR ≠ []):∃ pk ps,ok pk/\ok ps/\Yg G ok H p pk ps [] [⟨fQ,fR,x,y⟩]:=by
 obtain ⟨dx,pk,ps,ds,g1,o1,g2,o2,g3,g4,g5⟩:=h.ex;obtain ⟨d,a,b,e1,o3,o4,o5,e2,e3,e4⟩:=g5 0 _ Z;have hds:ds ≠ []:=λz=>by rw [z] at e1;cases e1
 have isInt:∀ {c:fT} {ns:List Int},ns ≠ []->H c=some (.lst (ns.map V.int))->c ≠ pk/\c ≠ ps:=λ{c ns} hn e=>by
  refine ⟨AF e g2 λz=>hn (List.map_eq_nil_iff.mp (HO.lst.inj z)),AF e g3 λz=>?_⟩;have z:=HO.lst.inj z;cases ns with
  | nil=>exact hn Z
  | cons n r=>
   cases ds with
   | nil=>exact hds Z
   | cons d r'=>cases z
 have ha:=isInt h1 e3;have hb:=isInt h2 e4;refine ⟨pk,ps,o1,o2,⟨AF g2 g3 λz=>hds (List.map_eq_nil_iff.mp (HO.lst.inj z).symm),dx,ds,g1,g2,g3,g4,λi S e=>?_⟩⟩
 match i,e with
 | 0,e=>
  cases e;exact ⟨d,e1,⟨a,b,e2,e3,e4⟩,a,b,e2,e3,e4,ha.1,ha.2,hb.1,hb.2,o4,o5⟩
 | k+1,e=>cases e
theorem U2 (fQ hs:List Int) (z:Bool × Int):BI fQ hs [z] 0 1=AE fQ ⟨hs,0,0⟩ z:=rfl
theorem Q4 (b:Bool) (z:Bool × Int):D7 b [z] 0 1=if z.1 == b then z.2 else 0:=by
 unfold D7 DS;rw [show ((0:Nat):Int)=0 from rfl,Int.zero_mul,jL,show ([z]:List (Bool × Int)).take 1=[z] from rfl,jI];split <;> simp
theorem XQ (fQ hs:List Int) (f t m:Int):CZ ⟨fQ,hs,f,t⟩ [(true,m)] 0 1=⟨fQ,C8 fQ hs (true,m),f+m - Yh fQ hs (true,m),t⟩:=by
 unfold CZ;rw [U2,Q4,Q4];show Zq.mk fQ (C8 fQ hs (true,m)) (f+m - (0+Yh fQ hs (true,m))) (t+0 - 0)=_;rw [jL,jE,Int.sub_zero]
theorem YF (fQ hs:List Int) (f t m:Int):CZ ⟨fQ,hs,f,t⟩ [(false,m)] 0 1=⟨fQ,C8 fQ hs (false,m),f,t+m - Yh fQ hs (false,m)⟩:=by
 unfold CZ;rw [U2,Q4,Q4];show Zq.mk fQ (C8 fQ hs (false,m)) (f+0 - 0) (t+m - (0+Yh fQ hs (false,m)))=_;rw [jL,jE,Int.sub_zero]
theorem cP (fQ hs:List Int) (m:Int):(BI fQ hs [(true,m)] 0 1).room=Yh fQ hs (true,m):=by
 show 0+Yh fQ hs (true,m)=_;rw [jL]
theorem bO (fQ hs:List Int) (m:Int):(BI fQ hs [(false,m)] 0 1).heat=Yh fQ hs (false,m):=by
 show 0+Yh fQ hs (false,m)=_;rw [jL]
theorem Yg.tight {G:fT} {ok:fT->Prop} {H:Hp} {p pk ps:fT} {kept:List V} {Ss:List Zq} (h:Yg G ok H p pk ps kept Ss):Yg G (λb=>ok b/\∃ o,H b=some o) H p pk ps kept Ss:=by
 obtain ⟨dx,ds,h1,h2,h3,h4,h5⟩:=h.ex;refine ⟨h.ne,dx,ds,h1,h2,h3,h4,λi S e=>?_⟩;obtain ⟨d,e1,e2,a,b,e3,e4,e5,m1,m2,m3,m4,m5,m6⟩:=h5 i S e;exact ⟨d,e1,e2,a,b,e3,e4,e5,m1,m2,m3,m4,⟨m5,_,e4⟩,m6,_,e5⟩
theorem Zu.tup {H H':Hp} {ts:List fT} {ss:List (Bool × Int)} (S:Zu H ts ss) (k:∀ t xs,H t=some (.tup xs)->H' t=some (.tup xs)):Zu H' ts ss:=
 ⟨S.len,λi z e=>let ⟨t,e1,e2⟩:=S.at' i z e;⟨t,e1,k _ _ e2⟩⟩
end Tf
namespace L2
open PySem PySem.Spec PyProof.Rows
section
variable {X:Cx}
theorem op_fdivB:OpR X (binaryOp .FloorDiv) (rI (λ_ j=>0 < j/\j.natAbs.log2 < 9000) λi j=>.int (i / j)):=opI λi j _ _ _ _ _ hc q=>by
 have h1:(0:Int) < j:=hc.1;have h2:j.natAbs.log2 < 9000:=hc.2;exact floordiv_int (by lia) (by rw [Int.fdiv_eq_ediv_of_nonneg i (by lia)];exact q) (.inl (PyProof.noPylong_of_log2 h2))
theorem eq_sameR {A:iD} {s:fW} {p:fT} {u v:fV} (ru:AW (.ref p) u) (rv:AW (.ref p) v):SeqAt.EqAt A s u v true:=by
 cases ru;cases rv;exact SeqAt.EqAt.same _
theorem op_eqA (hu:X.A.units < cLine):OpR X (compareOp .Eq) (λx y H Q=>∃ (p q:fT) (xs ys:List Int),x = .ref p/\y = .ref q/\SqL X.K H p (xs.map V.int)/\SqL X.K H q (ys.map V.int)/\Q (.bl (decide (xs=ys))) H):=by
 intro fS s σ H x y v u Q I rx ry h;obtain ⟨p,q,xs,ys,rfl,rfl,h1,h2,hq⟩:=h;by_cases hl:xs.length=ys.length
 ·exact op_eqI hu fS s σ H _ _ v u Q I rx ry ⟨p,q,xs,ys,Z,Z,h1,h2,hl,hq⟩
 cases rx;cases ry;obtain ⟨its,r1,pl1,_⟩:=I.list h1;obtain ⟨jts,r2,pl2,_⟩:=I.list h2;have l1:=r1.length;have l2:=r2.length;rw [fU] at l1 l2;refine SeqAt.eq_list_lengthsAt pl1.isList pl2.isList (by simp only [gG,bne_iff_ne];lia) hu ?_;have:decide (xs=ys)=false:=decide_eq_false λe=>hl (by rw [e]);rw [this] at hq;exact ⟨.bl false,H,I,Z,hq⟩
end
end L2
namespace Tf
open PySem L2
inductive Act where
 | sea (z:Bool × Int)
 | lay (m:Int)
 | yrs (ss:List (Bool × Int)) (n:Nat)
def Act.Fit:Act->Prop
 | .sea z=>0 <= z.2/\z.2 <= 1000000
 | .lay m=>1 <= m/\m <= 200
 | .yrs ss n=>1 <= ss.length/\ss.length <= 12/\(∀ z ∈ ss,0 <= z.2/\z.2 <= 1000000)/\(n:Int)+1 <= 1000000000000000000
def Act.isLay:Act->Bool
 | .lay _=>true
 | _=>false
def FW (H:Hp) (t:fT):Act->Prop
 | .sea z=>H t=some (.tup [.str (AX z.1),.int z.2])
 | .lay m=>H t=some (.tup [.str "lay",.int m])
 | .yrs ss n=>E2 λu ts=>H t=some (.tup [.str "years",.ref u,.int ((n:Int)+1)])/\H u=some (.tup (ts.map V.ref))/\Zu H ts ss
def KN (H H':Hp):Prop:=∀ t xs,H t=some (.tup xs)->H' t=some (.tup xs)
theorem KN.trans {H H1 H2:Hp} (a:KN H H1) (b:KN H1 H2):KN H H2:=λt xs e=>b t xs (a t xs e)
theorem _root_.L2.Same.keepT {H H':Hp} (s:Same H H'):KN H H':=λt xs e=>s t _ e
theorem CW {H:Hp} {q:fT} {xs:List V} {o:HO} (h:H q=some (.lst xs)):KN H (upd H q o):=λt ys e=>by rw [Zk (AF e h (by intro z;cases z))];exact e
theorem FW.tup {H H':Hp} {t:fT} {A:Act} (h:FW H t A) (k:KN H H'):FW H' t A:=by
 cases A with
 | sea z=>exact k _ _ h
 | lay m=>exact k _ _ h
 | yrs ss n=>
  obtain ⟨u,ts,h1,h2,h3⟩:=h;exact ⟨u,ts,k _ _ h1,k _ _ h2,h3.tup k⟩
theorem FW.same {H H':Hp} {t:fT} {A:Act} (h:FW H t A) (s:Same H H'):FW H' t A:=h.tup s.keepT
structure AQ (H:Hp) (ts:List fT) (As:List Act):Prop where
 len:ts.length=As.length
 at':∀ (i:Nat) (A:Act),As[i]? = some A->∃ t,ts[i]? = some t/\FW H t A
theorem AQ.tup {H H':Hp} {ts:List fT} {As:List Act} (h:AQ H ts As) (k:KN H H'):AQ H' ts As:=
 ⟨h.len,λi A e=>let ⟨t,e1,e2⟩:=h.at' i A e;⟨t,e1,e2.tup k⟩⟩
theorem AQ.same {H H':Hp} {ts:List fT} {As:List Act} (h:AQ H ts As) (s:Same H H'):AQ H' ts As:=h.tup s.keepT
theorem AQ.nil (H:Hp):AQ H [] []:=⟨Z,λi A e=>by simp at e⟩
theorem aH {α:Type} {xs:List α} {a b:α} {i:Nat} (e:(xs ++ [a])[i]? = some b):(i < xs.length/\xs[i]? = some b)\/(i=xs.length/\a=b):=by
 by_cases hi:i < xs.length
 ·rw [gY hi] at e;exact .inl ⟨hi,e⟩
 ·rw [gV (by lia)] at e;have hi0:i - xs.length=0:=by
   cases z:i - xs.length with
   | zero=>rfl
   | succ n=>rw [z] at e;cases e
  rw [hi0] at e;exact .inr ⟨by lia,Option.some.inj e⟩
theorem AQ.snoc {H:Hp} {ts:List fT} {As:List Act} (h:AQ H ts As) {t:fT} {A:Act} (ht:FW H t A):AQ H (ts ++ [t]) (As ++ [A]):=by
 refine ⟨by simp [h.len],λi B e=>?_⟩;rcases aH e with ⟨hi,e⟩ | ⟨rfl,rfl⟩
 ·obtain ⟨t',e1,e2⟩:=h.at' i B e;exact ⟨t',by rw [gY (by rw [h.len];exact hi)];exact e1,e2⟩
 ·exact ⟨t,by rw [gV (by rw [h.len];lia),show As.length - ts.length=0 by rw [h.len];lia];rfl,ht⟩
theorem AQ.item {H:Hp} {ts:List fT} {As:List Act} (S:AQ H ts As) {i:Nat} {x:V} (h:(ts.map V.ref)[i]? = some x):∃ t A,x = .ref t/\As[i]? = some A/\FW H t A:=by
 rw [gE] at h;cases e:ts[i]? with
 | none=>rw [e] at h;cases h
 | some t=>
  rw [e] at h;have hi:i < As.length:=by rw [<- S.len];exact (gK.mp e).1
  obtain ⟨t',e1,e2⟩:=S.at' i _ (fX hi);rw [e] at e1;cases e1;exact ⟨t,_,(Option.some.inj h).symm,fX hi,e2⟩
def doS (S:Zq):Act->Zq
 | .sea z=>CZ S [z] 0 1
 | .lay m=>⟨S.fQ ++ [m],S.fR ++ [0],S.found,S.taken⟩
 | .yrs ss n=>CZ S ss n ss.length
def dueL (S:Zq):Act->List Int
 | .sea z=>[Yh S.fQ S.fR z]
 | .lay _=>[(S.fQ.length:Int)+1]
 | .yrs ss n=>[(Zm S.fQ S.fR ss (n+1)).room,(Zm S.fQ S.fR ss (n+1)).heat]
def Told (H:Hp) (v:V) (S:Zq):Act->Prop
 | .sea z=>v = .int (Yh S.fQ S.fR z)
 | .lay _=>v = .int ((S.fQ.length:Int)+1)
 | .yrs ss n=>∃ u,v = .ref u/\H u=some (.tup [.int (Zm S.fQ S.fR ss (n+1)).room,.int (Zm S.fQ S.fR ss (n+1)).heat])
theorem MD (fQ fR:List Int) (ss:List (Bool × Int)) (n:Nat):BI fQ fR ss n ss.length=Zm fQ fR ss (n+1):=by
 unfold BI;rw [iZ];rfl
theorem U0 (b:Bool) (ss:List (Bool × Int)) (n:Nat):D7 b ss n ss.length=((n:Int)+1) * DS b ss:=by
 unfold D7;rw [iZ,kY,kZ]
theorem VB (S:Zq) (ss:List (Bool × Int)) (n:Nat):CZ S ss n ss.length=⟨S.fQ,(Zm S.fQ S.fR ss (n+1)).fR,S.found+((n:Int)+1) * DS true ss - (Zm S.fQ S.fR ss (n+1)).room,S.taken+((n:Int)+1) * DS false ss - (Zm S.fQ S.fR ss (n+1)).heat⟩:=by
 unfold CZ;rw [MD,U0,U0]
structure Zq.Ok (S:Zq):Prop where
 fR:Zr S.fQ S.fR
 lo:1 <= S.fQ.length
 need:∀ x ∈ S.fQ,1 <= x/\x <= 200
theorem Zq.Ok.sum {S:Zq} (h:S.Ok) (h2:S.fQ.length <= 1000):1 <= S.fQ.sum/\S.fQ.sum <= 200 * (S.fQ.length:Int):=by
 have:=KA h.need;have:=h.lo
 lia
theorem QG {xs ys:List Int} {i:Nat} (h:i < xs.length):(xs ++ ys).getD i 0=xs.getD i 0:=by
 rw [fY,fY,gY h]
theorem MU {xs ys:List Int} {i:Nat} (h:xs.length <= i):(xs ++ ys).getD i 0=ys.getD (i - xs.length) 0:=by
 rw [fY,fY,gV h]
theorem snoc_ind {α:Type} {P:List α->Prop} (h0:P []) (hs:∀ xs a,P xs->P (xs ++ [a])) (xs:List α):P xs:=by
 have aux:∀ ys:List α,P ys.reverse:=by
  intro ys;induction ys with
  | nil=>exact h0
  | cons a r ih=>rw [List.reverse_cons];exact hs _ _ ih
 have:=aux xs.reverse;rw [List.reverse_reverse] at this;exact this
theorem Zr.lay {fQ fR:List Int} (h:Zr fQ fR) {m:Int} (hm:0 <= m):Zr (fQ ++ [m]) (fR ++ [0]):=by
 have hl:=h.len;refine ⟨by simp [hl],λi hi=>?_,λi hi=>?_⟩
 ·rw [i6] at hi;have hi:i < fQ.length+1:=hi;by_cases h1:i < fQ.length
  ·rw [QG (by lia)];exact h.lo i h1
  ·rw [MU (by lia),show i - fR.length=0 by lia];exact iU 0
 ·rw [i6] at hi;have hi:i < fQ.length+1:=hi;by_cases h1:i < fQ.length
  ·rw [QG (by lia),QG h1];exact h.hi i h1
  ·rw [MU (by lia),show i - fR.length=0 by lia,MU (by lia),show i - fQ.length=0 by lia];exact hm
theorem Zq.Ok.do {S:Zq} (h:S.Ok) {A:Act} (hA:A.Fit):(doS S A).Ok:=by
 cases A with
 | sea z=>exact ⟨by show Zr S.fQ (BI S.fQ S.fR [z] 0 1).fR;exact PN _ _ (A9 h.fR _ _),h.lo,h.need⟩
 | lay m=>
  have h1:1 <= m/\m <= 200:=hA;refine ⟨h.fR.lay (by lia),by show 1 <= (S.fQ ++ [m]).length;simp,λx hx=>?_⟩;rcases iM.mp hx with hx | hx
  ·exact h.need x hx
  ·have:x=m:=by simpa using hx
   rw [this];exact h1
 | yrs ss n=>exact ⟨by show Zr S.fQ (BI S.fQ S.fR ss n ss.length).fR;exact PN _ _ (A9 h.fR _ _),h.lo,h.need⟩
theorem do_len (S:Zq) (A:Act):(doS S A).fQ.length=S.fQ.length+(if A.isLay=true then 1 else 0):=by
 cases A with
 | sea z=>rfl
 | lay m=>show (S.fQ ++ [m]).length=_;rw [i6];rfl
 | yrs ss n=>rfl
def DR (S:Zq) (As:List Act):Zq:=As.foldl doS S
def JP (S:Zq) (As:List Act):List Zq:=(i9 (As.length+1)).map λi=>DR S (As.take i)
theorem ND (S:Zq) (As:List Act) (A:Act):DR S (As ++ [A])=doS (DR S As) A:=by unfold DR;rw [jR];rfl
theorem IT (S:Zq) (As:List Act):(JP S As).length=As.length+1:=by unfold JP;rw [fU,iS]
theorem XA (S:Zq) (As:List Act) {i:Nat} (h:i <= As.length):(JP S As)[i]? = some (DR S (As.take i)):=by
 unfold JP;rw [gE,lG (by lia)];rfl
theorem OM (S:Zq) (As:List Act) (A:Act):JP S (As ++ [A])=JP S As ++ [doS (DR S As) A]:=by
 unfold JP;rw [i6,show As.length+[A].length+1=(As.length+1)+1 from rfl,kF,gO];congr 1
 ·refine lF λi hi=>?_;have:=kI.mp hi;rw [List.take_append_of_le_length (by lia)]
 ·show [DR S ((As ++ [A]).take (As.length+1))]=_;rw [iJ (by simp),ND]
theorem O4 (S:Zq) (As:List Act):(JP S As).getLast? = some (DR S As):=by
 rw [List.getLast?_eq_getElem?,IT,Nat.add_sub_cancel,XA S As (gA _),iZ]
theorem NM (S:Zq) (As:List Act):(JP S As)[0]? = some S:=by rw [XA S As (iG _)];rfl
theorem cI {S:Zq} (h:S.Ok):∀ (As:List Act),(∀ A ∈ As,A.Fit)->(DR S As).Ok:=by
 intro As;induction As using snoc_ind with
 | h0=>intro _;exact h
 | hs As A ih=>
  intro hA;rw [ND];exact (ih λB hB=>hA B (jC _ hB)).do (hA A (by simp))
def BR (L:List fT) (H H':Hp):Prop:=∀ b o,b ∉ L->H b=some o->H' b=some o
theorem BR.trans {L:List fT} {H H1 H2:Hp} (a:BR L H H1) (b:BR L H1 H2):BR L H H2:=λc o n e=>b c o n (a c o n e)
theorem _root_.L2.Same.keepL {H H':Hp} (s:Same H H') (L:List fT):BR L H H':=λb o _ e=>s b o e
theorem BR.mono {L M:List fT} {H H':Hp} (k:BR L H H') (h:∀ b ∈ L,b ∈ M):BR M H H':=λb o n e=>k b o (λz=>n (h b z)) e
theorem FU.keepL {pk ps:fT} {H H':Hp} (k:FU pk ps H H'):BR [pk,ps] H H':=λb o n e=>k b o (λz=>n (by simp [z])) (λz=>n (by simp [z])) e
theorem DP {L:List fT} {H:Hp} {q:fT} {o:HO} (h:q ∈ L):BR L H (upd H q o):=λb u n e=>by rw [Zk (λz:b=q=>n (by rw [z];exact h))];exact e
theorem BR.tups {L:List fT} {H H':Hp} (k:BR L H H') (h:∀ b ∈ L,∃ xs,H b=some (.lst xs)):KN H H':=λt ys e=>k t _ (λz=>by
 obtain ⟨xs,g⟩:=h t z;rw [e] at g;cases g) e
theorem FU.tups {pk ps:fT} {H H':Hp} {xs ys:List V} (k:FU pk ps H H') (h1:H pk=some (.lst xs)) (h2:H ps=some (.lst ys)):KN H H':=λt zs e=>k t _ (AF e h1 (by intro z;cases z)) (AF e h2 (by intro z;cases z)) e
theorem BR.free {L:List fT} {H H':Hp} (k:BR L H H') (h:∀ b ∈ L,∃ o,H' b=some o) {a:fT} (e:H' a=none):H a=none:=by
 cases z:H a with
 | none=>rfl
 | some o=>
  exfalso;by_cases m:a ∈ L
  ·obtain ⟨u,g⟩:=h a m;rw [e] at g;cases g
  ·rw [k a o m z] at e;cases e
theorem UK (S:Zq) (m:Int):doS S (.sea (true,m))=⟨S.fQ,C8 S.fQ S.fR (true,m),S.found+m - Yh S.fQ S.fR (true,m),S.taken⟩:=XQ S.fQ S.fR S.found S.taken m
theorem UW (S:Zq) (m:Int):doS S (.sea (false,m))=⟨S.fQ,C8 S.fQ S.fR (false,m),S.found,S.taken+m - Yh S.fQ S.fR (false,m)⟩:=YF S.fQ S.fR S.found S.taken m
theorem do_yrs (S:Zq) (ss:List (Bool × Int)) (n:Nat):doS S (.yrs ss n)=⟨S.fQ,(Zm S.fQ S.fR ss (n+1)).fR,S.found+((n:Int)+1) * DS true ss - (Zm S.fQ S.fR ss (n+1)).room,S.taken+((n:Int)+1) * DS false ss - (Zm S.fQ S.fR ss (n+1)).heat⟩:=VB S ss n
theorem OE {b:Bool} {ss:List (Bool × Int)} {i:Nat} {z:Bool × Int} (e:ss[i]? = some z):DS b (ss.take (i+1))=DS b (ss.take i)+if z.1 == b then z.2 else 0:=by
 rw [<- MF,<- MF];by_cases h:(z.1 == b)=true
 ·rw [S1 e h,if_pos h,List.sum_append];simp
 ·rw [XI e h,if_neg h,jE]
theorem Yg.keepL {G:fT} {ok:fT->Prop} {H H':Hp} {p pk ps:fT} {kept:List V} {Ss:List Zq} {L:List fT} (h:Yg G ok H p pk ps kept Ss) (k:BR L H H') (hl:∀ b ∈ L,∃ xs,H b=some (.lst xs)) (nk:pk ∉ L) (ns:ps ∉ L) (no:∀ b,ok b->b ∉ L):Yg G ok H' p pk ps kept Ss:=by
 obtain ⟨dx,ds,h1,h2,h3,h4,h5⟩:=h.ex;have kd:∀ {d:fT} {o:HO},H d=some o->(∀ xs,o ≠ .lst xs)->H' d=some o:=λ{d o} e n=>k d _ (λz=>by obtain ⟨xs,g⟩:=hl d z;rw [e] at g;exact n xs (Option.some.inj g)) e;refine ⟨h.ne,dx,ds,kd h1 (by intro xs z;cases z),k _ _ nk h2,k _ _ ns h3,h4,λi S e=>?_⟩;obtain ⟨d,e1,_,a,b,e3,e4,e5,m1,m2,m3,m4,m5,m6⟩:=h5 i S e;have g1:=kd e3 (by intro xs z;cases z);have g2:=k _ _ (no a m5) e4;have g3:=k _ _ (no b m6) e5;exact ⟨d,e1,⟨a,b,g1,g2,g3⟩,a,b,g1,g2,g3,m1,m2,m3,m4,m5,m6⟩
structure T3 (H:Hp) (ok:fT->Prop) (q:fT) (s0:Int) (S:Zq):Prop where
 ex:∃ a b c,H q=some (.lst [.ref a,.ref b,.ref c])/\H a=some (.lst (S.fQ.map V.int))/\H b=some (.lst (S.fR.map V.int))/\H c=some (.lst [.int s0,.int S.found,.int S.taken])/\ok q/\ok a/\ok b/\ok c
theorem T3.keep {H H':Hp} {ok ok':fT->Prop} {q:fT} {s0:Int} {S:Zq} (h:T3 H ok q s0 S) (k:∀ b o,ok b->H b=some o->H' b=some o) (w:∀ b,ok b->ok' b):T3 H' ok' q s0 S:=by
 obtain ⟨a,b,c,h1,h2,h3,h4,o1,o2,o3,o4⟩:=h.ex;exact ⟨a,b,c,k _ _ o1 h1,k _ _ o2 h2,k _ _ o3 h3,k _ _ o4 h4,w _ o1,w _ o2,w _ o3,w _ o4⟩
structure DI (H:Hp) (ok:fT->Prop) (qs:List fT) (s0:Int) (Ss:List Zq):Prop where
 len:qs.length=Ss.length
 at':∀ (i:Nat) (S:Zq),Ss[i]? = some S->∃ q,qs[i]? = some q/\T3 H ok q s0 S
theorem DI.keep {H H':Hp} {ok ok':fT->Prop} {qs:List fT} {s0:Int} {Ss:List Zq} (h:DI H ok qs s0 Ss) (k:∀ b o,ok b->H b=some o->H' b=some o) (w:∀ b,ok b->ok' b):DI H' ok' qs s0 Ss:=
 ⟨h.len,λi S e=>let ⟨q,e1,e2⟩:=h.at' i S e;⟨q,e1,e2.keep k w⟩⟩
theorem DI.nil (H:Hp) (ok:fT->Prop) (s0:Int):DI H ok [] s0 []:=⟨Z,λi S e=>by simp at e⟩
theorem DI.snoc {H:Hp} {ok:fT->Prop} {qs:List fT} {s0:Int} {Ss:List Zq} (h:DI H ok qs s0 Ss) {q:fT} {S:Zq} (hq:T3 H ok q s0 S):DI H ok (qs ++ [q]) s0 (Ss ++ [S]):=by
 refine ⟨by simp [h.len],λi B e=>?_⟩;rcases aH e with ⟨hi,e⟩ | ⟨rfl,rfl⟩
 ·obtain ⟨t',e1,e2⟩:=h.at' i B e;exact ⟨t',by rw [gY (by rw [h.len];exact hi)];exact e1,e2⟩
 ·exact ⟨q,by rw [gV (by rw [h.len];lia),show Ss.length - qs.length=0 by rw [h.len];lia];rfl,hq⟩
theorem BR.seq {K:PySem.W.Frag} {L:List fT} {a:fT} {H H':Hp} {xs:List V} (k:BR L H H') (h:SqL K H a xs) (n:∀ o,H a=some o->a ∉ L):SqL K H' a xs:=by
 rcases h with (h | ⟨ob,h⟩) | h
 ·exact .inl (.inl (k _ _ (n _ h) h))
 ·exact .inl (.inr ⟨ob,k _ _ (n _ h) h⟩)
 ·exact .inr h
theorem cut_ints (ns:List Int) (lo hi:Option Int):∃ cells:List Int,DD (ns.map V.int) lo hi=cells.map V.int/\cells.length <= ns.length:=by
 refine ⟨(ns.drop (HT.sIx (ns.map V.int).length 0 lo)).take (HT.sIx (ns.map V.int).length (ns.map V.int).length hi - HT.sIx (ns.map V.int).length 0 lo),?_,?_⟩
 ·unfold DD;rw [<- k6,<- kQ]
 ·rw [iH,k8];lia
theorem NY.stage {fQ fR:List Int} (B:NY fQ fR):Zq.Ok ⟨fQ,fR,0,0⟩:=⟨B.ok,B.lo,λx hx=>by
 obtain ⟨i,hi,rfl⟩:=mem_getD hx;exact B.need i hi⟩
end Tf
namespace L2
open PySem PySem.Spec PyProof.Rows
section
variable {X:Cx}
theorem WU (hu:X.A.units < cLine):OpR X (compareOp .NotEq) (λx y H Q=>∃ (p q:fT) (xs:List V),x = .ref p/\y = .ref q/\SqL X.K H p xs/\SqL X.K H q []/\Q (.bl (!xs.isEmpty)) H):=by
 intro fS s σ H x y v u Q I rx ry h;obtain ⟨p,q,xs,rfl,rfl,h1,h2,hq⟩:=h;cases rx;cases ry;obtain ⟨its,r1,pl1,_⟩:=I.list h1;obtain ⟨jts,r2,pl2,_⟩:=I.list h2;have l1:=r1.length;have l2:=r2.length;rw [jS] at l2;cases xs with
 | nil=>
  rw [jS] at l1;refine SeqAt.RcNeAt.lists (e:=λ_=>true) pl1.isList pl2.isList (by simp only [gG];lia) hu (λj a b=>?_) _ _ _ _ ?_
  ·simp only [gG] at a;lia
  ·rw [show (i9 its.toArray.size).all (λ_=>true)=true from by simp];exact ⟨.bl false,H,I,Z,hq⟩
 | cons a r=>
  rw [iN] at l1;refine SeqAt.RcNeAt.lists_lengths pl1.isList pl2.isList (by simp only [gG,bne_iff_ne];lia) hu _ _ _ _ ?_;exact ⟨.bl true,H,I,Z,hq⟩
theorem op_eqNil (hu:X.A.units < cLine):OpR X (compareOp .Eq) (λx y H Q=>∃ (p q:fT) (xs:List V),x = .ref p/\y = .ref q/\SqL X.K H p xs/\SqL X.K H q []/\Q (.bl xs.isEmpty) H):=by
 intro fS s σ H x y v u Q I rx ry h;obtain ⟨p,q,xs,rfl,rfl,h1,h2,hq⟩:=h;cases rx;cases ry;obtain ⟨its,r1,pl1,_⟩:=I.list h1;obtain ⟨jts,r2,pl2,_⟩:=I.list h2;have l1:=r1.length;have l2:=r2.length;rw [jS] at l2;cases xs with
 | nil=>
  rw [jS] at l1;refine SeqAt.eq_listAt (e:=λ_=>true) pl1.isList pl2.isList (by simp only [gG];lia) hu (λj a b=>?_) ?_
  ·simp only [gG] at a;lia
  ·rw [show (i9 its.toArray.size).all (λ_=>true)=true from by simp];exact ⟨.bl true,H,I,Z,hq⟩
 | cons a r=>
  rw [iN] at l1;refine SeqAt.eq_list_lengthsAt pl1.isList pl2.isList (by simp only [gG,bne_iff_ne];lia) hu ?_;exact ⟨.bl false,H,I,Z,hq⟩
end
end L2
namespace Tf
open PySem L2
end Tf
namespace L2
open PySem PySem.Spec PyProof.Rows
section
variable {X:Cx}
theorem op_eqR (hu:X.A.units < cLine):OpR X (compareOp .Eq) (λx y H Q=>∃ (p q:fT) (ts:List fT),x = .ref p/\y = .ref q/\SqL X.K H p (ts.map V.ref)/\SqL X.K H q (ts.map V.ref)/\Q (.bl true) H):=by
 intro fS s σ H x y v u Q I rx ry h;obtain ⟨p,q,xs,rfl,rfl,h1,h2,hq⟩:=h;cases rx;cases ry;obtain ⟨its,r1,pl1,_⟩:=I.list h1;obtain ⟨jts,r2,pl2,_⟩:=I.list h2;have hsz:its.length=jts.length:=by rw [<- r1.length,<- r2.length]
 refine SeqAt.eq_listAt (e:=λ_=>true) pl1.isList pl2.isList (by simpa using hsz) hu (λj a b=>?_) ?_
 ·obtain ⟨x,e,ru⟩:=r1.at (j:=j) (by simpa using a);obtain ⟨x',e',ru'⟩:=r2.at (j:=j) (by simpa using b);rw [e] at e';cases e';rw [gE] at e;cases e2:xs[j]? with
  | none=>rw [e2] at e;cases e
  | some t=>rw [e2] at e;cases e;exact eq_sameR ru ru'
 ·rw [show (i9 its.toArray.size).all (λ_=>true)=true from by simp];exact ⟨.bl true,H,I,Z,hq⟩
end
end L2
open PySem
namespace L2
theorem Yr {t r:TS} {D:OR} {σ:St} {H:Hp} (h:∀ D1:OR,(∀ σ' H',r D σ' H'->D1.nx σ' H')->t D1 σ H):tSeq t r D σ H:=h _ λ_ _ e=>e
end L2
namespace L2
open PySem PySem.Spec PyProof.Rows
structure O1 (P:gL) (w:gX) (K:PySem.W.Frag) (mg:fZ->Option fV) (base:iC) (C:fT) (m:fZ) (ps:List fZ) (k:Nat) (sp:Sp):Prop where
 ex:∃ f fd,Ym P w K mg base (CX1 P w) k f fd ps sp/\B9 K fd ps []/\Meth K C m f
section
variable {X:Cx} {E:XK} {k j:Nat} {ps:List fZ} {sp:Sp} {C:fT} {m x:fZ} {p pos apos:Pos} {o e:i4} {es:List i4} {ta:TE} {t:TA}
theorem Ys {pl:Sem Bool} (O:O1 X.prog X.w X.K X.mg X.base C m ps k sp) (c:Cls X.K C) (hr:DC j X.A) (hx:FS (CX1 X.prog X.w) X E) (he:PE X o ta) (ha:PA X (e :: es) t) (hj:k <= j:=by decide) (hst:gB (e :: es) X.env=(false,eval e X.env) :: gB es X.env:=by rfl) (hpl:(backTo pos (gB es X.env)).any (·.1)=false:=by rfl)
    (ht:eval (.Call (.Attribute o m apos) (e :: es) [] pos) X.env=(do
      let ov <- eval o X.env
      standAt apos.atName
      let (f,first) <- holding [ov] (getMethod ov m pl)
      callWith pos f first (backTo pos (gB (e :: es) X.env)) (backToKw pos (keywordEach [] X.env))):=by rfl):PE X (.Call (.Attribute o m apos) (e :: es) [] pos) (eM C m sp [] E ta t):=by
  obtain ⟨f,fd,F,b,M⟩:=O.ex;exact bD he c M F (hr.mono hj) b .nil hx ha hst hpl ht
end
def FY (H H':Hp):Prop:=∀ b o,(∀ ps,o ≠ .tbl ps)->H b=some o->H' b=some o
theorem FY.of_lam {P:fT} {qual:fZ} {H H':Hp} (hT:BC P qual H) (s:∀ b o,b ≠ P->H b=some o->H' b=some o):FY H H':=λb o n e=>by
 obtain ⟨ps,hp,_⟩:=hT;exact s b o (AF e hp (n ps)) e
theorem FY.lst {H H':Hp} (s:FY H H') {b:fT} {xs:List V} (e:H b=some (.lst xs)):H' b=some (.lst xs):=s b _ (λ_ z=>by cases z) e
end L2
namespace Tf
open PySem L2
theorem BC.keepL {P:fT} {qual:fZ} {H H':Hp} {L:List fT} (hT:BC P qual H) (k:BR L H H') (hl:∀ b ∈ L,∃ xs,H b=some (.lst xs)):BC P qual H':=by
 have kd:∀ {d:fT} {o:HO},H d=some o->(∀ xs,o ≠ .lst xs)->H' d=some o:=λ{d o} e n=>k d _ (λz=>by obtain ⟨xs,g⟩:=hl d z;rw [e] at g;exact n xs (Option.some.inj g)) e;obtain ⟨ps,h1,h2,h3⟩:=hT;refine ⟨ps,kd h1 (by intro xs z;cases z),h2,λpos cv e=>?_⟩;obtain ⟨c',e1,e2⟩:=h3 pos cv e;exact ⟨c',e1,kd e2 (by intro xs z;cases z)⟩
theorem Yg.sameT {G:fT} {ok:fT->Prop} {H H':Hp} {p pk ps:fT} {kept:List V} {Ss:List Zq} (h:Yg G ok H p pk ps kept Ss) (s:FY H H'):Yg G ok H' p pk ps kept Ss:=by
 obtain ⟨dx,ds,h1,h2,h3,h4,h5⟩:=h.ex;refine ⟨h.ne,dx,ds,s _ _ (λ_ z=>by cases z) h1,s.lst h2,s.lst h3,h4,λi S e=>?_⟩;obtain ⟨d,e1,e2,a,b,e3,e4,e5,r⟩:=h5 i S e;have g3:=s _ _ (λ_ z=>by cases z) e3;exact ⟨d,e1,⟨a,b,g3,s.lst e4,s.lst e5⟩,a,b,g3,s.lst e4,s.lst e5,r⟩
end Tf
namespace L2
open PySem PySem.Spec PyProof.Rows
def OnlyU (P P2:fT) (H:Hp):Prop:=∀ b,H b=none\/(E2 λo xs=>H b=some (.frz o (.lst xs)))\/((b=P\/b=P2)/\H b=some (.tbl #[]))
theorem aN {Pr:gL} {w:gX} {K:PySem.W.Frag} {mg mb:fZ->Option fV} {CX:CXT} {k:Nat} {fa a c P c2 P2:fT} {fd:iF} {x:fZ} {sp:Sp} {s₁:fW} {vs:List fV} {ns:List Int}
  (KX:K.In s₁.heap) (hns:s₁.heap.Ns iA mg) (hb:s₁.heap.Ns builtinsNs mb) (hbb:∀ x:fZ,x ≠ "__name__"->mb x=bootBuiltins x) (hlim:s₁.heap.NoLimit) (hg:s₁.gens = #[])
  (ha:s₁.heap.get? a=some { cls:=.type "list",data:=.seq vs.toArray }) (hi:IntsAre vs ns) (hl:ns.length <= hJ) (hr:DC k callerA)
  (C:PySem.W.CodeHd s₁.heap c P) (hP:s₁.heap.get? P=some (l4 #[])) (hKP:K.lookup P=none) (C2:PySem.W.CodeHd s₁.heap c2 P2) (hP2:s₁.heap.get? P2=some (l4 #[])) (hKP2:K.lookup P2=none)
  (hB:s₁.heap.BuiltinsAt mg P) (hB2:s₁.heap.BuiltinsAt mg P2) (F:∀ base:iC,K.In base->base.Ns iA mg->PySem.W.CodeHd base c P->base.BuiltinsAt mg P->PySem.W.CodeHd base c2 P2->base.BuiltinsAt mg P2->Ym Pr w K mg base CX k fa fd [x] sp) (hbind:∀ (s:fW) (u:fV),BindsTo s fd ⟨[u],[]⟩ [(x,u)])
  (hsp:∀ H:Hp,OnlyU P P2 H->H P=some (.tbl #[])->H P2=some (.tbl #[])->SqL K H a (ns.map V.int)->sp [.ref a] H (λv _=>v = .bl true) λ_ _ _=>False)
  (hCX:∀ H e s',CX [] H s₁ (λ_ _ _=>False) e s'->False) :
  codeAny (gW Pr w) callerA (.call (.ref fa) ⟨[.ref a],[]⟩) (λr s'=>r = .ok (.ret (.bool true))/\OldK s₁.heap s'.heap/\s'.os=s₁.os/\AllBare s'.gens) s₁:=by
 have rv:=TH hi;have lenV:=hi.length;have naP:a ≠ P:=λe=>by rw [e,hP] at ha;cases ha
 have naP2:a ≠ P2:=λe=>by rw [e,hP2] at ha;cases ha
 have core:∀ H:Hp,OnlyU P P2 H->H P=some (.tbl #[])->H P2=some (.tbl #[])->SqL K H a (ns.map V.int)->HOk Pr w H s₁.heap->(∀ b,H b ≠ none->b=a\/b=P\/b=P2)->(H a ≠ none->K.lookup a=none) ->
   codeAny (gW Pr w) callerA (.call (.ref fa) ⟨[.ref a],[]⟩) (λr s'=>r = .ok (.ret (.bool true))/\OldK s₁.heap s'.heap/\s'.os=s₁.os/\AllBare s'.gens) s₁:=by
  intro H hO hT hT2 hS hok hA hK;have base_of:∀ {b:fT} {o:j5},s₁.heap.get? b=some o->H b=none->(bH s₁.heap H).get? b=some o:=λe n=>hidT_get e n;have noA:∀ {b:fT} {o:j5} {es:Array DictEntry} {ep:Nat},s₁.heap.get? b=some o->o.data = .dict es ep->H b=none:=λ{b o es ep} e d=>by
   cases q:H b with
   | none=>rfl
   | some u=>
    rcases hA b (by rw [q];simp) with e' | e' | e'
    ·subst e';rw [ha] at e;cases e;have d':Data.seq vs.toArray _=Data.dict es ep:=d;cases d'
    ·subst e';rw [hP] at e;cases e;cases d
    ·subst e';rw [hP2] at e;cases e;cases d
  have nsK:∀ {b:fT} {m:fZ->Option fV},s₁.heap.Ns b m->(bH s₁.heap H).Ns b m:=λ{b m} ⟨o,es,ep,e,d,r⟩=>⟨o,es,ep,base_of e (noA e d),d,r⟩
  have hKb:K.In (bH s₁.heap H):=λb o e=>base_of (KX b o e) (by
   cases q:H b with
   | none=>rfl
   | some u=>
    rcases hA b (by rw [q];simp) with e' | e' | e'
    ·subst e';rw [hK (by rw [q];simp)] at e;cases e
    ·subst e';rw [hKP] at e;cases e
    ·subst e';rw [hKP2] at e;cases e)
  have hM:Mod K mg (bH s₁.heap H):=⟨hKb,nsK hns,⟨mb,nsK hb,hbb⟩,let ⟨mc,h1,h2⟩:=hlim;⟨mc,nsK h1,h2⟩⟩;have noB:∀ {b:fT} {o:j5},b ≠ a->s₁.heap.get? b=some o->o.cls ≠ .none->H b=none:=λ{b o} n1 e hc=>by
   cases q:H b with
   | none=>rfl
   | some u=>
    rcases hA b (by rw [q];simp) with z | z | z
    ·exact absurd z n1
    ·rw [z,hP] at e;cases e;exact absurd Z hc
    ·rw [z,hP2] at e;cases e;exact absurd Z hc
  have hCd:∀ {c P:fT},PySem.W.CodeHd s₁.heap c P->PySem.W.CodeHd (bH s₁.heap H) c P:=λ{c P} C=>by
   obtain ⟨o,vs',file,tf,flags,tg,inF,text,tt,e1,e2,r⟩:=id C;exact ⟨o,vs',file,tf,flags,tg,inF,text,tt,base_of e1 (noB (λz=>by rw [z,ha] at e1;cases e1;exact absurd (show Value.type "list" = Value.type "code" from e2) (by decide)) e1 (by rw [e2];intro z;cases z)),e2,r⟩
  have hBd:∀ {P:fT},s₁.heap.BuiltinsAt mg P->(bH s₁.heap H).BuiltinsAt mg P:=λ{P} hB=>by
   obtain ⟨bm,o,a1,a2,a3,a4,a5,a6,r⟩:=hB;exact ⟨bm,o,a1,a2,a3,a4,base_of a5 (noB (λz=>by rw [z,ha] at a5;cases a5;exact absurd (show Value.type "list" = Value.type "module" from a6) (by decide)) a5 (by rw [a6];intro z;cases z)),a6,r⟩
  have e0:Env0 Pr w K mg (bH s₁.heap H) callerA [] s₁ H:=⟨Z,hM,λb o e=>of_hidT e,Nat.le_of_eq (bU _ _),trivial,λb hb=>absurd (show b ∈ ([]:List fT) from hb) (by simp),hok,.of_eq hg⟩;refine codeAny_mono ((F _ hKb (nsK hns) (hCd C) (hBd hB) (hCd C2) (hBd hB2)).run callerA [] s₁ H ⟨[.ref a],[]⟩ [.ref a] [.ref a] _ _ hr e0 (hbind s₁ (.ref a)) (.cons Z .nil) (hsp H hO hT hT2 hS)) λr s' h=>?_;cases r with
  | error e=>exact (hCX H e s' h).elim
  | ok fl=>
   cases fl with
   | next=>exact False.elim h
   | brk=>exact False.elim h
   | cont=>exact False.elim h
   | ret u=>
    obtain ⟨v,H',os,bare,un,hok',r',q⟩:=h;have q':v = .bl true:=q;subst q';obtain rfl:u=Value.bool true:=r';have all:∀ b o,s₁.heap.get? b=some o->s'.heap.get? b=some o\/((b=P\/b=P2)/\∃ more,s'.heap.get? b=some (l4 more)):=λb o e=>by
     cases q:H b with
     | none=>exact .inl (un.keep b o e q (by intro z;exact absurd (show b ∈ ([]:List fT) from z) (by simp)) (by simp))
     | some u=>
      rcases hO b with z | ⟨ob,xs,z⟩ | ⟨eb,z⟩
      ·rw [q] at z;cases z
      ·have z2:=un.frzs b ob _ z;obtain ⟨e1,_⟩:=hok b _ z;obtain ⟨e2,_⟩:=hok' b _ z2;rw [e] at e1;cases e1;exact .inl e2
      ·obtain ⟨more,z2⟩:=un.tbls b _ z;have z3:s'.heap.get? b=some { cls:=.none,data:=.fields (#[] ++ more) }:=hok' b _ z2;exact .inr ⟨eb,_,z3⟩
    refine ⟨Z,⟨λb o e=>?_,λb o e=>?_⟩,os,bare⟩
    ·rcases all b o e with z | ⟨eb,more,z⟩
     ·exact .inl z
     ·rcases eb with rfl | rfl
      ·rw [hP] at e;cases e;refine .inr (.inl ⟨(C.tab hP).isCodeTable,Z,#[],more,Z,?_⟩);rw [z];simp
      ·rw [hP2] at e;cases e;refine .inr (.inl ⟨(C2.tab hP2).isCodeTable,Z,#[],more,Z,?_⟩);rw [z];simp
    ·rcases all b o e with z | ⟨eb,more,z⟩
     ·exact ⟨_,z⟩
     ·exact ⟨_,z⟩
 cases hk:K.lookup a with
 | some o=>
  have e:=KX a o hk;rw [ha] at e;cases e;refine core (λb=>if b=P\/b=P2 then some (.tbl #[]) else none) (λb=>?_) (if_pos (.inl Z)) (if_pos (.inr Z)) (.inr ⟨_,vs.toArray,_,hk,Z,Z,Z,by rw [gG,lenV];exact hl,by simpa using rv⟩) (λb u z=>?_) (λb z=>?_) λz=>absurd (if_neg (not_or.mpr ⟨naP,naP2⟩)) z
  ·by_cases hb:b=P\/b=P2
   ·exact .inr (.inr ⟨hb,if_pos hb⟩)
   ·exact .inl (if_neg hb)
  ·by_cases hb:b=P\/b=P2
   ·have z':=(if_pos hb).symm.trans z;cases z';rcases hb with rfl | rfl
    ·exact hP
    ·exact hP2
   ·have z':=(if_neg hb).symm.trans z;cases z'
  ·by_cases hb:b=P\/b=P2
   ·exact .inr hb
   ·exact absurd (if_neg hb) z
 | none=>
  refine core (λb=>if b=P\/b=P2 then some (.tbl #[]) else if b=a then some (.frz { cls:=.type "list",data:=.seq vs.toArray } (.lst (ns.map V.int))) else none) (λb=>?_) (if_pos (.inl Z)) (if_pos (.inr Z)) (.inl (.inr ⟨{ cls:=.type "list",data:=.seq vs.toArray },(if_neg (not_or.mpr ⟨naP,naP2⟩)).trans (if_pos Z)⟩)) (λb u z=>?_) (λb z=>?_) λ_=>hk
  ·by_cases hb:b=P\/b=P2
   ·exact .inr (.inr ⟨hb,if_pos hb⟩)
   ·by_cases hb2:b=a
    ·exact .inr (.inl ⟨_,_,(if_neg hb).trans (if_pos hb2)⟩)
    ·exact .inl ((if_neg hb).trans (if_neg hb2))
  ·by_cases hb:b=P\/b=P2
   ·have z':=(if_pos hb).symm.trans z;cases z';rcases hb with rfl | rfl
    ·exact hP
    ·exact hP2
   ·by_cases hb2:b=a
    ·have z:(if b=P\/b=P2 then some (HO.tbl #[]) else if b=a then some (.frz { cls:=.type "list",data:=.seq vs.toArray } (.lst (ns.map V.int))) else none)=some u:=z;rw [if_neg hb,if_pos hb2] at z;cases z;subst hb2;exact ⟨ha,by rw [fU];exact hl,vs,_,rv,ha⟩
    ·have z:(if b=P\/b=P2 then some (HO.tbl #[]) else if b=a then some (.frz { cls:=.type "list",data:=.seq vs.toArray } (.lst (ns.map V.int))) else none)=some u:=z;rw [if_neg hb,if_neg hb2] at z;cases z
  ·by_cases hb:b=P\/b=P2
   ·exact .inr hb
   ·by_cases hb2:b=a
    ·exact .inl hb2
    ·exact absurd (show (if b=P\/b=P2 then some (HO.tbl #[]) else if b=a then some (.frz { cls:=.type "list",data:=.seq vs.toArray } (.lst (ns.map V.int))) else none)=none by rw [if_neg hb,if_neg hb2]) z
theorem walk_ofU {l:PySem.W.OpenLaw} {n k:Nat} {q:gL} {loose:List fZ} {XP:(fZ->Option fV)->iC->Prop} {YP:gX->iC->Prop} {d:DefRec} {K:Params->PySem.W.Frag} {CX:gX->CXT} {sp:gX->Sp} {x:fZ} {c P c2 P2:gX->fT} {d1 d2:DefRec}
  (hn:l.most=some n) (hn2:n <= hJ) (hdf:d.params.defaults=[]) (hr:DC k callerA)
  (hY:∀ (w:gX) (h:iC),YP w h->(K w.params).In h)
  (hrec:(recsOf q).find? (λe=>e.name == d1.name)=some d1) (ht:∀ w,PySem.W.tabIn (K w.params) d1.name=some (c w,P w)) (hKP:∀ w:gX,(K w.params).lookup (P w)=none) (hrec2:(recsOf q).find? (λe=>e.name == d2.name)=some d2) (ht2:∀ w,PySem.W.tabIn (K w.params) d2.name=some (c2 w,P2 w)) (hKP2:∀ w:gX,(K w.params).lookup (P2 w)=none)
  (F:∀ (w:gX) (mg:fZ->Option fV) (fa:fT) (h:iC),(K w.params).In h->h.Ns iA mg->mg d.name=some (.ref fa) ->
   ∃ fd:iF,(∀ (s:fW) (u:fV),BindsTo s fd ⟨[u],[]⟩ [(x,u)]) /\
    ∀ base:iC,(K w.params).In base->base.Ns iA mg->PySem.W.CodeHd base (c w) (P w)->base.BuiltinsAt mg (P w)->PySem.W.CodeHd base (c2 w) (P2 w)->base.BuiltinsAt mg (P2 w)->Ym l.prog w (K w.params) mg base (CX w) k fa fd [x] (sp w))
  (hsp:∀ (w:gX) (H:Hp) (a:fT) (ns:List Int),ns.length <= n->OnlyU (P w) (P2 w) H->H (P w)=some (.tbl #[])->H (P2 w)=some (.tbl #[])->SqL (K w.params) H a (ns.map V.int)->sp w [.ref a] H (λv _=>v = .bl true) λ_ _ _=>False)
  (hCX:∀ (w:gX) (H:Hp) (s:fW) (e:fV) (s':fW),CX w [] H s (λ_ _ _=>False) e s'->False) :
  PySem.W.WalkO q loose XP YP l.row.toRowW d [] (λf vs=>PySem.call f vs):=by
 refine Att.attach_call hn hdf λw s₀ s₁ mg mb fa o pm cd doc a vs ns G Y ho hd hcd hmg hobj hints hlen hg=>?_;have KX:=hY w _ Y;obtain ⟨fd,hb,hF⟩:=F w mg fa _ KX G.T.g hmg;obtain ⟨C,hP⟩:=PySem.W.tab_of G.T KX hrec (ht w);obtain ⟨C2,hP2⟩:=PySem.W.tab_of G.T KX hrec2 (ht2 w);have hBu:∀ {P:fT},s₁.heap.get? P=some (l4 #[])->s₁.heap.BuiltinsAt mg P:=λ{P} hP=>by
  obtain ⟨bm,ob,h1,h2,h3,h4,h5,h6⟩:=G.T.bmain;refine ⟨bm,ob,h1,h2,λz=>?_,λz=>?_,h3,h4,h5,h6⟩
  ·obtain ⟨o,es,ep,e,hd,_⟩:=G.T.g;rw [z,e] at h3;cases h3;rw [h6] at hd;cases hd
  ·rw [z,hP] at h3;cases h3;cases h6
 exact aN KX G.T.g G.T.b G.T.builtins G.T.nolimit hg hobj hints (iV hlen hn2) hr C hP (hKP w) C2 hP2 (hKP2 w) (hBu hP) (hBu hP2) hF hb (λH hO hT hT2 hS=>hsp w H a ns hlen hO hT hT2 hS) λH e s'=>hCX w H s₁ e s'
structure LamX where
 params:Arguments
 body:i4
 scope:Scope
def SK (X:Cx) (H:Hp) (f:fT) (e:LamX):Prop:=E2 λ(c':fT) (ctv:fV)=>H f=some (.ext (IE f "<lambda>" (X.env.qual ++ "<lambda>") e.params e.body e.scope (Jm e.scope.names X.env.cells) ((X.mg "__name__").getD .none) (.ref c') ctv))/\H c' = some (.ext (DJ c' (X.env.qual ++ "<lambda>")))
def UG (X:Cx) (H:Hp) (fs:List fT) (es:List LamX):Prop:=fs.length=es.length/\∀ (i:Nat) (e:LamX),es[i]? = some e->∃ f,fs[i]? = some f/\SK X H f e
section
variable {X:Cx} {H H':Hp} {fs:List fT} {es:List LamX} {f pc P:fT} {e:LamX} {σ:St} {Q:VK} {D:OR} {params:Arguments} {body:i4} {scope:Scope} {pos:Pos} {ix:Nat} {K:PySem.W.Frag}
theorem SK.mono (h:SK X H f e) (k:∀ b g,H b=some (.ext g)->H' b=some (.ext g)):SK X H' f e:=by
 obtain ⟨c',ctv,h1,h2⟩:=h;exact ⟨c',ctv,k _ _ h1,k _ _ h2⟩
theorem UG.mono (h:UG X H fs es) (k:∀ b g,H b=some (.ext g)->H' b=some (.ext g)):UG X H' fs es:=by
 refine ⟨h.1,λi e he=>?_⟩;obtain ⟨f,h1,h2⟩:=h.2 i e he;exact ⟨f,h1,h2.mono k⟩
theorem UG.same (h:UG X H fs es) (s:Same H H'):UG X H' fs es:=h.mono λb g e=>s _ _ e
theorem UG.snoc (h:UG X H fs es) (hf:SK X H f e):UG X H (fs ++ [f]) (es ++ [e]):=by
 refine ⟨by simp [h.1],λi e' he=>?_⟩;have hlen:=h.1;by_cases hi:i < es.length
 ·rw [gY hi] at he;obtain ⟨g,h1,h2⟩:=h.2 i e' he;exact ⟨g,by rw [gY (h.1 ▸ hi)];exact h1,h2⟩
 ·rw [gV (by lia)] at he;have h1:i - es.length=0:=by
   have:=(gK.mp he).1;simpa using this
  rw [h1] at he;cases he;exact ⟨f,by rw [gV (by lia),show i - fs.length=0 by lia];rfl,hf⟩
end
def RunRef (P:gL) (w:gX) (K:PySem.W.Frag) (mg:fZ->Option fV) (base:iC) (C:Nat->fT) (j:Nat) (N:List fZ) (σ:St) (qual:fZ) (scope:Scope) (n:Nat) (outer:List (fZ × iO)) (f:fT) (H3:Hp) (body:i4):Prop:=
 ∀ (c':fT) (A:iD) (out:List Env) (s:fW) (H0:Hp) (Q':VK) (E':XK),DC 13 (A.deeper (j8 qual scope s.heap.objs.size f (.ref c') (Jm scope.names (gZ n outer []))))->Same H3 H0->(∀ (H1:Hp) (xa:fT),Same H0 H1->H1 xa=none->E' (.ref (C j)) (some xa) H1) ->
   ∃ t,PE (cxAt (CX1 P w) P w K mg base N (j8 qual scope s.heap.objs.size f (.ref c') (Jm scope.names (gZ n outer []))) (λ_=>false) A out s H0 E') body t/\t σ H0 Q'
theorem aA {P:gL} {w:gX} {K:PySem.W.Frag} {mg:fZ->Option fV} {base:iC} {C:Nat->fT} {j n:Nat} {H3:Hp} {cs:List (fT × j5)} {f:fT} {params:Arguments} {body:i4} {scope:Scope} {N:List fZ} {σ:St} {X:Cx}
  (outer:List (fZ × iO)) (hX:X.env.cells=gZ n outer []) (hco:scope.isCoroutine=false) (hgen:scope.isGenerator=false) (hk:scope.kind = .function) (hfree:∀ x ∈ scope.names,x.2 ≠ .cell/\x.2 ≠ .local) (hsub:∀ y ∈ scope.names,y.2 = .free->outer.lookup y.1=some .cell)
  (hb:∀ (cl:List (fZ × fT)) (pm cv ctv:fV),B9 K (i8 "<lambda>" (X.env.qual ++ "<lambda>") params body scope cl pm cv ctv) [] []) (L:SK X H3 f ⟨params,body,scope⟩)
  (un:∀ b o,cs.lookup b=some o->H3 b=none) (all:∀ x c,(gZ n outer []).lookup x=some c->∃ o v,cs.lookup c=some o/\o.data = .cell v) (len:σ.length=N.length)
  (val:∀ (i:Nat) (x:fZ) (v:V),N[i]? = some x->σ[i]? = some (some v)->(x,NameKind.free) ∈ scope.names/\∃ c o u,(gZ n outer []).lookup x=some c/\cs.lookup c=some o/\o.data = .cell (some u)/\AW v u)
  (run:RunRef P w K mg base C j N σ (X.env.qual ++ "<lambda>") scope n outer f H3 body):Jf P w K mg base C (AL cs H3) f j:=by
 obtain ⟨c',ctv,h1,h2⟩:=L;dsimp only at h1;rw [hX] at h1;exact dR outer hco hgen hk hfree hsub (hb _ _ _ _) h1 h2 un all len val (run c')
def LH (P:fT) (H H':Hp):Prop:=∀ b o,b ≠ P->H b=some o->H' b=some o
theorem LH.sameT {P:fT} {qual:fZ} {H H':Hp} (s:LH P H H') (hT:BC P qual H):FY H H':=FY.of_lam hT s
theorem BC.other {P P2:fT} {qual qual2:fZ} {H H':Hp} (hT:BC P qual H) (hT2:BC P2 qual2 H) (ne:P ≠ P2) (s:LH P2 H H'):BC P qual H':=by
 obtain ⟨ps,h1,h2,h3⟩:=hT;obtain ⟨ps2,g1,_⟩:=hT2;refine ⟨ps,s _ _ ne h1,h2,λpos cv e=>?_⟩;obtain ⟨c',e1,e2⟩:=h3 pos cv e;exact ⟨c',e1,s _ _ (AF e2 g1 (by intro z;cases z)) e2⟩
section
variable {X:Cx} {H H':Hp} {fs:List fT} {es:List LamX} {f pc P:fT} {e:LamX} {σ:St} {Q:VK} {D:OR} {params:Arguments} {body:i4} {scope:Scope} {pos:Pos} {ix:Nat} {K:PySem.W.Frag} {H0:Hp}
theorem OZ (hT:BC P (X.env.qual ++ "<lambda>") H) (k:∀ (f pc:fT) (H':Hp),H pc=none->LH P H H'->H' pc=some (.lst [.ref f])->BC P (X.env.qual ++ "<lambda>") H'->UG X H' [f] [⟨params,body,scope⟩]->Q (.ref pc) H') :
  ZH (Yw (tLam X P params body scope pos (Jm scope.names X.env.cells)) IV) σ H Q:=by
 refine tLst_i (UP (V7 hT λf c' ctv H3 s3 nf hf hc hT3=>?_));refine ⟨E9 (by show 1 <= 100000;decide),λp fp=>?_⟩;have u:=Same.upd (o:=.lst [.ref f]) fp;have hp0:H p=none:=by
  cases z:H p with
  | none=>rfl
  | some o=>
   obtain ⟨ps,hP,_⟩:=hT;by_cases q:p=P
   ·obtain ⟨ps',hP',_⟩:=hT3;rw [q,hP'] at fp;cases fp
   ·rw [s3 p o q z] at fp;cases fp
 refine k f p _ hp0 (λb o no e=>u _ _ (s3 b o no e)) Zb (hT3.same u) ⟨Z,λi e he=>?_⟩
 match i,he with
 | 0,he=>cases he;exact ⟨f,Z,c',ctv,u _ _ hf,u _ _ hc⟩
 | i+1,he=>cases he
theorem Jw (hT:BC P (X.env.qual ++ "<lambda>") H) (h0:H0 pc=none) (s0:LH P H0 H) (hp:H pc=some (.lst (fs.map V.ref))) (L:UG X H fs es) (hσ:σ[ix]? = some (some (.ref pc))) (hl:Nat.ble fs.length 1000=true)
  (k:∀ (f:fT) (H':Hp),LH P H0 H'->H' pc=some (.lst ((fs ++ [f]).map V.ref))->BC P (X.env.qual ++ "<lambda>") H'->UG X H' (fs ++ [f]) (es ++ [⟨params,body,scope⟩])->D.nx σ H') :
  tDrop (tBM K "list" VF (tVar ix) (Yw (tLam X P params body scope pos (Jm scope.names X.env.cells)) IV)) D σ H:=by
 refine ⟨_,hσ,.inl ⟨Z,_,SqL.of hp⟩,UP (V7 hT λf c' ctv H3 s3 nf hf hc hT3=>?_)⟩;have sT:=FY.of_lam hT s3;have hp3:=sT.lst hp;refine ⟨pc,_,_,Z,Z,hp3,Js (by rw [fU];have:=l7 hl;lia),?_⟩;have up:∀ b o,(∀ xs,o ≠ .lst xs)->H3 b=some o->(upd H3 pc (.lst (fs.map V.ref ++ [V.ref f]))) b=some o:=λb o no e=>by rw [Zk (AF e hp3 (no _))];exact e
 refine k f _ (λb o nb e=>by rw [Zk (Zf e h0)];exact s3 _ _ nb (s0 b o nb e)) (by rw [Zb,gO];rfl) (hT3.upd hp3) ?_;refine UG.snoc (L.mono λb g e=>up _ _ (λ_ z=>by cases z) (sT _ _ (λ_ z=>by cases z) e)) ⟨c',ctv,up _ _ (λ_ z=>by cases z) hf,up _ _ (λ_ z=>by cases z) hc⟩
end
@[irreducible] def PSq (X:Cx) (s:hZ) (t:TS):Prop:=PS X s t
@[irreducible] def PEq (X:Cx) (e:i4) (t:TE):Prop:=PE X e t
theorem PSq.of {X:Cx} {s:hZ} {t:TS} (h:PS X s t):PSq X s t:=by unfold PSq;exact h
theorem PSq.to {X:Cx} {s:hZ} {t:TS} (h:PSq X s t):PS X s t:=by unfold PSq at h;exact h
theorem PEq.of {X:Cx} {e:i4} {t:TE} (h:PE X e t):PEq X e t:=by unfold PEq;exact h
theorem PEq.to {X:Cx} {e:i4} {t:TE} (h:PEq X e t):PE X e t:=by unfold PEq at h;exact h
@[irreducible] def ZJ (X:Cx) (ss:List hZ) (t:TS):Prop:=PSs X ss t
theorem ZJ.of {X:Cx} {ss:List hZ} {t:TS} (h:PSs X ss t):ZJ X ss t:=by unfold ZJ;exact h
theorem ZJ.to {X:Cx} {ss:List hZ} {t:TS} (h:ZJ X ss t):PSs X ss t:=by unfold ZJ at h;exact h
theorem Yv {X:Cx} {s:hZ} {ss:List hZ} {t u:TS} (h:PSq X s t) (r:ZJ X ss u):ZJ X (s :: ss) (tSeq t u):=ZJ.of (Zc h.to r.to)
theorem pss_oneQ {X:Cx} {s:hZ} {t:TS} (h:PSq X s t):ZJ X [s] t:=ZJ.of (Ze h.to)
theorem Z2 {es:List i4} {p:Pos} {t l env}:swapsWith (.List es p) t l env=pure false:=by rfl
theorem ps_setQ {X:Cx} {i:Nat} {x:fZ} {es:List i4} {te:TE} {p pos' pos:Pos} (hN:X.N.Nodup) (hi:X.N[i]? = some x) (hx:Loc X.env.scope x) (he:PEq X (.List es p) te) (hf:X.fn x=true\/X.env.scope.names.lookup x=some .local:=by first | exact .inl Z | exact .inr Z | assumption) :
  PSq X (.Assign [.Name x pos'] (.List es p) pos) (tAsg te (FV i)):=PSq.of (NX hN hi hx he.to Z2 hf)
section
variable {X:Cx} {k i:Nat} {x0 tn:fZ} {p cpos epos tp hpos pos:Pos} {suite:List hZ}
def tTryA (X:Cx) (k i:Nat):TS:=λD σ H=>tVar i σ H λv H1=>E8 λ(f:fT) (name qual:fZ) (params:Arguments) (body:i4) (scope:Scope) (Jm:List (fZ × fT)) (pm:fV)=>E3 λ(cv ctv:fV) (sp:Sp)=>v = .ref f/\H1 f=some (.ext (IE f name qual params body scope Jm pm cv ctv)) /\
 Ym X.prog X.w X.K X.mg X.base (CX1 X.prog X.w) k f (i8 name qual params body scope Jm pm cv ctv) [] sp/\B9 X.K (i8 name qual params body scope Jm pm cv ctv) [] [] /\
 sp [] H1 (λ_ H2=>D.nx σ H2) (λ_ _ _=>False)
theorem ps_tryA (hN:X.N[i]? = some x0) (hv:Vis X.env.scope x0) (hr:DC k X.A) (hd1:(x0 == ("__debug__":fZ))=false:=by decide) (hd2:(x0 == ("__classdict__":fZ))=false:=by decide) (hsw:∀ l,swapsWith (.Call (.Name x0 p) [] [] cpos) none l X.env=pure false:=by exact λ_=>rfl) :
  PS X (.Try [.Expr (.Call (.Name x0 p) [] [] cpos) epos] [.ExceptHandler (some (.Name tn tp)) none suite hpos] [] [] pos) (tTryA X k i):=by
 intro fS s σ H D I h;refine wpAny_Try_except ?_;generalize hE:(λ(e:fV) (s₁:fW)=>gT (gW X.prog X.w) X.A (noteFrame e X.env) (λ_ s₂=>gT (gW X.prog X.w) X.A (setFlight e none) (λ_ s₃=>gT (gW X.prog X.w) X.A (handleBy e X.env [.ExceptHandler (some (.Name tn tp)) none suite hpos]) (SP X fS D) X.xe s₃) X.xe s₂) X.xe s₁)=EE;have core:gT (gW X.prog X.w) X.A (eval (.Call (.Name x0 p) [] [] cpos) X.env) (EP (X.wish EE) fS σ (λ_ H2=>D.nx σ H2)) EE s:=by
  refine wpAny_Call_Name_kw (thn (cW (X:=X.wish EE) hN hv hd1 hd2 fS s σ H _ (I.wish EE) h) λu s1 ⟨v,H1,I1,r1,q1⟩=>?_);obtain ⟨f,name,qual,params,body,scope,Jm,pm,cv,ctv,sp,rfl,hff,F,hb,q⟩:=q1;cases r1;have fo:s1.heap.get? f=some { cls:=.type "function",data:=.func (i8 name qual params body scope Jm pm cv ctv) }:=(I1.hok f _ hff).1;show gT _ _ (callWith cpos (.ref f) [] [] []) _ _ _;refine Calls.callWith_function (o:={ cls:=.type "function",data:=.func (i8 name qual params body scope Jm pm cv ctv) }) (fd:=i8 name qual params body scope Jm pm cv ctv) ?_;refine evalArgs_nil3 ⟨⟨fo,Z⟩,UR (X:=X.wish EE) (us:=[]) (vs:=[]) (cs:=[]) F hr hb I1 .nil (λ_ _ z=>nomatch z) (λ_ _ _ z=>nomatch z) (λ_ _ z=>nomatch z) (λe s' hc=>?_) q⟩;have hc:CX1 X.prog X.w X.stack H1 s1 _ e s':=hc;obtain ⟨_,_,_,_,_,_,_,_,_,hq⟩:=hc;exact False.elim hq
 refine wpAny_execs_cons (wpAny_Expr_any (thn core λv s1 ⟨x,H1,I1,r1,q1⟩=>?_) I.quiet (hsw _));exact wpAny_execs_nil (wpAny_execs_nil ⟨σ,H1,I1.unwish,q1⟩)
end
def CL (P:gL) (w:gX) (K:PySem.W.Frag) (mg:fZ->Option fV) (base:iC) (H:Hp) (f:fT):Prop:=E8 λ(name qual:fZ) (params:Arguments) (body:i4) (scope:Scope) (Jm:List (fZ × fT)) (pm cv:fV)=>E2 λ(ctv:fV) (sp:Sp)=>
 H f=some (.ext (IE f name qual params body scope Jm pm cv ctv))/\Ym P w K mg base (CX1 P w) 14 f (i8 name qual params body scope Jm pm cv ctv) [] sp/\B9 K (i8 name qual params body scope Jm pm cv ctv) [] [] /\
 ∀ (H':Hp) (Q':VK) (E':XK),Same H H'->(∀ (v:V) (H1:Hp),Same H' H1->Q' v H1)->sp [] H' Q' E'
section
variable {P:gL} {w:gX} {K:PySem.W.Frag} {mg:fZ->Option fV} {base:iC} {C:Nat->fT} {j n:Nat} {H3:Hp} {cs:List (fT × j5)} {f c':fT} {name qual:fZ} {params:Arguments} {body:i4} {scope:Scope} {pm ctv:fV} {N:List fZ} {σ:St}
theorem aP (outer:List (fZ × iO)) (hco:scope.isCoroutine=false) (hgen:scope.isGenerator=false) (hk:scope.kind = .function) (hfree:∀ x ∈ scope.names,x.2 ≠ .cell/\x.2 ≠ .local) (hsub:∀ y ∈ scope.names,y.2 = .free->outer.lookup y.1=some .cell)
  (hb:B9 K (i8 name qual params body scope (Jm scope.names (gZ n outer [])) pm (.ref c') ctv) [] []) (hf:H3 f=some (.ext (IE f name qual params body scope (Jm scope.names (gZ n outer [])) pm (.ref c') ctv))) (hc:H3 c' = some (.ext (DJ c' qual)))
  (un:∀ b o,cs.lookup b=some o->H3 b=none) (all:∀ x c,(gZ n outer []).lookup x=some c->∃ o v,cs.lookup c=some o/\o.data = .cell v) (len:σ.length=N.length)
  (val:∀ (i:Nat) (x:fZ) (v:V),N[i]? = some x->σ[i]? = some (some v)->(x,NameKind.free) ∈ scope.names/\∃ c o u,(gZ n outer []).lookup x=some c/\cs.lookup c=some o/\o.data = .cell (some u)/\AW v u)
  (run:∀ (A:iD) (out:List Env) (s:fW) (H0:Hp) (Q':VK) (E':XK),DC 13 (A.deeper (j8 qual scope s.heap.objs.size f (.ref c') (Jm scope.names (gZ n outer []))))->Same H3 H0->(∀ (v:V) (H1:Hp),Same H0 H1->Q' v H1) ->
   ∃ t,PE (cxAt (CX1 P w) P w K mg base N (j8 qual scope s.heap.objs.size f (.ref c') (Jm scope.names (gZ n outer []))) (λ_=>false) A out s H0 E') body t/\t σ H0 Q'):CL P w K mg base (AL cs H3) f:=by
 have out:∀ {b:fT} {u:HO},H3 b=some u->cs.lookup b=none:=λ{b u} e=>by
  cases z:cs.lookup b with
  | none=>rfl
  | some o=>rw [un b o z] at e;cases e
 have sub:∀ {x:fZ} {c:fT},(Jm scope.names (gZ n outer [])).lookup x=some c->(gZ n outer []).lookup x=some c:=λ{x c} e=>by
  obtain ⟨e1,e2⟩:=HV e;obtain ⟨c2,e3⟩:=jP.mp (j7 outer n [] (x:=x) (.inl (hsub _ e2 Z)));rw [e3] at e1;rw [e3,e1];rfl
 refine ⟨name,qual,params,body,scope,_,pm,.ref c',ctv,λvs H Q E=>vs=[]/\∃ H0 cs σ,LamAt P w K mg base 13 f c' name qual params body scope (Jm scope.names (gZ n outer [])) pm ctv N H Q E H0 cs σ,?_,?_,hb,λH' Q' E' sH hE=>?_⟩
 ·rw [Yf (out hf)];exact hf
 ·refine lam_ok hco hgen hk hfree (λx y c e1 e2=>?_) (λx e=>?_) λvs H Q E h=>h
  ·exact UC (n:=n) (names:=outer) (acc:=[]) (λ_ _ z=>nomatch z) (λ_ _ _ z=>nomatch z) x y c (PySem.mem_of_lookup (sub e1)) (PySem.mem_of_lookup (sub e2))
  ·exact GL (PySem.mem_of_lookup e)
 ·have eH:=sH.cells;have s0:Same H3 (D4 cs H'):=sH.drop un;have frz:∀ b o,cs.lookup b=some o->H' b=some (.frz o (.ext λ_=>True)):=λb o z=>sH b _ (AA z);refine ⟨Z,D4 cs H',cs,σ,⟨eH.symm,λb o z=>IG z,s0 _ _ hf,s0 _ _ hc,λx c e=>all x c (sub e),len,λi x v h1 h2=>?_,λA ou s hr=>?_⟩⟩
  ·obtain ⟨hm,c,o,u,a1,a2,a3,a4⟩:=val i x v h1 h2;obtain ⟨c2,a5⟩:=GL (cells:=gZ n outer []) hm;have:=sub a5;rw [a1] at this;cases this;exact ⟨c,o,u,a5,a2,a3,a4⟩
  ·have hS:∀ H1,Same (D4 cs H') H1->Same H' (AL cs H1):=λH1 s1 b o e=>by
    cases z:cs.lookup b with
    | some o'=>
     rw [frz b o' z] at e;cases e;exact AA z
    | none=>
     rw [Yf z];exact s1 b o (by rw [AN z];exact e)
   exact run A ou s (D4 cs H') (λv H1=>Q' v (AL cs H1)) (λcls x H1=>(∀ b,x=some b->cs.lookup b=none)->E' cls x (AL cs H1)) hr s0 (λv H1 s1=>hE v _ (hS H1 s1))
end
def RunAns (P:gL) (w:gX) (K:PySem.W.Frag) (mg:fZ->Option fV) (base:iC) (N:List fZ) (σ:St) (qual:fZ) (scope:Scope) (n:Nat) (outer:List (fZ × iO)) (f:fT) (H3:Hp) (body:i4):Prop:=
 ∀ (c':fT) (A:iD) (out:List Env) (s:fW) (H0:Hp) (Q':VK) (E':XK),DC 13 (A.deeper (j8 qual scope s.heap.objs.size f (.ref c') (Jm scope.names (gZ n outer []))))->Same H3 H0->(∀ (v:V) (H1:Hp),Same H0 H1->Q' v H1) ->
   ∃ t,PE (cxAt (CX1 P w) P w K mg base N (j8 qual scope s.heap.objs.size f (.ref c') (Jm scope.names (gZ n outer []))) (λ_=>false) A out s H0 E') body t/\t σ H0 Q'
theorem fJ {P:gL} {w:gX} {K:PySem.W.Frag} {mg:fZ->Option fV} {base:iC} {n:Nat} {H3:Hp} {cs:List (fT × j5)} {f:fT} {params:Arguments} {body:i4} {scope:Scope} {N:List fZ} {σ:St} {X:Cx}
  (outer:List (fZ × iO)) (hX:X.env.cells=gZ n outer []) (hco:scope.isCoroutine=false) (hgen:scope.isGenerator=false) (hk:scope.kind = .function) (hfree:∀ x ∈ scope.names,x.2 ≠ .cell/\x.2 ≠ .local) (hsub:∀ y ∈ scope.names,y.2 = .free->outer.lookup y.1=some .cell)
  (hb:∀ (cl:List (fZ × fT)) (pm cv ctv:fV),B9 K (i8 "<lambda>" (X.env.qual ++ "<lambda>") params body scope cl pm cv ctv) [] []) (L:SK X H3 f ⟨params,body,scope⟩)
  (un:∀ b o,cs.lookup b=some o->H3 b=none) (all:∀ x c,(gZ n outer []).lookup x=some c->∃ o v,cs.lookup c=some o/\o.data = .cell v) (len:σ.length=N.length)
  (val:∀ (i:Nat) (x:fZ) (v:V),N[i]? = some x->σ[i]? = some (some v)->(x,NameKind.free) ∈ scope.names/\∃ c o u,(gZ n outer []).lookup x=some c/\cs.lookup c=some o/\o.data = .cell (some u)/\AW v u)
  (run:RunAns P w K mg base N σ (X.env.qual ++ "<lambda>") scope n outer f H3 body):CL P w K mg base (AL cs H3) f:=by
 obtain ⟨c',ctv,h1,h2⟩:=L;dsimp only at h1;rw [hX] at h1;exact aP outer hco hgen hk hfree hsub (hb _ _ _ _) h1 h2 un all len val (run c')
section
variable {X:Cx}
theorem pe_li1 {X:Cx} {a0 b0 p0} {q}:PE X (.List [.Constant (.int a0) b0 p0] q) (ZH (Yw (tC (.int a0)) IV)):=Zx (Zo Za Jh (by rfl))
theorem pe_li2 {X:Cx} {a0 b0 p0 a1 b1 p1} {q}:PE X (.List [.Constant (.int a0) b0 p0,.Constant (.int a1) b1 p1] q) (ZH (Yw (tC (.int a0)) (Yw (tC (.int a1)) IV))):=Zx (Zo Za (Zo Za Jh (by rfl)) (by rfl))
theorem pe_li3 {X:Cx} {a0 b0 p0 a1 b1 p1 a2 b2 p2} {q}:PE X (.List [.Constant (.int a0) b0 p0,.Constant (.int a1) b1 p1,.Constant (.int a2) b2 p2] q) (ZH (Yw (tC (.int a0)) (Yw (tC (.int a1)) (Yw (tC (.int a2)) IV)))):=Zx (Zo Za (Zo Za (Zo Za Jh (by rfl)) (by rfl)) (by rfl))
theorem GD {X:Cx} {a0 b0 p0 q}:PEq X (.List [.Constant (.int a0) b0 p0] q) (ZH (Yw (tC (.int a0)) IV)):=PEq.of pe_li1
theorem aM {X:Cx} {a0 b0 p0 a1 b1 p1 q}:PEq X (.List [.Constant (.int a0) b0 p0,.Constant (.int a1) b1 p1] q) (ZH (Yw (tC (.int a0)) (Yw (tC (.int a1)) IV))):=PEq.of pe_li2
theorem VZ {X:Cx} {a0 b0 p0 a1 b1 p1 a2 b2 p2 q}:PEq X (.List [.Constant (.int a0) b0 p0,.Constant (.int a1) b1 p1,.Constant (.int a2) b2 p2] q) (ZH (Yw (tC (.int a0)) (Yw (tC (.int a1)) (Yw (tC (.int a2)) IV)))):=PEq.of pe_li3
theorem AV {X:Cx} {xs es:List i4} {t:TA} {te:TE} {q:Pos} (ha:PEq X (.List xs q) te) (hr:PA X es t):PA X (.List xs q :: es) (Yw te t):=Zo ha.to hr (by rfl)
end
abbrev TSr:=(V->St->Hp->Prop)->St->Hp->Prop
def RP (X:Cx) (fS:List (fT × j5)) (D:V->St->Hp->Prop) (f:Flow) (s':fW):Prop:=
 match f with
 | .ret u=>E3 λv σ' H'=>Inv X fS σ' H' s'/\AW v u/\D v σ' H'
 | _=>False
def PSr (X:Cx) (ss:List hZ) (t:TSr):Prop:=
 ∀ (fS:List (fT × j5)) (s:fW) (σ:St) (H:Hp) (D:V->St->Hp->Prop),Inv X fS σ H s->t D σ H->gT (gW X.prog X.w) X.A (execs ss X.env) (RP X fS D) X.xe s
def tRetR (te:TE):TSr:=λD σ H=>te σ H λv H1=>D v σ H1
def tSeqR (t:TS) (u:TSr):TSr:=λD σ H=>t { nx:=u D,rt:=λ_ _=>False } σ H
section
variable {X:Cx} {st:hZ} {rest:List hZ} {t:TS} {u:TSr} {e:i4} {te:TE} {pos:Pos}
theorem bM (he:PE X e te):PSr X [.Return (some e) pos] (tRetR te):=by
 intro fS s σ H D I h;exact wpAny_execs_cons (wpAny_Return_some (thn (he fS s σ H _ I h) λv s1 ⟨x,H1,I1,r1,q1⟩=>⟨x,σ,H1,I1,r1,q1⟩))
theorem AU (h1:PS X st t) (h2:PSr X rest u):PSr X (st :: rest) (tSeqR t u):=by
 intro fS s σ H D I h;refine wpAny_execs_cons (thn (h1 fS s σ H { nx:=u D,rt:=λ_ _=>False } I h) λf s1 q=>?_);cases f with
 | next=>
  obtain ⟨σ',H',I',q⟩:=q;exact h2 fS s1 σ' H' D I' q
 | ret v=>
  obtain ⟨_,_,_,_,_,q⟩:=q;exact q.elim
 | brk=>
  obtain ⟨_,_,_,q⟩:=q;exact q.elim
 | cont=>
  obtain ⟨_,_,_,q⟩:=q;exact q.elim
end
theorem PSr.nox {X:Cx} {ss:List hZ} {t:TSr} (h:PSr X.nox ss t):PSr X ss t:=λfS s σ H D I hw=>
 wpAny_mono (h fS s σ H D (I.wish _) hw) (λf s' q=>by
  cases f with
  | ret u=>obtain ⟨v,σ',H',J,r,q⟩:=q;exact ⟨v,σ',H',J.unwish,r,q⟩
  | next=>exact q
  | brk=>exact q
  | cont=>exact q) λ_ _ z=>False.elim z
theorem Fun.okR {P:gL} {w:gX} {K:PySem.W.Frag} {mg:fZ->Option fV} {base:iC} {x qual:fZ} {st:hZ} {f:fT} {fd:iF} {N ps:List fZ} {k:Nat} {sp:Sp} (F:Fun K x qual st f fd) (S:Zj N ps (Zd st)) (hnd:((Zd st).names.map (·.1)).Nodup) (len:∀ vs H Q E,sp vs H Q E->vs.length=ps.length)
    (hbody:∀ (A:iD) (outer:List Env) (s:fW) (H:Hp) (vs:List V) (Q:VK) (E:XK),DC k (A.deeper (envOfC qual (Zd st) s.heap.objs.size f fd.code))->sp vs H Q E ->
      ∃ t,PSr (LY (CX1 P w) P w K mg base N qual (Zd st) f fd.code A outer s H E).nox (Jr st) t/\t (λv σ H1=>∀ cs,MO (LY (CX1 P w) P w K mg base N qual (Zd st) f fd.code A outer s H E).nox σ H1 cs->Q v (AL cs H1)) (GW N vs) H):Ym P w K mg base (CX1 P w) (k+1) f fd ps sp:=by
  obtain ⟨oc,od,kV,doc,pm,an,cdv,ct,osl,rfl,lk,hcd⟩:=F.ex;refine ⟨len,λA outer s H args us vs Q E hr e0 hb r hsp=>?_⟩;have hl:=len _ _ _ _ hsp;have KX:K.In s.heap:=e0.mod.kin.keeps λb o e=>(e0.bs b o e).1;have lim:s.heap.NoLimit:=e0.mod.nolimit.keeps λb o e=>(e0.bs b o e).1;have hkind:∀ y ∈ ps.zip us,(Zd st).names.lookup y.1=some .local\/((Zd st).names.lookup y.1=some .cell/\((gZ (s.heap.objs.size+1) (Zd st).names []).lookup y.1).isSome=true):=λ⟨n,v⟩ hy=>by
    rcases S.par n (lE hy).1 with q | q
    · exact .inl q
    · exact .inr ⟨q,j7 _ _ _ (.inl q)⟩
  refine codeAny_call_function hr.depth (KX _ _ lk) Z S.co S.gen Z (PySem.W.codeRec_of KX hcd) (hb _ _ _ _ ?_);refine wpAny_newFunctionEnv_cells S.kind hkind λenv he s1 x=>?_;subst he;refine ⟨lim.keeps x.toInCall.keep,codeAny_func ?_⟩;obtain ⟨t,ht,hq⟩:=hbody A outer s H vs Q E (hr.deeper _) hsp;have I:Inv (LY (CX1 P w) P w K mg base N qual (Zd st) f cdv A outer s H E) [] (GW N vs) H s1:=RS S hr.hd e0 hl r x;refine wpAny_mono (ht.nox [] s1 (GW N vs) H _ I hq) (λfl s' hs=>?_) λe s' hs=>hs;cases fl with
  | next=>exact False.elim hs
  | brk=>exact False.elim hs
  | cont=>exact False.elim hs
  | ret u=>
    obtain ⟨v,σ',H',J,rv,q⟩:=hs;generalize hcs:DW s'.heap (LY (CX1 P w) P w K mg base N qual (Zd st) f cdv A outer s H E).env.cells=cs;have hnd':∀ y c,(y,c) ∈ (LY (CX1 P w) P w K mg base N qual (Zd st) f cdv A outer s H E).env.cells->(LY (CX1 P w) P w K mg base N qual (Zd st) f cdv A outer s H E).env.cells.lookup y=some c:=W8 hnd (λ_ _ z=>nomatch z);have hc:∀ b o,cs.lookup b=some o->s'.heap.get? b=some o/\∃ y,(LY (CX1 P w) P w K mg base N qual (Zd st) f cdv A outer s H E).env.cells.lookup y=some b:=λb o z=>by
      rw [<- hcs] at z;obtain ⟨h1,y,hy⟩:=ID z;exact ⟨h1,y,hnd' y b hy⟩
    have hi:∀ y c o,(LY (CX1 P w) P w K mg base N qual (Zd st) f cdv A outer s H E).env.cells.lookup y=some c->s'.heap.get? c=some o->cs.lookup c=some o:=λy c o e1 e2=>by
      rw [<- hcs];exact EA e2 (PySem.mem_of_lookup e1)
    have C:MO (LY (CX1 P w) P w K mg base N qual (Zd st) f cdv A outer s H E) σ' H' cs:=by
      refine ⟨λb o z=>?_,λy c e1=>?_,λi y v e1 e2 e3=>?_⟩
      · obtain ⟨_,y,hy⟩:=hc b o z
        exact J.freeC y b hy
      · obtain ⟨v,o,eo,ed⟩:=J.cell y c e1
        exact ⟨o,v,hi y c o e1 eo,ed⟩
      · obtain ⟨m,hn,hl⟩:=J.loc
        obtain ⟨u,ru,lk⟩:=hl i y v e1 e2 (.inr (.inl e3));rcases lk with ⟨k1,_⟩ | ⟨_,c,ec,o,eo,ed⟩
        · rw [e3] at k1;cases k1
        · exact ⟨c,o,u,ec,hi y c o ec eo,ed,ru⟩
    have new:∀ b o,cs.lookup b=some o->s.heap.objs.size <= b:=λb o z=>by
      obtain ⟨_,y,hy⟩:=hc b o z;exact l6 (x.above y b (PySem.mem_of_lookup hy))
    have none_of:∀ b o,cs.lookup b=some o->H b=none:=λb o z=>e0.hok.fresh (new b o z);have un:Un (frs outer) [] H H' s.heap s'.heap:=J.base;have out:∀ {b:fT} {u:HO},H b=some u->cs.lookup b=none:=λ{b u} e=>by
      cases z:cs.lookup b with
      | none=>rfl
      | some o=>rw [none_of b o z] at e;cases e
    refine ⟨v,AL cs H',J.os,J.bare,?_,LP J.hok (λb o z=>(hc b o z).1) C.un,rv,q cs ⟨C.un,C.all,C.val⟩⟩
    exact { keep:=un.keep,slot:=un.slot,there:=un.there
            free:=λb o e n hx=>by
              have:cs.lookup b=none:=by
                cases z:cs.lookup b with
                | none=>rfl
                | some o'=>exact absurd (gP (Heap.lt_size e) (new b o' z)) (iI _)
              rw [Yf this];exact un.free b o e n hx
            tups:=λb xs e=>by rw [Yf (out e)];exact un.tups b xs e
            frzs:=λb o v e=>by rw [Yf (out e)];exact un.frzs b o v e
            tbls:=λb ps e=>by rw [Yf (out e)];exact un.tbls b ps e }
end L2
namespace Tf
open PySem L2
theorem CB {t:TS} {r:TSr} {D:V->St->Hp->Prop} {σ:St} {H:Hp} (h:∀ D1:OR,(∀ σ' H',r D σ' H'->D1.nx σ' H')->t D1 σ H):tSeqR t r D σ H:=h _ λ_ _ e=>e
def IK (ws:List Bool) (d:List Nat):List Nat:=d.filter λj=>ws.getD j false
theorem dueN_t {ws:List Bool} {a:Nat} {d:List Nat} (h:ws.getD a false=true):IK ws (a :: d)=a :: IK ws d:=by
 unfold IK;rw [jI,if_pos h]
theorem dueN_f {ws:List Bool} {a:Nat} {d:List Nat} (h:ws.getD a false=false):IK ws (a :: d)=IK ws d:=by
 unfold IK;rw [jI,if_neg (by rw [h];decide)]
theorem Ye {ws:List Bool} {a:Nat} {d:List Nat} {A:Prop} {R:Nat->Prop} (ha:ws.getD a false=true->R a) (rest:ws.getD a false=false->(IK ws d=[]->A)/\∀ j r,IK ws d=j :: r->R j):(IK ws (a :: d)=[]->A)/\∀ j r,IK ws (a :: d)=j :: r->R j:=by
 cases h:ws.getD a false with
 | true=>rw [dueN_t h];exact ⟨(by intro z;cases z),λj r z=>(by cases z;exact ha h)⟩
 | false=>rw [dueN_f h];exact rest h
theorem Jy {ws:List Bool} {A:Prop} {R:Nat->Prop} (h:A):(IK ws []=[]->A)/\∀ j r,IK ws []=j :: r->R j:=⟨λ_=>h,λj r z=>by cases z⟩
section
variable {P:gL} {w:gX} {K:PySem.W.Frag} {mg:fZ->Option fV} {base:iC}
theorem HJ {C:Nat->fT} {H H':Hp} {f:fT} {j:Nat} (h:Jf P w K mg base C H f j) (s:Same H H'):Jf P w K mg base C H' f j:=by
 obtain ⟨name,qual,params,body,scope,Jm,pm,cv,ctv,sp,h1,h2,h3,h4⟩:=h;exact ⟨name,qual,params,body,scope,Jm,pm,cv,ctv,sp,s _ _ h1,h2,h3,λH2 Q' E' s2 hE=>h4 H2 Q' E' (s.trans s2) hE⟩
theorem VH {H H':Hp} {f:fT} (h:CL P w K mg base H f) (s:Same H H'):CL P w K mg base H' f:=by
 obtain ⟨name,qual,params,body,scope,Jm,pm,cv,ctv,sp,h1,h2,h3,h4⟩:=h;exact ⟨name,qual,params,body,scope,Jm,pm,cv,ctv,sp,s _ _ h1,h2,h3,λH2 Q' E' s2 hE=>h4 H2 Q' E' (s.trans s2) hE⟩
end
theorem IW {cs:List (fT × j5)} {H:Hp} (un:∀ b o,cs.lookup b=some o->H b=none):Same H (AL cs H):=λb o e=>by
 rw [Yf]
 ·exact e
 ·cases z:cs.lookup b with
  | none=>rfl
  | some u=>rw [un b u z] at e;cases e
theorem Ya.sameT {G:fT} {H H':Hp} {p:fT} {kept:List V} {Ss:List Zq} (h:Ya G H p kept Ss) (s:FY H H'):Ya G H' p kept Ss:=by
 obtain ⟨dx,pk,ps,ds,h1,h2,h3,h4,h5⟩:=h.ex;refine ⟨⟨dx,pk,ps,ds,s _ _ (λ_ z=>by cases z) h1,s.lst h2,s.lst h3,h4,λi S e=>?_⟩⟩;obtain ⟨d,e1,a,b,e3,e4,e5⟩:=h5 i S e;exact ⟨d,e1,a,b,s _ _ (λ_ z=>by cases z) e3,s.lst e4,s.lst e5⟩
end Tf
namespace L2
open PySem PySem.Spec PyProof.Rows
section
variable {X:Cx} {H H':Hp} {fs:List fT} {es:List LamX} {f pc P:fT} {e:LamX} {σ:St} {Q:VK} {D:OR} {params:Arguments} {body:i4} {scope:Scope} {pos:Pos} {ix:Nat} {K:PySem.W.Frag} {H0:Hp}
theorem NT (hT:BC P (X.env.qual ++ "<lambda>") H) (h0:H0 pc=none) (s0:LH P H0 H) (hp:H pc=some (.lst (fs.map V.ref))) (L:UG X H fs es) (hσ:σ[ix]? = some (some (.ref pc))) (hl:Nat.ble fs.length 1000=true)
  (k:∀ (f:fT) (H':Hp),LH P H0 H'->SameN pc H H'->H' pc=some (.lst ((fs ++ [f]).map V.ref))->BC P (X.env.qual ++ "<lambda>") H'->UG X H' (fs ++ [f]) (es ++ [⟨params,body,scope⟩])->D.nx σ H') :
  tDrop (tBM K "list" VF (tVar ix) (Yw (tLam X P params body scope pos (Jm scope.names X.env.cells)) IV)) D σ H:=by
 refine ⟨_,hσ,.inl ⟨Z,_,SqL.of hp⟩,UP (V7 hT λf c' ctv H3 s3 nf hf hc hT3=>?_)⟩;have sT:=FY.of_lam hT s3;have hp3:=sT.lst hp;refine ⟨pc,_,_,Z,Z,hp3,Js (by rw [fU];have:=l7 hl;lia),?_⟩;have up:∀ b o,(∀ xs,o ≠ .lst xs)->H3 b=some o->(upd H3 pc (.lst (fs.map V.ref ++ [V.ref f]))) b=some o:=λb o no e=>by rw [Zk (AF e hp3 (no _))];exact e
 refine k f _ (λb o nb e=>by rw [Zk (Zf e h0)];exact s3 _ _ nb (s0 b o nb e)) (λb o no nb e=>by rw [Zk nb];exact sT b o no e) (by rw [Zb,gO];rfl) (hT3.upd hp3) ?_;refine UG.snoc (L.mono λb g e=>up _ _ (λ_ z=>by cases z) (sT _ _ (λ_ z=>by cases z) e)) ⟨c',ctv,up _ _ (λ_ z=>by cases z) hf,up _ _ (λ_ z=>by cases z) hc⟩
end
theorem pe_li4q {X:Cx} {a0 b0 p0 a1 b1 p1 a2 b2 p2 a3 b3 p3 q}:PEq X (.List [.Constant (.int a0) b0 p0,.Constant (.int a1) b1 p1,.Constant (.int a2) b2 p2,.Constant (.int a3) b3 p3] q) (ZH (Yw (tC (.int a0)) (Yw (tC (.int a1)) (Yw (tC (.int a2)) (Yw (tC (.int a3)) IV))))):=PEq.of (Zx (Zo Za (Zo Za (Zo Za (Zo Za Jh (by rfl)) (by rfl)) (by rfl)) (by rfl)))
theorem pe_lstL4 {X:Cx} {x0 x1 x2 x3:List i4} {q0 q1 q2 q3 pos:Pos} {t0 t1 t2 t3:TE} (h0:PEq X (.List x0 q0) t0) (h1:PEq X (.List x1 q1) t1) (h2:PEq X (.List x2 q2) t2) (h3:PEq X (.List x3 q3) t3):PEq X (.List [.List x0 q0,.List x1 q1,.List x2 q2,.List x3 q3] pos) (ZH (Yw t0 (Yw t1 (Yw t2 (Yw t3 IV))))):=PEq.of (Zx (AV h0 (AV h1 (AV h2 (AV h3 Jh)))))
theorem cQ {X:Cx} {x0 x1 x2 x3 x4 x5 x6 x7 x8 x9:List i4} {q0 q1 q2 q3 q4 q5 q6 q7 q8 q9 pos:Pos} {t0 t1 t2 t3 t4 t5 t6 t7 t8 t9:TE} (h0:PEq X (.List x0 q0) t0) (h1:PEq X (.List x1 q1) t1) (h2:PEq X (.List x2 q2) t2) (h3:PEq X (.List x3 q3) t3) (h4:PEq X (.List x4 q4) t4) (h5:PEq X (.List x5 q5) t5) (h6:PEq X (.List x6 q6) t6) (h7:PEq X (.List x7 q7) t7) (h8:PEq X (.List x8 q8) t8) (h9:PEq X (.List x9 q9) t9):PEq X (.List [.List x0 q0,.List x1 q1,.List x2 q2,.List x3 q3,.List x4 q4,.List x5 q5,.List x6 q6,.List x7 q7,.List x8 q8,.List x9 q9] pos) (ZH (Yw t0 (Yw t1 (Yw t2 (Yw t3 (Yw t4 (Yw t5 (Yw t6 (Yw t7 (Yw t8 (Yw t9 IV))))))))))):=PEq.of (Zx (AV h0 (AV h1 (AV h2 (AV h3 (AV h4 (AV h5 (AV h6 (AV h7 (AV h8 (AV h9 Jh)))))))))))
theorem BK {P:gL} {w:gX} {K:PySem.W.Frag} {mg:fZ->Option fV} {base:iC} {C:Nat->fT} {n:Nat} {H3:Hp} {cs:List (fT × j5)} {f:fT} {e:LamX} {N:List fZ} {σ:St} {X:Cx} {outer:List (fZ × iO)} {σ':St} (L:SK X H3 f e) (CA:MO X σ' H3 cs)
  (hb:∀ (cl:List (fZ × fT)) (pm cv ctv:fV),B9 K (i8 "<lambda>" (X.env.qual ++ "<lambda>") e.params e.body e.scope cl pm cv ctv) [] [])
  (val:∀ (i:Nat) (x:fZ) (v:V),N[i]? = some x->σ[i]? = some (some v)->(x,NameKind.free) ∈ e.scope.names/\∃ c o u,(gZ n outer []).lookup x=some c/\cs.lookup c=some o/\o.data = .cell (some u)/\AW v u)
  (hX:X.env.cells=gZ n outer []:=by rfl) (hco:e.scope.isCoroutine=false:=by rfl) (hgen:e.scope.isGenerator=false:=by rfl) (hk:e.scope.kind = .function:=by rfl) (hfree:∀ x ∈ e.scope.names,x.2 ≠ .cell/\x.2 ≠ .local:=by decide +kernel) (hsub:∀ y ∈ e.scope.names,y.2 = .free->outer.lookup y.1=some .cell:=by decide +kernel) (len:σ.length=N.length:=by rfl) :
  (∀ j,RunRef P w K mg base C j N σ (X.env.qual ++ "<lambda>") e.scope n outer f H3 e.body->Jf P w K mg base C (AL cs H3) f j)/\(RunAns P w K mg base N σ (X.env.qual ++ "<lambda>") e.scope n outer f H3 e.body->CL P w K mg base (AL cs H3) f):=
 ⟨λj run=>aA outer hX hco hgen hk hfree hsub hb L CA.un (by rw [<- hX];exact CA.all) len val run,λrun=>fJ outer hX hco hgen hk hfree hsub hb L CA.un (by rw [<- hX];exact CA.all) len val run⟩
end L2
namespace L2
open PySem
theorem cK_ {CX:CXT} {P:gL} {w:gX} {K:PySem.W.Frag} {mg:fZ->Option fV} {base:iC} {N:List fZ} {q:fZ} {sc:Scope} {f:fT} {cd:fV} {A:iD} {o:List Env} {s:fW} {H:Hp} {E:XK}:(LY CX P w K mg base N q sc f cd A o s H E).nox.K=K:=rfl
theorem cL_ {CX:CXT} {P:gL} {w:gX} {K:PySem.W.Frag} {mg:fZ->Option fV} {base:iC} {N:List fZ} {q:fZ} {sc:Scope} {f:fT} {cd:fV} {A:iD} {o:List Env} {s:fW} {H:Hp} {E:XK}:(LY CX P w K mg base N q sc f cd A o s H E).K=K:=rfl
end L2
namespace Tf
open PySem L2
theorem fa0 {P:fT->Prop}:∀ b ∈ ([]:List fT),P b:=λ_ h=>nomatch h
theorem fa {P:fT->Prop} {a:fT} {l:List fT} (h:P a) (t:∀ b ∈ l,P b):∀ b ∈ a :: l,P b:=List.forall_mem_cons.2 ⟨h,t⟩
theorem nm0 {b:fT}:b ∉ ([]:List fT):=λh=>nomatch h
theorem nm {b a:fT} {l:List fT} (h:b ≠ a) (t:b ∉ l):b ∉ a :: l:=λz=>(gR.1 z).elim h t
theorem mi {l:List fT} {b:fT} (i:Nat) (h:l[i]? = some b:=by rfl):b ∈ l:=i7 h
theorem na {l:List fT} {c a:fT} (i:Nat) (h:c ∉ l) (hi:l[i]? = some a:=by rfl):c ≠ a:=λe=>h (e ▸ mi i hi)
theorem fx0 {ok:fT->Prop}:∀ b,ok b->b ∉ ([]:List fT):=λ_ _=>nm0
theorem fx {ok:fT->Prop} {a:fT} {l:List fT} (h:ok a->False) (t:∀ b,ok b->b ∉ l):∀ b,ok b->b ∉ a :: l:=λb k=>nm (λe=>h (e ▸ k)) (t b k)
theorem nn {H:Hp} {a c:fT} {o:HO} (h:H a=some o) (f:H c=none):c ≠ a:=Ne.symm (Zf h f)
theorem nof {α:Type} {x:Option α} (h:∀ o,x=some o->False):x=none:=by
 cases x with
 | none=>rfl
 | some o=>exact (h o Z).elim
theorem bn0 {K:PySem.W.Frag} {fd:iF} (h:bindArgs fd ⟨[],[]⟩=pure []):B9 K fd [] []:=.all λus hl=>by
 rw [iL hl];exact h
theorem cv0 {T:fZ->V->Prop}:∀ (i:Nat) (x:fZ) (v:V),([]:List fZ)[i]? = some x->([]:St)[i]? = some (some v)->T x v:=λi _ _ e _=>by simp at e
theorem cvS {T:fZ->V->Prop} {y:fZ} {u:V} {N:List fZ} {σ:St} (h:T y u) (t:∀ (i:Nat) (x:fZ) (v:V),N[i]? = some x->σ[i]? = some (some v)->T x v):∀ (i:Nat) (x:fZ) (v:V),(y :: N)[i]? = some x->(some u :: σ)[i]? = some (some v)->T x v
 | 0,_,_,e1,e2=>by
  cases e1;cases e2;exact h
 | i+1,x,v,e1,e2=>t i x v e1 e2
theorem mk9 {N P:List fZ} {sc:Scope} (a:sc.kind = .function:=by rfl) (b:sc.isCoroutine=false:=by rfl) (c:sc.isGenerator=false:=by rfl) (d:N.Nodup:=by decide +kernel) (e:N.take P.length=P:=by rfl) (f:∀ x ∈ P,sc.names.lookup x=some .local\/sc.names.lookup x=some .cell:=by decide +kernel) (g:∀ y ∈ sc.names,y.2 ≠ .free:=by decide +kernel):Zj N P sc:=⟨a,b,c,d,e,f,g⟩
theorem sz9 {n:Nat} (h:Nat.ble n 100000=true:=by rfl):n <= hJ:=E9 (l7 h)
theorem gN {pk ps:fT} {m:fZ} (h1:(m == ("kept":fZ))=false:=by decide +kernel) (h2:(m == ("stages":fZ))=false:=by decide +kernel):(gF pk ps).lookup m=none:=gF_no pk ps h1 h2
theorem psn {X:Cx} (i:Nat) {x:fZ} {e:i4} {te:TE} {pos pos':Pos} (hN:X.N.Nodup) (he:PE X e te) (hi:X.N[i]? = some x:=by exact rfl) (hx:Loc X.env.scope x:=by exact Or.inl Z) (hs:swapsWith e (some (.Name x pos')) pos.line X.env=pure false:=by rfl) (hf:X.fn x=true\/X.env.scope.names.lookup x=some .local:=by first | exact .inl Z | exact .inr Z | assumption):PS X (.Assign [.Name x pos'] e pos) (tAsg te (FV i)):=NX hN hi hx he hs hf
theorem pxl {X:Cx} {a b:i4} {ta tb:TE} {pos:Pos} (ha:PE X a ta) (hb:PE X b tb) (hs:V5 b:=by exact λ_ _=>rfl):PE X (.Subscript a b pos) (tOp (rIxL X.K) ta tb):=KL VU ha hb hs
theorem pxt {X:Cx} {a b:i4} {ta tb:TE} {pos:Pos} (ha:PE X a ta) (hb:PE X b tb) (hs:V5 b:=by exact λ_ _=>rfl):PE X (.Subscript a b pos) (tOp (rIxT X.K) ta tb):=KL fI ha hb hs
theorem pcr {X:Cx} {a b:i4} {ta tb:TE} {pos:Pos} {op:CmpOp} {r:R2} (ho:OpR X (compareOp op) r) (ha:PE X a ta) (hb:PE X b tb) (hm:behindInMarks op b=false:=by exact EC _):PT X (.Compare a [op] [b] pos) (tTest (tOp r ta tb)):=aC ho ha hb hm
theorem pa1 {X:Cx} {a:i4} {ta:TE} (ha:PE X a ta) (h:gB [a] X.env=(false,eval a X.env) :: gB [] X.env:=by rfl):PA X [a] (Yw ta IV):=Zo ha Jh h
theorem pa2 {X:Cx} {a b:i4} {ta tb:TE} (ha:PE X a ta) (hb:PE X b tb) (h:gB [a,b] X.env=(false,eval a X.env) :: gB [b] X.env:=by rfl) (h2:gB [b] X.env=(false,eval b X.env) :: gB [] X.env:=by rfl):PA X [a,b] (Yw ta (Yw tb IV)):=Zo ha (Zo hb Jh h2) h
theorem pa3 {X:Cx} {a b c:i4} {ta tb tc:TE} (ha:PE X a ta) (hb:PE X b tb) (hc:PE X c tc) (h:gB [a,b,c] X.env=(false,eval a X.env) :: gB [b,c] X.env:=by rfl) (h2:gB [b,c] X.env=(false,eval b X.env) :: gB [c] X.env:=by rfl) (h3:gB [c] X.env=(false,eval c X.env) :: gB [] X.env:=by rfl):PA X [a,b,c] (Yw ta (Yw tb (Yw tc IV))):=Zo ha (Zo hb (Zo hc Jh h3) h2) h
def top (i:Nat):hZ:=PySem.Challenge.pw_thawfront_k42_whole_refusals.main.body.getD i (.Pass ⟨0,0,0,0⟩)
structure Txt (K:W.Frag) (mg:fZ->Option fV):Prop where
 n_ValueError:mg "ValueError" = none
 n_abs:mg "abs" = none
 n_bool:mg "bool" = none
 n_int:mg "int" = none
 n_isinstance:mg "isinstance" = none
 n_len:mg "len" = none
 n_list:mg "list" = none
 n_max:mg "max" = none
 n_min:mg "min" = none
 n_range:mg "range" = none
 n_reversed:mg "reversed" = none
 n_str:mg "str" = none
 n_sum:mg "sum" = none
 n_tuple:mg "tuple" = none
 n_zip:mg "zip" = none
 g_MOST_BEDS:∃ t,mg "MOST_BEDS" = some (.int 30 t)
 g_MOST_LAID:∃ t,mg "MOST_LAID" = some (.int 20 t)
 g_MOST_NEED:∃ t,mg "MOST_NEED" = some (.int 200 t)
 g_MOST_AMOUNT:∃ t,mg "MOST_AMOUNT" = some (.int 1000000 t)
 g_MOST_SEASONS:∃ t,mg "MOST_SEASONS" = some (.int 12 t)
 g_MOST_TIMES:∃ t,mg "MOST_TIMES" = some (.int 1000000000000000000 t)
 g_MOST_DEEDS:∃ t,mg "MOST_DEEDS" = some (.int 300 t)
section
variable {P:gL} {w:gX} {K:W.Frag} {mg:fZ->Option fV} {base:iC} {f G:fT} {fd:iF}
set_option hygiene false in
local macro_rules
|`(tactic|obtain $p:rcasesPatMed:=‹¬$s›)=>`(tactic|(refine F.okX $s (fun vs H Q E h=>?_) (fun cdv A outer s H vs Q E hr h=>?_);(·repeat first|(obtain ⟨rfl,_⟩:=h;rfl)|(cases h;rename_i h));obtain $p:rcasesPatMed:=h))
|`(tactic|obtain $p:rcasesPatMed:=‹$s›)=>`(tactic|(refine F.ok $s (fun vs H Q E h=>?_) (fun cdv A outer s H vs Q E hr h=>?_);(·repeat first|(obtain ⟨rfl,_⟩:=h;rfl)|(cases h;rename_i h));obtain $p:rcasesPatMed:=h))
abbrev FK:hZ:=top 23
abbrev VR:List fZ:=["count","bed"]
abbrev Ja:List fZ:=["count","bed"]
theorem L0:Zj VR Ja (Zd FK):=mk9
def BG (mg:fZ->Option fV):Sp:=λvs H Q E=>E2 λ(n:Nat) (m:Int)=>vs=[.int n,.int m]/\n <= 1000/\(1 <= m/\m <= (n:Int)->Q .non H)/\(¬ (1 <= m/\m <= (n:Int))->∀ (C x:fT),mg "UnknownBed" = some (.ref C)->H x=none->E (.ref C) (some x) H)
def ER (G:fT) (mg:fZ->Option fV) (k:Nat):Sp:=λvs H Q E=>E6 λ(p:fT) (m:Int) (rest kept:List V) (Ss:List Zq) (S:Zq)=>vs = .ref p :: .int m :: rest/\rest.length=k/\Ya G H p kept Ss/\Ss.getLast? = some S/\S.fR.length=S.fQ.length/\S.fQ.length <= 1000/\¬ (1 <= m/\m <= (S.fQ.length:Int))/\∀ (C x:fT),mg "UnknownBed" = some (.ref C)->H x=none->E (.ref C) (some x) H
def C3:Sp:=λvs H Q _=>E2 λ(n m:Int)=>vs=[.int n,.int m]/\1 <= m/\m <= n/\Q .non H
theorem RI (F:Fun K "check_bed" "check_bed" FK f fd) (T:Txt K mg):Ym P w K mg base CX0 1 f fd Ja C3:=by
  obtain ⟨n,m,rfl,h0,h1,q⟩:=‹L0›
  refine ⟨_,(Ze (Yk (PW.pt (BL (pcr DA (pv 1) Za) (Ji (pcr CM (pv 1) (pv 0))))) (Ze BH) Zn)),?_⟩
  try dsimp only [cK_,cL_]
  refine ⟨_,Z,_,_,Z,Z,_,Z,?_⟩;refine Jl (λh=>absurd (D8_ h) (by lia)) (λ_=>?_);refine ⟨_,Z,_,Z,_,_,Z,Z,_,Z,?_⟩;refine Jl (λh=>absurd (D8_ h) (by lia)) (λ_=>?_);exact q
theorem PD (F:Fun K "check_bed" "check_bed" FK f fd) (T:Txt K mg) {C0:fT} (XU:Exc K mg "UnknownBed" C0):Ym P w K mg base (CX1 P w) 1 f fd Ja (BG mg):=by
  obtain ⟨n,m,rfl,hn,q1,q2⟩:=‹¬L0›
  refine ⟨_,(Ze (Yk (PW.pt (BL (pcr DA (pv 1) Za) (Ji (pcr CM (pv 1) (pv 0))))) (Ze (D5 (C:=C0) (E:=E) Z XU CG (pa1 (FF (FN (HE (pv 0) JQ)))))) Zn)),?_⟩
  try dsimp only [cK_,cL_]
  refine ⟨_,Z,_,_,Z,Z,_,Z,?_⟩;have lg:((n:Int)).natAbs.log2 < 1920:=by
   have h:((n:Int)).natAbs=n:=Int.natAbs_natCast n;rw [h];by_cases h0:n=0
   ·rw [h0];decide
   ·exact gP (Nat.log2_lt h0 |>.mpr (show n < 2 ^ 10 by lia)) (by decide)
  refine Jl (λh=>?_) (λh=>?_)
  ·have h:=D8_ h;exact IA ⟨_,Z,_,Z,lg,λz=>⟨sz9,λe he=>q2 (by lia) C0 e XU.g he⟩⟩
  ·have h:¬ (m < 1):=λc=>h (D7_ c);refine ⟨_,Z,_,Z,_,_,Z,Z,_,Z,?_⟩;refine Jl (λh2=>?_) (λh2=>?_)
   ·have h2:=D8_ h2;exact ⟨_,Z,_,Z,lg,λz=>⟨sz9,λe he=>q2 (by lia) C0 e XU.g he⟩⟩
   ·have h2:¬ ((n:Int) < m):=λc=>h2 (D7_ c);exact q1 (by lia)
abbrev s_q29:hZ:=top 24
abbrev N_q29:List fZ:=["least","count","deed"]
abbrev cH:List fZ:=["least","count","deed"]
theorem sc_q29:Zj N_q29 cH (Zd s_q29):=mk9
def fC (mg:fZ->Option fV):Sp:=λvs H Q E=>E3 λ(l n:Nat) (m:Int)=>vs=[.int (l:Int),.int (n:Int),.int m]/\l <= 1000/\n <= 1000/\((l:Int) <= m/\m <= (n:Int)->Q .non H)/\(¬ ((l:Int) <= m/\m <= (n:Int))->∀ (C x:fT),mg "UnknownDeed" = some (.ref C)->H x=none->E (.ref C) (some x) H)
def sp_q29:Sp:=λvs H Q _=>E3 λ(l n m:Int)=>vs=[.int l,.int n,.int m]/\l <= m/\m <= n/\Q .non H
theorem ok_q29 (F:Fun K "check_deed" "check_deed" s_q29 f fd) (T:Txt K mg):Ym P w K mg base CX0 1 f fd cH sp_q29:=by
  obtain ⟨l,n,m,rfl,h0,h1,q⟩:=‹sc_q29›
  refine ⟨_,(Ze (Yk (PW.pt (BL (pcr DA (pv 2) (pv 0)) (Ji (pcr CM (pv 2) (pv 1))))) (Ze BH) Zn)),?_⟩
  try dsimp only [cK_,cL_]
  refine ⟨_,Z,_,Z,_,_,Z,Z,_,Z,?_⟩;refine Jl (λh=>absurd (D8_ h) (by lia)) (λ_=>?_);refine ⟨_,Z,_,Z,_,_,Z,Z,_,Z,?_⟩;refine Jl (λh=>absurd (D8_ h) (by lia)) (λ_=>?_);exact q
theorem QN {n:Nat} (hn:n <= 1000):((n:Int)).natAbs.log2 < 1920:=by
 rw [Int.natAbs_natCast n];by_cases h0:n=0
 ·rw [h0];decide
 ·exact gP (Nat.log2_lt h0 |>.mpr (show n < 2 ^ 10 by lia)) (by decide)
theorem ok_q29X (F:Fun K "check_deed" "check_deed" s_q29 f fd) (T:Txt K mg) {C0:fT} (XU:Exc K mg "UnknownDeed" C0):Ym P w K mg base (CX1 P w) 1 f fd cH (fC mg):=by
  obtain ⟨l,n,m,rfl,hl,hn,q1,q2⟩:=‹¬sc_q29›
  refine ⟨_,(Ze (Yk (PW.pt (BL (pcr DA (pv 2) (pv 0)) (Ji (pcr CM (pv 2) (pv 1))))) (Ze (D5 (C:=C0) (E:=E) Z XU CG (pa1 (FF (FN (HE (pv 0) (FN (HE (pv 1) JQ)))))))) Zn)),?_⟩
  try dsimp only [cK_,cL_]
  refine ⟨_,Z,_,Z,_,_,Z,Z,_,Z,?_⟩;refine Jl (λh=>?_) (λh=>?_)
  ·have h:=D8_ h;refine IA ?_;exact ⟨_,Z,_,Z,QN hl,_,Z,_,Z,QN hn,λz=>⟨sz9,λe he=>q2 (by lia) C0 e XU.g he⟩⟩
  ·have h:¬ (m < (l:Int)):=λc=>h (D7_ c);refine ⟨_,Z,_,Z,_,_,Z,Z,_,Z,?_⟩;refine Jl (λh2=>?_) (λh2=>?_)
   ·have h2:=D8_ h2;exact ⟨_,Z,_,Z,QN hl,_,Z,_,Z,QN hn,λz=>⟨sz9,λe he=>q2 (by lia) C0 e XU.g he⟩⟩
   ·have h2:¬ ((n:Int) < m):=λc=>h2 (D7_ c);exact q1 (by lia)
abbrev s_q28:hZ:=top 25
abbrev N_q28:List fZ:=["needs"]
abbrev P_q28:List fZ:=["needs"]
theorem sc_q28:Zj N_q28 P_q28 (Zd s_q28):=mk9
def sp_q28 (K:W.Frag):Sp:=λvs H Q _=>E2 λ(a:fT) (ns:List Int)=>vs=[.ref a]/\SqL K H a (ns.map V.int)/\1 <= ns.length/\ns.length <= 30/\Q .non H
theorem ok_q28 (F:Fun K "check_beds" "check_beds" s_q28 f fd) (T:Txt K mg):Ym P w K mg base CX0 1 f fd P_q28 (sp_q28 K):=by
  obtain ⟨a,ns,rfl,hA,h1,h2,q⟩:=‹sc_q28›;have el:((ns.map V.int).length:Int)=(ns.length:Int):=by rw [fU]
  refine ⟨_,(Ze (Yk (PW.pt (BL (pcr DA (Zy T.n_len (pv 0)) Za) (Ji (pcr CM (Zy T.n_len (pv 0)) (AJ T.g_MOST_BEDS))))) (Ze BH) Zn)),?_⟩
  try dsimp only [cK_,cL_]
  refine ⟨_,Z,a,_,Z,.inl hA,_,_,Z,Z,_,Z,?_⟩;refine Jl (λh=>absurd (D8_ h) (by lia)) (λ_=>?_);refine ⟨_,Z,a,_,Z,.inl hA,_,_,Z,Z,_,Z,?_⟩;refine Jl (λh=>absurd (D8_ h) (by lia)) (λ_=>?_);exact q
abbrev s_q27:hZ:=top 26
abbrev N_q27:List fZ:=["need"]
abbrev YU:List fZ:=["need"]
theorem sc_q27:Zj N_q27 YU (Zd s_q27):=mk9
def bB (mg:fZ->Option fV):Sp:=λvs H Q E=>∃ (m:Int),vs=[.int m]/\(1 <= m/\m <= 200->Q .non H)/\(¬ (1 <= m/\m <= 200)->∀ (C x:fT),mg "BadNeed" = some (.ref C)->H x=none->E (.ref C) (some x) H)
def dY:Sp:=λvs H Q _=>∃ (m:Int),vs=[.int m]/\1 <= m/\m <= 200/\Q .non H
theorem ok_q27 (F:Fun K "check_need" "check_need" s_q27 f fd) (T:Txt K mg):Ym P w K mg base CX0 1 f fd YU dY:=by
  obtain ⟨m,rfl,h0,h1,q⟩:=‹sc_q27›
  refine ⟨_,(Ze (Yk (PW.pt (BL (pcr DA (pv 0) Za) (Ji (pcr CM (pv 0) (AJ T.g_MOST_NEED))))) (Ze BH) Zn)),?_⟩
  try dsimp only [cK_,cL_]
  refine ⟨_,Z,_,_,Z,Z,_,Z,?_⟩;refine Jl (λh=>absurd (D8_ h) (by lia)) (λ_=>?_);refine ⟨_,Z,_,_,Z,Z,_,Z,?_⟩;refine Jl (λh=>absurd (D8_ h) (by lia)) (λ_=>?_);exact q
theorem ok_q27X (F:Fun K "check_need" "check_need" s_q27 f fd) (T:Txt K mg) {C0:fT} (XU:Exc K mg "BadNeed" C0):Ym P w K mg base (CX1 P w) 1 f fd YU (bB mg):=by
  obtain ⟨m,rfl,q1,q2⟩:=‹¬sc_q27›;have lg:(200:Int).natAbs.log2 < 1920:=by decide
  refine ⟨_,(Ze (Yk (PW.pt (BL (pcr DA (pv 0) Za) (Ji (pcr CM (pv 0) (AJ T.g_MOST_NEED))))) (Ze (D5 (C:=C0) (E:=E) Z XU CG (pa1 (FF (FN (HE (AJ T.g_MOST_NEED) JQ)))))) Zn)),?_⟩
  try dsimp only [cK_,cL_]
  refine ⟨_,Z,_,_,Z,Z,_,Z,?_⟩;refine Jl (λh=>?_) (λh=>?_)
  ·have h:=D8_ h;refine IA ?_;exact ⟨_,Z,lg,λz=>⟨sz9,λe he=>q2 (by lia) C0 e XU.g he⟩⟩
  ·have h:¬ (m < 1):=λc=>h (D7_ c);refine ⟨_,Z,_,_,Z,Z,_,Z,?_⟩;refine Jl (λh2=>?_) (λh2=>?_)
   ·have h2:=D8_ h2;exact ⟨_,Z,lg,λz=>⟨sz9,λe he=>q2 (by lia) C0 e XU.g he⟩⟩
   ·have h2:¬ ((200:Int) < m):=λc=>h2 (D7_ c);exact q1 (by lia)
abbrev s_q19:hZ:=top 27
abbrev N_q19:List fZ:=["needs","heats","need","heat"]
abbrev P_q19:List fZ:=["needs","heats"]
theorem cA:Zj N_q19 P_q19 (Zd s_q19):=mk9
def sp_q19 (K:W.Frag):Sp:=λvs H Q _=>E4 λ(a b:fT) (fQ fR:List Int)=>vs=[.ref a,.ref b]/\SqL K H a (fQ.map V.int)/\SqL K H b (fR.map V.int)/\Zr fQ fR/\fQ.length <= 1000/\∀ H',Same H H'->Q .non H'
theorem ok_q19 (F:Fun K "check_heats" "check_heats" s_q19 f fd) (T:Txt K mg):Ym P w K mg base CX0 1 f fd P_q19 (sp_q19 K):=by
  obtain ⟨a,b,fQ,fR,rfl,hA,hB,hO,hn,q⟩:=‹cA›
  refine ⟨_,(Zc (Yk (pcr GZ (Zy T.n_len (pv 1)) (Zy T.n_len (pv 0))) (Ze BH) Zn) (Ze (AO PassesOwn.never Z (NN (by rfl) T.n_zip (pa2 (pv 0) (pv 1))) (WA (n:=2) (by rfl) (Jp (Zw (i:=2) cA.nd Z (Or.inl Z)) (Jp (Zw (i:=3) cA.nd Z (Or.inl Z)) FC))) (Ze (Yk (PW.pt (BL (pcr DA (pv 3) Za) (Ji (pcr CM (pv 3) (pv 2))))) (Ze BH) Zn))))),?_⟩
  try dsimp only [cK_,cL_]
  refine ⟨_,Z,b,_,Z,.inl hB,_,Z,a,_,Z,.inl hA,Z,_,Z,?_⟩;refine DT (congrArg V.int (by rw [fU,fU,hO.len])) ?_;refine ⟨_,Z,_,Z,a,b,Z,⟨_,hA⟩,⟨_,hB⟩,?_⟩;refine dE (xs:=fQ.map V.int) (ys:=fR.map V.int) (by rw [fU,fU,hO.len]) (λi σ H3=>(∃ v w,σ=[some (.ref a),some (.ref b),v,w])/\Same H H3) ?_ ?_ ?_ ?_
  ·exact ⟨⟨none,none,Z⟩,Same.refl _⟩
  ·rintro i σ H3 _ ⟨_,s3⟩;exact ⟨s3.seq hA,s3.seq hB⟩
  ·rintro i x y t σ H3 hx hy ⟨⟨v,w,rfl⟩,s3⟩ ht;obtain ⟨hi,rfl⟩:=BQ hx;obtain ⟨_,rfl⟩:=BQ hy;have h1:=hO.lo i hi;have h2:=hO.hi i hi;refine ⟨t,_,Z,SqT.of Zb,Z,_,_,Z,_,_,Z,Z,?_⟩;refine ⟨_,Z,_,_,Z,Z,_,Z,?_⟩;refine Jl (λh=>absurd (D8_ h) (by lia)) (λ_=>?_);refine ⟨_,Z,_,Z,_,_,Z,Z,_,Z,?_⟩;refine Jl (λh=>absurd (D8_ h) (by lia)) (λ_=>?_);exact ⟨⟨_,_,Z⟩,s3.trans (Same.upd ht)⟩
  ·rintro σ H3 ⟨_,s3⟩;exact q _ s3
abbrev s_q7:hZ:=top 28
abbrev N_q7:List fZ:=["amount"]
abbrev ZD:List fZ:=["amount"]
theorem sc_q7:Zj N_q7 ZD (Zd s_q7):=mk9
def SE (mg:fZ->Option fV):Sp:=λvs H Q E=>∃ (m:Int),vs=[.int m]/\(Yl m->Q .non H)/\(¬ Yl m->Thr mg "BadAmount" E H)
def W4:Sp:=λvs H Q _=>∃ (m:Int),vs=[.int m]/\0 <= m/\m <= 1000000/\Q .non H
theorem ok_q7 (F:Fun K "check_amount" "check_amount" s_q7 f fd) (T:Txt K mg):Ym P w K mg base CX0 1 f fd ZD W4:=by
  obtain ⟨m,rfl,h0,h1,q⟩:=‹sc_q7›
  refine ⟨_,(Ze (Yk (PW.pt (BL (pcr DA (pv 0) Za) (Ji (pcr CM (pv 0) (AJ T.g_MOST_AMOUNT))))) (Ze BH) Zn)),?_⟩
  try dsimp only [cK_,cL_]
  refine ⟨_,Z,_,_,Z,Z,_,Z,?_⟩;refine Jl (λh=>absurd (D8_ h) (by lia)) (λ_=>?_);refine ⟨_,Z,_,_,Z,Z,_,Z,?_⟩;refine Jl (λh=>absurd (D8_ h) (by lia)) (λ_=>?_);exact q
theorem ok_q7X (F:Fun K "check_amount" "check_amount" s_q7 f fd) (T:Txt K mg) {C0:fT} (XU:Exc K mg "BadAmount" C0):Ym P w K mg base (CX1 P w) 1 f fd ZD (SE mg):=by
  obtain ⟨m,rfl,q1,q2⟩:=‹¬sc_q7›
  refine ⟨_,(Ze (Yk (PW.pt (BL (pcr DA (pv 0) Za) (Ji (pcr CM (pv 0) (AJ T.g_MOST_AMOUNT))))) (Ze (D5 (C:=C0) (E:=E) Z XU CG (pa1 (FF (FN (HE (AJ T.g_MOST_AMOUNT) JQ)))))) Zn)),?_⟩
  try dsimp only [cK_,cL_]
  refine ⟨_,Z,_,_,Z,Z,_,Z,?_⟩;refine Jl (λh=>?_) (λh=>?_)
  ·have h:=D8_ h;exact IA ⟨_,Z,by decide,λz=>⟨sz9,λe he=>q2 (by lia) C0 e _ XU.g (Same.refl _) he⟩⟩
  ·have h:¬ (m < 0):=λc=>h (D7_ c);refine ⟨_,Z,_,_,Z,Z,_,Z,?_⟩;refine Jl (λh2=>?_) (λh2=>?_)
   ·have h2:=D8_ h2;exact ⟨_,Z,by decide,λz=>⟨sz9,λe he=>q2 (by lia) C0 e _ XU.g (Same.refl _) he⟩⟩
   ·have h2:¬ ((1000000:Int) < m):=λc=>h2 (D7_ c);exact q1 (by lia)
abbrev s_q30:hZ:=top 29
abbrev N_q30:List fZ:=["year","season"]
abbrev KI:List fZ:=["year"]
theorem WN:Zj N_q30 KI (Zd s_q30):=mk9
def KD (K:W.Frag) (mg:fZ->Option fV):Sp:=λvs H Q E=>E3 λ(p:fT) (ts:List fT) (ss:List (Bool × Int))=>vs=[.ref p]/\SqL K H p (ts.map V.ref)/\Zu H ts ss/\(¬ (1 <= ss.length/\ss.length <= 12)->Thr mg "BadYear" E H)/\(1 <= ss.length/\ss.length <= 12->((∀ z ∈ ss,Yl z.2)->Q .non H)/\(¬ (∀ z ∈ ss,Yl z.2)->Thr mg "BadAmount" E H))
def OC (K:W.Frag):Sp:=λvs H Q _=>E3 λ(p:fT) (ts:List fT) (ss:List (Bool × Int))=>vs=[.ref p]/\SqL K H p (ts.map V.ref)/\Zu H ts ss/\(∀ z ∈ ss,0 <= z.2/\z.2 <= 1000000)/\1 <= ss.length/\ss.length <= 12/\Q .non H
theorem ok_q30 (F:Fun K "check_year" "check_year" s_q30 f fd) (T:Txt K mg) (o_q7:Ok P w K mg base "check_amount" ZD 1 W4):Ym P w K mg base CX0 2 f fd KI (OC K):=by
  obtain ⟨p,ts,ss,rfl,hP,hS,hz,h1,h2,q⟩:=‹WN›;have hl:((ts.map V.ref).length:Int)=ss.length:=by rw [fU,hS.len]
  refine ⟨_,(Zc (Yk (PW.pt (BL (pcr DA (Zy T.n_len (pv 0)) Za) (Ji (pcr CM (Zy T.n_len (pv 0)) (AJ T.g_MOST_SEASONS))))) (Ze BH) Zn) (Ze (AO PassesOwn.never Z (BN (pv 0)) (Zw (i:=1) WN.nd Z (Or.inl Z)) (Ze (Zp (Zg o_q7 hr (pa1 (pxt (pv 1) Za)))))))),?_⟩
  try dsimp only [cK_,cL_]
  refine ⟨_,Z,p,_,Z,.inl hP,_,_,Z,Z,_,Z,?_⟩;refine Jl (λh=>absurd (D8_ h) (by lia)) (λ_=>?_);refine ⟨_,Z,p,_,Z,.inl hP,_,_,Z,Z,_,Z,?_⟩;refine Jl (λh=>absurd (D8_ h) (by lia)) (λ_=>?_);refine ⟨_,Z,p,Z,⟨_,hP⟩,?_⟩;refine D9 (xs:=ts.map V.ref) (λi σ H2=>H2=H/\∃ (v:Option V),σ=[some (.ref p),v]) ⟨Z,none,Z⟩ (λi σ H2 _ z=>z.1 ▸ hP) ?_ ?_
  ·rintro i x σ H2 hx ⟨rfl,v,rfl⟩;obtain ⟨t,z,rfl,hzi,ht⟩:=hS.item hx;have hzz:=hz z (i7 hzi);exact ⟨_,Z,t,_,_,_,Z,Z,SqT.of ht,Z,z.2,Z,hzz.1,hzz.2,Z,_,Z⟩
  ·rintro σ H2 ⟨rfl,v,rfl⟩;exact q
theorem ok_q30X (F:Fun K "check_year" "check_year" s_q30 f fd) (T:Txt K mg) {C0:fT} (XU:Exc K mg "BadYear" C0) (o_q7X:OkX P w K mg base "check_amount" ZD 1 (SE mg)):Ym P w K mg base (CX1 P w) 2 f fd KI (KD K mg):=by
  obtain ⟨p,ts,ss,rfl,hP,hS,q1,q2⟩:=‹¬WN›;have hl:((ts.map V.ref).length:Int)=ss.length:=by rw [fU,hS.len]
  refine ⟨_,(Zc (Yk (PW.pt (BL (pcr DA (Zy T.n_len (pv 0)) Za) (Ji (pcr CM (Zy T.n_len (pv 0)) (AJ T.g_MOST_SEASONS))))) (Ze (D5 (C:=C0) (E:=E) Z XU CG (pa1 (FF (FN (HE (AJ T.g_MOST_SEASONS) (FN JQ))))))) Zn) (Ze (AO PassesOwn.leaving Z (BN (pv 0)) (Zw (i:=1) WN.nd Z (Or.inl Z)) (Ze (Zp (Yc o_q7X hr (Yu (E:=E)) (pa1 (pxt (pv 1) Za)))))))),?_⟩
  try dsimp only [cK_,cL_]
  refine ⟨_,Z,p,_,Z,.inl hP,_,_,Z,Z,_,Z,?_⟩;refine Jl (λh=>?_) (λh=>?_)
  ·have h:=D8_ h;exact IA ⟨_,Z,by decide,λz=>⟨sz9,λe he=>q1 (by lia) C0 e _ XU.g (Same.refl _) he⟩⟩
  have h:¬ (((ts.map V.ref).length:Int) < 1):=λc=>h (D7_ c);refine ⟨_,Z,p,_,Z,.inl hP,_,_,Z,Z,_,Z,?_⟩;refine Jl (λh2=>?_) (λh2=>?_)
  ·have h2:=D8_ h2;exact ⟨_,Z,by decide,λz=>⟨sz9,λe he=>q1 (by lia) C0 e _ XU.g (Same.refl _) he⟩⟩
  have h2:¬ ((12:Int) < ((ts.map V.ref).length:Int)):=λc=>h2 (D7_ c);obtain ⟨q2,q3⟩:=q2 (by lia);refine ⟨_,Z,p,Z,⟨_,hP⟩,?_⟩;refine D9 (xs:=ts.map V.ref) (λi σ H2=>H2=H/\(∀ z ∈ ss.take i,Yl z.2)/\∃ (v:Option V),σ=[some (.ref p),v]) ⟨Z,by simp,none,Z⟩ (λi σ H2 _ z=>z.1 ▸ hP) ?_ ?_
  ·rintro i x σ H2 hx ⟨rfl,hg,v,rfl⟩;obtain ⟨t,z,rfl,hzi,ht⟩:=hS.item hx;refine ⟨_,Z,t,_,_,_,Z,Z,SqT.of ht,Z,z.2,Z,λgz=>⟨Z,λy hy=>?_,_,Z⟩,λbz=>q3 λall=>bz (all z (i7 hzi))⟩;rw [B5 hzi] at hy;rcases iM.mp hy with h | h
   ·exact hg y h
   ·obtain rfl:y=z:=by simpa using h
    exact gz
  ·rintro σ H2 ⟨rfl,hg,v,rfl⟩;rw [iJ (by rw [fU,hS.len];exact gA _)] at hg;exact q2 hg
abbrev s_q25:hZ:=top 30
abbrev N_q25:List fZ:=["times"]
abbrev W2:List fZ:=["times"]
theorem sc_q25:Zj N_q25 W2 (Zd s_q25):=mk9
def W3 (mg:fZ->Option fV):Sp:=λvs H Q E=>∃ (m:Int),vs=[.int m]/\(1 <= m/\m <= 1000000000000000000->Q .non H)/\(¬ (1 <= m/\m <= 1000000000000000000)->Thr mg "BadTimes" E H)
def aV:Sp:=λvs H Q _=>∃ (m:Int),vs=[.int m]/\1 <= m/\m <= 1000000000000000000/\Q .non H
theorem ok_q25 (F:Fun K "check_times" "check_times" s_q25 f fd) (T:Txt K mg):Ym P w K mg base CX0 1 f fd W2 aV:=by
  obtain ⟨m,rfl,h0,h1,q⟩:=‹sc_q25›
  refine ⟨_,(Ze (Yk (PW.pt (BL (pcr DA (pv 0) Za) (Ji (pcr CM (pv 0) (AJ T.g_MOST_TIMES))))) (Ze BH) Zn)),?_⟩
  try dsimp only [cK_,cL_]
  refine ⟨_,Z,_,_,Z,Z,_,Z,?_⟩;refine Jl (λh=>absurd (D8_ h) (by lia)) (λ_=>?_);refine ⟨_,Z,_,_,Z,Z,_,Z,?_⟩;refine Jl (λh=>absurd (D8_ h) (by lia)) (λ_=>?_);exact q
theorem ok_q25X (F:Fun K "check_times" "check_times" s_q25 f fd) (T:Txt K mg) {C0:fT} (XU:Exc K mg "BadTimes" C0):Ym P w K mg base (CX1 P w) 1 f fd W2 (W3 mg):=by
  obtain ⟨m,rfl,q1,q2⟩:=‹¬sc_q25›
  refine ⟨_,(Ze (Yk (PW.pt (BL (pcr DA (pv 0) Za) (Ji (pcr CM (pv 0) (AJ T.g_MOST_TIMES))))) (Ze (D5 (C:=C0) (E:=E) Z XU CG (pa1 (FF (FN (HE (AJ T.g_MOST_TIMES) JQ)))))) Zn)),?_⟩
  try dsimp only [cK_,cL_]
  refine ⟨_,Z,_,_,Z,Z,_,Z,?_⟩;refine Jl (λh=>?_) (λh=>?_)
  ·have h:=D8_ h;exact IA ⟨_,Z,by decide,λz=>⟨sz9,λe he=>q2 (by lia) C0 e _ XU.g (Same.refl _) he⟩⟩
  ·have h:¬ (m < 1):=λc=>h (D7_ c);refine ⟨_,Z,_,_,Z,Z,_,Z,?_⟩;refine Jl (λh2=>?_) (λh2=>?_)
   ·have h2:=D8_ h2;exact ⟨_,Z,by decide,λz=>⟨sz9,λe he=>q2 (by lia) C0 e _ XU.g (Same.refl _) he⟩⟩
   ·have h2:¬ ((1000000000000000000:Int) < m):=λc=>h2 (D7_ c);exact q1 (by lia)
abbrev s_q8:hZ:=top 31
abbrev N_q8:List fZ:=["years","seasons","at_year","season"]
abbrev P_q8:List fZ:=["years","seasons","at_year","season"]
theorem sc_q8:Zj N_q8 P_q8 (Zd s_q8):=mk9
def sp_q8X (mg:fZ->Option fV):Sp:=λvs H Q E=>E4 λ(y s:Nat) (m n:Int)=>vs=[.int (y:Int),.int (s:Int),.int m,.int n]/\y <= 1000000000000000000/\s <= 1000/\(1 <= m/\m <= (y:Int)/\1 <= n/\n <= (s:Int)->Q .non H)/\(¬ (1 <= m/\m <= (y:Int)/\1 <= n/\n <= (s:Int))->∀ (C x:fT),mg "UnknownSeason" = some (.ref C)->H x=none->E (.ref C) (some x) H)
def sp_q8:Sp:=λvs H Q _=>E4 λ(y s m n:Int)=>vs=[.int y,.int s,.int m,.int n]/\1 <= m/\m <= y/\1 <= n/\n <= s/\Q .non H
theorem ok_q8 (F:Fun K "check_season" "check_season" s_q8 f fd) (T:Txt K mg):Ym P w K mg base CX0 1 f fd P_q8 sp_q8:=by
  obtain ⟨y,s,m,n,rfl,h0,h1,h2,h3,q⟩:=‹sc_q8›
  refine ⟨_,(Zc (Yk (PW.pt (BL (pcr DA (pv 2) Za) (Ji (pcr CM (pv 2) (pv 0))))) (Ze BH) Zn) (Ze (Yk (PW.pt (BL (pcr DA (pv 3) Za) (Ji (pcr CM (pv 3) (pv 1))))) (Ze BH) Zn))),?_⟩
  try dsimp only [cK_,cL_]
  refine ⟨_,Z,_,_,Z,Z,_,Z,?_⟩;refine Jl (λh=>absurd (D8_ h) (by lia)) (λ_=>?_);refine ⟨_,Z,_,Z,_,_,Z,Z,_,Z,?_⟩;refine Jl (λh=>absurd (D8_ h) (by lia)) (λ_=>?_);refine ⟨_,Z,_,_,Z,Z,_,Z,?_⟩;refine Jl (λh=>absurd (D8_ h) (by lia)) (λ_=>?_);refine ⟨_,Z,_,Z,_,_,Z,Z,_,Z,?_⟩;refine Jl (λh=>absurd (D8_ h) (by lia)) (λ_=>?_);exact q
theorem XB {n:Nat} (hn:n <= 1000000000000000000):((n:Int)).natAbs.log2 < 1920:=by
 rw [Int.natAbs_natCast n];by_cases h0:n=0
 ·rw [h0];decide
 ·exact gP (Nat.log2_lt h0 |>.mpr (show n < 2 ^ 60 by lia)) (by decide)
theorem ok_q8X (F:Fun K "check_season" "check_season" s_q8 f fd) (T:Txt K mg) {C0:fT} (XU:Exc K mg "UnknownSeason" C0):Ym P w K mg base (CX1 P w) 1 f fd P_q8 (sp_q8X mg):=by
  obtain ⟨y,s,m,n,rfl,hy,hs,q1,q2⟩:=‹¬sc_q8›
  refine ⟨_,(Zc (Yk (PW.pt (BL (pcr DA (pv 2) Za) (Ji (pcr CM (pv 2) (pv 0))))) (Ze (D5 (C:=C0) (E:=E) Z XU CG (pa1 (FF (FN (HE (pv 0) JQ)))))) Zn) (Ze (Yk (PW.pt (BL (pcr DA (pv 3) Za) (Ji (pcr CM (pv 3) (pv 1))))) (Ze (D5 (C:=C0) (E:=E) Z XU CG (pa1 (FF (FN (HE (pv 1) JQ)))))) Zn))),?_⟩
  try dsimp only [cK_,cL_]
  have ly:((y:Int)).natAbs.log2 < 1920:=XB hy;have ls:((s:Int)).natAbs.log2 < 1920:=XB (by lia);refine ⟨_,Z,_,_,Z,Z,_,Z,?_⟩;refine Jl (λh=>?_) (λh=>?_)
  ·have h:=D8_ h;refine IA ?_;exact ⟨_,Z,_,Z,ly,λz=>⟨sz9,λe he=>q2 (by lia) C0 e XU.g he⟩⟩
  have h:¬ (m < 1):=λc=>h (D7_ c);refine ⟨_,Z,_,Z,_,_,Z,Z,_,Z,?_⟩;refine Jl (λh2=>?_) (λh2=>?_)
  ·have h2:=D8_ h2;exact ⟨_,Z,_,Z,ly,λz=>⟨sz9,λe he=>q2 (by lia) C0 e XU.g he⟩⟩
  have h2:¬ ((y:Int) < m):=λc=>h2 (D7_ c);refine ⟨_,Z,_,_,Z,Z,_,Z,?_⟩;refine Jl (λh3=>?_) (λh3=>?_)
  ·have h3:=D8_ h3;refine IA ?_;exact ⟨_,Z,_,Z,ls,λz=>⟨sz9,λe he=>q2 (by lia) C0 e XU.g he⟩⟩
  have h3:¬ (n < 1):=λc=>h3 (D7_ c);refine ⟨_,Z,_,Z,_,_,Z,Z,_,Z,?_⟩;refine Jl (λh4=>?_) (λh4=>?_)
  ·have h4:=D8_ h4;exact ⟨_,Z,_,Z,ls,λz=>⟨sz9,λe he=>q2 (by lia) C0 e XU.g he⟩⟩
  have h4:¬ ((s:Int) < n):=λc=>h4 (D7_ c);exact q1 (by lia)
abbrev s_q31:hZ:=top 32
abbrev N_q31:List fZ:=["count"]
abbrev cU:List fZ:=["count"]
theorem sc_q31:Zj N_q31 cU (Zd s_q31):=mk9
def dA (mg:fZ->Option fV):Sp:=λvs H Q E=>∃ (n:Int),vs=[.int n]/\20 <= n/\∀ (C x:fT),mg "TooManyLaid" = some (.ref C)->H x=none->E (.ref C) (some x) H
def sp_q31:Sp:=λvs H Q _=>∃ (n:Int),vs=[.int n]/\n < 20/\Q .non H
theorem ok_q31 (F:Fun K "check_laid" "check_laid" s_q31 f fd) (T:Txt K mg):Ym P w K mg base CX0 1 f fd cU sp_q31:=by
  obtain ⟨n,rfl,h0,q⟩:=‹sc_q31›
  refine ⟨_,(Ze (Yk (pcr op_ge (pv 0) (AJ T.g_MOST_LAID)) (Ze BH) Zn)),?_⟩
  try dsimp only [cK_,cL_]
  refine ⟨_,Z,_,_,Z,Z,_,Z,?_⟩;refine Jl (λh=>absurd (D8_ h) (by lia)) (λ_=>?_);exact q
theorem ok_q31X (F:Fun K "check_laid" "check_laid" s_q31 f fd) (T:Txt K mg) {C0:fT} (XU:Exc K mg "TooManyLaid" C0):Ym P w K mg base (CX1 P w) 1 f fd cU (dA mg):=by
  obtain ⟨n,rfl,h0,q2⟩:=‹¬sc_q31›;have lg:(20:Int).natAbs.log2 < 1920:=by decide
  refine ⟨_,(Ze (Yk (pcr op_ge (pv 0) (AJ T.g_MOST_LAID)) (Ze (D5 (C:=C0) (E:=E) Z XU CG (pa1 (FF (FN (HE (AJ T.g_MOST_LAID) (FN JQ))))))) Zn)),?_⟩
  try dsimp only [cK_,cL_]
  refine ⟨_,Z,_,_,Z,Z,_,Z,?_⟩;refine Jl (λ_=>?_) (λh=>absurd (D7_ h0) h);exact ⟨_,Z,lg,λz=>⟨sz9,λe he=>q2 C0 e XU.g he⟩⟩
abbrev s_q0:hZ:=top 33
abbrev N_q0:List fZ:=["count"]
abbrev P_q0:List fZ:=["count"]
theorem sc_q0:Zj N_q0 P_q0 (Zd s_q0):=mk9
def sp_q0:Sp:=λvs H Q _=>∃ (n:Int),vs=[.int n]/\n < 300/\Q .non H
theorem ok_q0 (F:Fun K "check_room_for_deed" "check_room_for_deed" s_q0 f fd) (T:Txt K mg):Ym P w K mg base CX0 1 f fd P_q0 sp_q0:=by
  obtain ⟨n,rfl,h0,q⟩:=‹sc_q0›
  refine ⟨_,(Ze (Yk (pcr op_ge (pv 0) (AJ T.g_MOST_DEEDS)) (Ze BH) Zn)),?_⟩
  try dsimp only [cK_,cL_]
  refine ⟨_,Z,_,_,Z,Z,_,Z,?_⟩;refine Jl (λh=>absurd (D8_ h) (by lia)) (λ_=>?_);exact q
abbrev s_q1:hZ:=top 35
abbrev N_q1:List fZ:=["limits","amount","shares","left","place"]
abbrev P_q1:List fZ:=["limits","amount"]
theorem cL:Zj N_q1 P_q1 (Zd s_q1):=mk9
def sp_q1 (K:W.Frag):Sp:=λvs H Q _=>E3 λ(a:fT) (rs:List Int) (m:Int)=>vs=[.ref a,.int m]/\SqL K H a (rs.map V.int)/\rs.length <= 1000/\0 <= m/\(∀ i,i < rs.length->0 <= rs.getD i 0) /\
 ∀ (H':Hp) (t p:fT),Same H H'->H t=none->H p=none->H' t=some (.tup [.ref p,.int (Jb rs m 0)])->H' p=some (.lst ((IM rs m).map V.int))->Q (.ref t) H'
theorem ok_q1 (F:Fun K "shared_from_top" "shared_from_top" s_q1 f fd) (T:Txt K mg):Ym P w K mg base CX0 1 f fd P_q1 (sp_q1 K):=by
  obtain ⟨a,rs,m,rfl,hA,hn,hm,hx,q⟩:=‹cL›
  refine ⟨_,(Zc (psn 2 cL.nd (Jo T.n_list (pv 0))) (Zc (psn 3 cL.nd (pv 1)) (Zc (AO PassesOwn.never Z (SQ (by rfl) T.n_range (pa3 (Zh Yj (Zy T.n_len (pv 0)) Za) (KK EQ Za) (KK EQ Za))) (Zw (i:=4) cL.nd Z (Or.inl Z)) (Zc (EK (O6 (by rfl) T.n_min (pv 3) (pxl (pv 0) (pv 4))) (FP (pv 2) (pv 4) BU)) (Ze (psn 3 cL.nd (Zh Yj (pv 3) (pxl (pv 2) (pv 4))))))) (Ze (Zi (Jc (pa2 (pv 2) (pv 3)))))))),?_⟩
  try dsimp only [cK_,cL_]
  refine ⟨_,Z,a,_,Z,.inl hA,λp hp=>?_⟩;refine ⟨_,Z,_,Z,a,_,Z,.inl (hA.upd hp),_,_,Z,Z,_,Z,_,Z,_,_,Z,by rw [fU];lia,?_⟩;refine OQ (λi σ H2=>(∃ v,σ=[some (.ref a),some (.int m),some (.ref p),some (.int (Jb rs m (rs.length - i))),v])/\H2=upd H p (.lst (((i9 rs.length).map λj=>if j < rs.length - i then rs.getD j 0 else Yy rs m j).map V.int))) ?_ ?_ ?_
  ·refine ⟨⟨none,by rw [Nat.sub_zero,YO (gA _) hm];rfl⟩,?_⟩;rw [Nat.sub_zero,HY (g:=λj=>rs.getD j 0) λi hi=>if_pos hi,<- YY rs]
  ·rintro i σ H2 hi ⟨⟨v,rfl⟩,rfl⟩;have hi':i < rs.length:=by rw [fU] at hi;lia
   have e0:((rs.map V.int).length:Int) - 1 - (i:Int)=((rs.length - i - 1:Nat):Int):=by rw [fU];lia
   rw [e0];generalize hk:rs.length - i - 1=k at *;have hk1:rs.length - i=k+1:=by lia
   have hkn:k < rs.length:=by lia
   rw [hk1];refine ⟨_,Z,_,Z,_,Z,a,_,_,_,Z,Z,hA.upd hp,Yz hkn,_,_,Z,?_⟩;have es:(if rs.getD k 0 < Jb rs m (k+1) then rs.getD k 0 else Jb rs m (k+1))=Yy rs m k:=by unfold Yy;split <;> lia
   rw [es];refine ⟨_,Z,_,Z,p,_,_,k,Z,Z,Zb,?_,?_⟩
   ·unfold ixN;rw [if_pos (by lia),if_pos (by simp;lia),kX]
   rw [setI,cX,CK];have ef:(i9 rs.length).map (λj=>if j=k then Yy rs m k else if j < k+1 then rs.getD j 0 else Yy rs m j)=(i9 rs.length).map (λj=>if j < k then rs.getD j 0 else Yy rs m j):=by
    refine HY λj _=>?_;by_cases h:j=k
    ·rw [if_pos h,if_neg (by lia),h]
    ·by_cases h':j < k
     ·rw [if_neg h,if_pos (by lia),if_pos h']
     ·rw [if_neg h,if_neg (by lia),if_neg h']
   rw [ef];refine ⟨_,Z,_,Z,_,Z,p,_,_,_,Z,Z,SqL.of Zb,Yz (by simpa using hkn),_,_,Z,Z,⟨some (.int ((k:Nat):Int)),?_⟩,?_⟩
   ·rw [CC hkn,if_neg (by lia),HR hkn (hx k hkn)];rfl
   ·rfl
  ·rintro σ H2 ⟨⟨v,rfl⟩,e2⟩;have en:(((rs.map V.int).length:Int) - 1 - -1).toNat=rs.length:=by rw [fU];lia
   rw [en,Nat.sub_self] at e2 ⊢;have ef:(i9 rs.length).map (λj=>if j < 0 then rs.getD j 0 else Yy rs m j)=IM rs m:=HY λj _=>if_neg (by lia);rw [ef] at e2;refine ⟨_,Z,_,Z,sz9,λt ft=>?_⟩;have s2:Same H H2:=by rw [e2];exact Same.upd hp
   have h2:H2 p=some (.lst ((IM rs m).map V.int)):=by rw [e2];exact Zb
   exact q _ t p (s2.trans (Same.upd ft)) (s2.free ft) hp Zb (by rw [Zk (Zf h2 ft)];exact h2)
abbrev IX:hZ:=top 36
abbrev QZ:List fZ:=["needs","heats","amount","rooms","shared"]
abbrev PH:List fZ:=["needs","heats","amount"]
theorem NW:Zj QZ PH (Zd IX):=mk9
def RQ (K:W.Frag):Sp:=λvs H Q _=>E5 λ(a b:fT) (fQ fR:List Int) (m:Int)=>vs=[.ref a,.ref b,.int m]/\SqL K H a (fQ.map V.int)/\SqL K H b (fR.map V.int)/\fR.length=fQ.length/\fQ.length <= 1000 /\
 (∀ i,i < fQ.length->fR.getD i 0 <= fQ.getD i 0)/\0 <= m/\m <= 1000000 /\
 ∀ (H':Hp) (t p:fT),Same H H'->H t=none->H p=none->H' t=some (.tup [.ref p,.int (Jb (HM fQ fR) m 0)])->H' p=some (.lst ((U1 fQ fR m).map V.int))->Q (.ref t) H'
theorem bQ (F:Fun K "warmed" "warmed" IX f fd) (T:Txt K mg) (o_q7:Ok P w K mg base "check_amount" ZD 1 W4) (o_q1:Ok P w K mg base "shared_from_top" P_q1 1 (sp_q1 K)):Ym P w K mg base CX0 2 f fd PH (RQ K):=by
  obtain ⟨a,b,fQ,fR,m,rfl,hA,hB,hl,hn,hx,h0,h1,q⟩:=‹NW›
  refine ⟨_,(Zc (Zp (Zg o_q7 hr (pa1 (pv 2)))) (Zc (HQ (i:=3) Z NW.nd Z Z (Yi.of (T:=["need","heat"]) (js:=[]) (Zd IX).names QZ Z Z Z D9_) (NN (by rfl) T.n_zip (pa2 (pv 0) (pv 1))) (λ_ _ _ _=>⟨(N1 K (n:=2) (by rfl) (Jp (Zw (i:=0) (by show List.Nodup (["need","heat"]:List fZ);decide +kernel) Z (Or.inl Z)) (Jp (Zw (i:=1) (by show List.Nodup (["need","heat"]:List fZ);decide +kernel) Z (Or.inl Z)) FC))),CS,(Zh Yj (pv 0) (pv 1))⟩)) (Zc (psn 4 NW.nd (Zg o_q1 hr (pa2 (pv 3) (pv 2)))) (Ze (Zi (Jc (pa2 (EB Z (Yi.of (T:=["heat","share"]) (js:=[]) (Zd IX).names QZ Z Z Z D9_) (NN (by rfl) T.n_zip (pa2 (pv 1) (pxt (pv 4) Za))) (λ_ _ _ _=>⟨(N1 K (n:=2) (by rfl) (Jp (Zw (i:=0) (by show List.Nodup (["heat","share"]:List fZ);decide +kernel) Z (Or.inl Z)) (Jp (Zw (i:=1) (by show List.Nodup (["heat","share"]:List fZ);decide +kernel) Z (Or.inl Z)) FC))),CS,(Zh Zz (pv 0) (pv 1))⟩)) (pxt (pv 4) Za)))))))),?_⟩
  try dsimp only [cK_,cL_]
  refine ⟨_,Z,m,Z,h0,h1,?_⟩;refine ⟨_,Z,_,Z,a,b,Z,⟨_,hA⟩,⟨_,hB⟩,λpr fpr=>?_⟩;refine D6 (λn h=>n - h) hl.symm hn hA hB fpr (λx y H Q' q=>⟨_,Z,_,Z,_,_,Z,Z,q⟩) λH1 s1 h1r=>?_;have hr0:∀ i,i < (HM fQ fR).length->0 <= (HM fQ fR).getD i 0:=λi hi=>by
   rw [AM hl] at hi;rw [GV hl hi];have:=hx i hi
   lia
  refine ⟨_,Z,_,Z,pr,HM fQ fR,m,Z,SqL.of h1r,by rw [AM hl];exact hn,h0,hr0,λH2 t ps s2 ft fps ht hps=>?_⟩;refine ⟨_,Z,_,Z,t,_,_,_,Z,Z,SqT.of ht,Z,b,ps,Z,⟨_,(s1.trans s2).seq hB⟩,⟨_,SqL.of hps⟩,λpw fpw=>?_⟩;refine D6 (λh s=>h+s) (by rw [DB,AM hl,hl]) (by lia) ((s1.trans s2).seq hB) (SqL.of hps) fpw (λx y H Q' q=>⟨_,Z,_,Z,_,_,Z,Z,q⟩) λH3 s3 h3w=>?_;refine ⟨_,Z,t,_,_,_,Z,Z,SqT.of (s3 _ _ ht),Z,sz9,λt' ft'=>?_⟩;have s4:Same H H3:=(s1.trans s2).trans s3;exact q _ t' pw (s4.trans (Same.upd ft')) (s4.free ft') ((s1.trans s2).free fpw) Zb (by rw [Zk (Zf h3w ft')];exact h3w)
abbrev IQ:hZ:=top 37
abbrev S7:List fZ:=["needs","heats","amount","shared"]
abbrev N5:List fZ:=["needs","heats","amount"]
theorem P7:Zj S7 N5 (Zd IQ):=mk9
def O9 (K:W.Frag):Sp:=λvs H Q _=>E4 λ(x:V) (b:fT) (fR:List Int) (m:Int)=>vs=[x,.ref b,.int m]/\SqL K H b (fR.map V.int)/\fR.length <= 1000 /\
 (∀ i,i < fR.length->0 <= fR.getD i 0)/\0 <= m/\m <= 1000000 /\
 ∀ (H':Hp) (t p:fT),Same H H'->H t=none->H p=none->H' t=some (.tup [.ref p,.int (Jb fR m 0)])->H' p=some (.lst ((SB fR m).map V.int))->Q (.ref t) H'
theorem YV (F:Fun K "chilled" "chilled" IQ f fd) (T:Txt K mg) (o_q7:Ok P w K mg base "check_amount" ZD 1 W4) (o_q1:Ok P w K mg base "shared_from_top" P_q1 1 (sp_q1 K)):Ym P w K mg base CX0 2 f fd N5 (O9 K):=by
  obtain ⟨x,b,fR,m,rfl,hB,hn,hx,h0,h1,q⟩:=‹P7›
  refine ⟨_,(Zc (Zp (Zg o_q7 hr (pa1 (pv 2)))) (Zc (psn 3 P7.nd (Zg o_q1 hr (pa2 (pv 1) (pv 2)))) (Ze (Zi (Jc (pa2 (EB Z (Yi.of (T:=["heat","share"]) (js:=[]) (Zd IQ).names S7 Z Z Z D9_) (NN (by rfl) T.n_zip (pa2 (pv 1) (pxt (pv 3) Za))) (λ_ _ _ _=>⟨(N1 K (n:=2) (by rfl) (Jp (Zw (i:=0) (by show List.Nodup (["heat","share"]:List fZ);decide +kernel) Z (Or.inl Z)) (Jp (Zw (i:=1) (by show List.Nodup (["heat","share"]:List fZ);decide +kernel) Z (Or.inl Z)) FC))),CS,(Zh Yj (pv 0) (pv 1))⟩)) (pxt (pv 3) Za))))))),?_⟩
  try dsimp only [cK_,cL_]
  refine ⟨_,Z,m,Z,h0,h1,?_⟩;refine ⟨_,Z,_,Z,b,fR,m,Z,hB,hn,h0,hx,λH2 t ps s2 ft fps ht hps=>?_⟩;refine ⟨_,Z,_,Z,t,_,_,_,Z,Z,SqT.of ht,Z,b,ps,Z,⟨_,s2.seq hB⟩,⟨_,SqL.of hps⟩,λpw fpw=>?_⟩;refine D6 (λh s=>h - s) (by rw [DB]) hn (s2.seq hB) (SqL.of hps) fpw (λx y H Q' q=>⟨_,Z,_,Z,_,_,Z,Z,q⟩) λH3 s3 h3w=>?_;refine ⟨_,Z,t,_,_,_,Z,Z,SqT.of (s3 _ _ ht),Z,sz9,λt' ft'=>?_⟩;have s4:Same H H3:=s2.trans s3;exact q _ t' pw (s4.trans (Same.upd ft')) (s4.free ft') (s2.free fpw) Zb (by rw [Zk (Zf h3w ft')];exact h3w)
abbrev QS:hZ:=top 38
abbrev N_passed:List fZ:=["needs","heats","seasons","now","no_room","no_heat","kind","amount","behind"]
abbrev IC:List fZ:=["needs","heats","seasons"]
theorem BD:Zj N_passed IC (Zd QS):=mk9
def JE (K:W.Frag):Sp:=λvs H Q _=>E7 λ(a b c:fT) (fQ fR:List Int) (ts:List fT) (ss:List (Bool × Int))=>vs=[.ref a,.ref b,.ref c]/\SqL K H a (fQ.map V.int)/\SqL K H b (fR.map V.int)/\SqL K H c (ts.map V.ref)/\Zu H ts ss /\
 Zr fQ fR/\fQ.length <= 1000/\(∀ z ∈ ss,0 <= z.2/\z.2 <= 1000000) /\
 ∀ (H':Hp) (t p:fT),Same H H'->H t=none->H p=none->H' t=some (.tup [.ref p,.int (BF fQ fR ss).room,.int (BF fQ fR ss).heat])->H' p=some (.lst ((BF fQ fR ss).fR.map V.int))->Q (.ref t) H'
theorem dW (F:Fun K "passed" "passed" QS f fd) (T:Txt K mg) (o_warmed:Ok P w K mg base "warmed" PH 2 (RQ K)) (o_chilled:Ok P w K mg base "chilled" N5 2 (O9 K)):Ym P w K mg base CX0 3 f fd IC (JE K):=by
  obtain ⟨a,b,c,fQ,fR,ts,ss,rfl,hA,hB,hC,hS,hO,hn,hz,q⟩:=‹BD›
  refine ⟨_,(Zc (psn 3 BD.nd (Jo T.n_list (pv 1))) (Zc (psn 4 BD.nd Za) (Zc (psn 5 BD.nd Za) (Zc (AO PassesOwn.never Z (BN (pv 2)) (WA (n:=2) (by rfl) (Jp (Zw (i:=6) BD.nd Z (Or.inl Z)) (Jp (Zw (i:=7) BD.nd Z (Or.inl Z)) FC))) (Zc (Yk (pcr Jv (pv 6) Zs) (Zc (psn 8 BD.nd (Zg o_warmed hr (pa3 (pv 0) (pv 3) (pv 7)))) (Ze (psn 4 BD.nd (Zh Zz (pv 4) (pxt (pv 8) Za))))) (Zc (psn 8 BD.nd (Zg o_chilled hr (pa3 (pv 0) (pv 3) (pv 7)))) (Ze (psn 5 BD.nd (Zh Zz (pv 5) (pxt (pv 8) Za)))))) (Ze (psn 3 BD.nd (pxt (pv 8) Za))))) (Ze (Zi (Jc (pa3 (pv 3) (pv 4) (pv 5))))))))),?_⟩
  try dsimp only [cK_,cL_]
  refine ⟨_,Z,b,_,Z,.inl hB,λp0 f0=>?_⟩;refine ⟨_,Z,c,Z,⟨_,hC.upd f0⟩,?_⟩
  refine D9 (xs:=ts.map V.ref) (λi σ H2=>E4 λ(p:fT) (v6 v7 v8:Option V)=>σ=[some (.ref a),some (.ref b),some (.ref c),some (.ref p),some (.int (BF fQ fR (ss.take i)).room),some (.int (BF fQ fR (ss.take i)).heat),v6,v7,v8] /\ Same H H2/\H p=none/\H2 p=some (.lst ((BF fQ fR (ss.take i)).fR.map V.int))) ?_ ?_ ?_ ?_
  ·exact ⟨p0,none,none,none,by rw [kB];rfl,Same.upd f0,f0,by rw [kB];exact Zb⟩
  ·rintro i σ H2 _ ⟨_,_,_,_,_,s2,_⟩;exact s2.seq hC
  ·rintro i x σ H2 hx ⟨p,v6,v7,v8,rfl,s2,fp,h2p⟩;rw [gE] at hx;cases et:ts[i]? with
   | none=>rw [et] at hx;cases hx
   | some t=>
    rw [et] at hx;obtain rfl:V.ref t=x:=Option.some.inj hx;have hi:i < ss.length:=by rw [<- hS.len];exact (gK.mp et).1
    have ez:ss[i]? = some ss[i]:=fX hi;generalize ss[i]=z at ez;obtain ⟨t',e1,e2⟩:=hS.at' i z ez;rw [et] at e1;cases e1;have hzz:=hz z (i7 ez);have hOk:=QK hO (ss.take i);have hst:BF fQ fR (ss.take (i+1))=AE fQ (BF fQ fR (ss.take i)) z:=by rw [B5 ez,YC]
    generalize BF fQ fR (ss.take i)=R at *;refine ⟨t,_,Z,SqT.of (s2 _ _ e2),Z,_,_,Z,_,_,Z,Z,?_⟩;refine ⟨_,Z,Z,_,Z,?_⟩;rw [EG];refine Jl (λhb=>?_) (λhb=>?_)
    ·refine ⟨_,Z,_,Z,_,Z,a,p,fQ,R.fR,z.2,Z,s2.seq hA,SqL.of h2p,hOk.len,hn,hOk.hi,hzz.1,hzz.2,λH3 t3 p3 s3 ft3 fp3 ht3 hp3=>?_⟩;refine ⟨_,Z,_,Z,t3,_,_,_,Z,Z,SqT.of ht3,Z,_,_,Z,Z,?_⟩;refine ⟨_,Z,t3,_,_,_,Z,Z,SqT.of ht3,Z,p3,some (.str (AX z.1)),some (.int z.2),some (.ref t3),?_,s2.trans s3,s2.free fp3,?_⟩
     ·rw [hst];unfold AE Yh;rw [if_pos hb,if_pos hb,if_pos hb];rfl
     ·rw [hst,hp3];unfold AE C8;rw [if_pos hb]
    ·refine ⟨_,Z,_,Z,_,Z,_,p,R.fR,z.2,Z,SqL.of h2p,by rw [hOk.len];exact hn,λi hi=>hOk.lo i (by rw [<- hOk.len];exact hi),hzz.1,hzz.2,λH3 t3 p3 s3 ft3 fp3 ht3 hp3=>?_⟩;refine ⟨_,Z,_,Z,t3,_,_,_,Z,Z,SqT.of ht3,Z,_,_,Z,Z,?_⟩;refine ⟨_,Z,t3,_,_,_,Z,Z,SqT.of ht3,Z,p3,some (.str (AX z.1)),some (.int z.2),some (.ref t3),?_,s2.trans s3,s2.free fp3,?_⟩
     ·rw [hst];unfold AE Yh;rw [if_neg hb,if_neg hb,if_neg hb];rfl
     ·rw [hst,hp3];unfold AE C8;rw [if_neg hb]
  ·rintro σ H2 ⟨p,v6,v7,v8,rfl,s2,fp,h2p⟩;have el:ss.take (ts.map V.ref).length=ss:=iJ (by rw [fU,hS.len];exact gA _);rw [el] at h2p ⊢;refine ⟨_,Z,_,Z,_,Z,sz9,λt ft=>?_⟩;exact q _ t p (s2.trans (Same.upd ft)) (s2.free ft) fp Zb (by rw [Zk (Zf h2p ft)];exact h2p)
abbrev s_q12:hZ:=top 39
abbrev N_q12:List fZ:=["heats","bed"]
abbrev cR:List fZ:=["heats","bed"]
theorem sc_q12:Zj N_q12 cR (Zd s_q12):=mk9
def b7 (K:W.Frag) (mg:fZ->Option fV):Sp:=λvs H Q E=>E3 λ(a:fT) (hs:List Int) (m:Int)=>vs=[.ref a,.int m]/\SqL K H a (hs.map V.int)/\hs.length <= 1000/\(∀ i:Nat,m=(i:Int)+1->i < hs.length->∀ H',Same H H'->Q (.int (down hs i)) H')/\(¬ (1 <= m/\m <= (hs.length:Int))->∀ (C x:fT),mg "UnknownBed" = some (.ref C)->H x=none->E (.ref C) (some x) H)
def sp_q12 (K:W.Frag):Sp:=λvs H Q _=>E3 λ(a:fT) (hs:List Int) (i:Nat)=>vs=[.ref a,.int ((i:Int)+1)]/\SqL K H a (hs.map V.int)/\hs.length <= 1000/\i < hs.length/\∀ H',Same H H'->Q (.int (down hs i)) H'
theorem ok_q12 (F:Fun K "heat_down_to" "heat_down_to" s_q12 f fd) (T:Txt K mg) (o_check_bed:Ok P w K mg base "check_bed" Ja 1 C3):Ym P w K mg base CX0 2 f fd cR (sp_q12 K):=by
  obtain ⟨a,hs,i,rfl,hA,hn,hi,q⟩:=‹sc_q12›;have cut0:DD (hs.map V.int) (some ((i:Int)+1 - 1)) none=(hs.drop i).map V.int:=by rw [show (i:Int)+1 - 1=(i:Int) by lia,DO,k6]
  refine ⟨_,(Zc (Zp (Zg o_check_bed hr (pa2 (Zy T.n_len (pv 0)) (pv 1)))) (Ze (Zi (D0 (by rfl) T.n_sum (Jz BJ (pv 0) (B7 (Zh Yj (pv 1) Za)) BY))))),?_⟩
  try dsimp only [cK_,cL_]
  refine ⟨_,Z,a,_,Z,.inl hA,_,Z,_,_,Z,by lia,by rw [fU];lia,?_⟩;refine ⟨_,Z,_,Z,_,_,Z,Z,_,Z,a,_,Z,hA,λc1 e1=>?_⟩;exact ⟨c1,hs.drop i,Z,SqL.of (Zb.trans (by rw [<- cut0])),q _ (Same.upd e1)⟩
theorem ok_q12X (F:Fun K "heat_down_to" "heat_down_to" s_q12 f fd) (T:Txt K mg) (o_check_bedX:OkX P w K mg base "check_bed" Ja 1 (BG mg)):Ym P w K mg base (CX1 P w) 2 f fd cR (b7 K mg):=by
  obtain ⟨a,hs,m,rfl,hA,hn,q1,q2⟩:=‹¬sc_q12›;have eL:((hs.map V.int).length:Int)=(hs.length:Int):=by rw [fU]
  refine ⟨_,(Zc (Zp (Yc o_check_bedX hr (Yu (E:=E)) (pa2 (Zy T.n_len (pv 0)) (pv 1)))) (Ze (Zi (D0 (by rfl) T.n_sum (Jz BJ (pv 0) (B7 (Zh Yj (pv 1) Za)) BY))))),?_⟩
  try dsimp only [cK_,cL_]
  refine ⟨_,Z,a,_,Z,.inl hA,_,Z,hs.length,m,congrArg (λz:Int=>[V.int z,V.int m]) eL,hn,λhb=>?_,λhb=>q2 hb⟩;obtain ⟨i,rfl⟩:∃ i:Nat,m=(i:Int)+1:=⟨(m - 1).toNat,by lia⟩;have hi:i < hs.length:=by lia
  have cut0:DD (hs.map V.int) (some ((i:Int)+1 - 1)) none=(hs.drop i).map V.int:=by rw [show (i:Int)+1 - 1=(i:Int) by lia,DO,k6]
  refine ⟨_,Z,_,Z,_,_,Z,Z,_,Z,a,_,Z,hA,λc1 e1=>?_⟩;exact ⟨c1,hs.drop i,Z,SqL.of (Zb.trans (by rw [<- cut0])),q1 i Z hi _ (Same.upd e1)⟩
abbrev s_q26:hZ:=top 40
abbrev N_q26:List fZ:=["needs","heats"]
abbrev P_q26:List fZ:=["needs","heats"]
theorem sc_q26:Zj N_q26 P_q26 (Zd s_q26):=mk9
def sp_q26 (K:W.Frag):Sp:=λvs H Q _=>E4 λ(a b:fT) (fQ fR:List Int)=>vs=[.ref a,.ref b]/\SqL K H a (fQ.map V.int)/\SqL K H b (fR.map V.int)/\fR.length=fQ.length/\fQ.length <= 1000 /\
 ∀ p,H p=none->Q (.ref p) (upd H p (.lst ((AD fQ fR fQ.length).map V.int)))
theorem ok_q26 (F:Fun K "thawed_beds" "thawed_beds" s_q26 f fd) (T:Txt K mg):Ym P w K mg base CX0 1 f fd P_q26 (sp_q26 K):=by
  obtain ⟨a,b,fQ,fR,rfl,hA,hB,hl,hn,q⟩:=‹sc_q26›;refine ⟨_,(Ze (Zi (EB Z (Yi.of (T:=["place"]) (js:=[0,1]) (Zd s_q26).names N_q26 Z Z Z D9_) (AY (by rfl) T.n_range (pa1 (Zy T.n_len (pv 0)))) (λ_ _ _ _=>⟨(Zw (i:=0) (by show List.Nodup (["place","needs","heats"]:List fZ);decide +kernel) Z (Or.inl Z)),(QI (pcr Jv (KL (JX K) (pv 2) (pv 0) (λ_ _=>rfl)) (KL (JX K) (pv 1) (pv 0) (λ_ _=>rfl)))),(Zh Zz (pv 0) Za)⟩)))),?_⟩
  try dsimp only [cK_,cL_]
  refine ⟨_,Z,a,_,Z,.inl hA,_,Z,by lia,by rw [fU];lia,λp hp=>?_⟩;refine EI (λi σ H2=>(∃ v,σ=[v,some (.ref a),some (.ref b)])/\H2=upd H p (.lst ((AD fQ fR i).map V.int))) ?_ ?_ ?_
  ·exact ⟨⟨none,Z⟩,Z⟩
  ·rintro i σ H2 hi ⟨⟨v,rfl⟩,rfl⟩;have hi':i < fQ.length:=by rw [fU] at hi;lia
   have e0:(0:Int)+(i:Int)=(i:Int):=by lia
   rw [e0];refine ⟨_,Z,_,Z,b,_,_,_,Z,Z,hB.upd hp,Yz (by lia),_,Z,_,Z,a,_,_,_,Z,Z,hA.upd hp,Yz hi',Z,_,Z,?_⟩;refine Jl (λhc=>?_) (λhc=>?_)
   ·have hc:V.int (fR.getD i 0)=V.int (fQ.getD i 0):=D8_ hc;have hc:fR.getD i 0=fQ.getD i 0:=by injection hc
    refine ⟨_,Z,_,_,Z,Z,_,Zb,Js (by rw [fU];have:=FH fQ fR i;lia),⟨_,Z⟩,?_⟩;rw [CK,MC hc,gO];rfl
   ·have hc:¬ fR.getD i 0=fQ.getD i 0:=λe=>hc (by rw [e];exact D7_ Z);exact ⟨⟨_,Z⟩,by rw [OW hc]⟩
  ·rintro σ H2 ⟨_,rfl⟩;rw [fU,kX];exact q p hp
abbrev K9:hZ:=top 41
abbrev YX:List fZ:=["needs","heats","front","place"]
abbrev JZ:List fZ:=["needs","heats"]
theorem FJ:Zj YX JZ (Zd K9):=mk9
def NU (K:W.Frag):Sp:=λvs H Q _=>E4 λ(a b:fT) (fQ fR:List Int)=>vs=[.ref a,.ref b]/\SqL K H a (fQ.map V.int)/\SqL K H b (fR.map V.int)/\fR.length=fQ.length/\fQ.length <= 1000 /\
 ∀ f:Nat,K7 fQ fR f->Q (.int f) H
theorem UN (F:Fun K "front_of" "front_of" K9 f fd) (T:Txt K mg):Ym P w K mg base CX0 1 f fd JZ (NU K):=by
  obtain ⟨a,b,fQ,fR,rfl,hA,hB,hl,hn,q⟩:=‹FJ›
  refine ⟨_,(Zc (psn 2 FJ.nd Za) (Zc (AO PassesOwn.never Z (SQ (by rfl) T.n_range (pa3 (Zh Yj (Zy T.n_len (pv 0)) Za) (KK EQ Za) (KK EQ Za))) (Zw (i:=3) FJ.nd Z (Or.inl Z)) (Zc (Yk (pcr GZ (pxl (pv 1) (pv 3)) (pxl (pv 0) (pv 3))) (Ze ps_break) Zn) (Ze (psn 2 FJ.nd (Zh Zz (pv 2) Za))))) (Ze (Zi (pv 2))))),?_⟩
  try dsimp only [cK_,cL_]
  refine ⟨_,Z,a,_,Z,.inl hA,_,_,Z,Z,_,Z,_,Z,_,_,Z,by rw [fU];lia,?_⟩;refine OQ (λi σ H2=>(∃ v,σ=[some (.ref a),some (.ref b),some (.int ((i:Nat):Int)),v])/\H2=H/\∀ j,j < fQ.length->fQ.length - i <= j->fR.getD j 0=fQ.getD j 0) ?_ ?_ ?_
  ·exact ⟨⟨none,Z⟩,Z,λj h1 h2=>by lia⟩
  ·rintro i σ H2 hi ⟨⟨v,rfl⟩,rfl,he⟩;have hi':i < fQ.length:=by rw [fU] at hi;lia
   have e0:((fQ.map V.int).length:Int) - 1 - (i:Int)=((fQ.length - i - 1:Nat):Int):=by rw [fU];lia
   rw [e0];refine ⟨_,Z,_,Z,b,_,_,_,Z,Z,hB,Yz (by lia),_,Z,_,Z,a,_,_,_,Z,Z,hA,Yz (by lia),Z,_,Z,?_⟩;refine Jl (λhc=>?_) (λhc=>?_)
   ·refine ⟨_,Z,q i ⟨by lia,he,λ_ e=>?_⟩⟩;rw [e] at hc;simp at hc
   ·refine ⟨_,Z,_,_,Z,Z,⟨_,Z⟩,Z,λj h1 h2=>?_⟩;by_cases hj:j=fQ.length - i - 1
    ·subst hj;simpa using hc
    ·exact he j h1 (by lia)
  ·rintro σ H2 ⟨⟨v,rfl⟩,rfl,he⟩;have en:(((fQ.map V.int).length:Int) - 1 - -1).toNat=fQ.length:=by rw [fU];lia
   rw [en] at he ⊢;exact ⟨_,Z,q _ ⟨gA _,he,λh=>absurd h (iI _)⟩⟩
abbrev VA:hZ:=top 43
abbrev N_still:List fZ:=["full"]
abbrev PP:List fZ:=["full"]
theorem sc_still:Zj N_still PP (Zd VA):=mk9
def Q8:Sp:=λvs H Q _=>∃ (full:Int),vs=[.int full]/\∀ (H':Hp) (t:fT),Same H H'->H t=none->H' t=some (.tup [.int 0,.int 0,.int full])->Q (.ref t) H'
theorem ok_still (F:Fun K "still" "still" VA f fd) (T:Txt K mg):Ym P w K mg base CX0 1 f fd PP Q8:=by
  obtain ⟨full,rfl,q⟩:=‹sc_still›;refine ⟨_,(Ze (Zi (Jc (pa3 Za Za (pv 0))))),?_⟩
  try dsimp only [cK_,cL_]
  exact ⟨_,Z,sz9,λt ht=>q _ t (Same.upd ht) ht Zb⟩
abbrev NP:hZ:=top 44
abbrev bN:List fZ:=["rule","heat","behind"]
abbrev DG:List fZ:=["rule","heat"]
theorem OI:Zj bN DG (Zd NP):=mk9
def DE (K:W.Frag):Sp:=λvs H Q _=>E5 λ(r:fT) (d l m x:Int)=>vs=[.ref r,.int x]/\SqT K H r [.int d,.int l,.int m]/\l <= m/\∀ H',Same H H'->Q (.int (Ju (x+d) l m)) H'
theorem Z0 (F:Fun K "applied" "applied" NP f fd) (T:Txt K mg):Ym P w K mg base CX0 1 f fd DG (DE K):=by
  obtain ⟨r,d,l,m,x,rfl,hr',hlm,q⟩:=‹OI›;have q:=q H (Same.refl H)
  refine ⟨_,(Zc (psn 2 OI.nd (Zh Zz (pv 1) (pxt (pv 0) Za))) (Zc (Yk (pcr DA (pv 2) (pxt (pv 0) Za)) (Ze (Zi (pxt (pv 0) Za))) Zn) (Zc (Yk (pcr CM (pv 2) (pxt (pv 0) Za)) (Ze (Zi (pxt (pv 0) Za))) Zn) (Ze (Zi (pv 2)))))),?_⟩
  try dsimp only [cK_,cL_]
  refine ⟨_,Z,_,Z,r,_,_,_,Z,Z,hr',Z,_,_,Z,Z,?_⟩;refine ⟨_,Z,_,Z,r,_,_,_,Z,Z,hr',Z,_,_,Z,Z,_,Z,?_⟩;refine Jl (λh=>?_) (λh=>?_)
  ·have h:=D8_ h;have e:Ju (x+d) l m=l:=by unfold Ju;(repeat' split) <;> lia
   rw [e] at q;exact ⟨_,Z,r,_,_,_,Z,Z,hr',Z,q⟩
  ·have h:¬ (x+d < l):=λc=>h (D7_ c);refine ⟨_,Z,_,Z,r,_,_,_,Z,Z,hr',Z,_,_,Z,Z,_,Z,?_⟩;refine Jl (λh2=>?_) (λh2=>?_)
   ·have h2:=D8_ h2;have e:Ju (x+d) l m=m:=by unfold Ju;(repeat' split) <;> lia
    rw [e] at q;exact ⟨_,Z,r,_,_,_,Z,Z,hr',Z,q⟩
   ·have h2:¬ (m < x+d):=λc=>h2 (D7_ c);have e:Ju (x+d) l m=x+d:=by unfold Ju;(repeat' split) <;> lia
    rw [e] at q;exact ⟨_,Z,q⟩
abbrev QR:hZ:=top 45
abbrev N_joined:List fZ:=["first","second"]
abbrev J9:List fZ:=["first","second"]
theorem cZ:Zj N_joined J9 (Zd QR):=mk9
def JC (K:W.Frag):Sp:=λvs H Q _=>E8 λ(r1 r2:fT) (d1 l1 m1 d2 l2 m2:Int)=>vs=[.ref r1,.ref r2]/\SqT K H r1 [.int d1,.int l1,.int m1]/\SqT K H r2 [.int d2,.int l2,.int m2]/\l1 <= m1/\l2 <= m2 /\
 ∀ (H':Hp) (t:fT),Same H H'->H t=none->H' t=some (.tup [.int (d1+d2),.int (Ju (l1+d2) l2 m2),.int (Ju (m1+d2) l2 m2)])->Q (.ref t) H'
theorem bX (F:Fun K "joined" "joined" QR f fd) (T:Txt K mg) (o_applied:Ok P w K mg base "applied" DG 1 (DE K)):Ym P w K mg base CX0 2 f fd J9 (JC K):=by
  obtain ⟨r1,r2,d1,l1,m1,d2,l2,m2,rfl,hA,hB,h1,h2,q⟩:=‹cZ›;refine ⟨_,(Ze (Zi (Jc (pa3 (Zh Zz (pxt (pv 0) Za) (pxt (pv 1) Za)) (Zg o_applied hr (pa2 (pv 1) (pxt (pv 0) Za))) (Zg o_applied hr (pa2 (pv 1) (pxt (pv 0) Za))))))),?_⟩
  try dsimp only [cK_,cL_]
  refine ⟨_,Z,r1,_,_,_,Z,Z,hA,Z,_,Z,r2,_,_,_,Z,Z,hB,Z,_,_,Z,Z,?_⟩;refine ⟨_,Z,_,Z,r1,_,_,_,Z,Z,hA,Z,r2,d2,l2,m2,l1,Z,hB,h2,λH1 s1=>?_⟩;refine ⟨_,Z,_,Z,r1,_,_,_,Z,Z,s1.tup hA,Z,r2,d2,l2,m2,m1,Z,s1.tup hB,h2,λH2 s2=>?_⟩;refine ⟨sz9,λt ht=>?_⟩;exact q _ t ((s1.trans s2).trans (Same.upd ht)) (none_of (s1.trans s2) ht) Zb
abbrev GM:hZ:=top 46
abbrev XY:List fZ:=["rule","times","so_far","doubled","left"]
abbrev CQ:List fZ:=["rule","times"]
theorem B8:Zj XY CQ (Zd GM):=mk9
def KY (_:W.Frag) (mg:fZ->Option fV):Sp:=λvs H _ E=>E2 λ(r:V) (m:Int)=>vs=[r,.int m]/\¬ (1 <= m/\m <= 1000000000000000000)/\Thr mg "BadTimes" E H
def EX (K:W.Frag):Sp:=λvs H Q _=>E3 λ(r:fT) (R:Rl) (n:Nat)=>vs=[.ref r,.int ((n:Int)+1)]/\H r=some (.tup R.vs)/\R.Ok/\(n:Int)+1 <= 1000000000000000000 /\
 ∀ (H':Hp) (t:fT),Same H H'->H' t=some (.tup (R.rep n).vs)->Q (.ref t) H'
theorem VX (F:Fun K "repeated" "repeated" GM f fd) (T:Txt K mg) (o_q25:Ok P w K mg base "check_times" W2 1 aV) (o_joined:Ok P w K mg base "joined" J9 2 (JC K)):Ym P w K mg base CX0 3 f fd CQ (EX K):=by
  obtain ⟨r,R,n,rfl,hR,ho,hn,q⟩:=‹B8›
  refine ⟨_,(Zc (Zp (Zg o_q25 hr (pa1 (pv 1)))) (Zc (psn 2 B8.nd (pv 0)) (Zc (psn 3 B8.nd (pv 0)) (Zc (psn 4 B8.nd (Zh Yj (pv 1) Za)) (Zc (LV PassesOwn.never (pcr CM (pv 4) Za) (Zc (Yk (pcr Jv (Zh Yn (pv 4) Za) Za) (Ze (psn 2 B8.nd (Zg o_joined hr (pa2 (pv 2) (pv 3))))) Zn) (Zc (psn 3 B8.nd (Zg o_joined hr (pa2 (pv 3) (pv 3)))) (Ze (psn 4 B8.nd (Zh Jk (pv 4) Za)))))) (Ze (Zi (pv 2)))))))),?_⟩
  try dsimp only [cK_,cL_]
  refine ⟨_,Z,_,Z,by lia,hn,?_⟩;refine ⟨_,Z,?_⟩;refine ⟨_,Z,?_⟩;refine ⟨_,Z,_,_,Z,Z,?_⟩;refine X2 (λσ H1=>∃ (a b L:Nat) (u v:fT),Same H H1/\H1 u=some (.tup (R.rep a).vs)/\H1 v=some (.tup (R.rep b).vs)/\a+L * (b+1)=n/\σ=[some (.ref r),some (.int ((n:Int)+1)),some (.ref u),some (.ref v),some (.int L)]) (λσ _=>match σ with | [_,_,_,_,some (.int i)]=>i.toNat | _=>0) ⟨0,0,n,r,r,Same.refl H,hR,hR,by lia,congrArg (λz:Int=>[some (V.ref r),some (V.int ((n:Int)+1)),some (V.ref r),some (V.ref r),some (V.int z)]) (show (n:Int)+1 - 1=n by lia)⟩ ?_ ?_
  ·rintro σ H1 ⟨a,b,L,u,v,s1,hu,hv,e,rfl⟩;refine ⟨_,Z,_,_,Z,Z,_,Z,?_⟩;refine Jl (λh=>?_) (λh=>?_)
   ·have hL:0 < (L:Int):=D8_ h;refine E1 (λσ' H'=>E2 λ(a':Nat) (u':fT)=>Same H1 H'/\H' u' = some (.tup (R.rep a').vs)/\a' = (if L % 2=1 then a+b+1 else a)/\σ' = [some (.ref r),some (.int ((n:Int)+1)),some (.ref u'),some (.ref v),some (.int L)]) (λnx hnx=>?_) ?_
    ·refine ⟨_,Z,_,_,Z,Z,(show (0:Int) < 2 by decide),Z,_,Z,?_⟩;refine Jl (λh2=>?_) (λh2=>?_)
     ·have h2:(L:Int) % 2=1:=V.int.inj (D8_ h2);refine ⟨_,Z,_,Z,u,v,_,_,_,_,_,_,Z,SqT.of hu,SqT.of hv,Rl.rep_ok ho a,Rl.rep_ok ho b,λH2 t s2 ft ht=>?_⟩;refine hnx _ _ ⟨a+b+1,t,s2,?_,by rw [if_pos (by lia)],Z⟩;rw [<- Rl.rep_add ho a b];exact ht
     ·have h2:¬ ((L:Int) % 2=1):=λc=>h2 (D7_ (congrArg V.int c));exact hnx _ _ ⟨a,u,Same.refl _,hu,by rw [if_neg (by lia)],Z⟩
    ·rintro σ' H' ⟨a',u',s2,hu',ea,rfl⟩;refine ⟨_,Z,_,Z,v,v,_,_,_,_,_,_,Z,SqT.of (s2 _ _ hv),SqT.of (s2 _ _ hv),Rl.rep_ok ho b,Rl.rep_ok ho b,λH3 t s3 ft ht=>?_⟩;refine ⟨_,Z,_,_,Z,Z,(show (0:Int) < 2/\(2:Int) < 1073741824 by decide),?_⟩;have eL:L / 2 < L:=by lia
     refine ⟨⟨a',b+b+1,L / 2,u',t,s1.trans (s2.trans s3),s3 _ _ hu',?_,?_,Z⟩,?_⟩
     ·rw [<- Rl.rep_add ho b b];exact ht
     ·rw [ea,<- e];have e2:b+b+1+1=2 * (b+1):=by lia
      rw [e2,<- Nat.mul_assoc];generalize b+1=c at *;split
      ·have:L=L / 2 * 2+1:=by lia
       generalize L / 2 * 2=z at *;rw [this,Nat.add_mul];lia
      ·have:L=L / 2 * 2:=by lia
       rw [<- this]
     ·exact eL
   ·have hL:¬ (0 < (L:Int)):=λc=>h (D7_ c);have eL:L=0:=by lia
    subst eL;have ea:a=n:=by lia
    subst ea;exact ⟨_,Z,q _ u s1 hu⟩
  ·rintro σ H1 Q1 Q2 m ⟨v,hv,i,j,e1,e2,b,e3,q⟩;exact ⟨v,hv,i,j,e1,e2,b,e3,m _ _ q⟩
theorem S2 (F:Fun K "repeated" "repeated" GM f fd) (T:Txt K mg) (o_q25X:OkX P w K mg base "check_times" W2 1 (W3 mg)):Ym P w K mg base (CX1 P w) 3 f fd CQ (KY K mg):=by
  obtain ⟨r,m,rfl,bad,hE⟩:=‹¬B8›
  refine ⟨_,(Zc (Zp (Yc o_q25X hr (Yu (E:=E)) (pa1 (pv 1)))) CD),?_⟩
  try dsimp only [cK_,cL_]
  exact ⟨_,Z,m,Z,λg=>absurd g bad,λ_=>hE⟩
abbrev s_q21:hZ:=top 47
abbrev N_q21:List fZ:=["full","season","amount"]
abbrev Z7:List fZ:=["full","season"]
theorem WF:Zj N_q21 Z7 (Zd s_q21):=mk9
def cN (K:W.Frag) (mg:fZ->Option fV):Sp:=λvs H Q E=>E3 λ(full:Int) (t:fT) (z:Bool × Int)=>vs=[.int full,.ref t]/\H t=some (.tup [.str (AX z.1),.int z.2])/\0 <= full/\(Yl z.2 ->
 ∀ (H':Hp) (r:fT),Same H H'->H r=none->H' r=some (.tup (CY full z).vs)->Q (.ref r) H')/\(¬ Yl z.2->Thr mg "BadAmount" E H)
def X7 (K:W.Frag):Sp:=λvs H Q _=>E3 λ(full:Int) (t:fT) (z:Bool × Int)=>vs=[.int full,.ref t]/\H t=some (.tup [.str (AX z.1),.int z.2])/\0 <= full/\0 <= z.2/\z.2 <= 1000000 /\
 ∀ (H':Hp) (r:fT),Same H H'->H r=none->H' r=some (.tup (CY full z).vs)->Q (.ref r) H'
theorem ok_q21 (F:Fun K "season_rule" "season_rule" s_q21 f fd) (T:Txt K mg) (o_q7:Ok P w K mg base "check_amount" ZD 1 W4):Ym P w K mg base CX0 2 f fd Z7 (X7 K):=by
  obtain ⟨full,t,z,rfl,hT,hf,z0,z1,q⟩:=‹WF›
  refine ⟨_,(Zc (psn 2 WF.nd (pxt (pv 1) Za)) (Zc (Zp (Zg o_q7 hr (pa1 (pv 2)))) (Zc (Yk (pcr Jv (pxt (pv 1) Za) Zs) (Ze (Zi (Jc (pa3 (pv 2) (O6 (by rfl) T.n_min (pv 2) (pv 0)) (pv 0))))) Zn) (Ze (Zi (Jc (pa3 (KK EQ (pv 2)) Za (P6 (by rfl) T.n_max Za (Zh Yj (pv 0) (pv 2)))))))))),?_⟩
  try dsimp only [cK_,cL_]
  refine ⟨_,Z,t,_,_,_,Z,Z,SqT.of hT,Z,?_⟩;refine ⟨_,Z,z.2,Z,z0,z1,?_⟩;refine ⟨_,Z,t,_,_,_,Z,Z,SqT.of hT,Z,Z,_,Z,?_⟩;rw [EG];unfold CY at q;cases e:z.1 with
  | true=>
   rw [e,if_pos Z] at q;refine IA ?_;refine ⟨_,Z,_,Z,_,Z,_,_,Z,_,Z,sz9,λr hr=>q _ r (Same.upd hr) hr (Zb.trans ?_)⟩;show some (HO.tup [.int z.2,.int (if full < z.2 then full else z.2),.int full])=some (HO.tup [.int z.2,.int (min full z.2),.int full]);rw [show (if full < z.2 then full else z.2)=min full z.2 by split <;> lia]
  | false=>
   rw [e,if_neg (by simp)] at q;refine CV ?_;refine ⟨_,Z,_,Z,_,Z,_,Z,_,_,Z,Z,_,_,Z,sz9,λr hr=>q _ r (Same.upd hr) hr (Zb.trans ?_)⟩;show some (HO.tup [.int (-z.2),.int 0,.int (if (0:Int) < full - z.2 then full - z.2 else 0)])=some (HO.tup [.int (-z.2),.int 0,.int (max 0 (full - z.2))]);rw [show (if (0:Int) < full - z.2 then full - z.2 else 0)=max 0 (full - z.2) by split <;> lia]
theorem ok_q21X (F:Fun K "season_rule" "season_rule" s_q21 f fd) (T:Txt K mg) (o_q7X:OkX P w K mg base "check_amount" ZD 1 (SE mg)):Ym P w K mg base (CX1 P w) 2 f fd Z7 (cN K mg):=by
  obtain ⟨full,t,z,rfl,hT,hf,q,q2⟩:=‹¬WF›
  refine ⟨_,(Zc (psn 2 WF.nd (pxt (pv 1) Za)) (Zc (Zp (Yc o_q7X hr (Yu (E:=E)) (pa1 (pv 2)))) (Zc (Yk (pcr Jv (pxt (pv 1) Za) Zs) (Ze (Zi (Jc (pa3 (pv 2) (O6 (by rfl) T.n_min (pv 2) (pv 0)) (pv 0))))) Zn) (Ze (Zi (Jc (pa3 (KK EQ (pv 2)) Za (P6 (by rfl) T.n_max Za (Zh Yj (pv 0) (pv 2)))))))))),?_⟩
  try dsimp only [cK_,cL_]
  refine ⟨_,Z,t,_,_,_,Z,Z,SqT.of hT,Z,?_⟩;refine ⟨_,Z,z.2,Z,λhg=>?_,q2⟩;have q:=q hg;obtain ⟨z0,z1⟩:=hg;refine ⟨_,Z,t,_,_,_,Z,Z,SqT.of hT,Z,Z,_,Z,?_⟩;rw [EG];unfold CY at q;cases e:z.1 with
  | true=>
   rw [e,if_pos Z] at q;refine IA ?_;refine ⟨_,Z,_,Z,_,Z,_,_,Z,_,Z,sz9,λr hr=>q _ r (Same.upd hr) hr (Zb.trans ?_)⟩;show some (HO.tup [.int z.2,.int (if full < z.2 then full else z.2),.int full])=some (HO.tup [.int z.2,.int (min full z.2),.int full]);rw [show (if full < z.2 then full else z.2)=min full z.2 by split <;> lia]
  | false=>
   rw [e,if_neg (by simp)] at q;refine CV ?_;refine ⟨_,Z,_,Z,_,Z,_,Z,_,_,Z,Z,_,_,Z,sz9,λr hr=>q _ r (Same.upd hr) hr (Zb.trans ?_)⟩;show some (HO.tup [.int (-z.2),.int 0,.int (if (0:Int) < full - z.2 then full - z.2 else 0)])=some (HO.tup [.int (-z.2),.int 0,.int (max 0 (full - z.2))]);rw [show (if (0:Int) < full - z.2 then full - z.2 else 0)=max 0 (full - z.2) by split <;> lia]
abbrev GO:hZ:=top 48
abbrev ZF:List fZ:=["full","seasons","rule","season"]
abbrev AS:List fZ:=["full","seasons"]
theorem B6:Zj ZF AS (Zd GO):=mk9
def LF (K:W.Frag) (mg:fZ->Option fV):Sp:=λvs H Q E=>E4 λ(full:Int) (p:fT) (ts:List fT) (ss:List (Bool × Int))=>vs=[.int full,.ref p]/\SqL K H p (ts.map V.ref)/\Zu H ts ss/\0 <= full/\(∃ z ∈ ss,¬ Yl z.2)/\ss.length <= 1000/\Thr mg "BadAmount" E H
def BV (K:W.Frag):Sp:=λvs H Q _=>E4 λ(full:Int) (p:fT) (ts:List fT) (ss:List (Bool × Int))=>vs=[.int full,.ref p]/\SqL K H p (ts.map V.ref)/\Zu H ts ss/\0 <= full/\(∀ z ∈ ss,0 <= z.2/\z.2 <= 1000000)/\ss.length <= 1000 /\
 ∀ (H':Hp) (r:fT),Same H H'->H r=none->H' r=some (.tup (CJ full ss).vs)->Q (.ref r) H'
theorem UO (F:Fun K "row_rule" "row_rule" GO f fd) (T:Txt K mg) (o_still:Ok P w K mg base "still" PP 1 Q8) (o_q21:Ok P w K mg base "season_rule" Z7 2 (X7 K)) (o_joined:Ok P w K mg base "joined" J9 2 (JC K)):Ym P w K mg base CX0 3 f fd AS (BV K):=by
  obtain ⟨full,p,ts,ss,rfl,hP,hS,hf,hz,hn,q⟩:=‹B6›
  refine ⟨_,(Zc (psn 2 B6.nd (Zg o_still hr (pa1 (pv 0)))) (Zc (AO PassesOwn.never Z (BN (pv 1)) (Zw (i:=3) B6.nd Z (Or.inl Z)) (Ze (psn 2 B6.nd (Zg o_joined hr (pa2 (pv 2) (Zg o_q21 hr (pa2 (pv 0) (pv 3)))))))) (Ze (Zi (pv 2))))),?_⟩
  try dsimp only [cK_,cL_]
  refine ⟨_,Z,full,Z,λH1 r1 s1 f1 hr1=>?_⟩;refine ⟨_,Z,p,Z,⟨_,s1.seq hP⟩,?_⟩;refine D9 (xs:=ts.map V.ref) (λi σ H2=>Same H H2/\∃ (r:fT) (v:Option V),H r=none/\H2 r=some (.tup (CJ full (ss.take i)).vs)/\σ=[some (.int full),some (.ref p),some (.ref r),v]) ⟨s1,r1,none,f1,hr1,Z⟩ (λi σ H2 _ z=>z.1.seq hP) ?_ ?_
  ·rintro i x σ H2 hx ⟨s2,r,v,fr,hr2,rfl⟩;obtain ⟨t,z,rfl,hzi,ht⟩:=hS.item hx;have hzz:=hz z (i7 hzi);have hza:∀ z ∈ ss.take i,0 <= z.2:=λy hy=>(hz y (jM hy)).1;refine ⟨_,Z,_,Z,_,Z,full,t,z,Z,s2 _ _ ht,hf,hzz.1,hzz.2,λH3 u s3 fu hu=>?_⟩;refine ⟨r,u,_,_,_,_,_,_,Z,s3.tup (SqT.of hr2),SqT.of hu,DL hf _,JU hf hzz.1,λH4 c s4 fc hc=>?_⟩;refine ⟨s2.trans (s3.trans s4),c,_,none_of (s2.trans s3) fc,?_,Z⟩;rw [B5 hzi,NE hf hza hzz.1];exact hc
  ·rintro σ H2 ⟨s2,r,v,fr,hr2,rfl⟩;rw [fU,hS.len,iZ] at hr2;exact ⟨_,Z,q _ r s2 fr hr2⟩
theorem SA (F:Fun K "row_rule" "row_rule" GO f fd) (T:Txt K mg) (o_still:Ok P w K mg base "still" PP 1 Q8) (o_q21X:OkX P w K mg base "season_rule" Z7 2 (cN K mg)) (o_joined:Ok P w K mg base "joined" J9 2 (JC K)):Ym P w K mg base (CX1 P w) 3 f fd AS (LF K mg):=by
  obtain ⟨full,p,ts,ss,rfl,hP,hS,hf,hbad,hn,q⟩:=‹¬B6›
  refine ⟨_,(Zc (psn 2 B6.nd (Zg o_still hr (pa1 (pv 0)))) (Zc (AO PassesOwn.leaving Z (BN (pv 1)) (Zw (i:=3) B6.nd Z (Or.inl Z)) (Ze (psn 2 B6.nd (Zg o_joined hr (pa2 (pv 2) (Yc o_q21X hr (Yu (E:=E)) (pa2 (pv 0) (pv 3)))))))) (Ze (Zi (pv 2))))),?_⟩
  try dsimp only [cK_,cL_]
  refine ⟨_,Z,full,Z,λH1 r1 s1 f1 hr1=>?_⟩;refine ⟨_,Z,p,Z,⟨_,s1.seq hP⟩,?_⟩;refine D9 (xs:=ts.map V.ref) (λi σ H2=>(∀ z ∈ ss.take i,Yl z.2)/\Same H H2/\∃ (r:fT) (v:Option V),H r=none/\H2 r=some (.tup (CJ full (ss.take i)).vs)/\σ=[some (.int full),some (.ref p),some (.ref r),v]) ⟨by simp,s1,r1,none,f1,hr1,Z⟩ (λi σ H2 _ z=>z.2.1.seq hP) ?_ ?_
  ·rintro i x σ H2 hx ⟨hz,s2,r,v,fr,hr2,rfl⟩;obtain ⟨t,z,rfl,hzi,ht⟩:=hS.item hx;have hza:∀ z ∈ ss.take i,0 <= z.2:=λy hy=>(hz y hy).1;refine ⟨_,Z,_,Z,_,Z,full,t,z,Z,s2 _ _ ht,hf,λhzz H3 u s3 fu hu=>?_,λ_=>q.same s2⟩;refine ⟨r,u,_,_,_,_,_,_,Z,s3.tup (SqT.of hr2),SqT.of hu,DL hf _,JU hf hzz.1,λH4 c s4 fc hc=>?_⟩;refine ⟨λy hy=>?_,s2.trans (s3.trans s4),c,_,none_of (s2.trans s3) fc,?_,Z⟩
   ·rw [B5 hzi] at hy;rcases iM.mp hy with h | h
    ·exact hz y h
    ·have:y=z:=by simpa using h
     rw [this];exact hzz
   ·rw [B5 hzi,NE hf hza hzz.1];exact hc
  ·rintro σ H2 ⟨hz,s2,r,v,fr,hr2,rfl⟩;rw [fU,hS.len,iZ] at hz;obtain ⟨z,hm,hb⟩:=hbad;exact absurd (hz z hm) hb
abbrev ES:hZ:=top 49
abbrev VO:List fZ:=["full","year","times"]
abbrev DM:List fZ:=["full","year","times"]
theorem LD:Zj VO DM (Zd ES):=mk9
def IR (K:W.Frag) (mg:fZ->Option fV):Sp:=λvs H _ E=>E5 λ(full:Int) (c:fT) (ts:List fT) (ss:List (Bool × Int)) (m:Int)=>vs=[.int full,.ref c,.int m]/\SqL K H c (ts.map V.ref)/\Zu H ts ss/\(¬ (1 <= ss.length/\ss.length <= 12)->Thr mg "BadYear" E H)/\(1 <= ss.length/\ss.length <= 12->¬ (∀ z ∈ ss,Yl z.2)->Thr mg "BadAmount" E H)/\0 <= full/\(1 <= ss.length/\ss.length <= 12->(∀ z ∈ ss,Yl z.2)->¬ (1 <= m/\m <= 1000000000000000000)/\Thr mg "BadTimes" E H)
def KQ (K:W.Frag):Sp:=λvs H Q _=>E5 λ(full:Int) (p:fT) (ts:List fT) (ss:List (Bool × Int)) (n:Nat)=>vs=[.int full,.ref p,.int ((n:Int)+1)]/\SqL K H p (ts.map V.ref)/\Zu H ts ss/\0 <= full/\(∀ z ∈ ss,0 <= z.2/\z.2 <= 1000000)/\1 <= ss.length/\ss.length <= 12/\(n:Int)+1 <= 1000000000000000000 /\
 ∀ (H':Hp) (r:fT),Same H H'->H' r=some (.tup ((CJ full ss).rep n).vs)->Q (.ref r) H'
theorem UB (F:Fun K "year_rule" "year_rule" ES f fd) (T:Txt K mg) (o_q30:Ok P w K mg base "check_year" KI 2 (OC K)) (o_row_rule:Ok P w K mg base "row_rule" AS 3 (BV K)) (o_repeated:Ok P w K mg base "repeated" CQ 3 (EX K)):Ym P w K mg base CX0 4 f fd DM (KQ K):=by
  obtain ⟨full,p,ts,ss,n,rfl,hP,hS,hf,hz,h1,h2,hn,q⟩:=‹LD›
  refine ⟨_,(Zc (Zp (Zg o_q30 hr (pa1 (pv 1)))) (Ze (Zi (Zg o_repeated hr (pa2 (Zg o_row_rule hr (pa2 (pv 0) (pv 1))) (pv 2)))))),?_⟩
  try dsimp only [cK_,cL_]
  refine ⟨_,Z,p,ts,ss,Z,hP,hS,hz,h1,h2,?_⟩;refine ⟨_,Z,_,Z,full,p,ts,ss,Z,hP,hS,hf,hz,by lia,λH1 r1 s1 f1 e1=>?_⟩;exact ⟨_,Z,r1,CJ full ss,n,Z,e1,DL hf ss,hn,λH2 t s2 e2=>q H2 t (s1.trans s2) e2⟩
theorem PF (F:Fun K "year_rule" "year_rule" ES f fd) (T:Txt K mg) (o_q30X:OkX P w K mg base "check_year" KI 2 (KD K mg)) (o_row_rule:Ok P w K mg base "row_rule" AS 3 (BV K)) (o_repeatedX:OkX P w K mg base "repeated" CQ 3 (KY K mg)):Ym P w K mg base (CX1 P w) 4 f fd DM (IR K mg):=by
  obtain ⟨full,c,ts,ss,m,rfl,hC,hS,e5,e6,hf,e7⟩:=‹¬LD›;by_cases hg:(1 <= ss.length/\ss.length <= 12)/\(∀ z ∈ ss,Yl z.2)
  ·obtain ⟨hl,hz⟩:=hg;obtain ⟨bad,hE⟩:=e7 hl hz;refine ⟨_,(Zc (Zp (Yc o_q30X hr (Yu (E:=E)) (pa1 (pv 1)))) (Ze (Zi (Yc o_repeatedX hr (Yu (E:=E)) (pa2 (Zg o_row_rule hr (pa2 (pv 0) (pv 1))) (pv 2)))))),?_⟩
   try dsimp only [cK_,cL_]
   exact ⟨_,Z,c,ts,ss,Z,hC,hS,λb=>absurd hl b,λ_=>⟨λ_=>⟨_,Z,_,Z,full,c,ts,ss,Z,hC,hS,hf,hz,by lia,λH1 r s1 _ _=>⟨_,Z,.ref r,m,Z,bad,hE.same s1⟩⟩,λb=>absurd hz b⟩⟩
  ·refine ⟨_,(Zc (Zp (Yc o_q30X hr (Yu (E:=E)) (pa1 (pv 1)))) CD),?_⟩
   try dsimp only [cK_,cL_]
   exact ⟨_,Z,c,ts,ss,Z,hC,hS,e5,λhl=>⟨λhz=>absurd ⟨hl,hz⟩ hg,e6 hl⟩⟩
abbrev s_q16:hZ:=top 51
abbrev N_q16:List fZ:=["numbers","sums","so_far","number"]
abbrev P_q16:List fZ:=["numbers"]
theorem T2:Zj N_q16 P_q16 (Zd s_q16):=mk9
def cV (K:W.Frag):Sp:=λvs H Q _=>E2 λ(a:fT) (ns:List Int)=>vs=[.ref a]/\SqL K H a (ns.map V.int)/\ns.length <= 1000 /\
 ∀ (H':Hp) (p:fT),Same H H'->H p=none->H' p=some (.lst ((BZ ns).map V.int))->Q (.ref p) H'
theorem ok_q16 (F:Fun K "each_down_to" "each_down_to" s_q16 f fd) (T:Txt K mg):Ym P w K mg base CX0 1 f fd P_q16 (cV K):=by
  obtain ⟨a,ns,rfl,hA,hn,q⟩:=‹T2›
  refine ⟨_,(Zc (psn 1 T2.nd (Zx Jh)) (Zc (psn 2 T2.nd Za) (Zc (AO PassesOwn.never Z (pi_rev (by rfl) T.n_reversed (pa1 (pv 0))) (Zw (i:=3) T2.nd Z (Or.inl Z)) (Zc (psn 2 T2.nd (Zh Zz (pv 2) (pv 3))) (Ze (Zp (D2 gJ gH gI Yo (pv 1) (pa1 (pv 2))))))) (Ze (Zi (Y7 T.n_list T.n_reversed (pa1 (pv 1)))))))),?_⟩
  try dsimp only [cK_,cL_]
  refine ⟨sz9,λp hp=>?_⟩;refine ⟨_,Z,a,_,Z,(Same.upd hp).seq hA,?_⟩;refine for_rev (xs:=ns.map V.int) (λi σ H2=>∃ (v:Option V),σ=[some (.ref a),some (.ref p),some (.int (down ns (ns.length - i))),v]/\H2=upd H p (.lst ((FB ns i).map V.int))) ⟨none,?_,Z⟩ ?_ ?_ ?_
  ·rw [Nat.sub_zero,BT (gA _)];rfl
  ·rintro i σ H2 _ ⟨v,rfl,rfl⟩;exact (Same.upd hp).seq hA
  ·rintro i x σ H2 hi hx ⟨v,rfl,rfl⟩;rw [fU] at hi hx;rw [getI (by lia)] at hx;cases hx;refine ⟨_,Z,_,Z,_,_,Z,Z,?_⟩;have e:down ns (ns.length - i)+ns.getD (ns.length - 1 - i) 0=down ns (ns.length - (i+1)):=by
    have h:=A8 (hs:=ns) (i:=ns.length - (i+1)) (by lia);rw [show ns.length - (i+1)+1=ns.length - i by lia,show ns.length - (i+1)=ns.length - 1 - i by lia] at h;rw [show ns.length - (i+1)=ns.length - 1 - i by lia]
    lia
   refine ⟨_,Z,.inl ⟨Z,_,SqL.of Zb⟩,_,Z,p,_,_,Z,Z,Zb,Js (by rw [fU,VP];lia),?_⟩;refine ⟨some (.int (ns.getD (ns.length - 1 - i) 0)),?_,?_⟩
   ·show [some (V.ref a),some (.ref p),some (.int (down ns (ns.length - i)+ns.getD (ns.length - 1 - i) 0)),some (.int (ns.getD (ns.length - 1 - i) 0))]=_;rw [e]
   ·show upd (upd H p _) p (.lst ((FB ns i).map V.int ++ [.int (down ns (ns.length - i)+ns.getD (ns.length - 1 - i) 0)]))=_;rw [CK,e,TU,gO];rfl
  ·rintro σ H2 ⟨v,rfl,rfl⟩;rw [fU];refine ⟨_,Z,p,_,Z,SqL.of Zb,λl hl=>?_⟩;refine q _ l ((Same.upd hp).trans (Same.upd hl)) (none_of (Same.upd hp) hl) (Zb.trans ?_);rw [<- List.map_reverse,UJ]
abbrev s_q23:hZ:=top 52
abbrev N_q23:List fZ:=["needs","heats","year","times","downs","full","held"]
abbrev P_q23:List fZ:=["needs","heats","year","times"]
theorem WI:Zj N_q23 P_q23 (Zd s_q23):=mk9
def sp_q23 (K:W.Frag):Sp:=λvs H Q _=>E8 λ(a b c:fT) (fQ fR:List Int) (ts:List fT) (ss:List (Bool × Int)) (n:Nat)=>vs=[.ref a,.ref b,.ref c,.int ((n:Int)+1)]/\SqL K H a (fQ.map V.int)/\SqL K H b (fR.map V.int)/\SqL K H c (ts.map V.ref)/\Zu H ts ss/\Zr fQ fR/\1 <= fQ.length/\fQ.length <= 1000/\(∀ z ∈ ss,0 <= z.2/\z.2 <= 1000000)/\ss.length <= 1000/\(n:Int)+1 <= 1000000000000000000 /\
 ∀ (H':Hp) (p:fT),Same H H'->H p=none->H' p=some (.lst ((Zm fQ fR ss (n+1)).fR.map V.int))->Q (.ref p) H'
theorem ok_q23 (F:Fun K "heats_later" "heats_later" s_q23 f fd) (T:Txt K mg) (o_q16:Ok P w K mg base "each_down_to" P_q16 1 (cV K)) (o_row_rule:Ok P w K mg base "row_rule" AS 3 (BV K)) (o_repeated:Ok P w K mg base "repeated" CQ 3 (EX K)) (o_applied:Ok P w K mg base "applied" DG 1 (DE K)):Ym P w K mg base CX0 4 f fd P_q23 (sp_q23 K):=by
  obtain ⟨a,b,c,fQ,fR,ts,ss,n,rfl,hA,hB,hC,hS,hO,hn1,hn,hz,hsl,hnn,q⟩:=‹WI›;have hz0:∀ z ∈ ss,0 <= z.2:=λz h=>(hz z h).1;have hY:=A9 hO ss (n+1)
  refine ⟨_,(Zc (psn 4 WI.nd (Zx Jh)) (Zc (AO PassesOwn.never Z (NN (by rfl) T.n_zip (pa2 (Zg o_q16 hr (pa1 (pv 0))) (Zg o_q16 hr (pa1 (pv 1))))) (WA (n:=2) (by rfl) (Jp (Zw (i:=5) WI.nd Z (Or.inl Z)) (Jp (Zw (i:=6) WI.nd Z (Or.inl Z)) FC))) (Ze (Zp (D2 gJ gH gI Yo (pv 4) (pa1 (Zg o_applied hr (pa2 (Zg o_repeated hr (pa2 (Zg o_row_rule hr (pa2 (pv 5) (pv 2))) (pv 3))) (pv 6)))))))) (Ze (Zi (EB Z (Yi.of (T:=["down","above"]) (js:=[]) (Zd s_q23).names N_q23 Z Z Z D9_) (NN (by rfl) T.n_zip (pa2 (pv 4) (Zh ME (Jz BJ (pv 4) (B7 Za) BY) (Zx (pa1 Za))))) (λ_ _ _ _=>⟨(N1 K (n:=2) (by rfl) (Jp (Zw (i:=0) (by show List.Nodup (["down","above"]:List fZ);decide +kernel) Z (Or.inl Z)) (Jp (Zw (i:=1) (by show List.Nodup (["down","above"]:List fZ);decide +kernel) Z (Or.inl Z)) FC))),CS,(Zh Yj (pv 0) (pv 1))⟩)))))),?_⟩
  try dsimp only [cK_,cL_]
  refine ⟨sz9,λp fp=>?_⟩;have s0:=Same.upd (o:=.lst []) fp;refine ⟨_,Z,a,fQ,Z,s0.seq hA,hn,λH1 u1 s1 f1 h1=>?_⟩;have s01:=s0.trans s1;refine ⟨_,Z,b,fR,Z,s01.seq hB,by rw [hO.len];exact hn,λH2 u2 s2 f2 h2=>?_⟩;have s02:=s01.trans s2;have n1:u1 ≠ p:=by rintro rfl;rw [Zb] at f1;cases f1
  have n2:u2 ≠ p:=by rintro rfl;rw [s1 _ _ Zb] at f2;cases f2
  refine ⟨u1,u2,Z,⟨_,SqL.of (s2 _ _ h1)⟩,⟨_,SqL.of h2⟩,?_⟩;refine dE (xs:=(BZ fQ).map V.int) (ys:=(BZ fR).map V.int) (by rw [fU,fU,AC,AC,hO.len]) (λi σ H3=>(∃ v w,σ=[some (.ref a),some (.ref b),some (.ref c),some (.int ((n:Int)+1)),some (.ref p),v,w])/\Same H H3/\H3 u1=some (.lst ((BZ fQ).map V.int))/\H3 u2=some (.lst ((BZ fR).map V.int))/\H3 p=some (.lst (((i9 i).map (down (Zm fQ fR ss (n+1)).fR)).map V.int))) ?_ ?_ ?_ ?_
  ·exact ⟨⟨none,none,Z⟩,s02,s2 _ _ h1,h2,s2 _ _ (s1 _ _ Zb)⟩
  ·rintro i σ H3 _ ⟨_,_,e1,e2,_⟩;exact ⟨SqL.of e1,SqL.of e2⟩
  ·rintro i x y t σ H3 hx hy ⟨⟨v,w,rfl⟩,s3,e1,e2,e3⟩ ht;have hi:i < fQ.length:=by
    have:=(gK.mp hx).1;rw [fU,AC] at this;exact this
   rw [gE,JI hi] at hx;rw [gE,JI (by rw [hO.len];exact hi)] at hy;cases hx;cases hy;have dN:=hO.fQ.down i (by lia);have dH:=hO.down i (by lia);have s4:=s3.trans (Same.upd (o:=.tup [.int (down fQ i),.int (down fR i)]) ht);have k1:=Same.upd (o:=.tup [.int (down fQ i),.int (down fR i)]) ht _ _ e1;have k2:=Same.upd (o:=.tup [.int (down fQ i),.int (down fR i)]) ht _ _ e2;have k3:=Same.upd (o:=.tup [.int (down fQ i),.int (down fR i)]) ht _ _ e3;refine ⟨t,_,Z,SqT.of Zb,Z,_,_,Z,_,_,Z,Z,?_⟩;refine ⟨_,Z,.inl ⟨Z,_,SqL.of k3⟩,?_⟩;refine ⟨_,Z,_,Z,down fQ i,c,ts,ss,Z,s4.seq hC,hS.same s4,dN.1,hz,hsl,λH5 r5 s5 f5 e5=>?_⟩;refine ⟨_,Z,r5,CJ (down fQ i) ss,n,Z,e5,DL dN.1 ss,hnn,λH6 r6 s6 e6=>?_⟩;refine ⟨_,Z,r6,_,_,_,_,Z,SqT.of e6,Rl.rep_ok (DL dN.1 ss) n,λH7 s7=>?_⟩;have s47:=(s5.trans s6).trans s7;have ev:Ju (down fR i+((CJ (down fQ i) ss).rep n).d) ((CJ (down fQ i) ss).rep n).l ((CJ (down fQ i) ss).rep n).m=down (Zm fQ fR ss (n+1)).fR i:=by
    have:=ZT (full:=down fQ i) (ss:=ss) dN.1 hz0 dH.1 dH.2 n;rw [K6 hO hz0 (by lia),<- this];rfl
   refine ⟨p,_,_,Z,Z,s47 _ _ k3,Js (by simp only [fU,iS];lia),?_⟩;refine ⟨⟨_,_,Z⟩,(s4.trans s47).set fp,by rw [Zk n1];exact s47 _ _ k1,by rw [Zk n2];exact s47 _ _ k2,?_⟩;rw [Zb,ev,kF,gO,gO];rfl
  ·rintro σ H3 ⟨⟨v,w,rfl⟩,s3,e1,e2,e3⟩;rw [fU,AC] at e3;have hl:(Zm fQ fR ss (n+1)).fR.length=fQ.length:=hY.len;generalize (Zm fQ fR ss (n+1)).fR=R at *;have eD:BZ R=(i9 fQ.length).map (down R):=by unfold BZ;rw [hl]
   rw [<- eD] at e3;have ec:DD ((BZ R).map V.int) (some ((1:Nat):Int)) none=((BZ R).drop 1).map V.int:=by rw [DO,k6]
   refine ⟨_,Z,_,Z,1,Z,p,_,Z,SqL.of e3,λc1 f1=>?_⟩;have t1:=Same.upd (o:=.lst (DD ((BZ R).map V.int) (some 1) none)) f1;refine ⟨sz9,λc2 f2=>?_⟩;have t2:=Same.upd (o:=.lst [.int 0]) f2;refine ⟨c1,c2,_,_,Z,Z,t2 _ _ Zb,Zb,E9 (by rw [show DD ((BZ R).map V.int) (some 1) none=_ from ec];simp only [fU,k8,AC,iN,jS];lia),λc3 f3=>?_⟩;have t3:=Same.upd (o:=.lst (DD ((BZ R).map V.int) (some 1) none ++ [.int 0])) f3;have t13:=t1.trans (t2.trans t3);have e4:=t13 _ _ e3;have e5:DD ((BZ R).map V.int) (some 1) none ++ [V.int 0]=((BZ R).drop 1 ++ [0]).map V.int:=by
    rw [show DD ((BZ R).map V.int) (some 1) none=_ from ec,gO];rfl
   refine ⟨p,c3,Z,⟨_,SqL.of e4⟩,⟨_,SqL.of Zb⟩,λpw fpw=>?_⟩;refine D6 (xs:=BZ R) (ys:=(BZ R).drop 1 ++ [0]) (λd a=>d - a) (by rw [i6,k8,AC,hl];show _=_ - 1+1;lia) (by rw [AC,hl];exact hn) (SqL.of e4) ?_ fpw (λx y H Q' q=>⟨_,Z,_,Z,_,_,Z,Z,q⟩) λH5 s5 h5=>?_
   ·exact SqL.of (Zb.trans (by rw [e5]))
   ·rw [XZ (by lia)] at h5;exact q _ pw ((s3.trans t13).trans s5) (none_of (s3.trans t13) fpw) h5
abbrev s_q10:hZ:=top 53
abbrev N_q10:List fZ:=["needs","heats","year","times","rule","each","held","over"]
abbrev P_q10:List fZ:=["needs","heats","year","times"]
theorem SH:Zj N_q10 P_q10 (Zd s_q10):=mk9
def sp_q10 (K:W.Frag):Sp:=λvs H Q _=>E8 λ(a b c:fT) (fQ fR:List Int) (ts:List fT) (ss:List (Bool × Int)) (n:Nat)=>vs=[.ref a,.ref b,.ref c,.int ((n:Int)+1)]/\SqL K H a (fQ.map V.int)/\SqL K H b (fR.map V.int)/\SqL K H c (ts.map V.ref)/\Zu H ts ss/\Zr fQ fR/\fQ.length <= 1000/\(∀ z ∈ ss,0 <= z.2/\z.2 <= 1000000)/\ss.length <= 1000/\(n:Int)+1 <= 1000000000000000000 /\
 Zt (down fQ 0) 0 ss <= down fR 0/\down fR 0 <= Zt (down fQ 0) (down fQ 0) ss /\
 ∀ (H':Hp) (t:fT),Same H H'->H t=none->H' t=some (.tup [.int (Zm fQ fR ss (n+1)).room,.int (Zm fQ fR ss (n+1)).heat])->Q (.ref t) H'
theorem ok_q10 (F:Fun K "missed_later" "missed_later" s_q10 f fd) (T:Txt K mg) (o_row_rule:Ok P w K mg base "row_rule" AS 3 (BV K)) (o_passed:Ok P w K mg base "passed" IC 3 (JE K)) (o_repeated:Ok P w K mg base "repeated" CQ 3 (EX K)) (o_applied:Ok P w K mg base "applied" DG 1 (DE K)):Ym P w K mg base CX0 4 f fd P_q10 (sp_q10 K):=by
  obtain ⟨a,b,c,fQ,fR,ts,ss,n,rfl,hA,hB,hC,hS,hO,hn,hz,hsl,hnn,hL,hM,q⟩:=‹SH›;have hz0:∀ z ∈ ss,0 <= z.2:=λz h=>(hz z h).1;have ym:=YS hO hz0 hL hM (n+1);have dH:=hO.down 0 (iG _);have dN:0 <= down fQ 0:=kK dH.1 dH.2;have eN:fQ.sum=down fQ 0:=rfl;have eH:fR.sum=down fR 0:=rfl;have ra:=ZT (full:=down fQ 0) (ss:=ss) dN hz0 dH.1 dH.2 n;rw [show ((n+1:Nat):Int)=(n:Int)+1 by lia] at ym
  refine ⟨_,(Zc (psn 4 SH.nd (Zg o_row_rule hr (pa2 (D0 (by rfl) T.n_sum (pv 0)) (pv 2)))) (Zc (Yk (pcr Jv (pxt (pv 4) Za) (pxt (pv 4) Za)) (Zc (psn 5 SH.nd (Zg o_passed hr (pa3 (pv 0) (pv 1) (pv 2)))) (Ze (Zi (Jc (pa2 (Zh DV (pv 3) (pxt (pv 5) Za)) (Zh DV (pv 3) (pxt (pv 5) Za))))))) Zn) (Zc (psn 6 SH.nd (D0 (by rfl) T.n_sum (pv 1))) (Zc (psn 7 SH.nd (Zh Yj (Zh Zz (pv 6) (Zh DV (pv 3) (pxt (pv 4) Za))) (Zg o_applied hr (pa2 (Zg o_repeated hr (pa2 (pv 4) (pv 3))) (pv 6))))) (Ze (Zi (Jc (pa2 (P6 (by rfl) T.n_max (pv 7) Za) (P6 (by rfl) T.n_max (KK EQ (pv 7)) Za))))))))),?_⟩
  try dsimp only [cK_,cL_]
  refine ⟨_,Z,a,fQ,Z,hA,_,Z,fQ.sum,c,ts,ss,Z,hC,hS,by rw [eN];exact dN,hz,hsl,λH1 r1 s1 f1 h1=>?_⟩;rw [eN] at h1;refine ⟨_,Z,r1,_,_,_,Z,Z,SqT.of h1,Z,_,Z,r1,_,_,_,Z,Z,SqT.of h1,Z,Z,_,Z,?_⟩;have hmul:∀ y:Int,CMul ((n:Int)+1) y:=λy=>.inl ⟨by lia,by lia⟩;refine Jl (λhc=>?_) (λhc=>?_)
  ·have hc:Zt (down fQ 0) 0 ss=Zt (down fQ 0) (down fQ 0) ss:=V.int.inj (D8_ hc);obtain ⟨y1,y2⟩:=ym.1 hc;refine ⟨_,Z,_,Z,_,Z,a,b,c,fQ,fR,ts,ss,Z,s1.seq hA,s1.seq hB,s1.seq hC,hS.same s1,hO,hn,hz,λH2 t2 p2 s2 ft2 fp2 h2 h2p=>?_⟩;refine ⟨_,Z,_,Z,t2,_,_,_,Z,Z,SqT.of h2,Z,_,_,Z,Z,hmul _,?_⟩;refine ⟨_,Z,_,Z,t2,_,_,_,Z,Z,SqT.of h2,Z,_,_,Z,Z,hmul _,sz9,λt ft=>?_⟩;refine q _ t ((s1.trans s2).trans (Same.upd ft)) (none_of (s1.trans s2) ft) (Zb.trans ?_);rw [y1,y2]
  ·have hc:Zt (down fQ 0) 0 ss ≠ Zt (down fQ 0) (down fQ 0) ss:=λc=>hc (D7_ (congrArg V.int c));obtain ⟨y1,y2⟩:=ym.2 hc;refine ⟨_,Z,b,fR,Z,s1.seq hB,?_⟩;refine ⟨_,Z,_,Z,_,Z,r1,_,_,_,Z,Z,SqT.of h1,Z,_,_,Z,Z,hmul _,_,_,Z,Z,?_⟩;refine ⟨_,Z,_,Z,r1,CJ (down fQ 0) ss,n,Z,h1,DL dN ss,hnn,λH2 r2 s2 h2=>?_⟩;refine ⟨_,Z,r2,_,_,_,_,Z,SqT.of h2,Rl.rep_ok (DL dN ss) n,λH3 s3=>?_⟩;refine ⟨_,_,Z,Z,?_⟩;refine ⟨_,Z,_,_,Z,_,Z,_,Z,_,_,Z,sz9,λt ft=>?_⟩;refine q _ t ((s1.trans (s2.trans s3)).trans (Same.upd ft)) (none_of (s1.trans (s2.trans s3)) ft) (Zb.trans ?_);have ev:Ju (fR.sum+((CJ (down fQ 0) ss).rep n).d) ((CJ (down fQ 0) ss).rep n).l ((CJ (down fQ 0) ss).rep n).m=Jg (down fQ 0) (down fR 0) ss (n+1):=ra
   show some (HO.tup [.int (if fR.sum+((n:Int)+1) * CU ss - Ju (fR.sum+((CJ (down fQ 0) ss).rep n).d) ((CJ (down fQ 0) ss).rep n).l ((CJ (down fQ 0) ss).rep n).m < 0 then 0 else fR.sum+((n:Int)+1) * CU ss - Ju (fR.sum+((CJ (down fQ 0) ss).rep n).d) ((CJ (down fQ 0) ss).rep n).l ((CJ (down fQ 0) ss).rep n).m), .int (if -(fR.sum+((n:Int)+1) * CU ss - Ju (fR.sum+((CJ (down fQ 0) ss).rep n).d) ((CJ (down fQ 0) ss).rep n).l ((CJ (down fQ 0) ss).rep n).m) < 0 then 0 else -(fR.sum+((n:Int)+1) * CU ss - Ju (fR.sum+((CJ (down fQ 0) ss).rep n).d) ((CJ (down fQ 0) ss).rep n).l ((CJ (down fQ 0) ss).rep n).m))])=_;rw [y1,y2,ev,eH];generalize down fR 0+((n:Int)+1) * CU ss - Jg (down fQ 0) (down fR 0) ss (n+1)=X;rw [show (if X < 0 then 0 else X)=max X 0 by split <;> lia,show (if -X < 0 then 0 else -X)=max (-X) 0 by split <;> lia]
abbrev s_q22:hZ:=top 54
abbrev N_q22:List fZ:=["needs","heats","year","times","first","behind","missed"]
abbrev P_q22:List fZ:=["needs","heats","year","times"]
theorem WY:Zj N_q22 P_q22 (Zd s_q22):=mk9
def sp_q22 (K:W.Frag):Sp:=λvs H Q _=>E8 λ(a b c:fT) (fQ fR:List Int) (ts:List fT) (ss:List (Bool × Int)) (n:Nat)=>vs=[.ref a,.ref b,.ref c,.int (n:Int)]/\SqL K H a (fQ.map V.int)/\SqL K H b (fR.map V.int)/\SqL K H c (ts.map V.ref)/\Zu H ts ss/\Zr fQ fR/\1 <= fQ.length/\fQ.length <= 1000/\(∀ z ∈ ss,0 <= z.2/\z.2 <= 1000000)/\ss.length <= 1000/\(n:Int) <= 1000000000000000000 /\
 ∀ (H':Hp) (t p:fT),Same H H'->H t=none->H p=none->H' t=some (.tup [.ref p,.int (Zm fQ fR ss n).room,.int (Zm fQ fR ss n).heat])->H' p=some (.lst ((Zm fQ fR ss n).fR.map V.int))->Q (.ref t) H'
theorem ok_q22 (F:Fun K "whole_years" "whole_years" s_q22 f fd) (T:Txt K mg) (o_passed:Ok P w K mg base "passed" IC 3 (JE K)) (o_q23:Ok P w K mg base "heats_later" P_q23 4 (sp_q23 K)) (o_q10:Ok P w K mg base "missed_later" P_q10 4 (sp_q10 K)):Ym P w K mg base CX0 5 f fd P_q22 (sp_q22 K):=by
  obtain ⟨a,b,c,fQ,fR,ts,ss,n,rfl,hA,hB,hC,hS,hO,hn1,hn,hz,hsl,hnn,q⟩:=‹WY›;have hz0:∀ z ∈ ss,0 <= z.2:=λz h=>(hz z h).1
  refine ⟨_,(Zc (Yk (pcr Jv (pv 3) Za) (Ze (Zi (Jc (pa3 (Jo T.n_list (pv 1)) Za Za)))) Zn) (Zc (psn 4 WY.nd (Zg o_passed hr (pa3 (pv 0) (pv 1) (pv 2)))) (Zc (Yk (pcr Jv (pv 3) Za) (Ze (Zi (pv 4))) Zn) (Zc (psn 5 WY.nd (Zg o_q23 hr (Zo (pv 0) (pa3 (pxt (pv 4) Za) (pv 2) (Zh Yj (pv 3) Za))))) (Zc (psn 6 WY.nd (Zg o_q10 hr (Zo (pv 0) (pa3 (pxt (pv 4) Za) (pv 2) (Zh Yj (pv 3) Za))))) (Ze (Zi (Jc (pa3 (pv 5) (Zh Zz (pxt (pv 4) Za) (pxt (pv 6) Za)) (Zh Zz (pxt (pv 4) Za) (pxt (pv 6) Za))))))))))),?_⟩
  try dsimp only [cK_,cL_]
  refine ⟨_,Z,Z,_,Z,?_⟩;refine Jl (λhc=>?_) (λhc=>?_)
  ·have hc:(n:Int)=0:=V.int.inj (D8_ hc);obtain rfl:n=0:=by lia
   refine ⟨_,Z,b,_,Z,.inl hB,λp fp=>⟨sz9,λt ft=>?_⟩⟩;exact q _ t p ((Same.upd fp).trans (Same.upd ft)) (none_of (Same.upd fp) ft) fp Zb (Same.upd ft _ _ Zb)
  ·have hc:¬ (n:Int)=0:=λc=>hc (D7_ (congrArg V.int c));refine ⟨_,Z,_,Z,_,Z,a,b,c,fQ,fR,ts,ss,Z,hA,hB,hC,hS,hO,hn,hz,λH1 t1 p1 s1 ft1 fp1 h1 h1p=>?_⟩;refine ⟨_,Z,Z,_,Z,?_⟩;refine Jl (λhc1=>?_) (λhc1=>?_)
   ·have hc1:(n:Int)=1:=V.int.inj (D8_ hc1);obtain rfl:n=1:=by lia
    exact ⟨_,Z,q _ t1 p1 s1 ft1 fp1 h1 h1p⟩
   ·have hc1:¬ (n:Int)=1:=λc=>hc1 (D7_ (congrArg V.int c));obtain ⟨m,rfl⟩:∃ m,n=m+1+1:=⟨n - 2,by lia⟩;obtain ⟨y1,y2,y3⟩:=MX hO hz0 (m+1);have hP:=QK hO ss;have em:((m+1+1:Nat):Int) - 1=(m:Int)+1:=by lia
    have dH:=hO.down 0 (iG _);have e0:down (BF fQ fR ss).fR 0=Zt (down fQ 0) (down fR 0) ss:=bY hO hz0 (iG _);rw [y1,y2,y3] at q;refine ⟨_,Z,_,Z,t1,_,_,_,Z,Z,SqT.of h1,Z,_,Z,_,Z,_,_,Z,Z,?_⟩;refine ⟨a,p1,c,fQ,(BF fQ fR ss).fR,ts,ss,m,congrArg (λz:Int=>[V.ref a,V.ref p1,V.ref c,V.int z]) em,s1.seq hA,SqL.of h1p,s1.seq hC,hS.same s1,hP,hn1,hn,hz,hsl,by lia,λH2 p2 s2 f2 h2=>?_⟩;have s12:=s1.trans s2;refine ⟨_,Z,_,Z,t1,_,_,_,Z,Z,SqT.of (s2 _ _ h1),Z,_,Z,_,Z,_,_,Z,Z,?_⟩;refine ⟨a,p1,c,fQ,(BF fQ fR ss).fR,ts,ss,m,congrArg (λz:Int=>[V.ref a,V.ref p1,V.ref c,V.int z]) em,s12.seq hA,SqL.of (s2 _ _ h1p),s12.seq hC,hS.same s12,hP,hn,hz,hsl,by lia,by rw [e0];exact Jn ss dH.1,by rw [e0];exact Jn ss dH.2,λH3 t3 s3 f3 h3=>?_⟩;have s13:=s12.trans s3;refine ⟨_,Z,_,Z,t1,_,_,_,Z,Z,SqT.of (s3 _ _ (s2 _ _ h1)),Z,_,Z,t3,_,_,_,Z,Z,SqT.of h3,Z,_,_,Z,Z,?_⟩;refine ⟨_,Z,t1,_,_,_,Z,Z,SqT.of (s3 _ _ (s2 _ _ h1)),Z,_,Z,t3,_,_,_,Z,Z,SqT.of h3,Z,_,_,Z,Z,sz9,λt ft=>?_⟩;exact q _ t p2 (s13.trans (Same.upd ft)) (none_of s13 ft) (none_of s1 f2) Zb (Same.upd ft _ _ (s3 _ _ h2))
abbrev s_q9:hZ:=top 55
abbrev N_q9:List fZ:=["needs","heats","year","at_year","season","ahead","last"]
abbrev P_q9:List fZ:=["needs","heats","year","at_year","season"]
theorem sc_q9:Zj N_q9 P_q9 (Zd s_q9):=mk9
def sp_q9 (K:W.Frag):Sp:=λvs H Q _=>E7 λ(a b c:fT) (fQ fR:List Int) (ts:List fT) (ss:List (Bool × Int))=>E2 λ(n so:Nat)=>vs=[.ref a,.ref b,.ref c,.int ((n:Int)+1),.int so]/\SqL K H a (fQ.map V.int)/\SqL K H b (fR.map V.int)/\SqL K H c (ts.map V.ref)/\Zu H ts ss/\Zr fQ fR/\1 <= fQ.length/\fQ.length <= 1000/\(∀ z ∈ ss,0 <= z.2/\z.2 <= 1000000)/\ss.length <= 1000/\(n:Int)+1 <= 1000000000000000000 /\
 ∀ (H':Hp) (t p:fT),Same H H'->H t=none->H p=none->H' t=some (.tup [.ref p,.int (BI fQ fR ss n so).room,.int (BI fQ fR ss n so).heat])->H' p=some (.lst ((BI fQ fR ss n so).fR.map V.int))->Q (.ref t) H'
theorem ok_q9 (F:Fun K "passed_until" "passed_until" s_q9 f fd) (T:Txt K mg) (o_q22:Ok P w K mg base "whole_years" P_q22 5 (sp_q22 K)) (o_passed:Ok P w K mg base "passed" IC 3 (JE K)):Ym P w K mg base CX0 6 f fd P_q9 (sp_q9 K):=by
  obtain ⟨a,b,c,fQ,fR,ts,ss,n,so,rfl,hA,hB,hC,hS,hO,hn1,hn,hz,hsl,hnn,q⟩:=‹sc_q9›;have hz0:∀ z ∈ ss,0 <= z.2:=λz h=>(hz z h).1;have hY:=A9 hO ss n;have es:BI fQ fR ss n so=_:=YL (s:=Zm fQ fR ss n) (ss:=ss.take so) (λz h=>hz0 z (jM h)) hY;rw [es] at q
  refine ⟨_,(Zc (psn 5 sc_q9.nd (Zg o_q22 hr (Zo (pv 0) (pa3 (pv 1) (pv 2) (Zh Yj (pv 3) Za))))) (Zc (psn 6 sc_q9.nd (Zg o_passed hr (pa3 (pv 0) (pxt (pv 5) Za) (Jz BJ (pv 2) BY (B7 (pv 4)))))) (Ze (Zi (Jc (pa3 (pxt (pv 6) Za) (Zh Zz (pxt (pv 5) Za) (pxt (pv 6) Za)) (Zh Zz (pxt (pv 5) Za) (pxt (pv 6) Za)))))))),?_⟩
  try dsimp only [cK_,cL_]
  refine ⟨_,Z,_,Z,_,Z,_,Z,_,_,Z,Z,a,b,c,fQ,fR,ts,ss,n,congrArg (λz:Int=>[V.ref a,V.ref b,V.ref c,V.int z]) (show (n:Int)+1 - 1=n by lia),hA,hB,hC,hS,hO,hn1,hn,hz,hsl,by lia,λH1 t1 p1 s1 ft1 fp1 h1 h1p=>?_⟩;have ec:DD (ts.map V.ref) none (some (so:Int))=(ts.take so).map V.ref:=by rw [GH,kQ]
  refine ⟨_,Z,_,Z,t1,_,_,_,Z,Z,SqT.of h1,Z,_,Z,_,Z,_,Z,c,_,Z,s1.seq hC,λc2 f2=>?_⟩;have t2:=Same.upd (o:=.lst (DD (ts.map V.ref) none (some (so:Int)))) f2;have s12:=s1.trans t2;refine ⟨a,p1,c2,fQ,_,ts.take so,ss.take so,Z,s12.seq hA,SqL.of (t2 _ _ h1p),SqL.of (Zb.trans (by rw [ec])),(hS.same s12).take so,hY,hn,λz h=>hz z (jM h),λH3 t3 p3 s3 ft3 fp3 h3 h3p=>?_⟩;have s13:=s12.trans s3;have h13:=s3 _ _ (t2 _ _ h1);refine ⟨_,Z,t3,_,_,_,Z,Z,SqT.of h3,Z,?_⟩;refine ⟨_,Z,t1,_,_,_,Z,Z,SqT.of h13,Z,_,Z,t3,_,_,_,Z,Z,SqT.of h3,Z,_,_,Z,Z,?_⟩;refine ⟨_,Z,t1,_,_,_,Z,Z,SqT.of h13,Z,_,Z,t3,_,_,_,Z,Z,SqT.of h3,Z,_,_,Z,Z,sz9,λt ft=>?_⟩;exact q _ t p3 (s13.trans (Same.upd ft)) (none_of s13 ft) (none_of s12 fp3) Zb (Same.upd ft _ _ h3p)
abbrev GK:hZ:=top 56
abbrev YE:List fZ:=["needs","heats","year","at_year","season"]
abbrev EO:List fZ:=["needs","heats","year","at_year","season"]
theorem MK:Zj YE EO (Zd GK):=mk9
def KS (K:W.Frag) (mg:fZ->Option fV):Sp:=λvs H _ E=>E7 λ(va vb:V) (c:fT) (ts:List fT) (ss:List (Bool × Int)) (m n:Int)=>vs=[va,vb,.ref c,.int m,.int n]/\SqL K H c (ts.map V.ref)/\Zu H ts ss/\(¬ (1 <= ss.length/\ss.length <= 12)->Thr mg "BadYear" E H)/\(1 <= ss.length/\ss.length <= 12->¬ (∀ z ∈ ss,Yl z.2)->Thr mg "BadAmount" E H)/\(1 <= ss.length/\ss.length <= 12->(∀ z ∈ ss,Yl z.2)->¬ (1 <= m/\m <= 1000000000000000000/\1 <= n/\n <= (ss.length:Int))/\Thr mg "UnknownSeason" E H)
def MA (K:W.Frag):Sp:=λvs H Q _=>E7 λ(a b c:fT) (fQ fR:List Int) (ts:List fT) (ss:List (Bool × Int))=>E2 λ(n so:Nat)=>vs=[.ref a,.ref b,.ref c,.int ((n:Int)+1),.int so]/\SqL K H a (fQ.map V.int)/\SqL K H b (fR.map V.int)/\SqL K H c (ts.map V.ref)/\Zu H ts ss/\NY fQ fR/\(∀ z ∈ ss,0 <= z.2/\z.2 <= 1000000)/\1 <= ss.length/\ss.length <= 12/\(n:Int)+1 <= 1000000000000000000/\1 <= so/\so <= ss.length /\
 ∀ (H':Hp) (p:fT),Same H H'->H p=none->H' p=some (.lst ((farL fQ fR ss n so).map V.int))->Q (.ref p) H'
theorem UQ (F:Fun K "heats_at" "heats_at" GK f fd) (T:Txt K mg) (o_q30:Ok P w K mg base "check_year" KI 2 (OC K)) (o_q8:Ok P w K mg base "check_season" P_q8 1 sp_q8) (o_q9:Ok P w K mg base "passed_until" P_q9 6 (sp_q9 K)):Ym P w K mg base CX0 7 f fd EO (MA K):=by
  obtain ⟨a,b,c,fQ,fR,ts,ss,n,so,rfl,hA,hB,hC,hS,hO,hz,hs1,hs2,hnn,ho1,ho2,q⟩:=‹MK›;have hl:((ts.map V.ref).length:Int)=ss.length:=by rw [fU,hS.len]
  have B1:=hO.lo;have B2:=hO.hi
  refine ⟨_,(Zc (Zp (Zg o_q30 hr (pa1 (pv 2)))) (Zc (Zp (Zg o_q8 hr (Zo (AJ T.g_MOST_TIMES) (pa3 (Zy T.n_len (pv 2)) (pv 3) (pv 4))))) (Ze (Zi (pxt (Zg o_q9 hr (Zo (pv 0) (Zo (pv 1) (pa3 (pv 2) (pv 3) (pv 4))))) Za))))),?_⟩
  try dsimp only [cK_,cL_]
  refine ⟨_,Z,c,ts,ss,Z,hC,hS,hz,hs1,hs2,?_⟩;refine ⟨_,Z,c,_,Z,.inl hC,_,Z,_,Z,_,_,_,_,Z,by lia,by lia,by lia,by lia,?_⟩;refine ⟨_,Z,_,Z,_,Z,_,Z,_,Z,a,b,c,fQ,fR,ts,ss,n,so,Z,hA,hB,hC,hS,hO.ok,by lia,by lia,hz,by lia,hnn,λH1 t p s1 ft fp h1 h1p=>?_⟩;exact ⟨t,_,_,_,Z,Z,SqT.of h1,Z,q _ p s1 fp h1p⟩
theorem T8 (F:Fun K "heats_at" "heats_at" GK f fd) (T:Txt K mg) (o_q30X:OkX P w K mg base "check_year" KI 2 (KD K mg)) (o_q8X:OkX P w K mg base "check_season" P_q8 1 (sp_q8X mg)):Ym P w K mg base (CX1 P w) 7 f fd EO (KS K mg):=by
  obtain ⟨va,vb,c,ts,ss,m,n,rfl,hC,hS,e5,e6,e8⟩:=‹¬MK›
  refine ⟨_,(Zc (Zp (Yc o_q30X hr (Yu (E:=E)) (pa1 (pv 2)))) (Zc (Zp (Yc o_q8X hr (Yu (E:=E)) (Zo (AJ T.g_MOST_TIMES) (pa3 (Zy T.n_len (pv 2)) (pv 3) (pv 4))))) CD)),?_⟩
  try dsimp only [cK_,cL_]
  have hl:((ts.map V.ref).length:Int)=(ss.length:Int):=by rw [fU,hS.len]
  refine ⟨_,Z,c,ts,ss,Z,hC,hS,e5,λhl=>⟨λhz=>?_,e6 hl⟩⟩;obtain ⟨bad,hE⟩:=e8 hl hz;refine ⟨_,Z,c,_,Z,.inl hC,_,Z,_,Z,1000000000000000000,ss.length,m,n,?_,gA _,by lia,λg=>absurd g bad,λ_ C x hm hx=>hE C x H hm (Same.refl _) hx⟩;rw [fU,hS.len];rfl
abbrev s_q14:hZ:=top 57
abbrev N_q14:List fZ:=["full","held","year","rule","first","end","step"]
abbrev P_q14:List fZ:=["full","held","year"]
theorem RL:Zj N_q14 P_q14 (Zd s_q14):=mk9
theorem few {e d:Int} (he:0 <= e) (hd:0 < d) {k:Nat} (h:(e+d - 1) / d=(k:Int)):(k:Int) <= e:=by
 have h1:e * 1 <= e * d:=Int.mul_le_mul_of_nonneg_left (by lia) he;have h2:(e+d - 1) / d < e+1:=Int.ediv_lt_of_lt_mul hd (by rw [kY,kZ];lia)
 lia
def aQ (K:W.Frag):Sp:=λvs H Q _=>E5 λ(c:fT) (full x:Int) (ts:List fT) (ss:List (Bool × Int))=>vs=[.int full,.int x,.ref c]/\SqL K H c (ts.map V.ref)/\Zu H ts ss/\0 <= x/\x <= full/\(∀ z ∈ ss,0 <= z.2/\z.2 <= 1000000)/\ss.length <= 1000 /\
 ∀ (H':Hp) (r:Nat),Same H H'->(r:Int) <= full+2->Q (.int r) H'
theorem ok_q14 (F:Fun K "rest_down_to" "rest_down_to" s_q14 f fd) (T:Txt K mg) (o_row_rule:Ok P w K mg base "row_rule" AS 3 (BV K)) (o_applied:Ok P w K mg base "applied" DG 1 (DE K)):Ym P w K mg base CX0 4 f fd P_q14 (aQ K):=by
  obtain ⟨c,full,x,ts,ss,rfl,hC,hS,h0,h1,hz,hsl,q⟩:=‹RL›;have hz0:∀ z ∈ ss,0 <= z.2:=λz h=>(hz z h).1;have hf:0 <= full:=kK h0 h1;have ea:Ju (x+(CJ full ss).d) (CJ full ss).l (CJ full ss).m=Zt full x ss:=VW hz0 h0 h1;have bd:=OH ss hz;have l:=Jn (full:=full) ss h0;have m:=Jn (full:=full) ss h1;have i1:=DK (full:=full) hz0 h0 h1;have i2:=DK (full:=full) hz0 (iU 0) hf;have i3:=DK (full:=full) hz0 hf (iU full)
  refine ⟨_,(Zc (psn 3 RL.nd (Zg o_row_rule hr (pa2 (pv 0) (pv 2)))) (Zc (psn 4 RL.nd (Zg o_applied hr (pa2 (pv 3) (pv 1)))) (Zc (Yk (pcr Jv (pv 4) (pv 1)) (Ze (Zi Za)) Zn) (Zc (Yk (pcr Jv (pxt (pv 3) Za) Za) (Ze (Zi Za)) Zn) (Zc (psn 5 RL.nd (WX (pcr CM (pxt (pv 3) Za) Za) (pxt (pv 3) Za) (pxt (pv 3) Za))) (Zc (psn 6 RL.nd (pe_abs T.n_abs (pxt (pv 3) Za))) (Ze (Zi (Zh Zz Za (Zh Jk (Zh Yj (Zh Zz (pe_abs T.n_abs (Zh Yj (pv 5) (pv 4))) (pv 6)) Za) (pv 6))))))))))),?_⟩
  try dsimp only [cK_,cL_]
  refine ⟨_,Z,_,Z,full,c,ts,ss,Z,hC,hS,hf,hz,hsl,λH1 r1 s1 f1 e1=>?_⟩;refine ⟨_,Z,_,Z,r1,(CJ full ss).d,(CJ full ss).l,(CJ full ss).m,x,Z,SqT.of e1,DL hf ss,λH2 s2=>?_⟩;rw [ea];have s12:=s1.trans s2;have e2:=s2 _ _ e1;refine ⟨_,Z,_,Z,Z,_,Z,?_⟩;refine Jl (λhc=>?_) (λhc=>?_)
  ·exact q _ 1 s12 (by lia)
  ·have ne:Zt full x ss ≠ x:=λc=>hc (D7_ (congrArg V.int c));refine ⟨_,Z,r1,_,_,_,Z,Z,SqT.of e2,Z,Z,_,Z,?_⟩;refine Jl (λhc=>?_) (λhc=>?_)
   ·have hd:CU ss=0:=V.int.inj (D8_ hc);exact q _ 2 s12 (by lia)
   ·have hd:CU ss ≠ 0:=λc=>hc (D7_ (congrArg V.int c));refine ⟨_,Z,r1,_,_,_,Z,Z,SqT.of e2,Z,_,_,Z,Z,_,Z,?_⟩;refine Jl (λhp=>?_) (λhp=>?_)
    ·have hp:0 < CU ss:=D8_ hp;refine ⟨_,Z,r1,_,_,_,Z,Z,SqT.of e2,Z,?_⟩;refine ⟨_,Z,r1,_,_,_,Z,Z,SqT.of e2,Z,_,Z,?_⟩;have eA:(if (CJ full ss).d < 0 then -(CJ full ss).d else (CJ full ss).d)=CU ss:=if_neg (by show ¬ CU ss < 0;lia);refine ⟨_,Z,_,Z,_,_,Z,Z,_,Z,_,Z,_,_,Z,Z,_,_,Z,Z,_,Z,_,_,Z,Z,?_,_,_,Z,Z,?_⟩
     ·show (0:Int) < (if (CJ full ss).d < 0 then -(CJ full ss).d else (CJ full ss).d)/\(if (CJ full ss).d < 0 then -(CJ full ss).d else (CJ full ss).d) < 1073741824;rw [eA];lia
     ·obtain ⟨k,k1,k2,k3⟩:=OP (e:=Zt full full ss - Zt full x ss) (d:=CU ss) (by lia) hp;have:=q _ (k+2) s12 (by have:=few (e:=Zt full full ss - Zt full x ss) (d:=CU ss) (by lia) hp k1;lia);have ev:(((k+2:Nat):Int))=2+((if Zt full full ss - Zt full x ss < 0 then -(Zt full full ss - Zt full x ss) else Zt full full ss - Zt full x ss)+(if CU ss < 0 then -CU ss else CU ss) - 1) / (if CU ss < 0 then -CU ss else CU ss):=by
       rw [if_neg (by lia),if_neg (by lia),k1];lia
      rw [ev] at this;exact this
    ·have hp:¬ 0 < CU ss:=λc=>hp (D7_ c);refine ⟨_,Z,r1,_,_,_,Z,Z,SqT.of e2,Z,?_⟩;refine ⟨_,Z,r1,_,_,_,Z,Z,SqT.of e2,Z,_,Z,?_⟩;have eA:(if (CJ full ss).d < 0 then -(CJ full ss).d else (CJ full ss).d) = -CU ss:=if_pos (by show CU ss < 0;lia);refine ⟨_,Z,_,Z,_,_,Z,Z,_,Z,_,Z,_,_,Z,Z,_,_,Z,Z,_,Z,_,_,Z,Z,?_,_,_,Z,Z,?_⟩
     ·show (0:Int) < (if (CJ full ss).d < 0 then -(CJ full ss).d else (CJ full ss).d)/\(if (CJ full ss).d < 0 then -(CJ full ss).d else (CJ full ss).d) < 1073741824;rw [eA];lia
     ·obtain ⟨k,k1,k2,k3⟩:=OP (e:=Zt full x ss - Zt full 0 ss) (d:=-CU ss) (by lia) (by lia);have:=q _ (k+2) s12 (by have:=few (e:=Zt full x ss - Zt full 0 ss) (d:=-CU ss) (by lia) (by lia) k1;lia);have ev:(((k+2:Nat):Int))=2+((if Zt full 0 ss - Zt full x ss < 0 then -(Zt full 0 ss - Zt full x ss) else Zt full 0 ss - Zt full x ss)+(if CU ss < 0 then -CU ss else CU ss) - 1) / (if CU ss < 0 then -CU ss else CU ss):=by
       have e3:(if Zt full 0 ss - Zt full x ss < 0 then -(Zt full 0 ss - Zt full x ss) else Zt full 0 ss - Zt full x ss)=Zt full x ss - Zt full 0 ss:=by split <;> lia
       rw [e3,if_pos (by lia),k1];lia
      rw [ev] at this;exact this
abbrev GA:hZ:=top 58
abbrev TB:List fZ:=["needs","heats","year"]
abbrev EM:List fZ:=["needs","heats","year"]
theorem OK:Zj TB EM (Zd GA):=mk9
def NF (K:W.Frag) (mg:fZ->Option fV):Sp:=λvs H _ E=>E5 λ(va vb:V) (c:fT) (ts:List fT) (ss:List (Bool × Int))=>vs=[va,vb,.ref c]/\SqL K H c (ts.map V.ref)/\Zu H ts ss/\(¬ (1 <= ss.length/\ss.length <= 12)->Thr mg "BadYear" E H)/\(1 <= ss.length/\ss.length <= 12->¬ (∀ z ∈ ss,Yl z.2)->Thr mg "BadAmount" E H)/\¬ ((1 <= ss.length/\ss.length <= 12)/\(∀ z ∈ ss,Yl z.2))
def KG (K:W.Frag):Sp:=λvs H Q _=>E7 λ(a b c:fT) (fQ fR:List Int) (ts:List fT) (ss:List (Bool × Int))=>vs=[.ref a,.ref b,.ref c]/\SqL K H a (fQ.map V.int)/\SqL K H b (fR.map V.int)/\SqL K H c (ts.map V.ref)/\Zu H ts ss/\NY fQ fR/\(∀ z ∈ ss,0 <= z.2/\z.2 <= 1000000)/\1 <= ss.length/\ss.length <= 12 /\
 ∀ (H':Hp) (r:Nat),Same H H'->True->Q (.int r) H'
theorem YJ (F:Fun K "rest_of" "rest_of" GA f fd) (T:Txt K mg) (o_q30:Ok P w K mg base "check_year" KI 2 (OC K)) (o_q16:Ok P w K mg base "each_down_to" P_q16 1 (cV K)) (o_q14:Ok P w K mg base "rest_down_to" P_q14 4 (aQ K)):Ym P w K mg base CX0 5 f fd EM (KG K):=by
  obtain ⟨a,b,c,fQ,fR,ts,ss,rfl,hA,hB,hC,hS,hO,hz,hs1,hs2,q⟩:=‹OK›;have hz0:∀ z ∈ ss,0 <= z.2:=λz h=>(hz z h).1;have B1:=hO.lo;have B2:=hO.hi;have B3:=hO.len
  refine ⟨_,(Zc (Zp (Zg o_q30 hr (pa1 (pv 2)))) (Ze (Zi (pe_max1 (by rfl) T.n_max (EB Z (Yi.of (T:=["full","held"]) (js:=[2]) (Zd GA).names TB Z Z Z D9_) (NN (by rfl) T.n_zip (pa2 (Zg o_q16 hr (pa1 (pv 0))) (Zg o_q16 hr (pa1 (pv 1))))) (λ_ _ _ _=>⟨(N1 K (n:=2) (by rfl) (Jp (Zw (i:=0) (by show List.Nodup (["full","held","year"]:List fZ);decide +kernel) Z (Or.inl Z)) (Jp (Zw (i:=1) (by show List.Nodup (["full","held","year"]:List fZ);decide +kernel) Z (Or.inl Z)) FC))),CS,(Zg o_q14 hr (pa3 (pv 0) (pv 1) (pv 2)))⟩)))))),?_⟩
  try dsimp only [cK_,cL_]
  refine ⟨_,Z,c,ts,ss,Z,hC,hS,hz,hs1,hs2,?_⟩;refine ⟨_,Z,a,fQ,Z,hA,by lia,λH1 u1 s1 f1 h1=>?_⟩;refine ⟨_,Z,b,fR,Z,s1.seq hB,by lia,λH2 u2 s2 f2 h2=>?_⟩;have s12:=s1.trans s2;refine ⟨u1,u2,Z,⟨_,SqL.of (s2 _ _ h1)⟩,⟨_,SqL.of h2⟩,λp fp=>?_⟩;refine XH (xs:=(BZ fQ).map V.int) (ys:=(BZ fR).map V.int) (by rw [fU,fU,AC,AC,B3]) (λi σ H3=>(∃ v w,σ=[v,w,some (.ref c)])/\Same H2 H3/\∃ rs:List Nat,H3 p=some (.lst ((rs.map Nat.cast).map V.int))/\rs.length=i) ?_ ?_ ?_ ?_
  ·exact ⟨⟨none,none,Z⟩,Same.upd fp,[],Zb,Z⟩
  ·rintro i σ H3 _ ⟨_,s3,_⟩;exact ⟨SqL.of (s3 _ _ (s2 _ _ h1)),SqL.of (s3 _ _ h2)⟩
  ·rintro i x y t σ H3 hx hy ⟨⟨v,w,rfl⟩,s3,rs,h3,hl⟩ ht;have hi:i < fQ.length:=by
    have:=(gK.mp hx).1;rw [fU,AC] at this;exact this
   rw [gE,JI hi] at hx;rw [gE,JI (by lia)] at hy;cases hx;cases hy;have s4:=(s12.trans s3).trans (Same.upd (o:=.tup [.int (down fQ i),.int (down fR i)]) ht);have dH:=hO.ok.down i (by lia);refine SX (SqT.of Zb) ?_;refine ⟨_,Z,_,Z,_,Z,c,down fQ i,down fR i,ts,ss,Z,s4.seq hC,hS.same s4,dH.1,dH.2,hz,by lia,λH5 r s5 hr5=>?_⟩;have h5:=s5 _ _ (Same.upd (o:=.tup [.int (down fQ i),.int (down fR i)]) ht _ _ h3);refine ⟨_,h5,Js (by rw [fU,fU];lia),⟨_,_,Z⟩,((s3.trans (Same.upd ht)).trans s5).set fp,rs ++ [r],?_,by rw [i6,hl];rfl⟩;rw [Zb,gO,gO];rfl
  ·rintro σ H3 ⟨_,s3,rs,h3,hl⟩;rw [fU,AC] at hl;refine ⟨p,rs.map Nat.cast,Z,SqL.of h3,by rw [fU];lia,λM hM hm=>?_⟩;obtain ⟨R,hR1,rfl⟩:=kL.mp hM;exact q _ R (s12.trans s3) trivial
theorem UZ (F:Fun K "rest_of" "rest_of" GA f fd) (T:Txt K mg) (o_q30X:OkX P w K mg base "check_year" KI 2 (KD K mg)):Ym P w K mg base (CX1 P w) 5 f fd EM (NF K mg):=by
  obtain ⟨va,vb,c,ts,ss,rfl,hC,hS,e5,e6,bad⟩:=‹¬OK›
  refine ⟨_,(Zc (Zp (Yc o_q30X hr (Yu (E:=E)) (pa1 (pv 2)))) CD),?_⟩
  try dsimp only [cK_,cL_]
  exact ⟨_,Z,c,ts,ss,Z,hC,hS,e5,λhl=>⟨λhz=>absurd ⟨hl,hz⟩ bad,e6 hl⟩⟩
abbrev Z9:hZ:=top 59
abbrev N_q13:List fZ:=["needs","heats","bed","year","down","above","full_down","full_above","rules_down","rules_above","rest","at_year","place"]
abbrev ZW:List fZ:=["needs","heats","bed","year"]
theorem EJ:Zj N_q13 ZW (Zd Z9):=mk9
def ZY (K:W.Frag) (mg:fZ->Option fV):Sp:=λvs H _ E=>E7 λ(a:fT) (vb:V) (b:Int) (fQ:List Int) (c:fT) (ts:List fT) (ss:List (Bool × Int))=>vs=[.ref a,vb,.int b,.ref c]/\SqL K H a (fQ.map V.int)/\fQ.length <= 1000/\(¬ (1 <= b/\b <= (fQ.length:Int))->Thr mg "UnknownBed" E H)/\(1 <= b/\b <= (fQ.length:Int)->(SqL K H c (ts.map V.ref)/\Zu H ts ss/\(¬ (1 <= ss.length/\ss.length <= 12)->Thr mg "BadYear" E H)/\(1 <= ss.length/\ss.length <= 12->¬ (∀ z ∈ ss,Yl z.2)->Thr mg "BadAmount" E H))/\¬ ((1 <= ss.length/\ss.length <= 12)/\(∀ z ∈ ss,Yl z.2)))
def sp_q13 (K:W.Frag):Sp:=λvs H Q _=>E8 λ(a b c:fT) (fQ fR:List Int) (ts:List fT) (ss:List (Bool × Int)) (i:Nat)=>vs=[.ref a,.ref b,.int ((i:Int)+1),.ref c]/\SqL K H a (fQ.map V.int)/\SqL K H b (fR.map V.int)/\SqL K H c (ts.map V.ref)/\Zu H ts ss/\NY fQ fR/\(∀ z ∈ ss,0 <= z.2/\z.2 <= 1000000)/\1 <= ss.length/\ss.length <= 12/\i < fQ.length /\
 ∀ (H':Hp) (t:fT) (d:Bool) (y k:Nat),Same H H'->H t=none->H' t=some (.tup [.bl d,.int y,.int k])->True->Q (.ref t) H'
theorem O2 {c p:fT} {Q:VK} {ts:List fT} {ss:List (Bool × Int)} {full:Int} {H1:Hp} (hC:SqL K H1 c (ts.map V.ref)) (hS:Zu H1 ts ss) (hf:0 <= full) (hz:∀ z ∈ ss,0 <= z.2/\z.2 <= 1000000) (hn:ss.length <= 1000) (fp:H1 p=none)
  (q:∀ (H':Hp) (rs:List fT),Same H1 H'->H' p=some (.lst (rs.map V.ref))->C4 H' rs (ss.map (CY full))->Q (.ref p) H') :
  NZ (Itl K c) p Q (FV 0) dJ (tCall (X7 K) [] E0 (Yw (tVar 1) (Yw (tVar 0) IV))) [none,some (.int full)] (upd H1 p (.lst [])):=by
 refine EH (xs:=ts.map V.ref) (λi σ H2=>(∃ v,σ=[v,some (.int full)])/\Same H1 H2/\∃ rs:List fT,H2 p=some (.lst (rs.map V.ref))/\C4 H2 rs ((ss.take i).map (CY full))) ?_ ?_ ?_ ?_
 ·exact ⟨⟨none,Z⟩,Same.upd fp,[],Zb,by rw [kB];exact C4.nil _⟩
 ·rintro i σ H2 _ ⟨_,s2,_⟩;exact s2.seq hC
 ·rintro i x σ H2 hx ⟨⟨v,rfl⟩,s2,rs,h2p,hR⟩;obtain ⟨t,z,rfl,ez,e2⟩:=hS.item hx;have hzz:=hz z (i7 ez);have hil:i < ss.length:=(gK.mp ez).1;refine DN ?_;refine ⟨_,Z,_,Z,full,t,z,Z,s2 _ _ e2,hf,hzz.1,hzz.2,λH3 r s3 fr hr=>?_⟩;have h3p:=s3 _ _ h2p;have hlen:rs.length=i:=by rw [hR.len,fU,iH];lia
  refine ⟨_,h3p,Js (by rw [fU];lia),⟨_,Z⟩,(s2.trans s3).set fp,rs ++ [r],?_,?_⟩
  ·rw [Zb,gO];rfl
  ·have S3:C4 H3 (rs ++ [r]) ((ss.take i).map (CY full) ++ [CY full z]):=(hR.same s3).snoc hr;rw [B5 ez,gO];refine ⟨S3.len,λj y e=>?_⟩;obtain ⟨t',e1,e2⟩:=S3.at' j y e;exact ⟨t',e1,by rw [Zk (AF e2 h3p (by intro z;cases z))];exact e2⟩
 ·rintro σ H2 ⟨_,s2,rs,h2p,hR⟩;rw [fU,hS.len,iZ] at hR;exact q H2 rs s2 h2p hR
theorem ok_q13 (F:Fun K "first_season" "first_season" Z9 f fd) (T:Txt K mg) (o_check_bed:Ok P w K mg base "check_bed" Ja 1 C3) (o_q30:Ok P w K mg base "check_year" KI 2 (OC K)) (o_q21:Ok P w K mg base "season_rule" Z7 2 (X7 K)) (o_applied:Ok P w K mg base "applied" DG 1 (DE K)) (o_q14:Ok P w K mg base "rest_down_to" P_q14 4 (aQ K)) (o_rest_of:Ok P w K mg base "rest_of" EM 5 (KG K)):Ym P w K mg base CX0 6 f fd ZW (sp_q13 K):=by
  obtain ⟨a,b,c,fQ,fR,ts,ss,i,rfl,hA,hB,hC,hS,hO,hz,hs1,hs2,hi,q⟩:=‹EJ›;have hz0:∀ z ∈ ss,0 <= z.2:=λz h=>(hz z h).1;have B1:=hO.lo;have B2:=hO.hi;have B3:=hO.len;have B4:=hO.sum;have d0:=hO.ok.down i (by lia);have d1:=hO.ok.down (i+1) (by lia);have f0:0 <= down fQ i:=kK d0.1 d0.2;have f1:0 <= down fQ (i+1):=kK d1.1 d1.2;have hlts:((ts.map V.ref).length:Int)=ss.length:=by rw [fU,hS.len]
  have cut0:∀ xs:List Int,DD (xs.map V.int) (some ((i:Int)+1 - 1)) none=(xs.drop i).map V.int:=λxs=>by rw [show (i:Int)+1 - 1=(i:Int) by lia,DO,k6]
  have cut1:∀ xs:List Int,DD (xs.map V.int) (some ((i:Int)+1)) none=(xs.drop (i+1)).map V.int:=λxs=>by rw [show (i:Int)+1=((i+1:Nat):Int) by lia,DO,k6]
  refine ⟨_,(Zc (Zp (Zg o_check_bed hr (pa2 (Zy T.n_len (pv 0)) (pv 2)))) (Zc (Zp (Zg o_q30 hr (pa1 (pv 3)))) (Zc (psn 4 EJ.nd (D0 (by rfl) T.n_sum (Jz BJ (pv 1) (B7 (Zh Yj (pv 2) Za)) BY))) (Zc (psn 5 EJ.nd (D0 (by rfl) T.n_sum (Jz BJ (pv 1) (B7 (pv 2)) BY))) (Zc (NX (i:=6) EJ.nd Z (Or.inr Z) (D0 (by rfl) T.n_sum (Jz BJ (pv 0) (B7 (Zh Yj (pv 2) Za)) BY))) (Zc (NX (i:=7) EJ.nd Z (Or.inr Z) (D0 (by rfl) T.n_sum (Jz BJ (pv 0) (B7 (pv 2)) BY))) (Zc (HQ (i:=8) Z EJ.nd Z Z (Yi.of (T:=["season"]) (js:=[6]) (Zd Z9).names N_q13 Z Z Z D9_) (BN (pv 3)) (λ_ _ _ _=>⟨(Zw (i:=0) (by show List.Nodup (["season","full_down"]:List fZ);decide +kernel) Z (Or.inl Z)),CS,(Zg o_q21 hr (pa2 (pv 1) (pv 0)))⟩)) (Zc (HQ (i:=9) Z EJ.nd Z Z (Yi.of (T:=["season"]) (js:=[7]) (Zd Z9).names N_q13 Z Z Z D9_) (BN (pv 3)) (λ_ _ _ _=>⟨(Zw (i:=0) (by show List.Nodup (["season","full_above"]:List fZ);decide +kernel) Z (Or.inl Z)),CS,(Zg o_q21 hr (pa2 (pv 1) (pv 0)))⟩)) (Zc (psn 10 EJ.nd (P6 (by rfl) T.n_max (Zg o_q14 hr (pa3 (pv 6) (pv 4) (pv 3))) (Zg o_q14 hr (pa3 (pv 7) (pv 5) (pv 3))))) (Zc (AO PassesOwn.never Z (MQ (by rfl) T.n_range (pa2 Za (Zh Zz (pv 10) Za))) (Zw (i:=11) EJ.nd Z (Or.inl Z)) (Ze (AO PassesOwn.never Z (AY (by rfl) T.n_range (pa1 (Zy T.n_len (pv 3)))) (Zw (i:=12) EJ.nd Z (Or.inl Z)) (Zc (psn 4 EJ.nd (Zg o_applied hr (pa2 (pxl (pv 8) (pv 12)) (pv 4)))) (Zc (psn 5 EJ.nd (Zg o_applied hr (pa2 (pxl (pv 9) (pv 12)) (pv 5)))) (Ze (Yk (pcr Jv (Zh Yj (pv 4) (pv 5)) (pxl (pv 0) (Zh Yj (pv 2) Za))) (Ze (Zi (Jc (pa3 BO (pv 11) (Zh Zz (pv 12) Za))))) Zn))))))) (Ze (Zi (Jc (pa3 BO (Zg o_rest_of hr (pa3 (pv 0) (pv 1) (pv 3))) Za)))))))))))))),?_⟩
  try dsimp only [cK_,cL_]
  refine ⟨_,Z,a,_,Z,.inl hA,_,Z,_,_,Z,by lia,by rw [fU];lia,?_⟩;refine ⟨_,Z,c,ts,ss,Z,hC,hS,hz,hs1,hs2,?_⟩;refine ⟨_,Z,_,Z,_,_,Z,Z,_,Z,b,_,Z,hB,λc1 e1=>?_⟩;have s1:=Same.upd (o:=.lst (DD (fR.map V.int) (some ((i:Int)+1 - 1)) none)) e1;refine ⟨c1,fR.drop i,Z,SqL.of (Zb.trans (by rw [<- cut0])),?_⟩;refine ⟨_,Z,_,Z,_,Z,b,_,Z,s1.seq hB,λc2 e2=>?_⟩;have s2:=s1.trans (Same.upd (o:=.lst (DD (fR.map V.int) (some ((i:Int)+1)) none)) e2);refine ⟨c2,fR.drop (i+1),Z,SqL.of (Zb.trans (by rw [<- cut1])),?_⟩;refine ⟨_,Z,_,Z,_,_,Z,Z,_,Z,a,_,Z,s2.seq hA,λc3 e3=>?_⟩;have s3:=s2.trans (Same.upd (o:=.lst (DD (fQ.map V.int) (some ((i:Int)+1 - 1)) none)) e3);refine ⟨c3,fQ.drop i,Z,SqL.of (Zb.trans (by rw [<- cut0])),?_⟩;refine ⟨_,Z,_,Z,_,Z,a,_,Z,s3.seq hA,λc4 e4=>?_⟩;have s4:=s3.trans (Same.upd (o:=.lst (DD (fQ.map V.int) (some ((i:Int)+1)) none)) e4);refine ⟨c4,fQ.drop (i+1),Z,SqL.of (Zb.trans (by rw [<- cut1])),?_⟩;generalize upd (upd (upd (upd H c1 (.lst (DD (fR.map V.int) (some ((i:Int)+1 - 1)) none))) c2 (.lst (DD (fR.map V.int) (some ((i:Int)+1)) none))) c3 (.lst (DD (fQ.map V.int) (some ((i:Int)+1 - 1)) none))) c4 (.lst (DD (fQ.map V.int) (some ((i:Int)+1)) none))=H4 at *;clear e1 e2 e3 e4 s1 s2 s3;refine ⟨_,Z,c,Z,⟨_,s4.seq hC⟩,λp1 g1=>?_⟩;refine O2 (s4.seq hC) (hS.same s4) f0 hz (by lia) g1 λH5 rs5 s5 h5 R5=>?_;have s45:=s4.trans s5;refine ⟨_,Z,c,Z,⟨_,s45.seq hC⟩,λp2 g2=>?_⟩;refine O2 (s45.seq hC) (hS.same s45) f1 hz (by lia) g2 λH6 rs6 s6 h6 R6=>?_;have s46:=s45.trans s6;refine ⟨_,Z,_,Z,_,Z,c,down fQ i,down fR i,ts,ss,Z,s46.seq hC,hS.same s46,d0.1,d0.2,hz,by lia,λH7 r1 s7 RR1=>?_⟩;have s47:=s46.trans s7;refine ⟨_,Z,_,Z,_,Z,c,down fQ (i+1),down fR (i+1),ts,ss,Z,s47.seq hC,hS.same s47,d1.1,d1.2,hz,by lia,λH8 r2 s8 RR2=>?_⟩;have s48:=s47.trans s8;refine ⟨_,_,Z,?_⟩;have h8d:=s8 _ _ (s7 _ _ (s6 _ _ h5));have h8a:=s8 _ _ (s7 _ _ h6);have RD:=(R5.same s6).same (s7.trans s8);have RA:=R6.same (s7.trans s8);obtain ⟨R,eR,hR1,hR2⟩:∃ R:Nat,(if (r1:Int) < (r2:Int) then (r2:Int) else (r1:Int))=(R:Int)/\r1 <= R/\r2 <= R:=by
   split
   ·exact ⟨r2,Z,by lia,gA _⟩
   ·exact ⟨r1,Z,gA _,by lia⟩
  rw [eR];have b1:=RR1;have b2:=RR2;have hRb:(R:Int) <= fQ.sum+2:=by
   have l0:=bS hO.ok.fQ i (by lia);have l1:=bS hO.ok.fQ (i+1) (by lia);have e0:down fQ 0=fQ.sum:=rfl;rw [<- eR];split <;> lia
  clear eR b1 b2 s5 s6 s7 s8 s45 s46 s47 g1 g2 h5 h6 R5 R6;refine ⟨_,Z,_,_,Z,Z,_,_,Z,⟨by lia,by lia,by lia,by lia⟩,?_⟩;rw [show ((R:Int)+1 - 1).toNat=R by lia];refine C9 (n:=R) (λy σ H9=>∃ (dn ab:Int) (v11 v12:Option V),Same H8 H9/\σ=[some (.ref a),some (.ref b),some (.int ((i:Int)+1)),some (.ref c),some (.int dn),some (.int ab),some (.int (down fQ i)),some (.int (down fQ (i+1))),some (.ref p1),some (.ref p2),some (.int R),v11,v12]) ?_ ?_ ?_
  ·exact ⟨_,_,none,none,Same.refl _,Z⟩
  ·rintro y σ H9 hy ⟨dn,ab,v11,v12,s9,rfl⟩;refine ⟨_,Z,c,_,Z,.inl ((s48.trans s9).seq hC),_,Z,by lia,by lia,?_⟩;rw [show ((ts.map V.ref).length:Int).toNat=ss.length by lia];refine C9 (n:=ss.length) (λk σ H10=>∃ (dn ab:Int) (v12:Option V),Same H8 H10/\σ=[some (.ref a),some (.ref b),some (.int ((i:Int)+1)),some (.ref c),some (.int dn),some (.int ab),some (.int (down fQ i)),some (.int (down fQ (i+1))),some (.ref p1),some (.ref p2),some (.int R),some (.int (1+(y:Int))),v12]) ?_ ?_ ?_
   ·exact ⟨_,_,v12,s9,Z⟩
   ·rintro k σ H10 hk ⟨dn,ab,v12,s10,rfl⟩;have e0:(0:Int)+(k:Int)=(k:Int):=by lia
    rw [e0];obtain ⟨z,ez⟩:∃ z,ss[k]? = some z:=⟨_,fX hk⟩;have hzz:=hz z (i7 ez);obtain ⟨u,eu,hu⟩:=(RD.same s10).ix (i:=k) (R:=CY (down fQ i) z) (by rw [gE,ez];rfl);obtain ⟨u',eu',hu'⟩:=(RA.same s10).ix (i:=k) (R:=CY (down fQ (i+1)) z) (by rw [gE,ez];rfl);refine ⟨_,Z,_,Z,p1,_,_,_,Z,Z,SqL.of (s10 _ _ h8d),eu,_,Z,u,(CY (down fQ i) z).d,(CY (down fQ i) z).l,(CY (down fQ i) z).m,_,Z,SqT.of hu,JU f0 hzz.1,λH11 s11=>?_⟩;have s11':=s10.trans s11;refine ⟨_,Z,_,Z,p2,_,_,_,Z,Z,SqL.of (s11' _ _ h8a),eu',_,Z,u',(CY (down fQ (i+1)) z).d,(CY (down fQ (i+1)) z).l,(CY (down fQ (i+1)) z).m,_,Z,SqT.of (s11 _ _ hu'),JU f1 hzz.1,λH12 s12=>?_⟩;have s12':=s11'.trans s12;refine ⟨_,Z,_,Z,_,_,Z,Z,_,Z,_,Z,_,_,Z,Z,a,_,_,_,Z,Z,(s48.trans s12').seq hA,by rw [show (i:Int)+1 - 1=(i:Int) by lia];exact Yz hi,Z,_,Z,?_⟩;refine Jl (λhc=>?_) (λhc=>?_)
    ·refine ⟨_,Z,_,Z,_,_,Z,Z,sz9,λt ft=>?_⟩;refine q _ t true (y+1) (k+1) ((s48.trans s12').trans (Same.upd ft)) (none_of (s48.trans s12') ft) (Zb.trans ?_) trivial;show some (HO.tup [.bl true,.int (1+(y:Int)),.int ((k:Int)+1)])=_;rw [show 1+(y:Int)=((y+1:Nat):Int) by lia,show (k:Int)+1=((k+1:Nat):Int) by lia]
    ·exact ⟨_,_,_,s12',Z⟩
   ·rintro σ H10 ⟨dn,ab,v12,s10,rfl⟩;exact ⟨_,_,_,v12,s10,Z⟩
  ·rintro σ H9 ⟨dn,ab,v11,v12,s9,rfl⟩;have s49:=s48.trans s9;refine ⟨_,Z,_,Z,_,Z,a,b,c,fQ,fR,ts,ss,Z,s49.seq hA,s49.seq hB,s49.seq hC,hS.same s49,hO,hz,hs1,hs2,λH10 r s10 hr10=>?_⟩;refine ⟨sz9,λt ft=>?_⟩;exact q _ t false r 0 ((s49.trans s10).trans (Same.upd ft)) (none_of (s49.trans s10) ft) Zb trivial
theorem ok_q13X (F:Fun K "first_season" "first_season" Z9 f fd) (T:Txt K mg) (o_check_bedX:OkX P w K mg base "check_bed" Ja 1 (BG mg)) (o_q30X:OkX P w K mg base "check_year" KI 2 (KD K mg)):Ym P w K mg base (CX1 P w) 6 f fd ZW (ZY K mg):=by
  obtain ⟨a,vb,b,fQ,c,ts,ss,rfl,hA,hn,e0,hy⟩:=‹¬EJ›
  refine ⟨_,(Zc (Zp (Yc o_check_bedX hr (Yu (E:=E)) (pa2 (Zy T.n_len (pv 0)) (pv 2)))) (Zc (Zp (Yc o_q30X hr (Yu (E:=E)) (pa1 (pv 3)))) CD)),?_⟩
  try dsimp only [cK_,cL_]
  refine ⟨_,Z,a,_,Z,.inl hA,_,Z,fQ.length,b,?_,hn,λhb=>?_,λhb C x hm hx=>e0 hb C x H hm (Same.refl _) hx⟩
  ·rw [fU];rfl
  obtain ⟨⟨hC,hS,e5,e6⟩,bad⟩:=hy hb;exact ⟨_,Z,c,ts,ss,Z,hC,hS,e5,λhl=>⟨λhz=>absurd ⟨hl,hz⟩ bad,e6 hl⟩⟩
abbrev FE:hZ:=top 61
abbrev N6:List fZ:=["kind","seasons"]
abbrev HZ:List fZ:=["kind","seasons"]
theorem SZ:Zj N6 HZ (Zd FE):=mk9
def KZ (K:W.Frag):Sp:=λvs H Q _=>E4 λ(b:Bool) (p:fT) (ts:List fT) (ss:List (Bool × Int))=>vs=[.str (AX b),.ref p]/\SqL K H p (ts.map V.ref)/\Zu H ts ss/\ss.length <= 1000/\∀ H',Same H H'->Q (.int (DS b ss)) H'
theorem RH (F:Fun K "amount_of" "amount_of" FE f fd) (T:Txt K mg):Ym P w K mg base CX0 1 f fd HZ (KZ K):=by
  obtain ⟨b,p,ts,ss,rfl,hP,hS,hn,q⟩:=‹SZ›;refine ⟨_,(Ze (Zi (D0 (by rfl) T.n_sum (EB Z (Yi.of (T:=["season"]) (js:=[0]) (Zd FE).names N6 Z Z Z D9_) (BN (pv 1)) (λ_ _ _ _=>⟨(Zw (i:=0) (by show List.Nodup (["season","kind"]:List fZ);decide +kernel) Z (Or.inl Z)),(QI (pcr Jv (KL (MJ K) (pv 0) Za (λ_ _=>rfl)) (pv 1))),(KL (MJ K) (pv 0) Za (λ_ _=>rfl))⟩))))),?_⟩
  try dsimp only [cK_,cL_]
  refine ⟨_,Z,p,Z,⟨_,hP⟩,λl hl=>?_⟩;refine EH (xs:=ts.map V.ref) (λi σ H2=>(∃ v,σ=[v,some (.str (AX b))])/\H2=upd H l (.lst ((JK b (ss.take i)).map V.int))) ?_ ?_ ?_ ?_
  ·exact ⟨⟨none,Z⟩,Z⟩
  ·rintro i σ H2 _ ⟨_,rfl⟩;exact (Same.upd hl).seq hP
  ·rintro i x σ H2 hx ⟨⟨v,rfl⟩,rfl⟩;obtain ⟨t,z,rfl,hzi,ht⟩:=hS.item hx;have ht2:=Same.upd (o:=.lst ((JK b (ss.take i)).map V.int)) hl _ _ ht;have hlen:=U8 b (ss.take i);rw [iH] at hlen;refine ⟨_,Z,t,_,_,_,Z,Z,SqT.of ht2,Z,_,Z,Z,_,Z,?_⟩;rw [kinds_eq];refine Jl (λhc=>?_) (λhc=>?_)
   ·refine ⟨_,Z,t,_,_,_,Z,Z,SqT.of ht2,Z,_,Zb,Js (by rw [fU];lia),⟨_,Z⟩,?_⟩;rw [CK,S1 hzi hc,gO];rfl
   ·exact ⟨⟨_,Z⟩,by rw [XI hzi hc]⟩
  ·rintro σ H2 ⟨_,rfl⟩;rw [fU,hS.len,iZ];exact ⟨l,JK b ss,Z,SqL.of Zb,q _ (Same.upd hl)⟩
abbrev s_q18:hZ:=top 62
abbrev N_q18:List fZ:=["kind","year","at_year","season"]
abbrev P_q18:List fZ:=["kind","year","at_year","season"]
theorem sc_q18:Zj N_q18 P_q18 (Zd s_q18):=mk9
def sp_q18 (K:W.Frag):Sp:=λvs H Q _=>E6 λ(b:Bool) (p:fT) (ts:List fT) (ss:List (Bool × Int)) (n so:Nat)=>vs=[.str (AX b),.ref p,.int ((n:Int)+1),.int (so:Int)]/\SqL K H p (ts.map V.ref)/\Zu H ts ss/\ss.length <= 1000/\(∀ z ∈ ss,0 <= z.2/\z.2 <= 1000000)/\∀ H',Same H H'->Q (.int (D7 b ss n so)) H'
theorem ok_q18 (F:Fun K "amount_until" "amount_until" s_q18 f fd) (T:Txt K mg) (o_amount_of:Ok P w K mg base "amount_of" HZ 1 (KZ K)):Ym P w K mg base CX0 2 f fd P_q18 (sp_q18 K):=by
  obtain ⟨b,p,ts,ss,n,so,rfl,hP,hS,hn,hz,q⟩:=‹sc_q18›;refine ⟨_,(Ze (Zi (Zh Zz (Zh DV (Zh Yj (pv 2) Za) (Zg o_amount_of hr (pa2 (pv 0) (pv 1)))) (Zg o_amount_of hr (pa2 (pv 0) (Jz BJ (pv 1) BY (B7 (pv 3)))))))),?_⟩
  try dsimp only [cK_,cL_]
  refine ⟨_,Z,_,_,Z,Z,_,Z,_,Z,b,p,ts,ss,Z,hP,hS,hn,λH1 s1=>?_⟩;have hb:=amtOf_le b hz hn;refine ⟨_,_,Z,Z,.inr hb,?_⟩;refine ⟨_,Z,_,Z,_,Z,_,Z,p,_,Z,s1.seq hP,λl hl=>?_⟩;have ec:DD (ts.map V.ref) none (some (so:Int))=(ts.take so).map V.ref:=by rw [GH,kQ]
  refine ⟨b,l,ts.take so,ss.take so,Z,SqL.of (Zb.trans (by rw [ec])),((hS.same s1).same (Same.upd hl)).take so,by rw [iH];lia,λH2 s2=>?_⟩;refine ⟨_,_,Z,Z,?_⟩;have e:((n:Int)+1 - 1) * DS b ss+DS b (ss.take so)=D7 b ss n so:=by unfold D7;rw [show (n:Int)+1 - 1=(n:Int) by lia]
  show Q (V.int (((n:Int)+1 - 1) * DS b ss+DS b (ss.take so))) H2;rw [e];exact q _ (s1.trans ((Same.upd hl).trans s2))
abbrev K4:hZ:=top 63
abbrev Y9:List fZ:=["needs","heats","found","taken"]
abbrev EN:List fZ:=["needs","heats","found","taken"]
theorem V6:Zj Y9 EN (Zd K4):=mk9
def ET:Sp:=λvs H Q _=>E4 λ(a b:fT) (x y:Int)=>vs=[.ref a,.ref b,.int x,.int y]/\∀ (H':Hp) (d:fT),Same H H'->H d=none->H' d=some (.dK (BA a b x y))->Q (.ref d) H'
theorem VI (F:Fun K "stage_of" "stage_of" K4 f fd) (T:Txt K mg):Ym P w K mg base CX0 1 f fd EN ET:=by
  obtain ⟨a,b,x,y,rfl,q⟩:=‹V6›;refine ⟨_,(Ze (Zi (pe_disp (LZ Zs (pv 0) (LZ Zs (pv 1) (LZ Zs (pv 2) (LZ Zs (pv 3) pps_nil)))) (by rfl) (by rfl) (by simp) (by decide)))),?_⟩
  try dsimp only [cK_,cL_]
  intro d hd;refine ⟨_,Z,_,Z,_,Z,_,Z,Zb,BA a b x y,Z,by show 4 <= 15;decide,?_⟩;rw [CK,UM];exact q _ d (Same.upd hd) hd Zb
abbrev MY:hZ:=top 64
abbrev aR:List fZ:=["stage","year","at_year","season","behind","found","taken"]
abbrev N4:List fZ:=["stage","year","at_year","season"]
theorem GS:Zj aR N4 (Zd MY):=mk9
def OS (K:W.Frag):Sp:=λvs H Q _=>E7 λ(d p:fT) (S:Zq) (ts:List fT) (ss:List (Bool × Int)) (n so:Nat)=>E2 λ(a0 b0:fT)=>vs=[.ref d,.ref p,.int ((n:Int)+1),.int (so:Int)]/\H d=some (.dK (BA a0 b0 S.found S.taken))/\H a0=some (.lst (S.fQ.map V.int))/\H b0=some (.lst (S.fR.map V.int))/\SqL K H p (ts.map V.ref)/\Zu H ts ss/\ss.length <= 1000/\(∀ z ∈ ss,0 <= z.2/\z.2 <= 1000000)/\Zr S.fQ S.fR/\1 <= S.fQ.length/\S.fQ.length <= 1000/\(n:Int)+1 <= 1000000000000000000 /\
 ∀ (H':Hp) (t d' b':fT),Same H H'->H t=none->H d' = none->H b' = none->H' t=some (.tup [.ref d',.int (BI S.fQ S.fR ss n so).room,.int (BI S.fQ S.fR ss n so).heat])->H' d' = some (.dK (BA a0 b' (CZ S ss n so).found (CZ S ss n so).taken))->H' b' = some (.lst ((CZ S ss n so).fR.map V.int))->Q (.ref t) H'
theorem Z1 (F:Fun K "reached" "reached" MY f fd) (T:Txt K mg) (o_q9:Ok P w K mg base "passed_until" P_q9 6 (sp_q9 K)) (o_q18:Ok P w K mg base "amount_until" P_q18 2 (sp_q18 K)) (o_stage_of:Ok P w K mg base "stage_of" EN 1 ET):Ym P w K mg base CX0 7 f fd N4 (OS K):=by
  obtain ⟨d,p,S,ts,ss,n,so,a0,b0,rfl,g1,g2,g3,hP,hS,hn,hz,hO,hl1,hl2,hnn,q⟩:=‹GS›;have dn:∀ {H':Hp},Same H H'->CP H' d (.str "needs") (some (.ref a0)):=λ{H'} s=>by have z:=CP.k (k:=Sum.inr "needs") (s _ _ g1);rw [Yq] at z;exact z
  have dh:∀ {H':Hp},Same H H'->CP H' d (.str "heats") (some (.ref b0)):=λ{H'} s=>by have z:=CP.k (k:=Sum.inr "heats") (s _ _ g1);rw [Yt] at z;exact z
  have df:∀ {H':Hp},Same H H'->CP H' d (.str "found") (some (.int S.found)):=λ{H'} s=>by have z:=CP.k (k:=Sum.inr "found") (s _ _ g1);rw [HU] at z;exact z
  have dt:∀ {H':Hp},Same H H'->CP H' d (.str "taken") (some (.int S.taken)):=λ{H'} s=>by have z:=CP.k (k:=Sum.inr "taken") (s _ _ g1);rw [HS] at z;exact z
  refine ⟨_,(Zc (psn 4 GS.nd (Zg o_q9 hr (Zo (Yd (Jt hr) (pv 0) Zs (λ_ _=>rfl)) (Zo (Yd (Jt hr) (pv 0) Zs (λ_ _=>rfl)) (pa3 (pv 1) (pv 2) (pv 3)))))) (Zc (psn 5 GS.nd (Zh Yj (Zh Zz (Yd (Jt hr) (pv 0) Zs (λ_ _=>rfl)) (Zg o_q18 hr (Zo Zs (pa3 (pv 1) (pv 2) (pv 3))))) (pxt (pv 4) Za))) (Zc (psn 6 GS.nd (Zh Yj (Zh Zz (Yd (Jt hr) (pv 0) Zs (λ_ _=>rfl)) (Zg o_q18 hr (Zo Zs (pa3 (pv 1) (pv 2) (pv 3))))) (pxt (pv 4) Za))) (Ze (Zi (Jc (pa3 (Zg o_stage_of hr (Zo (Yd (Jt hr) (pv 0) Zs (λ_ _=>rfl)) (pa3 (pxt (pv 4) Za) (pv 5) (pv 6)))) (pxt (pv 4) Za) (pxt (pv 4) Za)))))))),?_⟩
  try dsimp only [cK_,cL_]
  refine ⟨_,Z,d,_,Z,dn (Same.refl _),_,Z,d,_,Z,dh (Same.refl _),_,Z,_,Z,_,Z,a0,b0,p,S.fQ,S.fR,ts,ss,n,so,Z,SqL.of g2,SqL.of g3,hP,hS,hO,hl1,hl2,hz,hn,hnn,λH1 t1 p1 s1 ft1 fp1 ht1 hp1=>?_⟩;refine ⟨_,Z,d,_,Z,df s1,_,Z,_,Z,_,Z,true,p,ts,ss,n,so,Z,s1.seq hP,hS.same s1,hn,hz,λH2 s2=>?_⟩;have s12:=s1.trans s2;refine ⟨_,_,Z,Z,_,Z,t1,_,_,_,Z,Z,SqT.of (s2 _ _ ht1),Z,_,_,Z,Z,?_⟩;refine ⟨_,Z,d,_,Z,dt s12,_,Z,_,Z,_,Z,false,p,ts,ss,n,so,Z,s12.seq hP,hS.same s12,hn,hz,λH3 s3=>?_⟩;have s13:=s12.trans s3;have ht3:=s3 _ _ (s2 _ _ ht1);refine ⟨_,_,Z,Z,_,Z,t1,_,_,_,Z,Z,SqT.of ht3,Z,_,_,Z,Z,?_⟩;refine ⟨_,Z,d,_,Z,dn s13,_,Z,t1,_,_,_,Z,Z,SqT.of ht3,Z,_,Z,_,Z,a0,p1,_,_,Z,λH4 d4 s4 f4 h4=>?_⟩;have ht4:=s4 _ _ ht3;refine ⟨_,Z,t1,_,_,_,Z,Z,SqT.of ht4,Z,_,Z,t1,_,_,_,Z,Z,SqT.of ht4,Z,sz9,λt5 f5=>?_⟩;have s14:=s13.trans s4;exact q _ t5 d4 p1 (s14.trans (Same.upd f5)) (s14.free f5) (s13.free f4) fp1 Zb (Same.upd f5 _ _ h4) (Same.upd f5 _ _ (s4 _ _ (s3 _ _ (s2 _ _ hp1))))
abbrev N2:hZ:=top 65
abbrev aB:List fZ:=["deed"]
abbrev MV:List fZ:=["deed"]
theorem Y3:Zj aB MV (Zd N2):=mk9
def OF:Sp:=λvs H Q _=>E2 λ(t:fT) (D:Deed)=>vs=[.ref t]/\XM H t D/\∀ (H':Hp) (u l:fT) (ts:List fT),Same H H'->H' u=some (.tup [.ref l,.int ((D.more:Int)+1)])->H' l=some (.lst (ts.map V.ref))->Zu H' ts D.row->Q (.ref u) H'
theorem XS (F:Fun K "year_of" "year_of" N2 f fd) (T:Txt K mg):Ym P w K mg base CX0 1 f fd MV OF:=by
  obtain ⟨t,D,rfl,hD,q⟩:=‹Y3›
  refine ⟨_,(Zc (Yk (pcr Jv (pxt (pv 0) Za) Zs) (Ze (Zi (Jc (pa2 (Jo T.n_list (pxt (pv 0) Za)) (pxt (pv 0) Za))))) Zn) (Zc (Yk (pcr Jv (pxt (pv 0) Za) Zs) (Ze (Zi (Jc (pa2 (Zx Jh) Za)))) Zn) (Ze (Zi (Jc (pa2 (Zx (pa1 (pv 0))) Za)))))),?_⟩
  try dsimp only [cK_,cL_]
  cases D with
  | sea z=>
   have hD:H t=some (.tup [.str (AX z.1),.int z.2]):=hD;refine ⟨_,Z,t,_,_,_,Z,Z,SqT.of hD,Z,Z,_,Z,?_⟩;rw [GQ];refine CV ?_;refine ⟨_,Z,t,_,_,_,Z,Z,SqT.of hD,Z,Z,_,Z,?_⟩;rw [QX];refine CV ?_;refine ⟨_,Z,sz9,λl fl=>⟨sz9,λu fu=>?_⟩⟩;exact q _ u l [t] ((Same.upd fl).trans (Same.upd fu)) Zb (Same.upd fu _ _ Zb) (((Zu.nil _).snoc (z:=z) hD).same ((Same.upd fl).trans (Same.upd fu)))
  | yrs ss n=>
   obtain ⟨u0,ts,h1,h2,h3⟩:=hD;refine ⟨_,Z,t,_,_,_,Z,Z,SqT.of h1,Z,Z,_,Z,?_⟩;refine IA ?_;refine ⟨_,Z,t,_,_,_,Z,Z,SqT.of h1,Z,u0,_,Z,.inr (SqT.of h2),λl fl=>⟨_,Z,t,_,_,_,Z,Z,SqT.of (Same.upd fl _ _ h1),Z,sz9,λu fu=>?_⟩⟩;exact q _ u l ts ((Same.upd fl).trans (Same.upd fu)) Zb (Same.upd fu _ _ Zb) (h3.same ((Same.upd fl).trans (Same.upd fu)))
abbrev KH:hZ:=Jd (top 66) 0
abbrev N_G_q32:List fZ:=["self","needs","heats","need","begun"]
abbrev PL:List fZ:=["self","needs","heats"]
theorem QM:Zj N_G_q32 PL (Zd KH):=mk9
def JH (K:W.Frag) (G:fT):Sp:=λvs H Q _=>E6 λ(p a dx:fT) (fQ begun:List Int) (hv:V)=>vs=[.ref p,.ref a,hv]/\H p=some (.ins G dx [])/\SqL K H a (fQ.map V.int)/\1 <= fQ.length/\fQ.length <= 30/\(∀ i,i < fQ.length->1 <= fQ.getD i 0/\fQ.getD i 0 <= 200) /\
 ((hv = .non/\begun=hV fQ.length 0)\/∃ b,hv = .ref b/\SqL K H b (begun.map V.int))/\Zr fQ begun/\∀ H',(∀ b o,H b=some o->b ≠ p->H' b=some o)->DQ G (λb=>H b=none) H' p [] [⟨fQ,begun,0,0⟩]->Q .non H'
theorem init_of {G:fT} {H:Hp} {c1 c2:fT} {fQ fR:List Int} {R:fT->Hp->Prop} {E:XK} (h1:H c1=some (.lst (fQ.map V.int))) (h2:H c2=some (.lst (fR.map V.int))) (B:NY fQ fR) (h30:fQ.length <= 30)
  (q:∀ (H':Hp) (x pk ps:fT),Same H H'->H pk=none->H ps=none->Yg G (λb=>H b=none) H' x pk ps [] [⟨fQ,fR,0,0⟩]->R x H'):∀ x dx,H x=none->H dx=none->dx ≠ x->JH K G [.ref x,.ref c1,.ref c2] (upd (upd H dx (.own x)) x (.ins G dx [])) (λv H2=>v = .non/\R x H2) E:=by
 have hB1:=B.len;have hB3:=B.lo;intro x dx fx fdx nex;have hA0:∀ {c:fT} {ys:List Int},H c=some (.lst (ys.map V.int))->SqL K (upd (upd H dx (.own x)) x (.ins G dx [])) c (ys.map V.int):=λ{c ys} e=>SqL.of (by rw [Zk (Zf e fx),Zk (Zf e fdx)];exact e);refine ⟨x,c1,dx,fQ,fR,.ref c2,Z,Zb,hA0 h1,hB3,h30,B.need,.inr ⟨c2,Z,hA0 h2⟩,B.ok,λH3 k3 S3=>⟨Z,?_⟩⟩;obtain ⟨s3,S3'⟩:Same H H3/\DQ G (λb=>H b=none) H3 x [] [⟨fQ,fR,0,0⟩]:=by
  refine ⟨λb o e=>k3 b o (by rw [Zk (Zf e fx),Zk (Zf e fdx)];exact e) (Zf e fx),S3.keep (λb o _ e=>e) (λo e=>e) λb e=>?_⟩;cases z:H b with
  | none=>rfl
  | some o=>
   have e:(upd (upd H dx (.own x)) x (.ins G dx [])) b=none:=e;rw [Zk (Zf z fx),Zk (Zf z fdx),z] at e;cases e
 obtain ⟨pk,ps,fk,fs,X3⟩:=S3'.x (by intro e;rw [e] at hB3;simp at hB3) (by intro e;rw [e] at hB1;simp at hB1;lia);exact q H3 x pk ps s3 fk fs X3
theorem ok_G_q32 (F:FunD K "__init__" "Ground.__init__" KH f fd) (T:Txt K mg) (TG:DF K mg G) (o_q28:Ok P w K mg base "check_beds" P_q28 1 (sp_q28 K)) (o_q27:Ok P w K mg base "check_need" YU 1 dY) (o_q19:Ok P w K mg base "check_heats" P_q19 1 (sp_q19 K)) (o_stage_of:Ok P w K mg base "stage_of" EN 1 ET):Ym P w K mg base CX0 2 f fd PL (JH K G):=by
  obtain ⟨p,a,dx,fQ,begun,hv,rfl,hp,hA,h1,h30,hx,hb,hO,q⟩:=‹QM›
  refine ⟨_,(Zc (Zp (Zg o_q28 hr (pa1 (pv 1)))) (Zc (AO PassesOwn.never Z (BN (pv 1)) (Zw (i:=3) QM.nd Z (Or.inl Z)) (Ze (Zp (Zg o_q27 hr (pa1 (pv 3)))))) (Zc (psn 4 QM.nd (WX (pt_cmp (pc_isN (pv 2))) (Zh eE (Zx (pa1 Za)) (Zy T.n_len (pv 1))) (Jo T.n_list (pv 2)))) (Zc (Zp (Zg o_q19 hr (pa2 (pv 1) (pv 4)))) (Zc (ps_fld (pv 0) (Zx Jh) Z) (Ze (ps_fld (pv 0) (Zx (pa1 (Zg o_stage_of hr (Zo (Jo T.n_list (pv 1)) (pa3 (pv 4) Za Za))))) Z))))))),?_⟩
  try dsimp only [cK_,cL_]
  refine ⟨_,Z,a,fQ,Z,hA,h1,h30,?_⟩;refine ⟨_,Z,a,Z,⟨_,hA⟩,?_⟩;refine D9 (xs:=fQ.map V.int) (λi σ H2=>(∃ v,σ=[some (.ref p),some (.ref a),some hv,v,none])/\H2=H) ⟨⟨none,Z⟩,Z⟩ (λi σ H2 _ z=>by rw [z.2];exact hA) ?_ ?_
  ·rintro i x σ H2 hx2 ⟨⟨v,rfl⟩,rfl⟩;obtain ⟨hi,rfl⟩:=BQ hx2;exact ⟨_,Z,_,Z,(hx i hi).1,(hx i hi).2,⟨_,Z⟩,Z⟩
  rintro σ0 H0 ⟨⟨v,rfl⟩,rfl⟩;dsimp only;refine E1 (λσ H3=>∃ pb,σ=[some (.ref p),some (.ref a),some hv,v,some (.ref pb)]/\Same H0 H3/\H0 pb=none/\H3 pb=some (.lst (begun.map V.int))) ?_ ?_
  ·intro nx hnx;rcases hb with ⟨rfl,rfl⟩ | ⟨b,rfl,hB⟩
   ·refine ⟨_,Z,_,Z,?_⟩;refine IA ?_;refine ⟨sz9,λl0 f0=>⟨_,Z,a,_,Z,.inl ((Same.upd f0).seq hA),l0,_,_,Z,Z,Zb,?_,?_,?_,λpb fb=>?_⟩⟩
    ·lia
    ·rw [fU];lia
    ·refine E9 ?_;rw [fU];show 1 * _ <= _
     lia
    ·refine hnx _ _ ⟨pb,Z,(Same.upd f0).trans (Same.upd fb),(Same.upd f0).free fb,Zb.trans ?_⟩;refine congrArg (λz=>some (HO.lst z)) ?_;rw [fU,show ((fQ.length:Int)).toNat=fQ.length by lia];simp
   ·refine ⟨_,Z,_,Z,?_⟩;refine CV ?_;exact ⟨_,Z,b,_,Z,.inl hB,λpb fb=>hnx _ _ ⟨pb,Z,Same.upd fb,fb,Zb⟩⟩
  ·rintro σ1 H3 ⟨pb,rfl,s3,fpb,h3b⟩;refine ⟨_,Z,_,Z,a,pb,fQ,begun,Z,s3.seq hA,SqL.of h3b,hO,by lia,λH4 s4=>?_⟩;have s04:=s3.trans s4;have h4b:=s4 _ _ h3b;have h4p:=s04 _ _ hp;refine ⟨sz9,λpk fk=>?_⟩;have npk:p ≠ pk:=Zf h4p fk;refine ⟨_,Z,p,G,dx,[],Z,(by rw [Zk npk];exact h4p),TG.cl,TG.nK,(by show 0 < 1000;decide),?_⟩;have h5p:(upd (upd H4 pk (.lst [])) p (.ins G dx (JY "kept" (.ref pk) []))) p=some (.ins G dx (JY "kept" (.ref pk) [])):=Zb;have h5k:(upd (upd H4 pk (.lst [])) p (.ins G dx (JY "kept" (.ref pk) []))) pk=some (.lst []):=(Zk (Ne.symm npk)).trans Zb;have h5b:(upd (upd H4 pk (.lst [])) p (.ins G dx (JY "kept" (.ref pk) []))) pb=some (.lst (begun.map V.int)):=(Zk (AF h4b h4p (by intro z;cases z))).trans (Same.upd fk _ _ h4b);have hA5:SqL K (upd (upd H4 pk (.lst [])) p (.ins G dx (JY "kept" (.ref pk) []))) a (fQ.map V.int):=sqL_set ((Same.upd fk).seq (s04.seq hA)) (Same.upd fk _ _ h4p);have k5:∀ b o,H0 b=some o->b ≠ p->(upd (upd H4 pk (.lst [])) p (.ins G dx (JY "kept" (.ref pk) []))) b=some o:=λb o e n=>by rw [Zk n];exact Same.upd fk _ _ (s04 _ _ e)
   generalize upd (upd H4 pk (.lst [])) p (.ins G dx (JY "kept" (.ref pk) []))=H5 at h5p h5k h5b hA5 k5 ⊢;refine ⟨_,Z,a,_,Z,.inl hA5,λla fla=>⟨_,Z,la,pb,0,0,Z,λH6 d s6 fd6 hd6=>⟨sz9,λpst fst=>?_⟩⟩⟩;have s56:=(Same.upd (o:=.lst (fQ.map V.int)) fla).trans s6;have h6p:=s56 _ _ h5p;have npst:p ≠ pst:=Zf h6p fst;refine ⟨_,Z,p,G,dx,_,Z,(by rw [Zk npst];exact h6p),TG.cl,TG.nS,(by show 1 < 1000;decide),?_⟩;have kk:∀ {b:fT} {o:HO},b ≠ p->H6 b=some o->(upd (upd H6 pst (.lst [.ref d])) p (.ins G dx (JY "stages" (.ref pst) (JY "kept" (.ref pk) [])))) b=some o:=λ{b o} n e=>by rw [Zk n];exact Same.upd fst _ _ e
   have hla:H6 la=some (.lst (fQ.map V.int)):=s6 _ _ Zb;have old5:∀ {b:fT},b ≠ p->H5 b=none->H0 b=none:=λ{b} n e=>by
    cases z:H0 b with
    | none=>rfl
    | some o=>rw [k5 b o z n] at e;cases e
   have fps:H0 pst=none:=old5 (Ne.symm npst) (s56.free fst);have fd0:H0 d=none:=old5 (AF hd6 h6p (by intro z;cases z)) ((Same.upd (o:=.lst (fQ.map V.int)) fla).free fd6);have fla0:H0 la=none:=old5 (AF hla h6p (by intro z;cases z)) fla;refine q _ (λb o e n=>kk n (s56 _ _ (k5 b o e n))) ⟨⟨dx,pk,pst,[d],?_,s04.free fk,kk (Ne.symm npk) (s56 _ _ h5k),fps,?_,Z,λi S e=>?_⟩⟩
   ·rw [Zb,gF_put]
   ·exact (Zk (Ne.symm npst)).trans Zb
   ·match i,e with
    | 0,e=>
     cases e;exact ⟨d,la,pb,Z,fd0,fla0,fpb,kk (AF hd6 h6p (by intro z;cases z)) hd6,kk (AF hla h6p (by intro z;cases z)) hla,kk (AF (s56 _ _ h5b) h6p (by intro z;cases z)) (s56 _ _ h5b)⟩
    | k+1,e=>cases e
abbrev VD:hZ:=Jd (top 66) 1
abbrev N_G_q15:List fZ:=["self"]
abbrev Jj:List fZ:=["self"]
theorem sc_G_q15:Zj N_G_q15 Jj (Zd VD):=mk9
def Yx (G:fT):Sp:=λvs H Q _=>E5 λ(p:fT) (kept:List V) (Ss:List Zq) (S:Zq) (ok:fT->Prop)=>vs=[.ref p]/\W0 G ok H p kept Ss/\Ss.getLast? = some S/\∀ d a b,ok a->ok b->H d=some (.dK (BA a b S.found S.taken))->H a=some (.lst (S.fQ.map V.int))->H b=some (.lst (S.fR.map V.int))->Q (.ref d) H
theorem ok_G_q15 (F:Fun K "last_stage" "Ground.last_stage" VD f fd) (T:Txt K mg) (TG:DF K mg G):Ym P w K mg base CX0 1 f fd Jj (Yx G):=by
  obtain ⟨p,kept,Ss,S,ok,rfl,hG,hl,q⟩:=‹sc_G_q15›;refine ⟨_,(Ze (Zi (pxl (EL (pv 0) Z) (KK EQ Za)))),?_⟩
  try dsimp only [cK_,cL_]
  obtain ⟨dx,pk,ps,ds,h1,h2,h3,h4,h5⟩:=hG.ex;have hn:0 < Ss.length:=by
   cases Ss with
   | nil=>cases hl
   | cons a b=>simp
  obtain ⟨d,a,b,e1,oa,ob,e2,e3,e4⟩:=h5 (Ss.length - 1) S (by rw [<- List.getLast?_eq_getElem?];exact hl);refine ⟨_,Z,p,G,dx,_,_,Z,h1,TG.cl,TG.nS,ED _ _,_,Z,ps,_,_,_,Z,Z,SqL.of h3,?_,q d a b oa ob e2 e3 e4⟩;have el:(ds.map V.ref).length=Ss.length:=by rw [fU,h4]
  unfold atI ixN;rw [if_neg (by decide),if_pos (by lia)];show (ds.map V.ref)[((-1:Int)+((ds.map V.ref).length:Int)).toNat]? = _;rw [show ((-1:Int)+((ds.map V.ref).length:Int)).toNat=Ss.length - 1 by lia,gE,e1];rfl
abbrev dQ:hZ:=Jd (top 66) 3
abbrev N_G_q2:List fZ:=["self","stage"]
abbrev eI:List fZ:=["self","stage"]
theorem sc_G_q2:Zj N_G_q2 eI (Zd dQ):=mk9
def ZN (G:fT):Sp:=λvs H Q _=>E6 λ(p:fT) (kept:List V) (Ss:List Zq) (S S0:Zq) (d:fT)=>vs=[.ref p,.ref d]/\Ya G H p kept Ss/\Ss[0]? = some S0/\KF H d S/\∀ (H':Hp) (t:fT),Same H H'->H t=none->H' t=some (.tup [.int S0.fR.sum,.int S.found,.int S.taken])->Q (.ref t) H'
theorem ok_G_q2 (F:Fun K "stage_balance" "Ground.stage_balance" dQ f fd) (T:Txt K mg) (TG:DF K mg G):Ym P w K mg base CX0 1 f fd eI (ZN G):=by
  obtain ⟨p,kept,Ss,S,S0,d,rfl,hG,h0,hS,q⟩:=‹sc_G_q2›;refine ⟨_,(Ze (Zi (Jc (pa3 (D0 (by rfl) T.n_sum (Yd (Jt hr) (pxl (EL (pv 0) Z) Za) Zs (λ_ _=>rfl))) (Yd (Jt hr) (pv 1) Zs (λ_ _=>rfl)) (Yd (Jt hr) (pv 1) Zs (λ_ _=>rfl)))))),?_⟩
  try dsimp only [cK_,cL_]
  obtain ⟨dx,pk,ps,ds,h1,h2,h3,h4,h5⟩:=hG.ex;obtain ⟨d0,e1,a0,b0,g1,g2,g3⟩:=h5 0 S0 h0;obtain ⟨a,b,f1,f2,f3⟩:=hS;refine ⟨_,Z,p,G,dx,_,_,Z,h1,TG.cl,TG.nS,ED _ _,ps,_,_,_,Z,Z,SqL.of h3,(AT (j:=0) (by rw [gE,e1];rfl)),d0,_,Z,(by have z:=CP.k (k:=Sum.inr "heats") g1;rw [Yt] at z;exact z),b0,S0.fR,Z,SqL.of g3,?_⟩;refine ⟨_,Z,d,_,Z,(by have z:=CP.k (k:=Sum.inr "found") f1;rw [HU] at z;exact z),_,Z,d,_,Z,(by have z:=CP.k (k:=Sum.inr "taken") f1;rw [HS] at z;exact z),sz9,λt ht=>q _ t (Same.upd ht) ht Zb⟩
abbrev WT:hZ:=Jd (top 66) 4
abbrev N_G_q5:List fZ:=["self","bed","needs"]
abbrev JF:List fZ:=["self","bed"]
theorem PR:Zj N_G_q5 JF (Zd WT):=mk9
def NA (G:fT):Sp:=λvs H Q _=>E5 λ(p:fT) (kept:List V) (Ss:List Zq) (S:Zq) (i:Nat)=>vs=[.ref p,.int ((i:Int)+1)]/\Ya G H p kept Ss/\Ss.getLast? = some S/\i < S.fQ.length/\S.fQ.length <= 1000/\∀ H',Same H H'->Q (.int (down S.fQ i)) H'
theorem ok_G_q5 (F:Fun K "full_down_to" "Ground.full_down_to" WT f fd) (T:Txt K mg) (TG:DF K mg G) (om_q15:OkM P w K mg base G "last_stage" Jj 1 (Yx G)) (o_check_bed:Ok P w K mg base "check_bed" Ja 1 C3):Ym P w K mg base CX0 2 f fd JF (NA G):=by
  obtain ⟨p,kept,Ss,S,i,rfl,hG,hl,hi,hn,q⟩:=‹PR›
  refine ⟨_,(Zc (psn 2 PR.nd (Yd (Jt hr) (Zv om_q15 TG.cl hr (pv 0)) Zs (λ_ _=>rfl))) (Zc (Zp (Zg o_check_bed hr (pa2 (Zy T.n_len (pv 2)) (pv 1)))) (Ze (Zi (D0 (by rfl) T.n_sum (Jz BJ (pv 2) (B7 (Zh Yj (pv 1) Za)) BY)))))),?_⟩
  try dsimp only [cK_,cL_]
  obtain ⟨dx,pk,ps,ds,h1,h2,h3,h4,h5⟩:=hG.ex;refine ⟨_,Z,p,dx,_,Z,h1,gN,p,kept,Ss,S,λ_=>True,Z,hG.y,hl,λd a b _ _ e1 e2 e3=>?_⟩;refine ⟨d,_,Z,(by have z:=CP.k (k:=Sum.inr "needs") e1;rw [Yq] at z;exact z),?_⟩;have cut0:DD (S.fQ.map V.int) (some ((i:Int)+1 - 1)) none=(S.fQ.drop i).map V.int:=by rw [show (i:Int)+1 - 1=(i:Int) by lia,DO,k6]
  refine ⟨_,Z,a,_,Z,.inl (SqL.of e2),_,Z,_,_,Z,by lia,by rw [fU];lia,?_⟩;refine ⟨_,Z,_,Z,_,_,Z,Z,_,Z,a,_,Z,SqL.of e2,λc1 f1=>?_⟩;exact ⟨c1,S.fQ.drop i,Z,SqL.of (Zb.trans (by rw [<- cut0])),q _ (Same.upd f1)⟩
theorem ok_G_q5X (F:Fun K "full_down_to" "Ground.full_down_to" WT f fd) (T:Txt K mg) (TG:DF K mg G) (om_q15:OkM P w K mg base G "last_stage" Jj 1 (Yx G)) (o_check_bedX:OkX P w K mg base "check_bed" Ja 1 (BG mg)):Ym P w K mg base (CX1 P w) 2 f fd JF (ER G mg 0):=by
 refine F.okX PR (λvs H Q E h=>?_) (λcdv A outer s H vs Q E hr h=>?_)
 ·obtain ⟨p,m,rest,kept,Ss,S,rfl,hk,_⟩:=h;simp [hk]
 ·obtain ⟨p,m,rest,kept,Ss,S,rfl,hk,hG,hl,he,hn,bad,q⟩:=h;obtain rfl:rest=[]:=iL hk
  refine ⟨_,(Zc (psn 2 PR.nd (Yd (Jt hr) (Zv om_q15 TG.cl hr (pv 0)) Zs (λ_ _=>rfl))) (Zc (Zp (Yc o_check_bedX hr (Yu (E:=E)) (pa2 (Zy T.n_len (pv 2)) (pv 1)))) (Ze (Zi (D0 (by rfl) T.n_sum (Jz BJ (pv 2) (B7 (Zh Yj (pv 1) Za)) BY)))))),?_⟩
  try dsimp only [cK_,cL_]
  obtain ⟨dx,pk,ps,ds,h1,h2,h3,h4,h5⟩:=id hG.ex;refine ⟨_,Z,p,dx,_,Z,h1,gN,p,kept,Ss,S,λ_=>True,Z,hG.y,hl,λd a b _ _ e1 e2 e3=>?_⟩;refine ⟨d,_,Z,(by have z:=CP.k (k:=Sum.inr "needs") e1;rw [Yq] at z;exact z),?_⟩;exact ⟨_,Z,a,_,Z,.inl (SqL.of e2),_,Z,S.fQ.length,m,congrArg (λz:Int=>[V.int z,V.int m]) (show ((S.fQ.map V.int).length:Int)=(S.fQ.length:Int) by rw [fU]),hn,λhb=>absurd hb bad,λ_=>q⟩
abbrev PK:hZ:=Jd (top 66) 5
abbrev N_G_keep:List fZ:=["self","deed","stage"]
abbrev LW:List fZ:=["self","deed","stage"]
theorem d5:Zj N_G_keep LW (Zd PK):=mk9
def NR (G:fT):Sp:=λvs H Q _=>E8 λ(p pk ps d a b t:fT) (kept:List V)=>E3 λ(Ss:List Zq) (S:Zq) (ok:fT->Prop)=>vs=[.ref p,.ref t,.ref d]/\Yg G ok H p pk ps kept Ss/\kept.length <= 1000/\Ss.length <= 1000/\H d=some (.dK (BA a b S.found S.taken))/\H a=some (.lst (S.fQ.map V.int))/\H b=some (.lst (S.fR.map V.int))/\a ≠ pk/\a ≠ ps/\b ≠ pk/\b ≠ ps/\ok a/\ok b /\
 ∀ H',FU pk ps H H'->Yg G ok H' p pk ps (kept ++ [.ref t]) (Ss ++ [S])->Q .non H'
theorem ZL (F:Fun K "keep" "Ground.keep" PK f fd) (T:Txt K mg) (TG:DF K mg G):Ym P w K mg base CX0 1 f fd LW (NR G):=by
  obtain ⟨p,pk,ps,d,a,b,t,kept,Ss,S,ok,rfl,hG,l1,l2,g1,g2,g3,n1,n2,n3,n4,oa,ob,q⟩:=‹d5›;obtain ⟨dx,ds,h1,h2,h3,h4,h5⟩:=id hG.ex;have hne:=hG.ne
  refine ⟨_,(Zc (Zp (D2 gJ gH gI Yo (EL (pv 0) Z) (pa1 (pv 1)))) (Ze (Zp (D2 gJ gH gI Yo (EL (pv 0) Z) (pa1 (pv 2)))))),?_⟩
  try dsimp only [cK_,cL_]
  refine ⟨_,Z,p,G,dx,_,_,Z,h1,TG.cl,TG.nK,K1 _ _,.inl ⟨Z,_,SqL.of h2⟩,_,Z,pk,_,_,Z,Z,h2,Js (by lia),?_⟩;have h1':(upd H pk (.lst (kept ++ [.ref t]))) p=some (.ins G dx (gF pk ps)):=(Zk (AF h1 h2 (by intro z;cases z))).trans h1;have h3':(upd H pk (.lst (kept ++ [.ref t]))) ps=some (.lst (ds.map V.ref)):=(Zk (Ne.symm hne)).trans h3;refine ⟨_,Z,p,G,dx,_,_,Z,h1',TG.cl,TG.nS,ED _ _,.inl ⟨Z,_,SqL.of h3'⟩,_,Z,ps,_,_,Z,Z,h3',Js (by rw [fU];lia),?_⟩;have k:FU pk ps H (upd (upd H pk (.lst (kept ++ [.ref t]))) ps (.lst (ds.map V.ref ++ [.ref d]))):=λb o m1 m2 e=>by rw [Zk m2,Zk m1];exact e
  exact q _ k (hG.push k ((Zk hne).trans Zb) (λds' e=>by have z:=HO.lst.inj (Option.some.inj (h3.symm.trans e));rw [<- z];exact Zb) g1 g2 g3 n1 n2 n3 n4 oa ob)
abbrev cF:hZ:=Jd (top 66) 6
abbrev N_G_q4:List fZ:=["self","deed","again","behind"]
abbrev RG:List fZ:=["self","deed"]
theorem UI:Zj N_G_q4 RG (Zd cF):=mk9
def Q3 (G:fT):Sp:=λvs H Q _=>E7 λ(p pk ps t:fT) (kept:List V) (Ss:List Zq) (S:Zq)=>E2 λ(D:Deed) (ok:fT->Prop)=>vs=[.ref p,.ref t]/\Yg G ok H p pk ps kept Ss/\(∀ b,H b=none->ok b)/\Ss.getLast? = some S/\kept.length < 300/\Ss.length <= 1000/\XM H t D/\D.row.length <= 1000/\(∀ z ∈ D.row,0 <= z.2/\z.2 <= 1000000)/\(D.more:Int)+1 <= 1000000000000000000/\Zr S.fQ S.fR/\1 <= S.fQ.length/\S.fQ.length <= 1000 /\
 ∀ (H':Hp) (u:fT),FU pk ps H H'->Yg G ok H' p pk ps (kept ++ [.ref t]) (Ss ++ [CZ S D.row D.more D.row.length])->H' u=some (.tup [.int (BI S.fQ S.fR D.row D.more D.row.length).room,.int (BI S.fQ S.fR D.row D.more D.row.length).heat])->Q (.ref u) H'
theorem ok_G_q4 (F:Fun K "pass_seasons" "Ground.pass_seasons" cF f fd) (T:Txt K mg) (TG:DF K mg G) (om_q15:OkM P w K mg base G "last_stage" Jj 1 (Yx G)) (om_keep:OkM P w K mg base G "keep" LW 1 (NR G)) (o_q0:Ok P w K mg base "check_room_for_deed" P_q0 1 sp_q0) (o_year_of:Ok P w K mg base "year_of" MV 1 OF) (o_reached:Ok P w K mg base "reached" N4 7 (OS K)):Ym P w K mg base CX0 8 f fd RG (Q3 G):=by
  obtain ⟨p,pk,ps,t,kept,Ss,S,D,ok,rfl,hG,hok,hl,l1,l2,hD,hr1,hz,hm,hO,hn1,hn2,q⟩:=‹UI›;obtain ⟨dx,ds,h1,h2,h3,h4,h5⟩:=id hG.ex
  refine ⟨_,(Zc (Zp (Zg o_q0 hr (pa1 (Zy T.n_len (EL (pv 0) Z))))) (Zc (psn 2 UI.nd (Zg o_year_of hr (pa1 (pv 1)))) (Zc (psn 3 UI.nd (Zg o_reached hr (Zo (Zv om_q15 TG.cl hr (pv 0)) (pa3 (pxt (pv 2) Za) (pxt (pv 2) Za) (Zy T.n_len (pxt (pv 2) Za)))))) (Zc (Zp (Yp om_keep TG.cl hr (pv 0) (pa2 (pv 1) (pxt (pv 3) Za)))) (Ze (Zi (Jc (pa2 (pxt (pv 3) Za) (pxt (pv 3) Za))))))))),?_⟩
  try dsimp only [cK_,cL_]
  refine ⟨_,Z,p,G,dx,_,_,Z,h1,TG.cl,TG.nK,K1 _ _,pk,_,Z,.inl (SqL.of h2),_,Z,by lia,?_⟩;refine ⟨_,Z,t,D,Z,hD,λH1 u l ts s1 hu1 hl1 hS1=>?_⟩;have hG1:=hG.same s1;refine ⟨_,Z,p,dx,_,Z,s1 _ _ h1,gN,p,kept,Ss,S,_,Z,hG1.y,hl,λd a b oa ob e1 e2 e3=>?_⟩;refine ⟨_,Z,u,_,_,_,Z,Z,SqT.of hu1,Z,_,Z,u,_,_,_,Z,Z,SqT.of hu1,Z,_,Z,u,_,_,_,Z,Z,SqT.of hu1,Z,l,_,Z,.inl (SqL.of hl1),?_⟩;have el:((ts.map V.ref).length:Int)=(D.row.length:Int):=by rw [fU,hS1.len]
  refine ⟨d,l,S,ts,D.row,D.more,D.row.length,a,b,congrArg (λz:Int=>[V.ref d,V.ref l,V.int ((D.more:Int)+1),V.int z]) el,e1,e2,e3,SqL.of hl1,hS1,hr1,hz,hO,hn1,hn2,hm,λH2 v d2 b2 s2 fv fd2 fb2 hv hd2 hb2=>?_⟩;have hG2:=hG1.same s2;obtain ⟨dx2,ds2,i1,i2,i3,_⟩:=id hG1.ex;refine ⟨_,Z,p,dx,_,Z,s2 _ _ (s1 _ _ h1),gN,_,Z,_,Z,v,_,_,_,Z,Z,SqT.of hv,Z,p,pk,ps,d2,a,b2,t,kept,Ss,CZ S D.row D.more D.row.length,ok,Z,hG2,by lia,l2,hd2,s2 _ _ e2,hb2,oa.1,oa.2.1,Ne.symm (Zf i2 fb2),Ne.symm (Zf i3 fb2),oa.2.2,hok _ (s1.free fb2),λH3 k3 hG3=>?_⟩;have hv3:=k3 v _ (AF hv (s2 _ _ i2) (by intro z;cases z)) (AF hv (s2 _ _ i3) (by intro z;cases z)) hv;refine ⟨_,Z,v,_,_,_,Z,Z,SqT.of hv3,Z,_,Z,v,_,_,_,Z,Z,SqT.of hv3,Z,sz9,λx fx=>?_⟩;exact q _ x ((((s1.trans s2).keep2 pk ps).trans k3).trans ((Same.upd fx).keep2 pk ps)) (hG3.same (Same.upd fx)) Zb
abbrev LO:hZ:=Jd (top 66) 7
abbrev N_G_warm:List fZ:=["self","amount"]
abbrev JV:List fZ:=["self","amount"]
theorem SG:Zj N_G_warm JV (Zd LO):=mk9
def OL (mg:fZ->Option fV):Sp:=λvs H Q E=>E2 λ(p:fT) (m:Int)=>vs=[.ref p,.int m]/\¬ Yl m/\Thr mg "BadAmount" E H
def TZ (G:fT):Sp:=λvs H Q _=>E8 λ(p pk ps:fT) (kept:List V) (Ss:List Zq) (S:Zq) (m:Int) (ok:fT->Prop)=>vs=[.ref p,.int m]/\Yg G ok H p pk ps kept Ss/\(∀ b,H b=none->ok b)/\Ss.getLast? = some S/\kept.length < 300/\Ss.length <= 1000/\0 <= m/\m <= 1000000/\Zr S.fQ S.fR/\1 <= S.fQ.length/\S.fQ.length <= 1000 /\
 ∀ (H':Hp) (t:fT),FU pk ps H H'->H t=none->H' t=some (.tup [.str (AX true),.int m])->Yg G ok H' p pk ps (kept ++ [.ref t]) (Ss ++ [CZ S [(true,m)] 0 1])->Q (.int (BI S.fQ S.fR [(true,m)] 0 1).room) H'
theorem aJ (F:Fun K "warm" "Ground.warm" LO f fd) (T:Txt K mg) (TG:DF K mg G) (o_q7:Ok P w K mg base "check_amount" ZD 1 W4) (om_q4:OkM P w K mg base G "pass_seasons" RG 8 (Q3 G)):Ym P w K mg base CX0 9 f fd JV (TZ G):=by
  obtain ⟨p,pk,ps,kept,Ss,S,m,ok,rfl,hG,hok,hl,l1,l2,m0,m1,hO,hn1,hn2,q⟩:=‹SG›;obtain ⟨dx,ds,h1,h2,h3,_⟩:=id hG.ex
  refine ⟨_,(Zc (Zp (Zg o_q7 hr (pa1 (pv 1)))) (Ze (Zi (pxt (Yp om_q4 TG.cl hr (pv 0) (pa1 (Jc (pa2 Zs (pv 1))))) Za)))),?_⟩
  try dsimp only [cK_,cL_]
  refine ⟨_,Z,m,Z,m0,m1,?_⟩;refine ⟨_,Z,p,dx,_,Z,h1,gN,_,Z,sz9,λt ft=>?_⟩;have s1:=Same.upd (o:=.tup [.str (AX true),.int m]) ft;refine ⟨p,pk,ps,t,kept,Ss,S,.sea (true,m),ok,Z,hG.same s1,λb e=>hok b (s1.free e),hl,l1,l2,Zb,by show 1 <= 1000;decide,λz hz=>?_,by show (0:Int)+1 <= _;decide,hO,hn1,hn2,λH2 u k2 hG2 hu=>?_⟩
  ·have hz:z=(true,m):=by simpa [Deed.row] using hz
   rw [hz];exact ⟨m0,m1⟩
  ·have ht2:=k2 t _ (Ne.symm (Zf h2 ft)) (Ne.symm (Zf h3 ft)) Zb;exact ⟨u,_,_,_,Z,Z,SqT.of hu,Z,q _ t ((s1.keep2 pk ps).trans k2) ft ht2 hG2⟩
theorem YH (F:Fun K "warm" "Ground.warm" LO f fd) (T:Txt K mg) (TG:DF K mg G) (o_q7X:OkX P w K mg base "check_amount" ZD 1 (SE mg)):Ym P w K mg base (CX1 P w) 2 f fd JV (OL mg):=by
  obtain ⟨p,m,rfl,bad,q⟩:=‹¬SG›
  exact ⟨_,(Zc (Zp (Yc o_q7X hr (Yu (E:=E)) (pa1 (pv 1)))) CD),_,Z,m,Z,λhm=>absurd hm bad,λ_=>q⟩
abbrev LX:hZ:=Jd (top 66) 8
abbrev N_G_cold:List fZ:=["self","amount"]
abbrev II:List fZ:=["self","amount"]
theorem S5:Zj N_G_cold II (Zd LX):=mk9
def OJ (mg:fZ->Option fV):Sp:=λvs H Q E=>E2 λ(p:fT) (m:Int)=>vs=[.ref p,.int m]/\¬ Yl m/\Thr mg "BadAmount" E H
def TK (G:fT):Sp:=λvs H Q _=>E8 λ(p pk ps:fT) (kept:List V) (Ss:List Zq) (S:Zq) (m:Int) (ok:fT->Prop)=>vs=[.ref p,.int m]/\Yg G ok H p pk ps kept Ss/\(∀ b,H b=none->ok b)/\Ss.getLast? = some S/\kept.length < 300/\Ss.length <= 1000/\0 <= m/\m <= 1000000/\Zr S.fQ S.fR/\1 <= S.fQ.length/\S.fQ.length <= 1000 /\
 ∀ (H':Hp) (t:fT),FU pk ps H H'->H t=none->H' t=some (.tup [.str (AX false),.int m])->Yg G ok H' p pk ps (kept ++ [.ref t]) (Ss ++ [CZ S [(false,m)] 0 1])->Q (.int (BI S.fQ S.fR [(false,m)] 0 1).heat) H'
theorem ZP (F:Fun K "cold" "Ground.cold" LX f fd) (T:Txt K mg) (TG:DF K mg G) (o_q7:Ok P w K mg base "check_amount" ZD 1 W4) (om_q4:OkM P w K mg base G "pass_seasons" RG 8 (Q3 G)):Ym P w K mg base CX0 9 f fd II (TK G):=by
  obtain ⟨p,pk,ps,kept,Ss,S,m,ok,rfl,hG,hok,hl,l1,l2,m0,m1,hO,hn1,hn2,q⟩:=‹S5›;obtain ⟨dx,ds,h1,h2,h3,_⟩:=id hG.ex
  refine ⟨_,(Zc (Zp (Zg o_q7 hr (pa1 (pv 1)))) (Ze (Zi (pxt (Yp om_q4 TG.cl hr (pv 0) (pa1 (Jc (pa2 Zs (pv 1))))) Za)))),?_⟩
  try dsimp only [cK_,cL_]
  refine ⟨_,Z,m,Z,m0,m1,?_⟩;refine ⟨_,Z,p,dx,_,Z,h1,gN,_,Z,sz9,λt ft=>?_⟩;have s1:=Same.upd (o:=.tup [.str (AX false),.int m]) ft;refine ⟨p,pk,ps,t,kept,Ss,S,.sea (false,m),ok,Z,hG.same s1,λb e=>hok b (s1.free e),hl,l1,l2,Zb,by show 1 <= 1000;decide,λz hz=>?_,by show (0:Int)+1 <= _;decide,hO,hn1,hn2,λH2 u k2 hG2 hu=>?_⟩
  ·have hz:z=(false,m):=by simpa [Deed.row] using hz
   rw [hz];exact ⟨m0,m1⟩
  ·have ht2:=k2 t _ (Ne.symm (Zf h2 ft)) (Ne.symm (Zf h3 ft)) Zb;exact ⟨u,_,_,_,Z,Z,SqT.of hu,Z,q _ t ((s1.keep2 pk ps).trans k2) ft ht2 hG2⟩
theorem ZG (F:Fun K "cold" "Ground.cold" LX f fd) (T:Txt K mg) (TG:DF K mg G) (o_q7X:OkX P w K mg base "check_amount" ZD 1 (SE mg)):Ym P w K mg base (CX1 P w) 2 f fd II (OJ mg):=by
  obtain ⟨p,m,rfl,bad,q⟩:=‹¬S5›
  exact ⟨_,(Zc (Zp (Yc o_q7X hr (Yu (E:=E)) (pa1 (pv 1)))) CD),_,Z,m,Z,λhm=>absurd hm bad,λ_=>q⟩
abbrev JS:hZ:=Jd (top 66) 9
abbrev fP:List fZ:=["self","year","times"]
abbrev GC:List fZ:=["self","year","times"]
theorem OY:Zj fP GC (Zd JS):=mk9
def NB (K:W.Frag) (mg:fZ->Option fV):Sp:=λvs H Q E=>E5 λ(p py:fT) (m:Int) (ts:List fT) (ss:List (Bool × Int))=>vs=[.ref p,.ref py,.int m]/\SqL K H py (ts.map V.ref)/\Zu H ts ss/\((¬ (1 <= ss.length/\ss.length <= 12)/\Thr mg "BadYear" E H)\/(1 <= ss.length/\ss.length <= 12/\((¬ (∀ z ∈ ss,Yl z.2)/\Thr mg "BadAmount" E H)\/((∀ z ∈ ss,Yl z.2)/\¬ (1 <= m/\m <= 1000000000000000000)/\Thr mg "BadTimes" E H))))
def O5 (K:W.Frag) (G:fT):Sp:=λvs H Q _=>E8 λ(p pk ps py:fT) (kept:List V) (Ss:List Zq) (S:Zq) (ts:List fT)=>E3 λ(ss:List (Bool × Int)) (n:Nat) (ok:fT->Prop)=>vs=[.ref p,.ref py,.int ((n:Int)+1)]/\Yg G ok H p pk ps kept Ss/\(∀ b,H b=none->ok b)/\Ss.getLast? = some S/\kept.length < 300/\Ss.length <= 1000/\SqL K H py (ts.map V.ref)/\Zu H ts ss/\(∀ z ∈ ss,0 <= z.2/\z.2 <= 1000000)/\1 <= ss.length/\ss.length <= 12/\(n:Int)+1 <= 1000000000000000000/\Zr S.fQ S.fR/\1 <= S.fQ.length/\S.fQ.length <= 1000 /\
 ∀ (H':Hp) (t u:fT),FU pk ps H H'->H t=none->XM H' t (.yrs ss n)->Yg G ok H' p pk ps (kept ++ [.ref t]) (Ss ++ [CZ S ss n ss.length])->H' u=some (.tup [.int (BI S.fQ S.fR ss n ss.length).room,.int (BI S.fQ S.fR ss n ss.length).heat])->Q (.ref u) H'
theorem Z8 (F:Fun K "years" "Ground.years" JS f fd) (T:Txt K mg) (TG:DF K mg G) (o_q30:Ok P w K mg base "check_year" KI 2 (OC K)) (o_q25:Ok P w K mg base "check_times" W2 1 aV) (om_q4:OkM P w K mg base G "pass_seasons" RG 8 (Q3 G)):Ym P w K mg base CX0 9 f fd GC (O5 K G):=by
  obtain ⟨p,pk,ps,py,kept,Ss,S,ts,ss,n,ok,rfl,hG,hok,hl,l1,l2,hY,hS,hz,y1,y2,hn,hO,hn1,hn2,q⟩:=‹OY›;obtain ⟨dx,ds,h1,h2,h3,_⟩:=id hG.ex
  refine ⟨_,(Zc (Zp (Zg o_q30 hr (pa1 (pv 1)))) (Zc (Zp (Zg o_q25 hr (pa1 (pv 2)))) (Ze (Zi (Yp om_q4 TG.cl hr (pv 0) (pa1 (Jc (pa3 Zs (AR IL (by rfl) T.n_tuple D9_ (pa1 (pv 1))) (pv 2))))))))),?_⟩
  try dsimp only [cK_,cL_]
  refine ⟨_,Z,py,ts,ss,Z,hY,hS,hz,y1,y2,?_⟩;refine ⟨_,Z,_,Z,by lia,hn,?_⟩;refine ⟨_,Z,p,dx,_,Z,h1,gN,_,Z,py,_,Z,.inl ⟨hY,λt0 f0=>⟨_,Z,sz9,λt ft=>?_⟩⟩⟩;have s0:=Same.upd (o:=.tup (ts.map V.ref)) f0;have s1:=s0.trans (Same.upd (o:=.tup [.str "years",.ref t0,.int ((n:Int)+1)]) ft);have hD:XM (upd (upd H t0 (.tup (ts.map V.ref))) t (.tup [.str "years",.ref t0,.int ((n:Int)+1)])) t (.yrs ss n):=⟨t0,ts,Zb,Same.upd ft _ _ Zb,hS.same s1⟩;have ft':H t=none:=s0.free ft;refine ⟨p,pk,ps,t,kept,Ss,S,.yrs ss n,ok,Z,hG.same s1,λb e=>hok b (s1.free e),hl,l1,l2,hD,by show ss.length <= 1000;lia,hz,hn,hO,hn1,hn2,λH2 u k2 hG2 hu=>?_⟩;refine q _ t u ((s1.keep2 pk ps).trans k2) ft' ?_ hG2 hu;have kt:∀ b ys,(upd (upd H t0 (.tup (ts.map V.ref))) t (.tup [.str "years",.ref t0,.int ((n:Int)+1)])) b=some (.tup ys)->H2 b=some (.tup ys):=λb ys e=>k2 b _ (AF e (s1 _ _ h2) (by intro e;cases e)) (AF e (s1 _ _ h3) (by intro e;cases e)) e;obtain ⟨u',ts',d1,d2,d3⟩:=hD;exact ⟨u',ts',kt _ _ d1,kt _ _ d2,d3.tup kt⟩
theorem V9 (F:Fun K "years" "Ground.years" JS f fd) (T:Txt K mg) (TG:DF K mg G) (o_q30X:OkX P w K mg base "check_year" KI 2 (KD K mg)) (o_q25X:OkX P w K mg base "check_times" W2 1 (W3 mg)):Ym P w K mg base (CX1 P w) 3 f fd GC (NB K mg):=by
  obtain ⟨p,py,m,ts,ss,rfl,hY,hS,q⟩:=‹¬OY›
  refine ⟨_,(Zc (Zp (Yc o_q30X hr (Yu (E:=E)) (pa1 (pv 1)))) (Zc (Zp (Yc o_q25X hr (Yu (E:=E)) (pa1 (pv 2)))) CD)),?_⟩
  try dsimp only [cK_,cL_]
  refine ⟨_,Z,py,ts,ss,Z,hY,hS,λbad=>?_,λgood=>⟨λall=>?_,λnall=>?_⟩⟩
  ·rcases q with ⟨_,q⟩ | ⟨g1,g2,_⟩
   ·exact q
   ·exact absurd ⟨g1,g2⟩ bad
  ·rcases q with ⟨bad,_⟩ | ⟨_,_,⟨na,_⟩ | ⟨_,hm,q⟩⟩
   ·exact absurd good bad
   ·exact absurd all na
   ·exact ⟨_,Z,m,Z,λh=>absurd h hm,λ_=>q⟩
  ·rcases q with ⟨bad,_⟩ | ⟨_,_,⟨_,q⟩ | ⟨all,_⟩⟩
   ·exact absurd good bad
   ·exact q
   ·exact absurd all nall
abbrev QY:hZ:=Jd (top 66) 10
abbrev N_G_lay:List fZ:=["self","need","stage","needs"]
abbrev MP:List fZ:=["self","need"]
theorem J0:Zj N_G_lay MP (Zd QY):=mk9
def T1 (G:fT) (mg:fZ->Option fV):Sp:=λvs H Q E=>E7 λ(p pk ps:fT) (kept:List V) (Ss:List Zq) (S S0:Zq)=>E2 λ(m:Int) (ok:fT->Prop)=>vs=[.ref p,.int m]/\Yg G ok H p pk ps kept Ss/\Ss.getLast? = some S/\Ss[0]? = some S0/\((¬ (1 <= m/\m <= 200)/\∀ (C x:fT),mg "BadNeed" = some (.ref C)->H x=none->E (.ref C) (some x) H)\/(1 <= m/\m <= 200/\S.fQ.length=S0.fQ.length+20/\∀ (C x:fT),mg "TooManyLaid" = some (.ref C)->H x=none->E (.ref C) (some x) H))
def WE (G:fT):Sp:=λvs H Q _=>E7 λ(p pk ps:fT) (kept:List V) (Ss:List Zq) (S S0:Zq)=>E2 λ(m:Int) (ok:fT->Prop)=>vs=[.ref p,.int m]/\Yg G ok H p pk ps kept Ss/\(∀ b,H b=none->ok b)/\Ss.getLast? = some S/\Ss[0]? = some S0/\kept.length < 300/\Ss.length <= 1000/\1 <= m/\m <= 200/\S.fQ.length < S0.fQ.length+20/\S.fR.length=S.fQ.length/\S.fQ.length <= 1000 /\
 ∀ (H':Hp) (t:fT),FU pk ps H H'->H t=none->H' t=some (.tup [.str "lay",.int m])->Yg G ok H' p pk ps (kept ++ [.ref t]) (Ss ++ [⟨S.fQ ++ [m],S.fR ++ [0],S.found,S.taken⟩])->Q (.int ((S.fQ.length:Int)+1)) H'
theorem ok_G_lay (F:Fun K "lay" "Ground.lay" QY f fd) (T:Txt K mg) (TG:DF K mg G) (om_q15:OkM P w K mg base G "last_stage" Jj 1 (Yx G)) (om_keep:OkM P w K mg base G "keep" LW 1 (NR G)) (o_q27:Ok P w K mg base "check_need" YU 1 dY) (o_q31:Ok P w K mg base "check_laid" cU 1 sp_q31) (o_q0:Ok P w K mg base "check_room_for_deed" P_q0 1 sp_q0) (o_stage_of:Ok P w K mg base "stage_of" EN 1 ET):Ym P w K mg base CX0 2 f fd MP (WE G):=by
  obtain ⟨p,pk,ps,kept,Ss,S,S0,m,ok,rfl,hG,hok,hl,h0,l1,l2,m0,m1,hn,hh,hn2,q⟩:=‹J0›;obtain ⟨dx,ds,h1,h2,h3,h4,h5⟩:=id hG.ex;obtain ⟨d0,i1,_,a0,b0,i2,i3,_⟩:=h5 0 S0 h0
  refine ⟨_,(Zc (Zp (Zg o_q27 hr (pa1 (pv 1)))) (Zc (psn 2 J0.nd (Zv om_q15 TG.cl hr (pv 0))) (Zc (Zp (Zg o_q31 hr (pa1 (Zh Yj (Zy T.n_len (Yd (Jt hr) (pv 2) Zs (λ_ _=>rfl))) (Zy T.n_len (Yd (Jt hr) (pxl (EL (pv 0) Z) Za) Zs (λ_ _=>rfl))))))) (Zc (Zp (Zg o_q0 hr (pa1 (Zy T.n_len (EL (pv 0) Z))))) (Zc (psn 3 J0.nd (Zh ME (Yd (Jt hr) (pv 2) Zs (λ_ _=>rfl)) (Zx (pa1 (pv 1))))) (Zc (Zp (Yp om_keep TG.cl hr (pv 0) (pa2 (Jc (pa2 Zs (pv 1))) (Zg o_stage_of hr (Zo (pv 3) (pa3 (Zh ME (Yd (Jt hr) (pv 2) Zs (λ_ _=>rfl)) (Zx (pa1 Za))) (Yd (Jt hr) (pv 2) Zs (λ_ _=>rfl)) (Yd (Jt hr) (pv 2) Zs (λ_ _=>rfl)))))))) (Ze (Zi (Zy T.n_len (pv 3)))))))))),?_⟩
  try dsimp only [cK_,cL_]
  refine ⟨_,Z,m,Z,m0,m1,?_⟩;refine ⟨_,Z,p,dx,_,Z,h1,gN,p,kept,Ss,S,_,Z,hG.y,hl,λd a b oa ob e1 e2 e3=>?_⟩;have dn:∀ {H':Hp},Same H H'->CP H' d (.str "needs") (some (.ref a)):=λ{H'} s=>by have z:=CP.k (k:=Sum.inr "needs") (s _ _ e1);rw [Yq] at z;exact z
  have dh:∀ {H':Hp},Same H H'->CP H' d (.str "heats") (some (.ref b)):=λ{H'} s=>by have z:=CP.k (k:=Sum.inr "heats") (s _ _ e1);rw [Yt] at z;exact z
  have df:∀ {H':Hp},Same H H'->CP H' d (.str "found") (some (.int S.found)):=λ{H'} s=>by have z:=CP.k (k:=Sum.inr "found") (s _ _ e1);rw [HU] at z;exact z
  have dt:∀ {H':Hp},Same H H'->CP H' d (.str "taken") (some (.int S.taken)):=λ{H'} s=>by have z:=CP.k (k:=Sum.inr "taken") (s _ _ e1);rw [HS] at z;exact z
  refine ⟨_,Z,d,_,Z,dn (Same.refl _),a,_,Z,.inl (SqL.of e2),_,Z,p,G,dx,_,_,Z,h1,TG.cl,TG.nS,ED _ _,ps,_,_,_,Z,Z,SqL.of h3,(AT (j:=0) (by rw [gE,i1];rfl)),d0,_,Z,(by have z:=CP.k (k:=Sum.inr "needs") i2;rw [Yq] at z;exact z),a0,_,Z,.inl (SqL.of i3),_,_,Z,Z,_,Z,by rw [fU,fU];lia,?_⟩;refine ⟨_,Z,p,G,dx,_,_,Z,h1,TG.cl,TG.nK,K1 _ _,pk,_,Z,.inl (SqL.of h2),_,Z,by lia,?_⟩;refine ⟨_,Z,d,_,Z,dn (Same.refl _),_,Z,sz9,λc1 f1=>?_⟩;have s1:=Same.upd (o:=.lst [.int m]) f1;refine ⟨a,c1,_,_,Z,Z,s1 _ _ e2,Zb,E9 (by rw [fU];show S.fQ.length+1 <= 100000;lia),λan fn=>?_⟩;have s2:=s1.trans (Same.upd (o:=.lst (S.fQ.map V.int ++ [.int m])) fn);have hn2':(upd (upd H c1 (.lst [.int m])) an (.lst (S.fQ.map V.int ++ [.int m]))) an=some (.lst ((S.fQ ++ [m]).map V.int)):=by rw [Zb,gO];rfl
  have fn':H an=none:=s1.free fn;generalize upd (upd H c1 (.lst [.int m])) an (.lst (S.fQ.map V.int ++ [.int m]))=H2 at s2 hn2' ⊢;refine ⟨_,Z,p,dx,_,Z,s2 _ _ h1,gN,_,Z,sz9,λt ft=>?_⟩;have s3:=s2.trans (Same.upd (o:=.tup [.str "lay",.int m]) ft);have ft':H t=none:=s2.free ft;have ht3:(upd H2 t (.tup [.str "lay",.int m])) t=some (.tup [.str "lay",.int m]):=Zb;have hn3:=Same.upd (o:=.tup [.str "lay",.int m]) ft _ _ hn2';generalize upd H2 t (.tup [.str "lay",.int m])=H3 at s3 ht3 hn3 ⊢;refine ⟨_,Z,_,Z,d,_,Z,dh s3,sz9,λc2 f2=>?_⟩;have s4:=Same.upd (o:=.lst [.int 0]) f2;refine ⟨b,c2,_,_,Z,Z,s4 _ _ (s3 _ _ e3),Zb,E9 (by rw [fU];show S.fR.length+1 <= 100000;lia),λbn fb=>?_⟩;have s5:=s4.trans (Same.upd (o:=.lst (S.fR.map V.int ++ [.int 0])) fb);have hb5:(upd (upd H3 c2 (.lst [.int 0])) bn (.lst (S.fR.map V.int ++ [.int 0]))) bn=some (.lst ((S.fR ++ [0]).map V.int)):=by rw [Zb,gO];rfl
  have fb':H bn=none:=s3.free (s4.free fb);generalize upd (upd H3 c2 (.lst [.int 0])) bn (.lst (S.fR.map V.int ++ [.int 0]))=H5 at s5 hb5 ⊢;have s05:=s3.trans s5;refine ⟨_,Z,d,_,Z,df s05,_,Z,d,_,Z,dt s05,an,bn,S.found,S.taken,Z,λH6 d6 s6 f6 h6=>?_⟩;have s06:=s05.trans s6;have hG6:=hG.same s06;refine ⟨p,pk,ps,d6,an,bn,t,kept,Ss,⟨S.fQ ++ [m],S.fR ++ [0],S.found,S.taken⟩,ok,Z,hG6,by lia,l2,h6,s6 _ _ (s5 _ _ hn3),s6 _ _ hb5,Ne.symm (Zf h2 fn'),Ne.symm (Zf h3 fn'),Ne.symm (Zf h2 fb'),Ne.symm (Zf h3 fb'),hok _ fn',hok _ fb',λH7 k7 hG7=>?_⟩;have kk:=(s06.keep2 pk ps).trans k7;have ht7:=k7 t _ (Ne.symm (Zf h2 ft')) (Ne.symm (Zf h3 ft')) (s6 _ _ (s5 _ _ ht3));have hn7:=k7 an _ (Ne.symm (Zf h2 fn')) (Ne.symm (Zf h3 fn')) (s6 _ _ (s5 _ _ hn3));refine ⟨_,Z,an,_,Z,.inl (SqL.of hn7),?_⟩;rw [show (((S.fQ ++ [m]).map V.int).length:Int)=(S.fQ.length:Int)+1 by rw [fU,i6];rfl];exact q _ t kk ft' ht7 hG7
theorem cO (F:Fun K "lay" "Ground.lay" QY f fd) (T:Txt K mg) (TG:DF K mg G) (om_q15:OkM P w K mg base G "last_stage" Jj 1 (Yx G)) (o_q27X:OkX P w K mg base "check_need" YU 1 (bB mg)) (o_q31X:OkX P w K mg base "check_laid" cU 1 (dA mg)):Ym P w K mg base (CX1 P w) 2 f fd MP (T1 G mg):=by
  obtain ⟨p,pk,ps,kept,Ss,S,S0,m,ok,rfl,hG,hl,h0,q⟩:=‹¬J0›;obtain ⟨dx,ds,h1,h2,h3,h4,h5⟩:=id hG.ex;obtain ⟨d0,i1,_,a0,b0,i2,i3,_⟩:=h5 0 S0 h0
  refine ⟨_,(Zc (Zp (Yc o_q27X hr (Yu (E:=E)) (pa1 (pv 1)))) (Zc (psn 2 J0.nd (Zv om_q15 TG.cl hr (pv 0))) (Zc (Zp (Yc o_q31X hr (Yu (E:=E)) (pa1 (Zh Yj (Zy T.n_len (Yd (Jt hr) (pv 2) Zs (λ_ _=>rfl))) (Zy T.n_len (Yd (Jt hr) (pxl (EL (pv 0) Z) Za) Zs (λ_ _=>rfl))))))) CD))),?_⟩
  try dsimp only [cK_,cL_]
  refine ⟨_,Z,m,Z,λhm=>?_,λhm=>?_⟩
  ·rcases q with ⟨q,_⟩ | ⟨_,_,eS,q⟩
   ·exact absurd hm q
   ·refine ⟨_,Z,p,dx,_,Z,h1,gN,p,kept,Ss,S,_,Z,hG.y,hl,λd a b oa ob e1 e2 e3=>?_⟩;have dn:CP H d (.str "needs") (some (.ref a)):=by have z:=CP.k (k:=Sum.inr "needs") e1;rw [Yq] at z;exact z
    exact ⟨_,Z,d,_,Z,dn,a,_,Z,.inl (SqL.of e2),_,Z,p,G,dx,_,_,Z,h1,TG.cl,TG.nS,ED _ _,ps,_,_,_,Z,Z,SqL.of h3,(AT (j:=0) (by rw [gE,i1];rfl)),d0,_,Z,(by have z:=CP.k (k:=Sum.inr "needs") i2;rw [Yq] at z;exact z),a0,_,Z,.inl (SqL.of i3),_,_,Z,Z,_,Z,by rw [fU,fU];lia,q⟩
  ·rcases q with ⟨_,q⟩ | ⟨q1,q2,_⟩
   ·exact q
   ·exact absurd ⟨q1,q2⟩ hm
abbrev MS:hZ:=Jd (top 66) 12
abbrev ZO:List fZ:=["self"]
abbrev MZ:List fZ:=["self"]
theorem XX:Zj ZO MZ (Zd MS):=mk9
def OU (G:fT):Sp:=λvs H Q _=>E4 λ(p:fT) (kept:List V) (Ss:List Zq) (S:Zq)=>vs=[.ref p]/\Ya G H p kept Ss/\Ss.getLast? = some S/\∀ (H':Hp) (l:fT),Same H H'->H l=none->H' l=some (.lst (S.fQ.map V.int))->Q (.ref l) H'
theorem ZA (F:Fun K "needs" "Ground.needs" MS f fd) (T:Txt K mg) (TG:DF K mg G) (om_q15:OkM P w K mg base G "last_stage" Jj 1 (Yx G)):Ym P w K mg base CX0 2 f fd MZ (OU G):=by
  obtain ⟨p,kept,Ss,S,rfl,hG,hl,q⟩:=‹XX›;refine ⟨_,(Ze (Zi (Jo T.n_list (Yd (Jt hr) (Zv om_q15 TG.cl hr (pv 0)) Zs (λ_ _=>rfl))))),?_⟩
  try dsimp only [cK_,cL_]
  obtain ⟨dx,pk,ps,ds,h1,h2,h3,h4,h5⟩:=hG.ex;refine ⟨_,Z,p,dx,_,Z,h1,gN,p,kept,Ss,S,λ_=>True,Z,hG.y,hl,λd a b _ _ e1 e2 e3=>?_⟩;refine ⟨d,_,Z,(by have z:=CP.k (k:=Sum.inr "needs") e1;rw [Yq] at z;exact z),a,_,Z,.inl (SqL.of e2),λl hl'=>q _ l (Same.upd hl') hl' Zb⟩
abbrev MM:hZ:=Jd (top 66) 13
abbrev cY:List fZ:=["self"]
abbrev MR:List fZ:=["self"]
theorem Y8:Zj cY MR (Zd MM):=mk9
def P0 (G:fT):Sp:=λvs H Q _=>E4 λ(p:fT) (kept:List V) (Ss:List Zq) (S:Zq)=>vs=[.ref p]/\Ya G H p kept Ss/\Ss.getLast? = some S/\∀ (H':Hp) (l:fT),Same H H'->H l=none->H' l=some (.lst (S.fR.map V.int))->Q (.ref l) H'
theorem Y4 (F:Fun K "heats" "Ground.heats" MM f fd) (T:Txt K mg) (TG:DF K mg G) (om_q15:OkM P w K mg base G "last_stage" Jj 1 (Yx G)):Ym P w K mg base CX0 2 f fd MR (P0 G):=by
  obtain ⟨p,kept,Ss,S,rfl,hG,hl,q⟩:=‹Y8›;refine ⟨_,(Ze (Zi (Jo T.n_list (Yd (Jt hr) (Zv om_q15 TG.cl hr (pv 0)) Zs (λ_ _=>rfl))))),?_⟩
  try dsimp only [cK_,cL_]
  obtain ⟨dx,pk,ps,ds,h1,h2,h3,h4,h5⟩:=hG.ex;refine ⟨_,Z,p,dx,_,Z,h1,gN,p,kept,Ss,S,λ_=>True,Z,hG.y,hl,λd a b _ _ e1 e2 e3=>?_⟩;refine ⟨d,_,Z,(by have z:=CP.k (k:=Sum.inr "heats") e1;rw [Yt] at z;exact z),b,_,Z,.inl (SqL.of e3),λl hl'=>q _ l (Same.upd hl') hl' Zb⟩
abbrev LU:hZ:=Jd (top 66) 14
abbrev N_G_need:List fZ:=["self","bed","needs"]
abbrev DY:List fZ:=["self","bed"]
theorem IB:Zj N_G_need DY (Zd LU):=mk9
def JW (G:fT):Sp:=λvs H Q _=>E5 λ(p:fT) (kept:List V) (Ss:List Zq) (S:Zq) (i:Nat)=>vs=[.ref p,.int ((i:Int)+1)]/\Ya G H p kept Ss/\Ss.getLast? = some S/\i < S.fQ.length/\Q (.int (S.fQ.getD i 0)) H
theorem dC (F:Fun K "need" "Ground.need" LU f fd) (T:Txt K mg) (TG:DF K mg G) (om_q15:OkM P w K mg base G "last_stage" Jj 1 (Yx G)) (o_check_bed:Ok P w K mg base "check_bed" Ja 1 C3):Ym P w K mg base CX0 2 f fd DY (JW G):=by
  obtain ⟨p,kept,Ss,S,i,rfl,hG,hl,hi,q⟩:=‹IB›
  refine ⟨_,(Zc (psn 2 IB.nd (Yd (Jt hr) (Zv om_q15 TG.cl hr (pv 0)) Zs (λ_ _=>rfl))) (Zc (Zp (Zg o_check_bed hr (pa2 (Zy T.n_len (pv 2)) (pv 1)))) (Ze (Zi (pxl (pv 2) (Zh Yj (pv 1) Za)))))),?_⟩
  try dsimp only [cK_,cL_]
  obtain ⟨dx,pk,ps,ds,h1,h2,h3,h4,h5⟩:=hG.ex;refine ⟨_,Z,p,dx,_,Z,h1,gN,p,kept,Ss,S,λ_=>True,Z,hG.y,hl,λd a b _ _ e1 e2 e3=>?_⟩;refine ⟨d,_,Z,(by have z:=CP.k (k:=Sum.inr "needs") e1;rw [Yq] at z;exact z),?_⟩;refine ⟨_,Z,a,_,Z,.inl (SqL.of e2),_,Z,_,_,Z,by lia,by rw [fU];lia,?_⟩;exact ⟨_,Z,_,Z,_,_,Z,Z,a,_,_,_,Z,Z,SqL.of e2,(by rw [show (i:Int)+1 - 1=(i:Int) by lia];exact Yz hi),q⟩
theorem YD (F:Fun K "need" "Ground.need" LU f fd) (T:Txt K mg) (TG:DF K mg G) (om_q15:OkM P w K mg base G "last_stage" Jj 1 (Yx G)) (o_check_bedX:OkX P w K mg base "check_bed" Ja 1 (BG mg)):Ym P w K mg base (CX1 P w) 2 f fd DY (ER G mg 0):=by
 refine F.okX IB (λvs H Q E h=>?_) (λcdv A outer s H vs Q E hr h=>?_)
 ·obtain ⟨p,m,rest,kept,Ss,S,rfl,hk,_⟩:=h;simp [hk]
 ·obtain ⟨p,m,rest,kept,Ss,S,rfl,hk,hG,hl,he,hn,bad,q⟩:=h;obtain rfl:rest=[]:=iL hk
  refine ⟨_,(Zc (psn 2 IB.nd (Yd (Jt hr) (Zv om_q15 TG.cl hr (pv 0)) Zs (λ_ _=>rfl))) (Zc (Zp (Yc o_check_bedX hr (Yu (E:=E)) (pa2 (Zy T.n_len (pv 2)) (pv 1)))) (Ze (Zi (pxl (pv 2) (Zh Yj (pv 1) Za)))))),?_⟩
  try dsimp only [cK_,cL_]
  obtain ⟨dx,pk,ps,ds,h1,h2,h3,h4,h5⟩:=id hG.ex;refine ⟨_,Z,p,dx,_,Z,h1,gN,p,kept,Ss,S,λ_=>True,Z,hG.y,hl,λd a b _ _ e1 e2 e3=>?_⟩;refine ⟨d,_,Z,(by have z:=CP.k (k:=Sum.inr "needs") e1;rw [Yq] at z;exact z),?_⟩;exact ⟨_,Z,a,_,Z,.inl (SqL.of e2),_,Z,S.fQ.length,m,congrArg (λz:Int=>[V.int z,V.int m]) (show ((S.fQ.map V.int).length:Int)=(S.fQ.length:Int) by rw [fU]),hn,λhb=>absurd hb bad,λ_=>q⟩
abbrev LL:hZ:=Jd (top 66) 15
abbrev N_G_heat:List fZ:=["self","bed","heats"]
abbrev DX:List fZ:=["self","bed"]
theorem JG:Zj N_G_heat DX (Zd LL):=mk9
def IH (G:fT):Sp:=λvs H Q _=>E5 λ(p:fT) (kept:List V) (Ss:List Zq) (S:Zq) (i:Nat)=>vs=[.ref p,.int ((i:Int)+1)]/\Ya G H p kept Ss/\Ss.getLast? = some S/\i < S.fR.length/\Q (.int (S.fR.getD i 0)) H
theorem ZV (F:Fun K "heat" "Ground.heat" LL f fd) (T:Txt K mg) (TG:DF K mg G) (om_q15:OkM P w K mg base G "last_stage" Jj 1 (Yx G)) (o_check_bed:Ok P w K mg base "check_bed" Ja 1 C3):Ym P w K mg base CX0 2 f fd DX (IH G):=by
  obtain ⟨p,kept,Ss,S,i,rfl,hG,hl,hi,q⟩:=‹JG›
  refine ⟨_,(Zc (psn 2 JG.nd (Yd (Jt hr) (Zv om_q15 TG.cl hr (pv 0)) Zs (λ_ _=>rfl))) (Zc (Zp (Zg o_check_bed hr (pa2 (Zy T.n_len (pv 2)) (pv 1)))) (Ze (Zi (pxl (pv 2) (Zh Yj (pv 1) Za)))))),?_⟩
  try dsimp only [cK_,cL_]
  obtain ⟨dx,pk,ps,ds,h1,h2,h3,h4,h5⟩:=hG.ex;refine ⟨_,Z,p,dx,_,Z,h1,gN,p,kept,Ss,S,λ_=>True,Z,hG.y,hl,λd a b _ _ e1 e2 e3=>?_⟩;refine ⟨d,_,Z,(by have z:=CP.k (k:=Sum.inr "heats") e1;rw [Yt] at z;exact z),?_⟩;refine ⟨_,Z,b,_,Z,.inl (SqL.of e3),_,Z,_,_,Z,by lia,by rw [fU];lia,?_⟩;exact ⟨_,Z,_,Z,_,_,Z,Z,b,_,_,_,Z,Z,SqL.of e3,(by rw [show (i:Int)+1 - 1=(i:Int) by lia];exact Yz hi),q⟩
theorem Z6 (F:Fun K "heat" "Ground.heat" LL f fd) (T:Txt K mg) (TG:DF K mg G) (om_q15:OkM P w K mg base G "last_stage" Jj 1 (Yx G)) (o_check_bedX:OkX P w K mg base "check_bed" Ja 1 (BG mg)):Ym P w K mg base (CX1 P w) 2 f fd DX (ER G mg 0):=by
 refine F.okX JG (λvs H Q E h=>?_) (λcdv A outer s H vs Q E hr h=>?_)
 ·obtain ⟨p,m,rest,kept,Ss,S,rfl,hk,_⟩:=h;simp [hk]
 ·obtain ⟨p,m,rest,kept,Ss,S,rfl,hk,hG,hl,he,hn,bad,q⟩:=h;obtain rfl:rest=[]:=iL hk
  refine ⟨_,(Zc (psn 2 JG.nd (Yd (Jt hr) (Zv om_q15 TG.cl hr (pv 0)) Zs (λ_ _=>rfl))) (Zc (Zp (Yc o_check_bedX hr (Yu (E:=E)) (pa2 (Zy T.n_len (pv 2)) (pv 1)))) (Ze (Zi (pxl (pv 2) (Zh Yj (pv 1) Za)))))),?_⟩
  try dsimp only [cK_,cL_]
  obtain ⟨dx,pk,ps,ds,h1,h2,h3,h4,h5⟩:=id hG.ex;refine ⟨_,Z,p,dx,_,Z,h1,gN,p,kept,Ss,S,λ_=>True,Z,hG.y,hl,λd a b _ _ e1 e2 e3=>?_⟩;refine ⟨d,_,Z,(by have z:=CP.k (k:=Sum.inr "heats") e1;rw [Yt] at z;exact z),?_⟩;exact ⟨_,Z,b,_,Z,.inl (SqL.of e3),_,Z,S.fQ.length,m,congrArg (λz:Int=>[V.int z,V.int m]) (show ((S.fR.map V.int).length:Int)=(S.fQ.length:Int) by rw [fU,he]),hn,λhb=>absurd hb bad,λ_=>q⟩
abbrev EY:hZ:=Jd (top 66) 16
abbrev V3:List fZ:=["self","bed"]
abbrev CN:List fZ:=["self","bed"]
theorem KW:Zj V3 CN (Zd EY):=mk9
def GB (G:fT):Sp:=λvs H Q _=>E5 λ(p:fT) (kept:List V) (Ss:List Zq) (S:Zq) (i:Nat)=>vs=[.ref p,.int ((i:Int)+1)]/\Ya G H p kept Ss/\Ss.getLast? = some S/\i < S.fR.length/\S.fR.length <= 1000/\∀ H',Same H H'->Q (.int (down S.fR i)) H'
theorem TC (F:Fun K "down_to" "Ground.down_to" EY f fd) (T:Txt K mg) (TG:DF K mg G) (om_q15:OkM P w K mg base G "last_stage" Jj 1 (Yx G)) (o_q12:Ok P w K mg base "heat_down_to" cR 2 (sp_q12 K)):Ym P w K mg base CX0 3 f fd CN (GB G):=by
  obtain ⟨p,kept,Ss,S,i,rfl,hG,hl,hi,hn,q⟩:=‹KW›;refine ⟨_,(Ze (Zi (Zg o_q12 hr (pa2 (Yd (Jt hr) (Zv om_q15 TG.cl hr (pv 0)) Zs (λ_ _=>rfl)) (pv 1))))),?_⟩
  try dsimp only [cK_,cL_]
  obtain ⟨dx,pk,ps,ds,h1,h2,h3,h4,h5⟩:=hG.ex;refine ⟨_,Z,p,dx,_,Z,h1,gN,p,kept,Ss,S,λ_=>True,Z,hG.y,hl,λd a b _ _ e1 e2 e3=>?_⟩;exact ⟨d,_,Z,(by have z:=CP.k (k:=Sum.inr "heats") e1;rw [Yt] at z;exact z),_,Z,b,S.fR,i,Z,SqL.of e3,hn,hi,q⟩
theorem QE (F:Fun K "down_to" "Ground.down_to" EY f fd) (T:Txt K mg) (TG:DF K mg G) (om_q15:OkM P w K mg base G "last_stage" Jj 1 (Yx G)) (o_q12X:OkX P w K mg base "heat_down_to" cR 2 (b7 K mg)):Ym P w K mg base (CX1 P w) 3 f fd CN (ER G mg 0):=by
 refine F.okX KW (λvs H Q E h=>?_) (λcdv A outer s H vs Q E hr h=>?_)
 ·obtain ⟨p,m,rest,kept,Ss,S,rfl,hk,_⟩:=h;simp [hk]
 ·obtain ⟨p,m,rest,kept,Ss,S,rfl,hk,hG,hl,he,hn,bad,q⟩:=h;obtain rfl:rest=[]:=iL hk;refine ⟨_,(Ze (Zi (Yc o_q12X hr (Yu (E:=E)) (pa2 (Yd (Jt hr) (Zv om_q15 TG.cl hr (pv 0)) Zs (λ_ _=>rfl)) (pv 1))))),?_⟩
  try dsimp only [cK_,cL_]
  obtain ⟨dx,pk,ps,ds,h1,h2,h3,h4,h5⟩:=id hG.ex;refine ⟨_,Z,p,dx,_,Z,h1,gN,p,kept,Ss,S,λ_=>True,Z,hG.y,hl,λd a b _ _ e1 e2 e3=>?_⟩;refine ⟨d,_,Z,(by have z:=CP.k (k:=Sum.inr "heats") e1;rw [Yt] at z;exact z),?_⟩;exact ⟨_,Z,b,S.fR,m,Z,SqL.of e3,by lia,λi e hi=>absurd ⟨by lia,by lia⟩ bad,λ_=>q⟩
abbrev Q7:hZ:=Jd (top 66) 17
abbrev N_G_q24:List fZ:=["self","bed"]
abbrev K2:List fZ:=["self","bed"]
theorem WW:Zj N_G_q24 K2 (Zd Q7):=mk9
def QW (G:fT):Sp:=λvs H Q _=>E5 λ(p:fT) (kept:List V) (Ss:List Zq) (S:Zq) (i:Nat)=>vs=[.ref p,.int ((i:Int)+1)]/\Ya G H p kept Ss/\Ss.getLast? = some S/\i < S.fQ.length/\S.fR.length=S.fQ.length/\Q (.bl (decide (S.fR.getD i 0=S.fQ.getD i 0))) H
theorem ok_G_q24 (F:Fun K "is_thawed" "Ground.is_thawed" Q7 f fd) (T:Txt K mg) (TG:DF K mg G) (om_heat:OkM P w K mg base G "heat" DX 2 (IH G)) (om_need:OkM P w K mg base G "need" DY 2 (JW G)):Ym P w K mg base CX0 3 f fd K2 (QW G):=by
  obtain ⟨p,kept,Ss,S,i,rfl,hG,hl,hi,he,q⟩:=‹WW›;refine ⟨_,(Ze (Zi (CO Jv (Yp om_heat TG.cl hr (pv 0) (pa1 (pv 1))) (Yp om_need TG.cl hr (pv 0) (pa1 (pv 1))) (EC _)))),?_⟩
  try dsimp only [cK_,cL_]
  obtain ⟨dx,pk,ps,ds,h1,h2,h3,h4,h5⟩:=hG.ex;refine ⟨_,Z,p,dx,_,Z,h1,gN,_,Z,p,kept,Ss,S,i,Z,hG,hl,by lia,?_⟩;refine ⟨_,Z,p,dx,_,Z,h1,gN,_,Z,p,kept,Ss,S,i,Z,hG,hl,hi,Z,?_⟩;have e:decide (V.int (S.fR.getD i 0)=V.int (S.fQ.getD i 0))=decide (S.fR.getD i 0=S.fQ.getD i 0):=by
   by_cases h:S.fR.getD i 0=S.fQ.getD i 0
   ·rw [D7_ h,D7_ (congrArg V.int h)]
   ·rw [decide_eq_false h,decide_eq_false (λz=>h (V.int.inj z))]
  rw [e];exact q
theorem bJ (F:Fun K "is_thawed" "Ground.is_thawed" Q7 f fd) (T:Txt K mg) (TG:DF K mg G) (om_heatX:O1 P w K mg base G "heat" DX 2 (ER G mg 0)) (om_needX:O1 P w K mg base G "need" DY 2 (ER G mg 0)):Ym P w K mg base (CX1 P w) 3 f fd K2 (ER G mg 0):=by
 refine F.okX WW (λvs H Q E h=>?_) (λcdv A outer s H vs Q E hr h=>?_)
 ·obtain ⟨p,m,rest,kept,Ss,S,rfl,hk,_⟩:=h;simp [hk]
 ·obtain ⟨p,m,rest,kept,Ss,S,rfl,hk,hG,hl,he,hn,bad,q⟩:=h;obtain rfl:rest=[]:=iL hk;refine ⟨_,(Ze (Zi (CO Jv (Ys om_heatX TG.cl hr (Yu (E:=E)) (pv 0) (pa1 (pv 1))) (Ys om_needX TG.cl hr (Yu (E:=E)) (pv 0) (pa1 (pv 1))) (EC _)))),?_⟩
  try dsimp only [cK_,cL_]
  obtain ⟨dx,pk,ps,ds,h1,h2,h3,h4,h5⟩:=id hG.ex;exact ⟨_,Z,p,dx,_,Z,h1,gN,_,Z,p,m,[],kept,Ss,S,Z,Z,hG,hl,he,hn,bad,q⟩
abbrev KB:hZ:=Jd (top 66) 18
abbrev YM:List fZ:=["self"]
abbrev K0:List fZ:=["self"]
theorem UV:Zj YM K0 (Zd KB):=mk9
def MI (G:fT):Sp:=λvs H Q _=>E4 λ(p:fT) (kept:List V) (Ss:List Zq) (S:Zq)=>vs=[.ref p]/\Ya G H p kept Ss/\Ss.getLast? = some S/\S.fR.length=S.fQ.length/\S.fQ.length <= 1000/\∀ l,H l=none->Q (.ref l) (upd H l (.lst ((AD S.fQ S.fR S.fQ.length).map V.int)))
theorem V4 (F:Fun K "thawed" "Ground.thawed" KB f fd) (T:Txt K mg) (TG:DF K mg G) (om_q15:OkM P w K mg base G "last_stage" Jj 1 (Yx G)) (o_q26:Ok P w K mg base "thawed_beds" P_q26 1 (sp_q26 K)):Ym P w K mg base CX0 2 f fd K0 (MI G):=by
  obtain ⟨p,kept,Ss,S,rfl,hG,hl,he,hn,q⟩:=‹UV›;refine ⟨_,(Ze (Zi (Zg o_q26 hr (pa2 (Yd (Jt hr) (Zv om_q15 TG.cl hr (pv 0)) Zs (λ_ _=>rfl)) (Yd (Jt hr) (Zv om_q15 TG.cl hr (pv 0)) Zs (λ_ _=>rfl)))))),?_⟩
  try dsimp only [cK_,cL_]
  obtain ⟨dx,pk,ps,ds,h1,h2,h3,h4,h5⟩:=hG.ex;refine ⟨_,Z,p,dx,_,Z,h1,gN,p,kept,Ss,S,λ_=>True,Z,hG.y,hl,λd a b _ _ e1 e2 e3=>?_⟩;refine ⟨d,_,Z,(by have z:=CP.k (k:=Sum.inr "needs") e1;rw [Yq] at z;exact z),_,Z,p,dx,_,Z,h1,gN,p,kept,Ss,S,λ_=>True,Z,hG.y,hl,λd' a' b' _ _ e1' e2' e3'=>?_⟩;exact ⟨d',_,Z,(by have z:=CP.k (k:=Sum.inr "heats") e1';rw [Yt] at z;exact z),a,b',S.fQ,S.fR,Z,SqL.of e2,SqL.of e3',he,hn,q⟩
abbrev NO:hZ:=Jd (top 66) 19
abbrev aE:List fZ:=["self"]
abbrev NG:List fZ:=["self"]
theorem Z4:Zj aE NG (Zd NO):=mk9
def OT (G:fT):Sp:=λvs H Q _=>E4 λ(p:fT) (kept:List V) (Ss:List Zq) (S:Zq)=>vs=[.ref p]/\Ya G H p kept Ss/\Ss.getLast? = some S/\S.fR.length=S.fQ.length/\S.fQ.length <= 1000/\∀ f:Nat,K7 S.fQ S.fR f->Q (.int f) H
theorem Y0 (F:Fun K "front" "Ground.front" NO f fd) (T:Txt K mg) (TG:DF K mg G) (om_q15:OkM P w K mg base G "last_stage" Jj 1 (Yx G)) (o_front_of:Ok P w K mg base "front_of" JZ 1 (NU K)):Ym P w K mg base CX0 2 f fd NG (OT G):=by
  obtain ⟨p,kept,Ss,S,rfl,hG,hl,he,hn,q⟩:=‹Z4›;refine ⟨_,(Ze (Zi (Zg o_front_of hr (pa2 (Yd (Jt hr) (Zv om_q15 TG.cl hr (pv 0)) Zs (λ_ _=>rfl)) (Yd (Jt hr) (Zv om_q15 TG.cl hr (pv 0)) Zs (λ_ _=>rfl)))))),?_⟩
  try dsimp only [cK_,cL_]
  obtain ⟨dx,pk,ps,ds,h1,h2,h3,h4,h5⟩:=hG.ex;refine ⟨_,Z,p,dx,_,Z,h1,gN,p,kept,Ss,S,λ_=>True,Z,hG.y,hl,λd a b _ _ e1 e2 e3=>?_⟩;refine ⟨d,_,Z,(by have z:=CP.k (k:=Sum.inr "needs") e1;rw [Yq] at z;exact z),_,Z,p,dx,_,Z,h1,gN,p,kept,Ss,S,λ_=>True,Z,hG.y,hl,λd' a' b' _ _ e1' e2' e3'=>?_⟩;exact ⟨d',_,Z,(by have z:=CP.k (k:=Sum.inr "heats") e1';rw [Yt] at z;exact z),a,b',S.fQ,S.fR,Z,SqL.of e2,SqL.of e3',he,hn,q⟩
abbrev HN:hZ:=Jd (top 66) 20
abbrev V0:List fZ:=["self"]
abbrev HP:List fZ:=["self"]
theorem S8:Zj V0 HP (Zd HN):=mk9
def KR (G:fT):Sp:=λvs H Q _=>E5 λ(p:fT) (kept:List V) (Ss:List Zq) (S S0:Zq)=>vs=[.ref p]/\Ya G H p kept Ss/\Ss.getLast? = some S/\Ss[0]? = some S0/\∀ (H':Hp) (t:fT),Same H H'->H t=none->H' t=some (.tup [.int S0.fR.sum,.int S.found,.int S.taken])->Q (.ref t) H'
theorem RW (F:Fun K "balance" "Ground.balance" HN f fd) (T:Txt K mg) (TG:DF K mg G) (om_q15:OkM P w K mg base G "last_stage" Jj 1 (Yx G)) (om_q2:OkM P w K mg base G "stage_balance" eI 1 (ZN G)):Ym P w K mg base CX0 2 f fd HP (KR G):=by
  obtain ⟨p,kept,Ss,S,S0,rfl,hG,hl,h0,q⟩:=‹S8›;refine ⟨_,(Ze (Zi (Yp om_q2 TG.cl hr (pv 0) (pa1 (Zv om_q15 TG.cl hr (pv 0)))))),?_⟩
  try dsimp only [cK_,cL_]
  obtain ⟨dx,pk,ps,ds,h1,h2,h3,h4,h5⟩:=hG.ex;refine ⟨_,Z,p,dx,_,Z,h1,gN,_,Z,p,dx,_,Z,h1,gN,p,kept,Ss,S,λ_=>True,Z,hG.y,hl,λd a b _ _ e1 e2 e3=>?_⟩;exact ⟨p,kept,Ss,S,S0,d,Z,hG,h0,⟨a,b,e1,e2,e3⟩,q⟩
abbrev NH:hZ:=Jd (top 66) 21
abbrev b8:List fZ:=["self"]
abbrev MG:List fZ:=["self"]
theorem Y6:Zj b8 MG (Zd NH):=mk9
def O3 (G:fT):Sp:=λvs H Q _=>E3 λ(p:fT) (kept:List V) (Ss:List Zq)=>vs=[.ref p]/\Ya G H p kept Ss/\∀ (H':Hp) (l:fT),Same H H'->H l=none->H' l=some (.lst kept)->Q (.ref l) H'
theorem YZ (F:Fun K "deeds" "Ground.deeds" NH f fd) (T:Txt K mg) (TG:DF K mg G):Ym P w K mg base CX0 1 f fd MG (O3 G):=by
  obtain ⟨p,kept,Ss,rfl,hG,q⟩:=‹Y6›;refine ⟨_,(Ze (Zi (Jo T.n_list (EL (pv 0) Z)))),?_⟩
  try dsimp only [cK_,cL_]
  obtain ⟨dx,pk,ps,ds,h1,h2,h3,h4,h5⟩:=hG.ex;exact ⟨_,Z,p,G,dx,_,_,Z,h1,TG.cl,TG.nK,K1 _ _,pk,_,Z,.inl (SqL.of h2),λl hl=>q _ l (Same.upd hl) hl Zb⟩
abbrev XJ:hZ:=Jd (top 66) 22
abbrev N_G_q6:List fZ:=["self","deed"]
abbrev TQ:List fZ:=["self","deed"]
theorem eW:Zj N_G_q6 TQ (Zd XJ):=mk9
def WS (G:fT) (mg:fZ->Option fV):Sp:=λvs H Q E=>E4 λ(p:fT) (kept:List V) (Ss:List Zq) (m:Int)=>vs=[.ref p,.int m]/\Ya G H p kept Ss/\kept.length <= 1000/\¬ (0 <= m/\m <= (kept.length:Int))/\∀ (C x:fT),mg "UnknownDeed" = some (.ref C)->H x=none->E (.ref C) (some x) H
def fD (G:fT):Sp:=λvs H Q _=>E5 λ(p:fT) (kept:List V) (Ss:List Zq) (S:Zq) (i:Nat)=>vs=[.ref p,.int (i:Int)]/\Ya G H p kept Ss/\i <= kept.length/\Ss[i]? = some S/\∀ (H':Hp) (l:fT),Same H H'->H l=none->H' l=some (.lst (S.fR.map V.int))->Q (.ref l) H'
theorem ok_G_q6 (F:Fun K "heats_behind" "Ground.heats_behind" XJ f fd) (T:Txt K mg) (TG:DF K mg G) (o_q29:Ok P w K mg base "check_deed" cH 1 sp_q29):Ym P w K mg base CX0 2 f fd TQ (fD G):=by
  obtain ⟨p,kept,Ss,S,i,rfl,hG,hi,hS,q⟩:=‹eW›
  refine ⟨_,(Zc (Zp (Zg o_q29 hr (pa3 Za (Zy T.n_len (EL (pv 0) Z)) (pv 1)))) (Ze (Zi (Jo T.n_list (Yd (Jt hr) (pxl (EL (pv 0) Z) (pv 1)) Zs (λ_ _=>rfl)))))),?_⟩
  try dsimp only [cK_,cL_]
  obtain ⟨dx,pk,ps,ds,h1,h2,h3,h4,h5⟩:=hG.ex;obtain ⟨d,e1,a,b,g1,g2,g3⟩:=h5 i S hS;refine ⟨_,Z,p,G,dx,_,_,Z,h1,TG.cl,TG.nK,K1 _ _,pk,_,Z,.inl (SqL.of h2),_,Z,_,_,_,Z,by lia,by lia,?_⟩;refine ⟨_,Z,p,G,dx,_,_,Z,h1,TG.cl,TG.nS,ED _ _,_,Z,ps,_,_,_,Z,Z,SqL.of h3,(AT (j:=i) (by rw [gE,e1];rfl)),?_⟩;exact ⟨d,_,Z,(by have z:=CP.k (k:=Sum.inr "heats") g1;rw [Yt] at z;exact z),b,_,Z,.inl (SqL.of g3),λl hl=>q _ l (Same.upd hl) hl Zb⟩
theorem ok_G_q6X (F:Fun K "heats_behind" "Ground.heats_behind" XJ f fd) (T:Txt K mg) (TG:DF K mg G) (o_q29X:OkX P w K mg base "check_deed" cH 1 (fC mg)):Ym P w K mg base (CX1 P w) 2 f fd TQ (WS G mg):=by
  obtain ⟨p,kept,Ss,m,rfl,hG,hk,hm,q⟩:=‹¬eW›
  refine ⟨_,(Zc (Zp (Yc o_q29X hr (Yu (E:=E)) (pa3 Za (Zy T.n_len (EL (pv 0) Z)) (pv 1)))) (Ze (Zi (Jo T.n_list (Yd (Jt hr) (pxl (EL (pv 0) Z) (pv 1)) Zs (λ_ _=>rfl)))))),?_⟩
  try dsimp only [cK_,cL_]
  obtain ⟨dx,pk,ps,ds,h1,h2,h3,h4,h5⟩:=hG.ex;exact ⟨_,Z,p,G,dx,_,_,Z,h1,TG.cl,TG.nK,K1 _ _,pk,_,Z,.inl (SqL.of h2),_,Z,0,kept.length,m,Z,by lia,hk,λhb=>absurd hb hm,λ_=>q⟩
abbrev LM:hZ:=Jd (top 66) 25
abbrev N_G_rule:List fZ:=["self","bed","seasons"]
abbrev JJ:List fZ:=["self","bed","seasons"]
theorem T9:Zj N_G_rule JJ (Zd LM):=mk9
def OD (K:W.Frag) (G:fT) (mg:fZ->Option fV):Sp:=λvs H _ E=>E8 λ(p:fT) (kept:List V) (Ss:List Zq) (S:Zq) (c:fT) (ts:List fT) (ss:List (Bool × Int)) (b:Int)=>vs=[.ref p,.int b,.ref c]/\Ya G H p kept Ss/\Ss.getLast? = some S/\S.fR.length=S.fQ.length/\S.fQ.length <= 1000/\(∀ i,0 <= down S.fQ i)/\SqL K H c (ts.map V.ref)/\Zu H ts ss/\ss.length <= 1000/\(¬ (1 <= b/\b <= (S.fQ.length:Int))->Thr mg "UnknownBed" E H)/\(1 <= b/\b <= (S.fQ.length:Int)->¬ (∀ z ∈ ss,Yl z.2)/\Thr mg "BadAmount" E H)
def UE (K:W.Frag) (G:fT):Sp:=λvs H Q _=>E8 λ(p py:fT) (kept:List V) (Ss:List Zq) (S:Zq) (i:Nat) (ts:List fT) (ss:List (Bool × Int))=>vs=[.ref p,.int ((i:Int)+1),.ref py]/\Ya G H p kept Ss/\Ss.getLast? = some S/\i < S.fQ.length/\S.fQ.length <= 1000/\0 <= down S.fQ i/\SqL K H py (ts.map V.ref)/\Zu H ts ss/\(∀ z ∈ ss,0 <= z.2/\z.2 <= 1000000)/\ss.length <= 1000 /\
 ∀ (H':Hp) (r:fT),Same H H'->H r=none->H' r=some (.tup (CJ (down S.fQ i) ss).vs)->Q (.ref r) H'
theorem dB (F:Fun K "rule" "Ground.rule" LM f fd) (T:Txt K mg) (TG:DF K mg G) (om_q5:OkM P w K mg base G "full_down_to" JF 2 (NA G)) (o_row_rule:Ok P w K mg base "row_rule" AS 3 (BV K)):Ym P w K mg base CX0 4 f fd JJ (UE K G):=by
  obtain ⟨p,py,kept,Ss,S,i,ts,ss,rfl,hG,hl,hi,hn,h0,hY,hS,hz,hss,q⟩:=‹T9›;refine ⟨_,(Ze (Zi (Zg o_row_rule hr (pa2 (Yp om_q5 TG.cl hr (pv 0) (pa1 (pv 1))) (pv 2))))),?_⟩
  try dsimp only [cK_,cL_]
  obtain ⟨dx,pk,ps,ds,h1,_⟩:=id hG.ex;refine ⟨_,Z,p,dx,_,Z,h1,gN,_,Z,p,kept,Ss,S,i,Z,hG,hl,hi,hn,λH1 s1=>?_⟩;exact ⟨_,Z,_,py,ts,ss,Z,s1.seq hY,hS.same s1,h0,hz,hss,λH2 r s2 fr hr2=>q H2 r (s1.trans s2) (s1.free fr) hr2⟩
theorem XW (F:Fun K "rule" "Ground.rule" LM f fd) (T:Txt K mg) (TG:DF K mg G) (om_q5:OkM P w K mg base G "full_down_to" JF 2 (NA G)) (om_q5X:O1 P w K mg base G "full_down_to" JF 2 (ER G mg 0)) (o_row_ruleX:OkX P w K mg base "row_rule" AS 3 (LF K mg)):Ym P w K mg base (CX1 P w) 4 f fd JJ (OD K G mg):=by
  obtain ⟨p,kept,Ss,S,c,ts,ss,b,rfl,hG,hl,he,hn,h0,hC,hS,hss,e0,e6⟩:=‹¬T9›;obtain ⟨dx,pk,ps,ds,h1,h2,h3,h4,h5⟩:=id hG.ex;by_cases hb:1 <= b/\b <= (S.fQ.length:Int)
  ·obtain ⟨bad,hE⟩:=e6 hb;obtain ⟨i,rfl,hi⟩:∃ i:Nat,b=(i:Int)+1/\i < S.fQ.length:=⟨(b - 1).toNat,by lia,by lia⟩;refine ⟨_,(Ze (Zi (Yc o_row_ruleX hr (Yu (E:=E)) (pa2 (Yp om_q5 TG.cl hr (pv 0) (pa1 (pv 1))) (pv 2))))),?_⟩
   try dsimp only [cK_,cL_]
   refine ⟨_,Z,p,dx,_,Z,h1,gN,_,Z,p,kept,Ss,S,i,Z,hG,hl,hi,hn,λH1 s1=>?_⟩;refine ⟨_,Z,_,c,ts,ss,Z,s1.seq hC,hS.same s1,h0 i,?_,hss,hE.same s1⟩;refine Classical.byContradiction λno=>bad λz hz=>Classical.byContradiction λnz=>no ⟨z,hz,nz⟩
  ·refine ⟨_,(Ze (Zi (Yc o_row_ruleX hr (Yu (E:=E)) (pa2 (Ys om_q5X TG.cl hr (Yu (E:=E)) (pv 0) (pa1 (pv 1))) (pv 2))))),?_⟩
   try dsimp only [cK_,cL_]
   exact ⟨_,Z,p,dx,_,Z,h1,gN,_,Z,p,b,[],kept,Ss,S,Z,Z,hG,hl,he,hn,hb,λC x hm hx=>e0 hb C x H hm (Same.refl _) hx⟩
abbrev Q5:hZ:=Jd (top 66) 26
abbrev N_G_q17:List fZ:=["self","bed","year","times"]
abbrev ML:List fZ:=["self","bed","year","times"]
theorem WM:Zj N_G_q17 ML (Zd Q5):=mk9
def SY (K:W.Frag) (G:fT) (mg:fZ->Option fV):Sp:=λvs H _ E=>E7 λ(p:fT) (kept:List V) (Ss:List Zq) (S:Zq) (c:fT) (ts:List fT) (ss:List (Bool × Int))=>E2 λ(b m:Int)=>vs=[.ref p,.int b,.ref c,.int m]/\Ya G H p kept Ss/\Ss.getLast? = some S/\S.fR.length=S.fQ.length/\S.fQ.length <= 1000/\(∀ i,0 <= down S.fQ i)/\(¬ (1 <= b/\b <= (S.fQ.length:Int))->Thr mg "UnknownBed" E H)/\(1 <= b/\b <= (S.fQ.length:Int)->(SqL K H c (ts.map V.ref)/\Zu H ts ss/\(¬ (1 <= ss.length/\ss.length <= 12)->Thr mg "BadYear" E H)/\(1 <= ss.length/\ss.length <= 12->¬ (∀ z ∈ ss,Yl z.2)->Thr mg "BadAmount" E H))/\(1 <= ss.length/\ss.length <= 12->(∀ z ∈ ss,Yl z.2)->¬ (1 <= m/\m <= 1000000000000000000)/\Thr mg "BadTimes" E H))
def XC (K:W.Frag) (G:fT):Sp:=λvs H Q _=>E7 λ(p py:fT) (kept:List V) (Ss:List Zq) (S:Zq) (i:Nat) (ts:List fT)=>E2 λ(ss:List (Bool × Int)) (n:Nat)=>vs=[.ref p,.int ((i:Int)+1),.ref py,.int ((n:Int)+1)]/\Ya G H p kept Ss/\Ss.getLast? = some S/\i < S.fQ.length/\S.fQ.length <= 1000/\0 <= down S.fQ i/\SqL K H py (ts.map V.ref)/\Zu H ts ss/\(∀ z ∈ ss,0 <= z.2/\z.2 <= 1000000)/\1 <= ss.length/\ss.length <= 12/\(n:Int)+1 <= 1000000000000000000 /\
 ∀ (H':Hp) (r:fT),Same H H'->H' r=some (.tup ((CJ (down S.fQ i) ss).rep n).vs)->Q (.ref r) H'
theorem ok_G_q17 (F:Fun K "years_rule" "Ground.years_rule" Q5 f fd) (T:Txt K mg) (TG:DF K mg G) (om_q5:OkM P w K mg base G "full_down_to" JF 2 (NA G)) (o_year_rule:Ok P w K mg base "year_rule" DM 4 (KQ K)):Ym P w K mg base CX0 5 f fd ML (XC K G):=by
  obtain ⟨p,py,kept,Ss,S,i,ts,ss,n,rfl,hG,hl,hi,hn,h0,hY,hS,hz,y1,y2,hm,q⟩:=‹WM›;refine ⟨_,(Ze (Zi (Zg o_year_rule hr (pa3 (Yp om_q5 TG.cl hr (pv 0) (pa1 (pv 1))) (pv 2) (pv 3))))),?_⟩
  try dsimp only [cK_,cL_]
  obtain ⟨dx,pk,ps,ds,h1,_⟩:=id hG.ex;refine ⟨_,Z,p,dx,_,Z,h1,gN,_,Z,p,kept,Ss,S,i,Z,hG,hl,hi,hn,λH1 s1=>?_⟩;exact ⟨_,Z,_,Z,_,py,ts,ss,n,Z,s1.seq hY,hS.same s1,h0,hz,y1,y2,hm,λH2 r s2 hr2=>q H2 r (s1.trans s2) hr2⟩
theorem dS (F:Fun K "years_rule" "Ground.years_rule" Q5 f fd) (T:Txt K mg) (TG:DF K mg G) (om_q5:OkM P w K mg base G "full_down_to" JF 2 (NA G)) (om_q5X:O1 P w K mg base G "full_down_to" JF 2 (ER G mg 0)) (o_year_ruleX:OkX P w K mg base "year_rule" DM 4 (IR K mg)):Ym P w K mg base (CX1 P w) 5 f fd ML (SY K G mg):=by
  obtain ⟨p,kept,Ss,S,c,ts,ss,b,m,rfl,hG,hl,he,hn,h0,e0,hy⟩:=‹¬WM›;obtain ⟨dx,pk,ps,ds,h1,h2,h3,h4,h5⟩:=id hG.ex;by_cases hb:1 <= b/\b <= (S.fQ.length:Int)
  ·obtain ⟨⟨hC,hS,e5,e6⟩,e7⟩:=hy hb;obtain ⟨i,rfl,hi⟩:∃ i:Nat,b=(i:Int)+1/\i < S.fQ.length:=⟨(b - 1).toNat,by lia,by lia⟩;refine ⟨_,(Ze (Zi (Yc o_year_ruleX hr (Yu (E:=E)) (pa3 (Yp om_q5 TG.cl hr (pv 0) (pa1 (pv 1))) (pv 2) (pv 3))))),?_⟩
   try dsimp only [cK_,cL_]
   refine ⟨_,Z,p,dx,_,Z,h1,gN,_,Z,p,kept,Ss,S,i,Z,hG,hl,hi,hn,λH1 s1=>?_⟩;exact ⟨_,Z,_,Z,_,c,ts,ss,m,Z,s1.seq hC,hS.same s1,λz=>(e5 z).same s1,λy z=>(e6 y z).same s1,h0 i,λy z=>⟨(e7 y z).1,(e7 y z).2.same s1⟩⟩
  ·refine ⟨_,(Ze (Zi (Yc o_year_ruleX hr (Yu (E:=E)) (pa3 (Ys om_q5X TG.cl hr (Yu (E:=E)) (pv 0) (pa1 (pv 1))) (pv 2) (pv 3))))),?_⟩
   try dsimp only [cK_,cL_]
   exact ⟨_,Z,p,dx,_,Z,h1,gN,_,Z,p,b,[],kept,Ss,S,Z,Z,hG,hl,he,hn,hb,λC x hm hx=>e0 hb C x H hm (Same.refl _) hx⟩
abbrev GU:hZ:=Jd (top 66) 27
abbrev YA:List fZ:=["self","year","at_year","season"]
abbrev EF:List fZ:=["self","year","at_year","season"]
theorem MH:Zj YA EF (Zd GU):=mk9
def KP (K:W.Frag) (G:fT) (mg:fZ->Option fV):Sp:=λvs H _ E=>E7 λ(p:fT) (kept:List V) (Ss:List Zq) (S:Zq) (c:fT) (ts:List fT) (ss:List (Bool × Int))=>E2 λ(y u:Int)=>vs=[.ref p,.ref c,.int y,.int u]/\Ya G H p kept Ss/\Ss.getLast? = some S/\S.fR.length=S.fQ.length/\S.fQ.length <= 1000/\SqL K H c (ts.map V.ref)/\Zu H ts ss/\(¬ (1 <= ss.length/\ss.length <= 12)->Thr mg "BadYear" E H)/\(1 <= ss.length/\ss.length <= 12->¬ (∀ z ∈ ss,Yl z.2)->Thr mg "BadAmount" E H)/\(1 <= ss.length/\ss.length <= 12->(∀ z ∈ ss,Yl z.2)->¬ (1 <= y/\y <= 1000000000000000000/\1 <= u/\u <= (ss.length:Int))/\Thr mg "UnknownSeason" E H)
def N3 (K:W.Frag) (G:fT):Sp:=λvs H Q _=>E7 λ(p c:fT) (kept:List V) (Ss:List Zq) (S:Zq) (ts:List fT) (ss:List (Bool × Int))=>E2 λ(n so:Nat)=>vs=[.ref p,.ref c,.int ((n:Int)+1),.int (so:Int)]/\Ya G H p kept Ss/\Ss.getLast? = some S/\SqL K H c (ts.map V.ref)/\Zu H ts ss/\NY S.fQ S.fR/\(∀ z ∈ ss,0 <= z.2/\z.2 <= 1000000)/\1 <= ss.length/\ss.length <= 12/\(n:Int)+1 <= 1000000000000000000/\1 <= so/\so <= ss.length /\
 ∀ (H':Hp) (l:fT),Same H H'->H l=none->H' l=some (.lst ((farL S.fQ S.fR ss n so).map V.int))->Q (.ref l) H'
theorem UT (F:Fun K "coming" "Ground.coming" GU f fd) (T:Txt K mg) (TG:DF K mg G) (om_q15:OkM P w K mg base G "last_stage" Jj 1 (Yx G)) (o_heats_at:Ok P w K mg base "heats_at" EO 7 (MA K)):Ym P w K mg base CX0 8 f fd EF (N3 K G):=by
  obtain ⟨p,c,kept,Ss,S,ts,ss,n,so,rfl,hG,hl,hC,hS,B,hz,y1,y2,hn,s1,s2,q⟩:=‹MH›;obtain ⟨dx,pk,ps,ds,h1,_⟩:=id hG.ex;refine ⟨_,(Ze (Zi (Zg o_heats_at hr (Zo (Yd (Jt hr) (Zv om_q15 TG.cl hr (pv 0)) Zs (λ_ _=>rfl)) (Zo (Yd (Jt hr) (Zv om_q15 TG.cl hr (pv 0)) Zs (λ_ _=>rfl)) (pa3 (pv 1) (pv 2) (pv 3))))))),?_⟩
  try dsimp only [cK_,cL_]
  refine ⟨_,Z,p,dx,_,Z,h1,gN,p,kept,Ss,S,λ_=>True,Z,hG.y,hl,λd a b _ _ e1 e2 e3=>?_⟩;refine ⟨d,_,Z,(by have z:=CP.k (k:=Sum.inr "needs") e1;rw [Yq] at z;exact z),?_⟩;refine ⟨_,Z,p,dx,_,Z,h1,gN,p,kept,Ss,S,λ_=>True,Z,hG.y,hl,λd' a' b' _ _ e1' e2' e3'=>?_⟩;refine ⟨d',_,Z,(by have z:=CP.k (k:=Sum.inr "heats") e1';rw [Yt] at z;exact z),?_⟩;exact ⟨_,Z,_,Z,_,Z,a,b',c,S.fQ,S.fR,ts,ss,n,so,Z,SqL.of e2,SqL.of e3',hC,hS,B,hz,y1,y2,hn,s1,s2,λH1 l s1 fl hl1=>q H1 l s1 fl hl1⟩
theorem SL (F:Fun K "coming" "Ground.coming" GU f fd) (T:Txt K mg) (TG:DF K mg G) (om_q15:OkM P w K mg base G "last_stage" Jj 1 (Yx G)) (o_heats_atX:OkX P w K mg base "heats_at" EO 7 (KS K mg)):Ym P w K mg base (CX1 P w) 8 f fd EF (KP K G mg):=by
  obtain ⟨p,kept,Ss,S,c,ts,ss,y,u,rfl,hG,hl,he,hn,hC,hS,e5,e6,e8⟩:=‹¬MH›;obtain ⟨dx,pk,ps,ds,h1,h2,h3,h4,h5⟩:=id hG.ex;refine ⟨_,(Ze (Zi (Yc o_heats_atX hr (Yu (E:=E)) (Zo (Yd (Jt hr) (Zv om_q15 TG.cl hr (pv 0)) Zs (λ_ _=>rfl)) (Zo (Yd (Jt hr) (Zv om_q15 TG.cl hr (pv 0)) Zs (λ_ _=>rfl)) (pa3 (pv 1) (pv 2) (pv 3))))))),?_⟩
  try dsimp only [cK_,cL_]
  refine ⟨_,Z,p,dx,_,Z,h1,gN,p,kept,Ss,S,λ_=>True,Z,hG.y,hl,λd a b' _ _ e1 e2 e3=>?_⟩;refine ⟨d,_,Z,(by have z:=CP.k (k:=Sum.inr "needs") e1;rw [Yq] at z;exact z),?_⟩;refine ⟨_,Z,p,dx,_,Z,h1,gN,p,kept,Ss,S,λ_=>True,Z,hG.y,hl,λd' a' b'' _ _ e1' e2' e3'=>?_⟩;refine ⟨d',_,Z,(by have z:=CP.k (k:=Sum.inr "heats") e1';rw [Yt] at z;exact z),?_⟩;exact ⟨_,Z,_,Z,_,Z,.ref a,.ref b'',c,ts,ss,y,u,Z,hC,hS,e5,e6,e8⟩
abbrev QQ:hZ:=Jd (top 66) 28
abbrev N_G_q20:List fZ:=["self","year"]
abbrev NJ:List fZ:=["self","year"]
theorem X4:Zj N_G_q20 NJ (Zd QQ):=mk9
def S9 (K:W.Frag) (G:fT) (mg:fZ->Option fV):Sp:=λvs H _ E=>E7 λ(p:fT) (kept:List V) (Ss:List Zq) (S:Zq) (c:fT) (ts:List fT) (ss:List (Bool × Int))=>vs=[.ref p,.ref c]/\Ya G H p kept Ss/\Ss.getLast? = some S/\S.fR.length=S.fQ.length/\S.fQ.length <= 1000/\SqL K H c (ts.map V.ref)/\Zu H ts ss/\(¬ (1 <= ss.length/\ss.length <= 12)->Thr mg "BadYear" E H)/\(1 <= ss.length/\ss.length <= 12->¬ (∀ z ∈ ss,Yl z.2)->Thr mg "BadAmount" E H)/\¬ ((1 <= ss.length/\ss.length <= 12)/\(∀ z ∈ ss,Yl z.2))
def XD (K:W.Frag) (G:fT):Sp:=λvs H Q _=>E7 λ(p c:fT) (kept:List V) (Ss:List Zq) (S:Zq) (ts:List fT) (ss:List (Bool × Int))=>vs=[.ref p,.ref c]/\Ya G H p kept Ss/\Ss.getLast? = some S/\SqL K H c (ts.map V.ref)/\Zu H ts ss/\NY S.fQ S.fR/\(∀ z ∈ ss,0 <= z.2/\z.2 <= 1000000)/\1 <= ss.length/\ss.length <= 12 /\
 ∀ (H':Hp) (r:Nat),Same H H'->True->Q (.int (r:Int)) H'
theorem ok_G_q20 (F:Fun K "rest_year" "Ground.rest_year" QQ f fd) (T:Txt K mg) (TG:DF K mg G) (om_q15:OkM P w K mg base G "last_stage" Jj 1 (Yx G)) (o_rest_of:Ok P w K mg base "rest_of" EM 5 (KG K)):Ym P w K mg base CX0 6 f fd NJ (XD K G):=by
  obtain ⟨p,c,kept,Ss,S,ts,ss,rfl,hG,hl,hC,hS,B,hz,y1,y2,q⟩:=‹X4›;obtain ⟨dx,pk,ps,ds,h1,_⟩:=id hG.ex;refine ⟨_,(Ze (Zi (Zg o_rest_of hr (pa3 (Yd (Jt hr) (Zv om_q15 TG.cl hr (pv 0)) Zs (λ_ _=>rfl)) (Yd (Jt hr) (Zv om_q15 TG.cl hr (pv 0)) Zs (λ_ _=>rfl)) (pv 1))))),?_⟩
  try dsimp only [cK_,cL_]
  refine ⟨_,Z,p,dx,_,Z,h1,gN,p,kept,Ss,S,λ_=>True,Z,hG.y,hl,λd a b _ _ e1 e2 e3=>?_⟩;refine ⟨d,_,Z,(by have z:=CP.k (k:=Sum.inr "needs") e1;rw [Yq] at z;exact z),?_⟩;refine ⟨_,Z,p,dx,_,Z,h1,gN,p,kept,Ss,S,λ_=>True,Z,hG.y,hl,λd' a' b' _ _ e1' e2' e3'=>?_⟩;refine ⟨d',_,Z,(by have z:=CP.k (k:=Sum.inr "heats") e1';rw [Yt] at z;exact z),?_⟩;exact ⟨_,Z,a,b',c,S.fQ,S.fR,ts,ss,Z,SqL.of e2,SqL.of e3',hC,hS,B,hz,y1,y2,λH1 r s1 R=>q H1 r s1 R⟩
theorem eZ (F:Fun K "rest_year" "Ground.rest_year" QQ f fd) (T:Txt K mg) (TG:DF K mg G) (om_q15:OkM P w K mg base G "last_stage" Jj 1 (Yx G)) (o_rest_ofX:OkX P w K mg base "rest_of" EM 5 (NF K mg)):Ym P w K mg base (CX1 P w) 6 f fd NJ (S9 K G mg):=by
  obtain ⟨p,kept,Ss,S,c,ts,ss,rfl,hG,hl,he,hn,hC,hS,e5,e6,bad⟩:=‹¬X4›;obtain ⟨dx,pk,ps,ds,h1,h2,h3,h4,h5⟩:=id hG.ex;refine ⟨_,(Ze (Zi (Yc o_rest_ofX hr (Yu (E:=E)) (pa3 (Yd (Jt hr) (Zv om_q15 TG.cl hr (pv 0)) Zs (λ_ _=>rfl)) (Yd (Jt hr) (Zv om_q15 TG.cl hr (pv 0)) Zs (λ_ _=>rfl)) (pv 1))))),?_⟩
  try dsimp only [cK_,cL_]
  refine ⟨_,Z,p,dx,_,Z,h1,gN,p,kept,Ss,S,λ_=>True,Z,hG.y,hl,λd a b' _ _ e1 e2 e3=>?_⟩;refine ⟨d,_,Z,(by have z:=CP.k (k:=Sum.inr "needs") e1;rw [Yq] at z;exact z),?_⟩;refine ⟨_,Z,p,dx,_,Z,h1,gN,p,kept,Ss,S,λ_=>True,Z,hG.y,hl,λd' a' b'' _ _ e1' e2' e3'=>?_⟩;refine ⟨d',_,Z,(by have z:=CP.k (k:=Sum.inr "heats") e1';rw [Yt] at z;exact z),?_⟩;exact ⟨_,Z,.ref a,.ref b'',c,ts,ss,Z,hC,hS,e5,e6,bad⟩
abbrev X0:hZ:=Jd (top 66) 29
abbrev N_G_q3:List fZ:=["self","bed","year"]
abbrev SW:List fZ:=["self","bed","year"]
theorem cD:Zj N_G_q3 SW (Zd X0):=mk9
def WG (K:W.Frag) (G:fT) (mg:fZ->Option fV):Sp:=λvs H _ E=>E8 λ(p:fT) (kept:List V) (Ss:List Zq) (S:Zq) (c:fT) (ts:List fT) (ss:List (Bool × Int)) (b:Int)=>vs=[.ref p,.int b,.ref c]/\Ya G H p kept Ss/\Ss.getLast? = some S/\S.fR.length=S.fQ.length/\S.fQ.length <= 1000/\(¬ (1 <= b/\b <= (S.fQ.length:Int))->Thr mg "UnknownBed" E H)/\(1 <= b/\b <= (S.fQ.length:Int)->(SqL K H c (ts.map V.ref)/\Zu H ts ss/\(¬ (1 <= ss.length/\ss.length <= 12)->Thr mg "BadYear" E H)/\(1 <= ss.length/\ss.length <= 12->¬ (∀ z ∈ ss,Yl z.2)->Thr mg "BadAmount" E H))/\¬ ((1 <= ss.length/\ss.length <= 12)/\(∀ z ∈ ss,Yl z.2)))
def aZ (K:W.Frag) (G:fT):Sp:=λvs H Q _=>E8 λ(p c:fT) (kept:List V) (Ss:List Zq) (S:Zq) (i:Nat) (ts:List fT) (ss:List (Bool × Int))=>vs=[.ref p,.int ((i:Int)+1),.ref c]/\Ya G H p kept Ss/\Ss.getLast? = some S/\SqL K H c (ts.map V.ref)/\Zu H ts ss/\NY S.fQ S.fR/\(∀ z ∈ ss,0 <= z.2/\z.2 <= 1000000)/\1 <= ss.length/\ss.length <= 12/\i < S.fQ.length /\
 ∀ (H':Hp) (t:fT) (d:Bool) (y k:Nat),Same H H'->H t=none->H' t=some (.tup [.bl d,.int y,.int k])->True->Q (.ref t) H'
theorem ok_G_q3 (F:Fun K "first_thawed" "Ground.first_thawed" X0 f fd) (T:Txt K mg) (TG:DF K mg G) (om_q15:OkM P w K mg base G "last_stage" Jj 1 (Yx G)) (o_q13:Ok P w K mg base "first_season" ZW 6 (sp_q13 K)):Ym P w K mg base CX0 7 f fd SW (aZ K G):=by
  obtain ⟨p,c,kept,Ss,S,i,ts,ss,rfl,hG,hl,hC,hS,B,hz,y1,y2,hi,q⟩:=‹cD›;obtain ⟨dx,pk,ps,ds,h1,_⟩:=id hG.ex;refine ⟨_,(Ze (Zi (Zg o_q13 hr (Zo (Yd (Jt hr) (Zv om_q15 TG.cl hr (pv 0)) Zs (λ_ _=>rfl)) (pa3 (Yd (Jt hr) (Zv om_q15 TG.cl hr (pv 0)) Zs (λ_ _=>rfl)) (pv 1) (pv 2)))))),?_⟩
  try dsimp only [cK_,cL_]
  refine ⟨_,Z,p,dx,_,Z,h1,gN,p,kept,Ss,S,λ_=>True,Z,hG.y,hl,λd a b _ _ e1 e2 e3=>?_⟩;refine ⟨d,_,Z,(by have z:=CP.k (k:=Sum.inr "needs") e1;rw [Yq] at z;exact z),?_⟩;refine ⟨_,Z,p,dx,_,Z,h1,gN,p,kept,Ss,S,λ_=>True,Z,hG.y,hl,λd' a' b' _ _ e1' e2' e3'=>?_⟩;refine ⟨d',_,Z,(by have z:=CP.k (k:=Sum.inr "heats") e1';rw [Yt] at z;exact z),?_⟩;exact ⟨_,Z,_,Z,a,b',c,S.fQ,S.fR,ts,ss,i,Z,SqL.of e2,SqL.of e3',hC,hS,B,hz,y1,y2,hi,λH1 t d y k s1 ft ht hf=>q H1 t d y k s1 ft ht hf⟩
theorem ok_G_q3X (F:Fun K "first_thawed" "Ground.first_thawed" X0 f fd) (T:Txt K mg) (TG:DF K mg G) (om_q15:OkM P w K mg base G "last_stage" Jj 1 (Yx G)) (o_q13X:OkX P w K mg base "first_season" ZW 6 (ZY K mg)):Ym P w K mg base (CX1 P w) 7 f fd SW (WG K G mg):=by
  obtain ⟨p,kept,Ss,S,c,ts,ss,b,rfl,hG,hl,he,hn,e0,hy⟩:=‹¬cD›;obtain ⟨dx,pk,ps,ds,h1,h2,h3,h4,h5⟩:=id hG.ex;refine ⟨_,(Ze (Zi (Yc o_q13X hr (Yu (E:=E)) (Zo (Yd (Jt hr) (Zv om_q15 TG.cl hr (pv 0)) Zs (λ_ _=>rfl)) (pa3 (Yd (Jt hr) (Zv om_q15 TG.cl hr (pv 0)) Zs (λ_ _=>rfl)) (pv 1) (pv 2)))))),?_⟩
  try dsimp only [cK_,cL_]
  refine ⟨_,Z,p,dx,_,Z,h1,gN,p,kept,Ss,S,λ_=>True,Z,hG.y,hl,λd a b' _ _ e1 e2 e3=>?_⟩;refine ⟨d,_,Z,(by have z:=CP.k (k:=Sum.inr "needs") e1;rw [Yq] at z;exact z),?_⟩;refine ⟨_,Z,p,dx,_,Z,h1,gN,p,kept,Ss,S,λ_=>True,Z,hG.y,hl,λd' a' b'' _ _ e1' e2' e3'=>?_⟩;refine ⟨d',_,Z,(by have z:=CP.k (k:=Sum.inr "heats") e1';rw [Yt] at z;exact z),?_⟩;exact ⟨_,Z,_,Z,a,.ref b'',b,S.fQ,c,ts,ss,Z,SqL.of e2,hn,e0,hy⟩
abbrev s_at:hZ:=top 68
abbrev N_at:List fZ:=["_law_script","_law_k"]
abbrev P_at:List fZ:=["_law_script","_law_k"]
theorem sc_at:Zj N_at P_at (Zd s_at):=mk9
def sp_at (K:W.Frag):Sp:=λvs H Q _=>E3 λ(a:fT) (ns:List Int) (k:Nat)=>vs=[.ref a,.int k]/\SqL K H a (ns.map V.int)/\Q (.int (ns.getD k 0)) H
theorem ok_at (F:Fun K "_law_at" "_law_at" s_at f fd) (T:Txt K mg):Ym P w K mg base CX0 1 f fd P_at (sp_at K):=by
  obtain ⟨a,ns,k,rfl,hS,q⟩:=‹sc_at›
  refine ⟨_,(Zc (Yk (pcr DA (pv 1) (Zy T.n_len (pv 0))) (Ze (Zi (pxl (pv 0) (pv 1)))) Zn) (Ze (Zi Za))),?_⟩
  try dsimp only [cK_,cL_]
  refine ⟨_,Z,_,Z,a,_,Z,.inl hS,_,_,Z,Z,_,Z,?_⟩;refine Jl (λhc=>?_) (λhc=>?_)
  ·have hc:(k:Int) < ((ns.map V.int).length:Int):=by simpa using hc
   rw [fU] at hc;exact ⟨_,Z,_,Z,a,_,_,_,Z,Z,hS,Yz (by lia),q⟩
  ·have hc:¬ (k:Int) < ((ns.map V.int).length:Int):=by simpa using hc
   rw [fU] at hc;have e:ns.getD k 0=0:=by rw [fY,List.getElem?_eq_none (by lia)];rfl
   rw [e] at q;exact q
abbrev VE:hZ:=top 69
abbrev N_whole:List fZ:=["_law_found"]
abbrev GI:List fZ:=["_law_found"]
theorem sc_whole:Zj N_whole GI (Zd VE):=mk9
def FG:Sp:=λvs H Q _=>∃ (i:Int),vs=[.int i]/\Q (.bl true) H
theorem ok_whole (F:Fun K "_law_whole" "_law_whole" VE f fd) (T:Txt K mg):Ym P w K mg base CX0 1 f fd GI FG:=by
  obtain ⟨i,rfl,q⟩:=‹sc_whole›;refine ⟨_,(Ze (Zi (OA (BB T.n_isinstance (pv 0) (LJ T.n_int)) (T4 (pe_not (BB T.n_isinstance (pv 0) (LJ T.n_bool))))))),?_⟩
  try dsimp only [cK_,cL_]
  refine ⟨_,Z,_,_,_,true,Z,.int i,.inl ⟨_,Z,kit_ii _⟩,_,Z,?_⟩;refine IA ?_;exact ⟨_,Z,_,_,_,false,Z,.int i,.inl ⟨_,Z,kit_ib _⟩,_,Z,q⟩
abbrev MT:hZ:=top 70
abbrev eT:List fZ:=["_law_found","_law_due","_law_k"]
abbrev N0:List fZ:=["_law_found","_law_due"]
theorem P5:Zj eT N0 (Zd MT):=mk9
def P3 (K:W.Frag):Sp:=λvs H Q _=>E3 λ(a b:fT) (ns:List Int)=>vs=[.ref a,.ref b]/\H a=some (.lst (ns.map V.int))/\SqL K H b (ns.map V.int)/\ns.length <= 100000/\Q (.bl true) H
theorem Y2 (F:Fun K "_law_numbers" "_law_numbers" MT f fd) (T:Txt K mg) (o_whole:Ok P w K mg base "_law_whole" GI 1 FG):Ym P w K mg base CX0 2 f fd N0 (P3 K):=by
  obtain ⟨a,b,ns,rfl,hA,hB,hn,q⟩:=‹P5›
  refine ⟨_,(Zc (Yk (PW.pt (BL (AZ (AG (BB T.n_isinstance (pv 0) (LJ T.n_list)))) (Ji (pcr GZ (Zy T.n_len (pv 0)) (Zy T.n_len (pv 1)))))) (Ze (Zi BO)) Zn) (Zc (AO PassesOwn.never Z (AY (by rfl) T.n_range (pa1 (Zy T.n_len (pv 1)))) (Zw (i:=2) P5.nd Z (Or.inl Z)) (Ze (Yk (PW.pt (BL (AZ (AG (Zg o_whole hr (pa1 (pxl (pv 0) (pv 2)))))) (Ji (pcr GZ (pxl (pv 0) (pv 2)) (pxl (pv 1) (pv 2)))))) (Ze (Zi BO)) Zn))) (Ze (Zi BO)))),?_⟩
  try dsimp only [cK_,cL_]
  refine ⟨_,Z,_,_,_,true,Z,.lst hA,.inl ⟨_,Z,kit_ll _⟩,_,Z,?_⟩;refine CV ?_;refine ⟨_,Z,a,_,Z,.inl (SqL.of hA),_,Z,b,_,Z,.inl hB,Z,_,Z,?_⟩;refine DT Z ?_;refine ⟨_,Z,b,_,Z,.inl hB,_,Z,by lia,by rw [fU];lia,?_⟩;refine C9 (n:=((ns.map V.int).length:Int).toNat) (λi σ H2=>(∃ v,σ=[some (.ref a),some (.ref b),v])/\H2=H) ⟨⟨none,Z⟩,Z⟩ ?_ ?_
  ·rintro i σ H2 hi ⟨⟨v,rfl⟩,rfl⟩;rw [fU] at hi;have hi':i < ns.length:=by lia
   have e0:(0:Int)+(i:Int)=(i:Int):=by lia
   rw [e0];refine ⟨_,Z,_,Z,a,_,_,_,Z,Z,SqL.of hA,Yz hi',⟨_,Z,_,Z,?_⟩⟩;refine CV ?_;refine ⟨_,Z,_,Z,a,_,_,_,Z,Z,SqL.of hA,Yz hi',_,Z,_,Z,b,_,_,_,Z,Z,hB,Yz hi',Z,_,Z,?_⟩;refine DT Z ?_;exact ⟨⟨_,Z⟩,Z⟩
  ·rintro σ H2 ⟨_,rfl⟩;exact q
abbrev eF:hZ:=top 71
abbrev N_told:List fZ:=["_law_found","_law_due","_law_k"]
abbrev W7:List fZ:=["_law_found","_law_due"]
theorem ZM:Zj N_told W7 (Zd eF):=mk9
def VY (K:W.Frag):Sp:=λvs H Q _=>E3 λ(a b:fT) (ns:List Int)=>vs=[.ref a,.ref b]/\H a=some (.tup (ns.map V.int))/\(SqL K H b (ns.map V.int)\/SqT K H b (ns.map V.int))/\ns.length <= 1000/\Q (.bl true) H
theorem ok_told (F:Fun K "_law_told" "_law_told" eF f fd) (T:Txt K mg) (o_whole:Ok P w K mg base "_law_whole" GI 1 FG):Ym P w K mg base CX0 2 f fd W7 (VY K):=by
  obtain ⟨a,b,ns,rfl,hA,hB,hn,q⟩:=‹ZM›
  refine ⟨_,(Zc (Yk (PW.pt (BL (AZ (AG (BB T.n_isinstance (pv 0) (LJ T.n_tuple)))) (Ji (pcr GZ (Zy T.n_len (pv 0)) (Zy T.n_len (pv 1)))))) (Ze (Zi BO)) Zn) (Zc (AO PassesOwn.never Z (AY (by rfl) T.n_range (pa1 (Zy T.n_len (pv 1)))) (Zw (i:=2) ZM.nd Z (Or.inl Z)) (Ze (Yk (PW.pt (BL (AZ (AG (Zg o_whole hr (pa1 (pxt (pv 0) (pv 2)))))) (Ji (pcr GZ (pxt (pv 0) (pv 2)) (KL ix_seq (pv 1) (pv 2) (λ_ _=>rfl)))))) (Ze (Zi BO)) Zn))) (Ze (Zi BO)))),?_⟩
  try dsimp only [cK_,cL_]
  refine ⟨_,Z,_,_,_,true,Z,.tup hA,.inl ⟨_,Z,O7 _⟩,_,Z,?_⟩;refine CV ?_;refine ⟨_,Z,a,_,Z,.inr (SqT.of hA),_,Z,b,_,Z,hB,Z,_,Z,?_⟩;refine DT Z ?_;refine ⟨_,Z,b,_,Z,hB,_,Z,by lia,by rw [fU];lia,?_⟩;refine C9 (n:=((ns.map V.int).length:Int).toNat) (λi σ H2=>(∃ v,σ=[some (.ref a),some (.ref b),v])/\H2=H) ⟨⟨none,Z⟩,Z⟩ ?_ ?_
  ·rintro i σ H2 hi ⟨⟨v,rfl⟩,rfl⟩;rw [fU] at hi;have hi':i < ns.length:=by lia
   have e0:(0:Int)+(i:Int)=(i:Int):=by lia
   rw [e0];refine ⟨_,Z,_,Z,a,_,_,_,Z,Z,SqT.of hA,Yz hi',⟨_,Z,_,Z,?_⟩⟩;refine CV ?_;refine ⟨_,Z,_,Z,a,_,_,_,Z,Z,SqT.of hA,Yz hi',_,Z,_,Z,?_⟩;have fin:(if (!decide (ns.getD i 0=ns.getD i 0))=true then False else True):=DT Z trivial;rcases hB with hB | hB
   ·refine .inl ⟨b,_,_,_,Z,Z,hB,Yz hi',Z,_,Z,?_⟩;refine DT Z ?_;exact ⟨⟨_,Z⟩,Z⟩
   ·refine .inr (.inl ⟨b,_,_,_,Z,Z,hB,Yz hi',Z,_,Z,?_⟩);refine DT Z ?_;exact ⟨⟨_,Z⟩,Z⟩
  ·rintro σ H2 ⟨_,rfl⟩;exact q
abbrev s_row:hZ:=top 72
abbrev N_row:List fZ:=["_law_cell","_law_many","_law_base","_law_row_here","_law_rest","_law_k","_law_one"]
abbrev P_row:List fZ:=["_law_cell","_law_many","_law_base"]
theorem ON:Zj N_row P_row (Zd s_row):=mk9
def aI:Sp:=λvs H Q _=>E3 λ(cell base:Int) (many:Nat)=>vs=[.int cell,.int many,.int base]/\many <= 1000/\0 < base/\base < 1073741824 /\
 ∀ (p:fT) (fs:List Int),H p=none->fs.length=many->(∀ x ∈ fs,0 <= x/\x < base)->Q (.ref p) (upd H p (.lst (fs.map V.int)))
theorem ok_row (F:Fun K "_law_row" "_law_row" s_row f fd) (T:Txt K mg):Ym P w K mg base CX0 1 f fd P_row aI:=by
  obtain ⟨cell,bs,many,rfl,hm,hb0,hb1,q⟩:=‹ON›
  refine ⟨_,(Zc (psn 3 ON.nd (Zx Jh)) (Zc (psn 4 ON.nd (Zh Jk (pv 0) Za)) (Zc (AO PassesOwn.never Z (AY (by rfl) T.n_range (pa1 (pv 1))) (Zw (i:=5) ON.nd Z (Or.inl Z)) (Ze (Yk (pcr Jv (Zh Yn (pv 0) Za) Za) (Zc (Zp (D2 gJ gH gI Yo (pv 3) (pa1 (Zh Yn (pv 4) (pv 2))))) (Ze (psn 4 ON.nd (Zh Jk (pv 4) (pv 2))))) (Zc (psn 6 ON.nd (Zh Yn (Zh Zz (Zh Zz (Zh DV (pv 0) Za) (Zh DV (pv 5) Za)) Za) Za)) (Ze (Zp (D2 gJ gH gI Yo (pv 3) (pa1 (Zh Yn (Zh Yn (Zh Zz (Zh DV (pv 6) (pv 6)) (Zh DV (pv 5) Za)) Za) (pv 2)))))))))) (Ze (Zi (pv 3)))))),?_⟩
  try dsimp only [cK_,cL_]
  refine ⟨sz9,λp hp=>?_⟩;refine ⟨_,Z,_,_,Z,Z,⟨by decide,by decide⟩,?_⟩;refine ⟨_,Z,_,Z,by lia,by lia,?_⟩
  refine C9 (n:=(many:Int).toNat) (λi σ H2=>E4 λ(fs:List Int) (rest:Int) (k one:Option V)=>σ=[some (.int cell),some (.int many),some (.int bs),some (.ref p),some (.int rest),k,one]/\H2=upd H p (.lst (fs.map V.int))/\fs.length=i/\∀ x ∈ fs,0 <= x/\x < bs) ⟨[],_,_,_,Z,Z,Z,by simp⟩ ?_ ?_
  ·rintro i σ H2 hi ⟨fs,rest,k,one,rfl,rfl,hl,hx⟩;have grow:∀ z:Int,0 <= z->z < bs->(∀ x ∈ fs ++ [z],0 <= x/\x < bs):=λz h0 h1 x hx'=>by
    rcases iM.mp hx' with h | h
    ·exact hx x h
    ·have:x=z:=by simpa using h
     subst this;exact ⟨h0,h1⟩
   have eqH:∀ z:Int,upd (upd H p (.lst (fs.map V.int))) p (.lst (fs.map V.int ++ [.int z]))=upd H p (.lst ((fs ++ [z]).map V.int)):=λz=>by rw [CK,gO];rfl
   refine ⟨_,Z,_,_,Z,Z,(by show (0:Int) < 3;decide),Z,_,Z,?_⟩;refine Jl (λ_=>?_) (λ_=>?_)
   ·refine ⟨_,Z,.inl ⟨Z,_,SqL.of Zb⟩,_,Z,_,Z,_,_,Z,Z,hb0,p,_,_,Z,Z,Zb,Js (by rw [fU];lia),?_⟩;refine ⟨_,Z,_,Z,_,_,Z,Z,⟨hb0,hb1⟩,?_⟩;rw [eqH];exact ⟨_,_,_,_,Z,Z,by rw [i6,hl];rfl,grow _ (gM _ (by lia)) (gC _ hb0)⟩
   ·refine ⟨_,Z,_,_,Z,Z,.inr ⟨by decide,by decide⟩,_,Z,_,_,Z,Z,.inr ⟨by decide,by decide⟩,_,_,Z,Z,_,_,Z,Z,_,_,Z,Z,(by show (0:Int) < 2147483647;decide),?_⟩;refine ⟨_,Z,.inl ⟨Z,_,SqL.of Zb⟩,?_⟩;refine ⟨_,Z,_,Z,_,_,Z,Z,.inl ⟨?_,?_⟩,_,Z,_,_,Z,Z,.inr ⟨by decide,by decide⟩,_,_,Z,Z,_,_,Z,Z,(by show (0:Int) < 2147483629;decide),_,Z,_,_,Z,Z,hb0,p,_,_,Z,Z,Zb,Js (by rw [fU];lia),?_⟩
    ·exact Int.lt_of_lt_of_le (by decide) (gM _ (by decide))
    ·exact Int.lt_trans (gC _ (by decide)) (by decide)
    ·rw [eqH];exact ⟨_,_,_,_,Z,Z,by rw [i6,hl];rfl,grow _ (gM _ (by lia)) (gC _ hb0)⟩
  ·rintro σ H2 ⟨fs,rest,k,one,rfl,rfl,hl,hx⟩;exact ⟨_,Z,q p fs hp (by lia) hx⟩
abbrev SD:hZ:=top 73
abbrev ZR:List fZ:=["_law_script","_law_cell","_law_base","_law_many","_law_needs","_law_figures","_law_heats"]
abbrev bZ:List fZ:=["_law_script"]
theorem DZ:Zj ZR bZ (Zd SD):=mk9
def bW (K:W.Frag):Sp:=λvs H Q _=>E2 λ(a:fT) (ns:List Int)=>vs=[.ref a]/\SqL K H a (ns.map V.int) /\
 ∀ (H':Hp) (l pn ph:fT) (fQ fR:List Int),Same H H'->H l=none->H pn=none->H ph=none->l ≠ pn->l ≠ ph->pn ≠ ph ->
  H' l=some (.lst [.ref pn,.ref ph])->H' pn=some (.lst (fQ.map V.int))->H' ph=some (.lst (fR.map V.int))->NY fQ fR->fQ.length <= 30->Q (.ref l) H'
theorem base6_at (z:Int):∃ b:Int,atI [V.int 3,V.int 12,V.int 40,V.int 12,V.int 3,V.int 200] (z % 6)=some (.int b)/\0 < b/\b <= 200:=by
 have h1:=gM z (show (6:Int) ≠ 0 by decide);have h2:=gC z (show (0:Int) < 6 by decide);have h5:z % 6=0\/z % 6=1\/z % 6=2\/z % 6=3\/z % 6=4\/z % 6=5:=by lia
 rcases h5 with e | e | e | e | e | e <;> rw [e] <;> exact ⟨_,Z,by decide,by decide⟩
theorem ok_beds (F:Fun K "_law_beds" "_law_beds" SD f fd) (T:Txt K mg) (o_at:Ok P w K mg base "_law_at" P_at 1 (sp_at K)) (o_row:Ok P w K mg base "_law_row" P_row 1 aI):Ym P w K mg base CX0 2 f fd bZ (bW K):=by
  refine F.ok DZ (λvs H Q E h=>?_) (λcdv A outer s H vs Q E hr h=>?_)
  · obtain ⟨a,ns,rfl,_⟩:=h
    rfl
  · obtain ⟨a,ns,rfl,hS,q⟩:=h
    refine ⟨_,(Zc (psn 1 DZ.nd (Zg o_at hr (pa2 (pv 0) Za))) (Zc (psn 2 DZ.nd (pxl (Zx (Zo Za (Zo Za (Zo Za (pa3 Za Za Za))))) (Zh Yn (Zh Jk (pv 1) Za) Za))) (Zc (psn 3 DZ.nd (Zh Zz Za (Zh Yn (pv 1) Za))) (Zc (Yk (pcr Jv (pv 2) Za) (Ze (psn 3 DZ.nd (Zh Zz Za (Zh Yn (Zh Jk (pv 1) Za) Za)))) Zn) (Zc (NX (i:=4) DZ.nd Z (Or.inr Z) (EB Z (Yi.of (T:=["_law_figure"]) (js:=[]) (Zd SD).names ZR Z Z Z D9_) (BN (Zg o_row hr (pa3 (Zg o_at hr (pa2 (pv 0) Za)) (pv 3) (pv 2)))) (λ_ _ _ _=>⟨(Zw (i:=0) (by show List.Nodup (["_law_figure"]:List fZ);decide +kernel) Z (Or.inl Z)),CS,(Zh Zz Za (pv 0))⟩))) (Zc (NX (i:=5) DZ.nd Z (Or.inr Z) (Zg o_row hr (pa3 (Zg o_at hr (pa2 (pv 0) Za)) (pv 3) Za))) (Zc (HQ (i:=6) Z DZ.nd Z Z (Yi.of (T:=["_law_k"]) (js:=[4,5]) (Zd SD).names ZR Z Z Z D9_) (AY (by rfl) T.n_range (pa1 (pv 3))) (λ_ _ _ _=>⟨(Zw (i:=0) (by show List.Nodup (["_law_k","_law_needs","_law_figures"]:List fZ);decide +kernel) Z (Or.inl Z)),CS,(Zh Yn (KL (JX K) (pv 2) (pv 0) (λ_ _=>rfl)) (Zh Zz (KL (JX K) (pv 1) (pv 0) (λ_ _=>rfl)) Za))⟩)) (Zc (Yk (pcr Jv (Zh Yn (Zg o_at hr (pa2 (pv 0) Za)) Za) Za) (Ze (psn 6 DZ.nd (Zh eE (Zx (pa1 Za)) (pv 3)))) Zn) (Zc (Yk (pcr Jv (Zh Yn (Zg o_at hr (pa2 (pv 0) Za)) Za) Za) (Ze (psn 6 DZ.nd (Jo T.n_list (pv 4)))) Zn) (Ze (Zi (Zx (pa2 (pv 4) (pv 6)))))))))))))),?_⟩
    try dsimp only [cK_,cL_]
    refine ⟨_,Z,a,ns,0,Z,hS,?_⟩;refine ⟨sz9,λp0 f0=>?_⟩;have s0:=Same.upd (o:=.lst [.int 3,.int 12,.int 40,.int 12,.int 3,.int 200]) f0;have h00:(upd H p0 (.lst [.int 3,.int 12,.int 40,.int 12,.int 3,.int 200])) p0=some (.lst [.int 3,.int 12,.int 40,.int 12,.int 3,.int 200]):=Zb;generalize upd H p0 (.lst [.int 3,.int 12,.int 40,.int 12,.int 3,.int 200])=H0 at s0 h00 ⊢;obtain ⟨bs,eb,hb0,hb1⟩:=base6_at (ns.getD 0 0 / 8);refine ⟨_,Z,_,_,Z,Z,⟨by decide,by decide⟩,_,_,Z,Z,(by show (0:Int) < 6;decide),p0,_,_,_,Z,Z,SqL.of h00,eb,?_⟩;refine ⟨_,Z,_,_,Z,Z,(by show (0:Int) < 8;decide),_,_,Z,Z,?_⟩;dsimp only [FV];refine E1 (λσ' H'=>∃ n:Nat,1 <= n/\n <= 30/\H0=H'/\σ' = [some (.ref a),some (.int (ns.getD 0 0)),some (.int bs),some (.int (n:Int)),none,none,none]) (λnx hnx=>?_) ?_
    · refine ⟨_,Z,Z,_,Z,?_⟩
      refine Jl (λ_=>?_) (λ_=>?_)
      · obtain ⟨n,en,hn1,hn2⟩:=WQ (ns.getD 0 0 / 48) 30 (by decide)
        refine ⟨_,Z,_,_,Z,Z,⟨by decide,by decide⟩,_,_,Z,Z,(by show (0:Int) < 30;decide),_,_,Z,Z,?_⟩;exact hnx _ _ ⟨n,hn1,by omega,Z,congrArg (λz:Int=>[some (V.ref a),some (V.int (ns.getD 0 0)),some (V.int bs),some (V.int z),none,none,none]) en⟩
      · obtain ⟨n,en,hn1,hn2⟩:=WQ (ns.getD 0 0) 8 (by decide)
        exact hnx _ _ ⟨n,hn1,by omega,Z,congrArg (λz:Int=>[some (V.ref a),some (V.int (ns.getD 0 0)),some (V.int bs),some (V.int z),none,none,none]) en⟩
    rintro _ _ ⟨n,hn1,hn3,rfl,rfl⟩;refine ⟨_,Z,a,ns,1,Z,s0.seq hS,_,Z,_,Z,?_⟩;refine ⟨_,bs,n,Z,by omega,hb0,by omega,λpr fs fr hfl hfx=>⟨pr,Z,⟨_,SqL.of Zb⟩,λpn fn=>?_⟩⟩;have s2:Same H (upd H0 pr (.lst (fs.map V.int))):=s0.trans (Same.upd fr);have npr:pr ≠ pn:=λe=>by rw [e] at fn;rw [Zb] at fn;cases fn
    refine EH (xs:=fs.map V.int) (λi σ H2=>(∃ v,σ=[v])/\H2=upd (upd H0 pr (.lst (fs.map V.int))) pn (.lst ((fs.take i).map λx=>V.int (1+x)))) ?_ ?_ ?_ ?_
    · exact ⟨⟨none,Z⟩,by rw [kB];rfl⟩
    · rintro i σ H2 _ ⟨_,rfl⟩
      exact SqL.of (by rw [Zk npr];exact Zb)
    · rintro i x σ H2 hx ⟨⟨v,rfl⟩,rfl⟩
      obtain ⟨hi,rfl⟩:=BQ hx;refine DN ?_;refine ⟨_,Z,_,_,Z,Z,_,Zb,Js (by rw [fU,iH];omega),⟨_,Z⟩,?_⟩;rw [CK,take_map_succ (f:=λx=>V.int (1+x)) hi]
    rintro σ0 H3 ⟨_,e3⟩;rw [fU,iZ] at e3;generalize eN:fs.map (λx=>1+x)=fQ at *;have eV:(fs.map λx=>V.int (1+x))=fQ.map V.int:=by rw [<- eN,List.map_map];rfl
    rw [eV] at e3;have hnl:fQ.length=n:=by rw [<- eN,fU,hfl]
    have hnx:∀ i,i < fQ.length->1 <= fQ.getD i 0/\fQ.getD i 0 <= 200:=λi hi=>by
      rw [hnl,<- hfl] at hi;rw [<- eN,getD_map hi];have:=hfx _ (getD_mem hi);omega
    have fpn:H pn=none:=s2.free fn;have s3:Same H H3:=by rw [e3];exact s2.trans (Same.upd fn)
    have h3n:H3 pn=some (.lst (fQ.map V.int)):=by rw [e3];exact Zb
    clear e3;refine ⟨_,Z,a,ns,2,Z,s3.seq hS,_,Z,_,201,n,Z,by omega,by decide,by decide,λpf gs fpf hgl hgx=>?_⟩;have s4:Same H3 (upd H3 pf (.lst (gs.map V.int))):=Same.upd fpf;refine ⟨_,Z,_,Z,by omega,by omega,λph fph=>?_⟩;have hpf:pf ≠ ph:=λe=>by rw [e,Zb] at fph;cases fph
    have h4n:(upd H3 pf (.lst (gs.map V.int))) pn=some (.lst (fQ.map V.int)):=s4 _ _ h3n;have hpn:pn ≠ ph:=Zf h4n fph;refine EI (λi σ H2=>(∃ v,σ=[v,some (.ref pn),some (.ref pf)])/\H2=upd (upd H3 pf (.lst (gs.map V.int))) ph (.lst ((i9 i).map λk=>V.int (gs.getD k 0 % (fQ.getD k 0+1))))) ?_ ?_ ?_
    · exact ⟨⟨none,Z⟩,Z⟩
    · rintro i σ H2 hi ⟨⟨v,rfl⟩,rfl⟩
      have hi':i < n:=by omega
      have e0:(0:Int)+(i:Int)=(i:Int):=by omega
      rw [e0];refine DN ?_;refine ⟨_,Z,_,Z,pf,_,_,_,Z,Z,SqL.of (by rw [Zk hpf];exact Zb),Yz (by omega),_,Z,_,Z,pn,_,_,_,Z,Z,SqL.of (by rw [Zk hpn];exact h4n),Yz (by omega),_,_,Z,Z,_,_,Z,Z,?_,_,Zb,Js (by rw [fU,iS];omega),⟨_,Z⟩,?_⟩
      · have:=hnx i (by omega)
        show (0:Int) < fQ.getD i 0+1;omega
      · rw [CK,HF (f:=λk=>V.int (gs.getD k 0 % (fQ.getD k 0+1)))]
    rintro σ1 H5 ⟨_,e5⟩;have e5:H5=upd (upd H3 pf (.lst (gs.map V.int))) ph (.lst ((i9 n).map λk=>V.int (gs.getD k 0 % (fQ.getD k 0+1)))):=e5;generalize eH:(i9 n).map (λk=>gs.getD k 0 % (fQ.getD k 0+1))=fR at *;have eV:((i9 n).map λk=>V.int (gs.getD k 0 % (fQ.getD k 0+1)))=fR.map V.int:=by rw [<- eH,List.map_map];rfl
    rw [eV] at e5;have hB:NY fQ fR:=⟨by rw [<- eH,hnl];simp,by omega,by omega,hnx,λi hi=>by
      have h1:=hnx i hi;rw [<- eH,CC (by omega)];exact ⟨gM _ (by omega),by have:=gC (gs.getD i 0) (show 0 < fQ.getD i 0+1 by omega);omega⟩⟩
    have s5:Same H3 H5:=by rw [e5];exact s4.trans (Same.upd fph)
    have h5n:H5 pn=some (.lst (fQ.map V.int)):=s5 _ _ h3n;have h5h:H5 ph=some (.lst (fR.map V.int)):=by rw [e5];exact Zb
    have fhh:H3 ph=none:=s4.free fph;clear e5 eV eH;have fin:∀ (H6:Hp) (ph:fT) (fR:List Int),Same H3 H6->H3 ph=none->H6 ph=some (.lst (fR.map V.int))->NY fQ fR->∀ l,H6 l=none->Q (.ref l) (upd H6 l (.lst [.ref pn,.ref ph])):=λH6 ph fR s6 f6 h6 B l fl=>by
      have h6n:H6 pn=some (.lst (fQ.map V.int)):=s6 _ _ h3n;have n1:pn ≠ l:=Zf h6n fl;have n2:ph ≠ l:=Zf h6 fl;have n3:pn ≠ ph:=Zf h3n f6;exact q _ l pn ph fQ fR ((s3.trans s6).trans (Same.upd fl)) ((s3.trans s6).free fl) fpn (s3.free f6) (Ne.symm n1) (Ne.symm n2) n3 Zb (by rw [Zk n1];exact h6n) (by rw [Zk n2];exact h6) B (by omega)
    have B0:NY fQ (hV n 0):=⟨by simp [hnl],hB.lo,hB.hi,hnx,λi hi=>by
      have h1:=hnx i hi;have:(hV n (0:Int)).getD i 0=0:=by simp [fY,List.getElem?_replicate,show i < n by omega]
      rw [this];omega⟩
    have B1:NY fQ fQ:=⟨Z,hB.lo,hB.hi,hnx,λi hi=>by have:=hnx i hi;omega⟩
    have second:∀ (H6:Hp) (ph:fT) (fR:List Int),Same H3 H6->H3 ph=none->H6 ph=some (.lst (fR.map V.int))->NY fQ fR -> (∀ l,H6 l=none->Q (.ref l) (upd H6 l (.lst [.ref pn,.ref ph])))/\∀ l,H6 l=none->∀ l',upd H6 l (.lst (fQ.map V.int)) l' = none->Q (.ref l') (upd (upd H6 l (.lst (fQ.map V.int))) l' (.lst [.ref pn,.ref l])):=λH6 ph fR s6 f6 h6 B=> ⟨fin H6 ph fR s6 f6 h6 B,λl fl l' fl'=>fin _ l fQ (s6.trans (Same.upd fl)) (s6.free fl) Zb B1 l' fl'⟩;refine ⟨_,Z,a,ns,2,Z,(s3.trans s5).seq hS,_,_,Z,Z,(by show (0:Int) < 4;decide),Z,_,Z,?_⟩;refine Jl (λ_=>?_) (λ_=>?_)
    ·
      refine ⟨sz9,λp6 f6=>?_⟩;refine ⟨_,Z,p6,_,_,Z,Z,Zb,?_,?_,?_,λp7 f7=>?_⟩
      · omega
      · omega
      · exact E9 (by show 1 * n <= 100000;omega)
      have e7:(hV ((n:Int)).toNat [V.int 0]).flatten=(hV n (0:Int)).map V.int:=by
        rw [show ((n:Int)).toNat=n by omega];simp
      rw [e7];have s7:Same H3 (upd (upd H5 p6 (.lst [.int 0])) p7 (.lst ((hV n (0:Int)).map V.int))):=(s5.trans (Same.upd f6)).trans (Same.upd f7);have f7':H3 p7=none:=(s5.trans (Same.upd f6)).free f7;obtain ⟨z1,z2⟩:=second _ p7 (hV n 0) s7 f7' Zb B0;refine ⟨_,Z,a,ns,2,Z,(s3.trans s7).seq hS,_,_,Z,Z,(by show (0:Int) < 4;decide),Z,_,Z,?_⟩;refine Jl (λ_=>?_) (λ_=>?_)
      · refine ⟨_,Z,pn,_,Z,.inl (SqL.of (s7 _ _ h3n)),λl fl=>?_⟩
        exact ⟨_,Z,_,Z,sz9,λl' fl'=>z2 l fl l' fl'⟩
      · exact ⟨_,Z,_,Z,sz9,λl' fl'=>z1 l' fl'⟩
    · obtain ⟨z1,z2⟩:=second H5 ph fR s5 fhh h5h hB
      refine ⟨_,Z,a,ns,2,Z,(s3.trans s5).seq hS,_,_,Z,Z,(by show (0:Int) < 4;decide),Z,_,Z,?_⟩;refine Jl (λ_=>?_) (λ_=>?_)
      · refine ⟨_,Z,pn,_,Z,.inl (SqL.of h5n),λl fl=>?_⟩
        exact ⟨_,Z,_,Z,sz9,λl' fl'=>z2 l fl l' fl'⟩
      · exact ⟨_,Z,_,Z,sz9,λl' fl'=>z1 l' fl'⟩
abbrev R9:hZ:=top 74
abbrev N_amount:List fZ:=["_law_cell","_law_scale","_law_free"]
abbrev LS:List fZ:=["_law_cell","_law_scale"]
theorem UA:Zj N_amount LS (Zd R9):=mk9
def NS:Sp:=λvs H Q _=>E2 λ(cell scale:Int)=>vs=[.int cell,.int scale]/\1 <= scale/\scale <= 999999/\∀ (m:Int) (H':Hp),0 <= m->m <= 1000000->Same H H'->Q (.int m) H'
theorem cM (z scale:Int) (h1:1 <= scale) (h2:scale <= 999999):∃ b:Int,atI [V.int 0,V.int 1,V.int scale,V.int (scale+1),V.int 1000000,V.int 999999,V.int (scale - 1)] (z % 7)=some (.int b)/\0 <= b/\b <= 1000000:=by
 have h3:=gM z (show (7:Int) ≠ 0 by decide);have h4:=gC z (show (0:Int) < 7 by decide);have h5:z % 7=0\/z % 7=1\/z % 7=2\/z % 7=3\/z % 7=4\/z % 7=5\/z % 7=6:=by lia
 rcases h5 with e | e | e | e | e | e | e <;> rw [e]
 ·exact ⟨0,Z,by decide,by decide⟩
 ·exact ⟨1,Z,by decide,by decide⟩
 ·exact ⟨scale,Z,by lia,by lia⟩
 ·exact ⟨scale+1,Z,by lia,by lia⟩
 ·exact ⟨1000000,Z,by decide,by decide⟩
 ·exact ⟨999999,Z,by decide,by decide⟩
 ·exact ⟨scale - 1,Z,by lia,by lia⟩
theorem bV (F:Fun K "_law_amount" "_law_amount" R9 f fd) (T:Txt K mg):Ym P w K mg base CX0 1 f fd LS NS:=by
  obtain ⟨cell,scale,rfl,h1,h2,q⟩:=‹UA›
  refine ⟨_,(Zc (psn 2 UA.nd (Zh Jk (pv 0) Za)) (Zc (Yk (pcr Jv (Zh Yn (pv 0) Za) Za) (Ze (Zi (Zh Yn (pv 2) Za))) Zn) (Zc (Yk (pcr Jv (Zh Yn (pv 0) Za) Za) (Ze (Zi (pxl (Zx (Zo Za (Zo Za (Zo (pv 1) (Zo (Zh Zz (pv 1) Za) (pa3 Za Za (Zh Yj (pv 1) Za))))))) (Zh Yn (pv 2) Za)))) Zn) (Zc (Yk (pcr Jv (Zh Yn (pv 0) Za) Za) (Ze (Zi (Zh Yn (pv 2) (Zh Zz (pv 1) Za)))) Zn) (Ze (Zi (Zh Yn (pv 2) (Zh Zz (Zh Jk (pv 1) Za) Za)))))))),?_⟩
  try dsimp only [cK_,cL_]
  refine ⟨_,Z,_,_,Z,Z,⟨by decide,by decide⟩,?_⟩;refine ⟨_,Z,_,_,Z,Z,(by show (0:Int) < 5;decide),Z,_,Z,?_⟩;refine Jl (λ_=>?_) (λ_=>?_)
  ·refine ⟨_,Z,_,_,Z,Z,(by show (0:Int) < 1000001;decide),q _ H (gM _ (by decide)) ?_ (Same.refl H)⟩;have:=gC (cell / 5) (show (0:Int) < 1000001 by decide)
   lia
  refine ⟨_,Z,_,_,Z,Z,(by show (0:Int) < 5;decide),Z,_,Z,?_⟩;refine Jl (λ_=>?_) (λ_=>?_)
  ·obtain ⟨b,eb,b1,b2⟩:=cM (cell / 5) scale h1 h2;refine ⟨_,Z,_,Z,_,_,Z,Z,_,Z,_,_,Z,Z,sz9,λp hp=>?_⟩;exact ⟨_,Z,_,_,Z,Z,(by show (0:Int) < 7;decide),p,_,_,_,Z,Z,SqL.of Zb,eb,q b _ b1 b2 (Same.upd hp)⟩
  refine ⟨_,Z,_,_,Z,Z,(by show (0:Int) < 5;decide),Z,_,Z,?_⟩;refine Jl (λ_=>?_) (λ_=>?_)
  ·refine ⟨_,Z,_,Z,_,_,Z,Z,_,_,Z,Z,(by show (0:Int) < scale+1;lia),q _ H (gM _ (by lia)) ?_ (Same.refl H)⟩;have:=gC (cell / 5) (show (0:Int) < scale+1 by lia)
   lia
  ·refine ⟨_,Z,_,Z,_,_,Z,Z,⟨by decide,by decide⟩,_,_,Z,Z,_,_,Z,Z,(by show (0:Int) < scale / 8+2;lia),q _ H (gM _ (by lia)) ?_ (Same.refl H)⟩;have:=gC (cell / 5) (show (0:Int) < scale / 8+2 by lia)
   lia
abbrev P8:hZ:=top 75
abbrev N_season:List fZ:=["_law_cell","_law_scale"]
abbrev Q9:List fZ:=["_law_cell","_law_scale"]
theorem fO:Zj N_season Q9 (Zd P8):=mk9
def TV:Sp:=λvs H Q _=>E2 λ(cell scale:Int)=>vs=[.int cell,.int scale]/\1 <= scale/\scale <= 999999 /\
 ∀ (H':Hp) (t:fT) (z:Bool × Int),Same H H'->H t=none->0 <= z.2->z.2 <= 1000000->H' t=some (.tup [.str (AX z.1),.int z.2])->Q (.ref t) H'
theorem kind_at (z:Int):∃ b:Bool,atI [V.str "warm",V.str "cold"] (z % 2)=some (.str (AX b)):=by
 have h3:=gM z (show (2:Int) ≠ 0 by decide);have h4:=gC z (show (0:Int) < 2 by decide);have h5:z % 2=0\/z % 2=1:=by lia
 rcases h5 with e | e <;> rw [e]
 ·exact ⟨true,Z⟩
 ·exact ⟨false,Z⟩
theorem dD (F:Fun K "_law_season" "_law_season" P8 f fd) (T:Txt K mg) (o_amount:Ok P w K mg base "_law_amount" LS 1 NS):Ym P w K mg base CX0 2 f fd Q9 TV:=by
  obtain ⟨cell,scale,rfl,h1,h2,q⟩:=‹fO›;refine ⟨_,(Ze (Zi (Jc (pa2 (pxl (Zx (pa2 Zs Zs)) (Zh Yn (pv 0) Za)) (Zg o_amount hr (pa2 (Zh Jk (pv 0) Za) (pv 1))))))),?_⟩
  try dsimp only [cK_,cL_]
  obtain ⟨b,eb⟩:=kind_at cell;refine ⟨sz9,λp hp=>⟨_,Z,_,_,Z,Z,(by show (0:Int) < 2;decide),p,_,_,_,Z,Z,SqL.of Zb,eb,?_⟩⟩;refine ⟨_,Z,_,_,Z,Z,⟨by decide,by decide⟩,_,Z,_,_,Z,h1,h2,λm H2 m0 m1 s2=>⟨sz9,λt ft=>?_⟩⟩;have s3:Same H H2:=(Same.upd hp).trans s2;exact q _ t (b,m) (s3.trans (Same.upd ft)) (s3.free ft) m0 m1 Zb
abbrev JM:hZ:=top 76
abbrev SF:List fZ:=["_law_cell","_law_many","_law_scale"]
abbrev IS:List fZ:=["_law_cell","_law_many","_law_scale"]
theorem YQ:Zj SF IS (Zd JM):=mk9
def K3:Sp:=λvs H Q _=>E3 λ(cell scale:Int) (many:Nat)=>vs=[.int cell,.int many,.int scale]/\many <= 1000/\1 <= scale/\scale <= 999999 /\
 ∀ (H':Hp) (p:fT) (ts:List fT) (ss:List (Bool × Int)),Same H H'->H p=none->ss.length=many->(∀ z ∈ ss,0 <= z.2/\z.2 <= 1000000)->H' p=some (.lst (ts.map V.ref))->Zu H' ts ss->Q (.ref p) H'
theorem XT (F:Fun K "_law_seasons" "_law_seasons" JM f fd) (T:Txt K mg) (o_row:Ok P w K mg base "_law_row" P_row 1 aI) (o_season:Ok P w K mg base "_law_season" Q9 2 TV):Ym P w K mg base CX0 3 f fd IS K3:=by
  obtain ⟨cell,scale,many,rfl,hm,h1,h2,q⟩:=‹YQ›;refine ⟨_,(Ze (Zi (EB Z (Yi.of (T:=["_law_figure"]) (js:=[2]) (Zd JM).names SF Z Z Z D9_) (BN (Zg o_row hr (pa3 (pv 0) (pv 1) Za))) (λ_ _ _ _=>⟨(Zw (i:=0) (by show List.Nodup (["_law_figure","_law_scale"]:List fZ);decide +kernel) Z (Or.inl Z)),CS,(Zg o_season hr (pa2 (pv 0) (pv 1)))⟩)))),?_⟩
  try dsimp only [cK_,cL_]
  refine ⟨_,Z,_,Z,_,_,many,Z,hm,by decide,by decide,λpr fs fr hfl hfx=>⟨pr,Z,⟨_,SqL.of Zb⟩,λp fp=>?_⟩⟩;have fp':H p=none:=(Same.upd fr).free fp;refine EH (xs:=fs.map V.int) (λi σ H2=>(∃ v,σ=[v,some (.int scale)])/\∃ (ts:List fT) (ss:List (Bool × Int)),Same (upd H pr (.lst (fs.map V.int))) H2/\ss.length=i/\(∀ z ∈ ss,0 <= z.2/\z.2 <= 1000000)/\H2 p=some (.lst (ts.map V.ref))/\Zu H2 ts ss) ?_ ?_ ?_ ?_
  ·exact ⟨⟨none,Z⟩,[],[],Same.upd fp,Z,by simp,Zb,Zu.nil _⟩
  ·rintro i σ H2 _ ⟨_,ts,ss,s2,_⟩;exact s2.seq (SqL.of Zb)
  ·rintro i x σ H2 hx ⟨⟨v,rfl⟩,ts,ss,s2,hl,hz,h2p,hS⟩;obtain ⟨hi,rfl⟩:=BQ hx;refine DN ?_;refine ⟨_,Z,_,Z,_,_,Z,h1,h2,λH3 t z s3 ft z0 z1 ht=>?_⟩;have h3p:=s3 _ _ h2p;have ntp:t ≠ p:=Ne.symm (Zf h2p ft);refine ⟨_,h3p,Js (by rw [fU,hS.len];lia),⟨_,Z⟩,ts ++ [t],ss ++ [z],(s2.trans s3).set fp,by rw [i6,hl];rfl,λy hy=>?_,?_,?_⟩
   ·rcases iM.mp hy with h | h
    ·exact hz y h
    ·have:y=z:=by simpa using h
     subst this;exact ⟨z0,z1⟩
   ·rw [Zb,gO];rfl
   ·have S3:Zu H3 (ts ++ [t]) (ss ++ [z]):=(hS.same s3).snoc ht;refine ⟨S3.len,λj y e=>?_⟩;obtain ⟨t',e1,e2⟩:=S3.at' j y e;exact ⟨t',e1,by rw [Zk (AF e2 h3p (by intro z;cases z))];exact e2⟩
  ·rintro σ H2 ⟨_,ts,ss,s2,hl,hz,h2p,hS⟩;rw [fU] at hl;exact q H2 p ts ss ((Same.upd fr).trans s2) fp' (by lia) hz h2p hS
abbrev s_go:hZ:=top 77
abbrev N_go:List fZ:=["_law_needs","_law_heats","_law_season_here","_law_left","_law_place","_law_part"]
abbrev P_go:List fZ:=["_law_needs","_law_heats","_law_season_here"]
theorem VN:Zj N_go P_go (Zd s_go):=mk9
def sp_go (K:W.Frag):Sp:=λvs H Q _=>E6 λ(a b t:fT) (fQ fR:List Int) (z:Bool × Int)=>vs=[.ref a,.ref b,.ref t]/\SqL K H a (fQ.map V.int)/\H b=some (.lst (fR.map V.int))/\H t=some (.tup [.str (AX z.1),.int z.2])/\a ≠ b/\Zr fQ fR/\1 <= fQ.length/\fQ.length <= 1000 /\
 0 <= z.2/\Q (.int (Yh fQ fR z)) (upd H b (.lst ((C8 fQ fR z).map V.int)))
theorem ok_go (F:Fun K "_law_go" "_law_go" s_go f fd) (T:Txt K mg):Ym P w K mg base CX0 1 f fd P_go (sp_go K):=by
  obtain ⟨a,b,t,fQ,fR,z,rfl,hA,hB,hT,nab,hO,hn1,hn,h0,q⟩:=‹VN›
  refine ⟨_,(Zc (psn 3 VN.nd (pxt (pv 2) Za)) (Zc (psn 4 VN.nd (Zh Yj (Zy T.n_len (pv 0)) Za)) (Zc (LV PassesOwn.never (PW.pt (LA (pcr CM (pv 3) Za) (HI (pcr op_ge (pv 4) Za)))) (Zc (Yk (pcr Jv (pxt (pv 2) Za) Zs) (Zc (psn 5 VN.nd (O6 (by rfl) T.n_min (pv 3) (Zh Yj (pxl (pv 0) (pv 4)) (pxl (pv 1) (pv 4))))) (Ze (EK (Zh Zz (pxl (pv 1) (pv 4)) (pv 5)) (FP (pv 1) (pv 4) BU)))) (Zc (psn 5 VN.nd (O6 (by rfl) T.n_min (pv 3) (pxl (pv 1) (pv 4)))) (Ze (EK (Zh Yj (pxl (pv 1) (pv 4)) (pv 5)) (FP (pv 1) (pv 4) BU))))) (Zc (psn 3 VN.nd (Zh Yj (pv 3) (pv 5))) (Ze (psn 4 VN.nd (Zh Yj (pv 4) Za)))))) (Ze (Zi (pv 3)))))),?_⟩
  try dsimp only [cK_,cL_]
  have hl:=hO.len;have hrl:=QJ hl z;have hr0:=cB hO z;have ntb:t ≠ b:=AF hT hB (by intro z;cases z);have hT2:∀ o,(upd H b o) t=some (.tup [.str (AX z.1),.int z.2]):=λo=>by rw [Zk ntb];exact hT
  refine ⟨_,Z,t,_,_,_,Z,Z,SqT.of hT,Z,?_⟩;refine ⟨_,Z,a,_,Z,.inl hA,_,_,Z,Z,?_⟩
  refine ⟨λμ σ H2=>∃ (k:Nat) (pl:Int) (v:Option V),μ=k/\k <= fQ.length/\pl=(k:Int) - 1/\σ=[some (.ref a),some (.ref b),some (.ref t),some (.int (Jb (FR fQ fR z) z.2 k)),some (.int pl),v] /\ H2=upd H b (.lst ((goL fQ fR z k).map V.int)),⟨_,fQ.length,((fQ.map V.int).length:Int) - 1,none,Z,gA _,?_,?_,?_⟩,?_⟩
  ·show ((fQ.map V.int).length:Int) - 1=_;rw [fU]
  ·have:Jb (FR fQ fR z) z.2 fQ.length=z.2:=by
    unfold Jb;rw [<- hrl,List.drop_length];show max 0 (z.2 - 0)=z.2;lia
   rw [this];rfl
  ·rw [b6 hl,upd_self hB]
  rintro μ σ H2 ⟨k,pl,v,rfl,hk,epl,rfl,rfl⟩;refine ⟨_,Z,_,_,Z,Z,_,Z,?_⟩;have fin:(Jb (FR fQ fR z) z.2 μ <= 0\/μ=0)->Q (.int (Jb (FR fQ fR z) z.2 μ)) (upd H b (.lst ((goL fQ fR z μ).map V.int))):=λhs=>by
   obtain ⟨e1,e2⟩:=goL_fin hO z hk hs;rw [e1,e2];exact q
  refine Jl (λhc=>?_) (λhc=>?_)
  ·have hl0:0 < Jb (FR fQ fR z) z.2 μ:=D8_ hc;refine ⟨_,Z,_,_,Z,Z,_,Z,?_⟩;refine Jl (λhc=>?_) (λhc=>?_)
   ·have hp0:0 <= pl:=D8_ hc;obtain ⟨j,rfl⟩:∃ j,μ=j+1:=⟨μ - 1,by lia⟩;have ej:pl=(j:Int):=by lia
    subst ej;have hj:j < fQ.length:=by lia
    refine ⟨λσ' H'=>∃ m',m' < j+1/\_,λσ' H' h=>h,?_⟩;have gj:(goL fQ fR z (j+1)).getD j 0=fR.getD j 0:=by
     rw [cE hj,if_neg (by lia)];unfold RK;split <;> lia
    have es:Yy (FR fQ fR z) z.2 j=min (Jb (FR fQ fR z) z.2 (j+1)) ((FR fQ fR z).getD j 0):=rfl;have el:=HR (a:=z.2) (show j < (FR fQ fR z).length by lia) (hr0 j (by lia));have hgl:=N8 fQ fR z (j+1);refine ⟨_,Z,t,_,_,_,Z,Z,SqT.of (hT2 _),Z,Z,_,Z,?_⟩;rw [EG];refine Jl (λhb=>?_) (λhb=>?_)
    ·have hlim:(FR fQ fR z).getD j 0=fQ.getD j 0 - fR.getD j 0:=by unfold FR;rw [if_pos hb,GV hl hj]
     refine ⟨_,Z,_,Z,_,Z,a,_,_,_,Z,Z,hA.off nab,Yz hj,_,Z,_,Z,b,_,_,_,Z,Z,SqL.of Zb,Yz (by lia),_,_,Z,Z,_,_,Z,?_⟩;have ep:(if fQ.getD j 0 - (goL fQ fR z (j+1)).getD j 0 < Jb (FR fQ fR z) z.2 (j+1) then fQ.getD j 0 - (goL fQ fR z (j+1)).getD j 0 else Jb (FR fQ fR z) z.2 (j+1))=Yy (FR fQ fR z) z.2 j:=by
      rw [es,hlim,gj];split <;> lia
     rw [ep];refine ⟨_,Z,_,Z,b,_,_,_,Z,Z,SqL.of Zb,Yz (by lia),_,Z,_,_,Z,Z,_,Z,_,Z,b,_,_,j,Z,Z,Zb,KC (by simpa using hgl ▸ hj),?_⟩;refine ⟨_,Z,_,Z,_,_,Z,Z,?_⟩;refine ⟨_,Z,_,_,Z,Z,?_⟩;refine ⟨j,by lia,j,_,some (.int (Yy (FR fQ fR z) z.2 j)),Z,by lia,Z,?_,?_⟩
     ·rw [el];rfl
     ·rw [setI,CK,gj,<- eG hj];unfold RK;rw [if_pos hb]
    ·have hlim:(FR fQ fR z).getD j 0=fR.getD j 0:=by unfold FR;rw [if_neg hb]
     refine ⟨_,Z,_,Z,_,Z,b,_,_,_,Z,Z,SqL.of Zb,Yz (by lia),_,_,Z,?_⟩;have ep:(if (goL fQ fR z (j+1)).getD j 0 < Jb (FR fQ fR z) z.2 (j+1) then (goL fQ fR z (j+1)).getD j 0 else Jb (FR fQ fR z) z.2 (j+1))=Yy (FR fQ fR z) z.2 j:=by
      rw [es,hlim,gj];split <;> lia
     rw [ep];refine ⟨_,Z,_,Z,b,_,_,_,Z,Z,SqL.of Zb,Yz (by lia),_,Z,_,_,Z,Z,_,Z,_,Z,b,_,_,j,Z,Z,Zb,KC (by simpa using hgl ▸ hj),?_⟩;refine ⟨_,Z,_,Z,_,_,Z,Z,?_⟩;refine ⟨_,Z,_,_,Z,Z,?_⟩;refine ⟨j,by lia,j,_,some (.int (Yy (FR fQ fR z) z.2 j)),Z,by lia,Z,?_,?_⟩
     ·rw [el];rfl
     ·rw [setI,CK,gj,<- eG hj];unfold RK;rw [if_neg hb]
   ·have hp0:¬ 0 <= pl:=λh=>hc (D7_ h);exact ⟨_,Z,fin (.inr (by lia))⟩
  ·have hl0:¬ 0 < Jb (FR fQ fR z) z.2 μ:=λh=>hc (D7_ h);exact CV ⟨_,Z,fin (.inl (by lia))⟩
abbrev UX:hZ:=top 78
abbrev N_again:List fZ:=["_law_needs","_law_heats","_law_year","_law_times","_law_sums","_law_left","_law_ahead","_law_lost","_law_season_here","_law_at_here"]
abbrev VQ:List fZ:=["_law_needs","_law_heats","_law_year","_law_times"]
theorem D8:Zj N_again VQ (Zd UX):=mk9
def WV (K:W.Frag):Sp:=λvs H Q _=>E8 λ(a b c:fT) (fQ fR:List Int) (ts:List fT) (ss:List (Bool × Int)) (n:Nat)=>vs=[.ref a,.ref b,.ref c,.int (n:Int)]/\SqL K H a (fQ.map V.int)/\H b=some (.lst (fR.map V.int))/\H c=some (.tup (ts.map V.ref))/\Zu H ts ss/\a ≠ b/\Zr fQ fR/\1 <= fQ.length/\fQ.length <= 1000/\(∀ z ∈ ss,0 <= z.2)/\(n:Int) <= 1000000000000000000 /\
 ∀ (H':Hp) (p:fT),RC b H H'->H' b=some (.lst ((Zm fQ fR ss n).fR.map V.int))->H p=none->H' p=some (.lst ([(Zm fQ fR ss n).room,(Zm fQ fR ss n).heat].map V.int))->Q (.ref p) H'
theorem ok_again (F:Fun K "_law_again" "_law_again" UX f fd) (T:Txt K mg) (o_go:Ok P w K mg base "_law_go" P_go 1 (sp_go K)):Ym P w K mg base CX0 2 f fd VQ (WV K):=by
  obtain ⟨a,b,c,fQ,fR,ts,ss,n,rfl,hA,hB,hC,hS,nab,hO,hn1,hn,hz,hnn,q⟩:=‹D8›
  refine ⟨_,(Zc (psn 4 D8.nd (Zx (pa2 Za Za))) (Zc (psn 5 D8.nd (pv 3)) (Zc (LV PassesOwn.never (pcr CM (pv 5) Za) (Zc (psn 6 D8.nd (Jo T.n_list (pv 1))) (Zc (psn 7 D8.nd (Zx (pa2 Za Za))) (Zc (AO PassesOwn.never Z (pi_tup (pv 2)) (Zw (i:=8) D8.nd Z (Or.inl Z)) (Zc (psn 9 D8.nd (AR C7 (by rfl) T.n_int D9_ (pa1 (CO Jv (pxt (pv 8) Za) Zs (EC _))))) (Ze (EK (Zh Zz (pxl (pv 7) (pv 9)) (Zg o_go hr (pa3 (pv 0) (pv 1) (pv 8)))) (FP (pv 7) (pv 9) BU))))) (Zc (Yk (pcr (op_eqI (hr.units0)) (pv 1) (pv 6)) (Ze (Zi (Zx (pa2 (Zh Zz (pxl (pv 4) Za) (Zh DV (pv 5) (pxl (pv 7) Za))) (Zh Zz (pxl (pv 4) Za) (Zh DV (pv 5) (pxl (pv 7) Za))))))) Zn) (Zc (psn 4 D8.nd (Zx (pa2 (Zh Zz (pxl (pv 4) Za) (pxl (pv 7) Za)) (Zh Zz (pxl (pv 4) Za) (pxl (pv 7) Za))))) (Ze (psn 5 D8.nd (Zh Yj (pv 5) Za))))))))) (Ze (Zi (pv 4)))))),?_⟩
  try dsimp only [cK_,cL_]
  refine ⟨sz9,λpu0 fu0=>?_⟩;refine ⟨_,Z,?_⟩
  refine X2 (λσ H2=>∃ (j:Nat) (pu:fT) (v6 v7 v8 v9:Option V),j <= n/\RC b H H2/\H pu=none/\H2 b=some (.lst ((Zm fQ fR ss j).fR.map V.int))/\H2 pu=some (.lst ([(Zm fQ fR ss j).room,(Zm fQ fR ss j).heat].map V.int)) /\ σ=[some (.ref a),some (.ref b),some (.ref c),some (.int n),some (.ref pu),some (.int ((n:Int) - j)),v6,v7,v8,v9]) (λσ _=>match σ with | [_,_,_,_,_,some (.int i),_,_,_,_]=>i.toNat | _=>0) ?_ ?_ ?_
  ·exact ⟨0,pu0,none,none,none,none,iG _,(Same.upd fu0).keep b,fu0,Same.upd fu0 _ _ hB,Zb,congrArg (λz:Int=>[some (V.ref a),some (V.ref b),some (V.ref c),some (V.int n),some (V.ref pu0),some (V.int z),none,none,none,none]) (show (n:Int)=(n:Int) - ((0:Nat):Int) by lia)⟩
  ·rintro σ H2 ⟨j,pu,v6,v7,v8,v9,hj,k2,fu,h2b,h2u,rfl⟩;refine ⟨_,Z,_,_,Z,Z,_,Z,?_⟩;refine Jl (λhc=>?_) (λhc=>?_)
   ·have hlt:(0:Int) < (n:Int) - j:=D8_ hc;have hjn:j < n:=by lia
    refine ⟨_,Z,b,_,Z,.inl (SqL.of h2b),λpa fa=>?_⟩;refine ⟨sz9,λpl fl=>?_⟩;have fl2:H2 pl=none:=(Same.upd fa).free fl;have s3:=(Same.upd (o:=.lst ((Zm fQ fR ss j).fR.map V.int)) fa).trans (Same.upd (o:=.lst [.int 0,.int 0]) fl);have npa:pa ≠ pl:=λe=>by rw [<- e,Zb] at fl;cases fl
    have nbl:b ≠ pl:=Zf h2b fl2;have nba:b ≠ pa:=Zf h2b fa;have nul:pu ≠ pl:=Zf h2u fl2;have nub:pu ≠ b:=by rintro rfl;rw [hB] at fu;cases fu
    have hY:=A9 hO ss j;generalize eH3:upd (upd H2 pa (.lst ((Zm fQ fR ss j).fR.map V.int))) pl (.lst [.int 0,.int 0])=H3 at *;have h3b:=s3 _ _ h2b;have h3u:=s3 _ _ h2u;have h3a:H3 pa=some (.lst ((Zm fQ fR ss j).fR.map V.int)):=by rw [<- eH3,Zk npa];exact Zb
    have h3l:H3 pl=some (.lst [.int 0,.int 0]):=by rw [<- eH3];exact Zb
    have k3:=k2.trans (s3.keep b);have fl0:H pl=none:=by
     cases e:H pl with
     | none=>rfl
     | some o=>
      exfalso;by_cases eb:pl=b
      ·exact nbl eb.symm
      ·rw [k2 _ _ eb e] at fl2;cases fl2
    clear eH3;have kept:∀ {H4:Hp},(∀ x o,x ≠ b->x ≠ pl->H3 x=some o->H4 x=some o)->RC b H H4:=λ{H4} k x o nx h=>k x o nx (Zf h fl0) (k3 x o nx h);refine ⟨_,Z,c,Z,⟨_,SqT.of (k3 _ _ (AF hC hB (by intro z;cases z)) hC)⟩,?_⟩
    refine fL (xs:=ts.map V.ref) (λi σ H4=>E2 λ(v8 v9:Option V)=>σ=[some (.ref a),some (.ref b),some (.ref c),some (.int n),some (.ref pu),some (.int ((n:Int) - j)),some (.ref pa),some (.ref pl),v8,v9]/\(∀ x o,x ≠ b->x ≠ pl->H3 x=some o->H4 x=some o) /\ H4 b=some (.lst (((ss.take i).foldl (AE fQ) (Zm fQ fR ss j)).fR.map V.int))/\H4 pl=some (.lst ([((ss.take i).foldl (AE fQ) (Zm fQ fR ss j)).room - (Zm fQ fR ss j).room,((ss.take i).foldl (AE fQ) (Zm fQ fR ss j)).heat - (Zm fQ fR ss j).heat].map V.int))) ?_ ?_ ?_ ?_
    ·refine ⟨_,_,Z,λx o _ _ h=>h,by rw [kB];exact h3b,?_⟩;rw [kB,h3l];show some (HO.lst [.int 0,.int 0])=some (HO.lst [.int ((Zm fQ fR ss j).room - (Zm fQ fR ss j).room),.int ((Zm fQ fR ss j).heat - (Zm fQ fR ss j).heat)]);rw [Int.sub_self,Int.sub_self]
    ·rintro i σ H4 _ ⟨_,_,_,k4,_⟩;exact SqT.of ((kept k4) _ _ (AF hC hB (by intro z;cases z)) hC)
    ·rintro i x σ H4 hx ⟨v8,v9,rfl,k4,h4b,h4l⟩;obtain ⟨t,z,rfl,ez,e2⟩:=hS.item hx;have hzz:=hz z (i7 ez);have hOk:=PN (ss.take i) _ hY;have hst:(ss.take (i+1)).foldl (AE fQ) (Zm fQ fR ss j)=AE fQ ((ss.take i).foldl (AE fQ) (Zm fQ fR ss j)) z:=by rw [B5 ez,d7]
     rw [hst];generalize (ss.take i).foldl (AE fQ) (Zm fQ fR ss j)=R at *;generalize Zm fQ fR ss j=S at *;have h4t:=(kept k4) _ _ (AF e2 hB (by intro z;cases z)) e2;have h4n:=(kept k4).seq hA nab;refine ⟨_,Z,t,_,_,_,Z,Z,SqT.of h4t,Z,Z,.inr ⟨_,Z,?_⟩⟩;rw [GJ];obtain ⟨zb,zm⟩:=z;have h5l:∀ o,(upd H4 b o) pl=some (.lst ([R.room - S.room,R.heat - S.heat].map V.int)):=λo=>by rw [Zk (Ne.symm nbl)];exact h4l
     have k5:∀ (o o':HO) x u,x ≠ b->x ≠ pl->H3 x=some u->(upd (upd H4 b o) pl o') x=some u:=λo o' x u n1 n2 h=>by rw [Zk n2,Zk n1];exact k4 x u n1 n2 h
     cases zb with
     | true=>
      refine ⟨_,Z,_,Z,pl,_,_,_,Z,Z,SqL.of h4l,Z,_,Z,_,Z,_,Z,a,b,t,fQ,R.fR,(true,zm),Z,h4n,h4b,h4t,nab,hOk,hn1,hn,hzz,_,_,Z,Z,_,Z,_,Z,pl,_,_,0,Z,Z,h5l _,Z,?_⟩;refine ⟨_,_,Z,k5 _ _,by rw [Zk nbl];exact Zb,Zb.trans ?_⟩;show some (HO.lst [.int (R.room - S.room+Yh fQ R.fR (true,zm)),.int (R.heat - S.heat)])=some (HO.lst [.int (R.room+Yh fQ R.fR (true,zm) - S.room),.int (R.heat - S.heat)]);rw [show R.room - S.room+Yh fQ R.fR (true,zm)=R.room+Yh fQ R.fR (true,zm) - S.room by lia]
     | false=>
      refine ⟨_,Z,_,Z,pl,_,_,_,Z,Z,SqL.of h4l,Z,_,Z,_,Z,_,Z,a,b,t,fQ,R.fR,(false,zm),Z,h4n,h4b,h4t,nab,hOk,hn1,hn,hzz,_,_,Z,Z,_,Z,_,Z,pl,_,_,1,Z,Z,h5l _,Z,?_⟩;refine ⟨_,_,Z,k5 _ _,by rw [Zk nbl];exact Zb,Zb.trans ?_⟩;show some (HO.lst [.int (R.room - S.room),.int (R.heat - S.heat+Yh fQ R.fR (false,zm))])=some (HO.lst [.int (R.room - S.room),.int (R.heat+Yh fQ R.fR (false,zm) - S.heat)]);rw [show R.heat - S.heat+Yh fQ R.fR (false,zm)=R.heat+Yh fQ R.fR (false,zm) - S.heat by lia]
    ·rintro σ H4 ⟨v8,v9,rfl,k4,h4b,h4l⟩;have el:ss.take (ts.map V.ref).length=ss:=iJ (by rw [fU,hS.len];exact gA _);rw [el] at h4b h4l;have h4b:H4 b=some (.lst ((Zm fQ fR ss (j+1)).fR.map V.int)):=h4b;have h4l:H4 pl=some (.lst ([(Zm fQ fR ss (j+1)).room - (Zm fQ fR ss j).room,(Zm fQ fR ss (j+1)).heat - (Zm fQ fR ss j).heat].map V.int)):=h4l;have h4a:=k4 _ _ (Ne.symm nba) npa h3a;have h4u:=k4 _ _ nub nul h3u;have hY1:=A9 hO ss (j+1);refine ⟨_,Z,_,Z,b,pa,_,_,Z,Z,SqL.of h4b,SqL.of h4a,by rw [hY1.len,hY.len],_,Z,?_⟩;refine Jl (λhe=>?_) (λhe=>?_)
     ·have he:=D8_ he;obtain ⟨y1,y2,y3⟩:=P1 hO hz he (n - j);rw [show j+(n - j)=n by lia] at y1 y2 y3;rw [show (((n - j:Nat):Nat):Int)=(n:Int) - j by lia] at y2 y3;rw [y1,y2,y3,<- he] at q;have hmul:∀ y:Int,CMul ((n:Int) - j) y:=λy=>.inl ⟨by lia,by lia⟩;refine ⟨_,Z,pu,_,_,_,Z,Z,SqL.of h4u,Z,_,Z,_,Z,pl,_,_,_,Z,Z,SqL.of h4l,Z,_,_,Z,Z,hmul _,_,_,Z,Z,?_⟩;refine ⟨_,Z,pu,_,_,_,Z,Z,SqL.of h4u,Z,_,Z,_,Z,pl,_,_,_,Z,Z,SqL.of h4l,Z,_,_,Z,Z,hmul _,_,_,Z,Z,?_⟩;refine ⟨sz9,λpr fr=>?_⟩;have fr0:H pr=none:=by
       cases e:H pr with
       | none=>rfl
       | some o=>
        exfalso;by_cases eb:pr=b
        ·rw [eb,h4b] at fr;cases fr
        ·rw [(kept k4) _ _ eb e] at fr;cases fr
      exact q _ pr ((kept k4).trans ((Same.upd fr).keep b)) (Same.upd fr _ _ h4b) fr0 Zb
     ·refine ⟨_,Z,pu,_,_,_,Z,Z,SqL.of h4u,Z,_,Z,pl,_,_,_,Z,Z,SqL.of h4l,Z,_,_,Z,Z,?_⟩;refine ⟨_,Z,pu,_,_,_,Z,Z,SqL.of h4u,Z,_,Z,pl,_,_,_,Z,Z,SqL.of h4l,Z,_,_,Z,Z,?_⟩;refine ⟨sz9,λpr fr=>?_⟩;have fr0:H pr=none:=by
       cases e:H pr with
       | none=>rfl
       | some o=>
        exfalso;by_cases eb:pr=b
        ·rw [eb,h4b] at fr;cases fr
        ·rw [(kept k4) _ _ eb e] at fr;cases fr
      refine ⟨_,Z,_,_,Z,Z,⟨j+1,pr,_,_,_,_,hjn,(kept k4).trans ((Same.upd fr).keep b),fr0,Same.upd fr _ _ h4b,Zb.trans ?_,congrArg (λz:Int=>[some (V.ref a),some (V.ref b),some (V.ref c),some (V.int n),some (V.ref pr),some (V.int z),some (V.ref pa),some (V.ref pl),v8,v9]) (show (n:Int) - j - 1=(n:Int) - ((j+1:Nat):Int) by lia)⟩,?_⟩
      ·show some (HO.lst [.int ((Zm fQ fR ss j).room+((Zm fQ fR ss (j+1)).room - (Zm fQ fR ss j).room)),.int ((Zm fQ fR ss j).heat+((Zm fQ fR ss (j+1)).heat - (Zm fQ fR ss j).heat))])=_;rw [show (Zm fQ fR ss j).room+((Zm fQ fR ss (j+1)).room - (Zm fQ fR ss j).room)=(Zm fQ fR ss (j+1)).room by lia,show (Zm fQ fR ss j).heat+((Zm fQ fR ss (j+1)).heat - (Zm fQ fR ss j).heat)=(Zm fQ fR ss (j+1)).heat by lia];rfl
      ·show ((n:Int) - j - 1).toNat < ((n:Int) - j).toNat
       lia
   ·have hlt:¬ (0:Int) < (n:Int) - j:=λc=>hc (D7_ c);obtain rfl:j=n:=by lia
    exact ⟨_,Z,q _ pu k2 h2b fu h2u⟩
  ·rintro σ H1 Q1 Q2 m ⟨v,hv,i,j,e1,e2,b,e3,q⟩;exact ⟨v,hv,i,j,e1,e2,b,e3,m _ _ q⟩
abbrev IU:hZ:=top 79
abbrev RM:List fZ:=["_law_call","_law_place","_law_kinds","e"]
abbrev JN:List fZ:=["_law_call","_law_place"]
theorem C1:Zj RM JN (Zd IU):=mk9
def K8 (P:gL) (w:gX) (K:W.Frag) (mg:fZ->Option fV) (base:iC) (CT:fT) (C:Nat->fT):Sp:=λvs H Q E=>E2 λ(f:fT) (j:Nat)=>vs=[.ref f,.int (j:Int)]/\j < 12/\Jf P w K mg base C H f j/\BW K CT C j/\∀ H',Same H H'->Q (.bl true) H'
theorem Y5 (F:Fun K "_law_refusal" "_law_refusal" IU f fd) (T:Txt K mg) {CT:fT} {C:Nat->fT} (XE:Errs mg CT C):Ym P w K mg base (CX1 P w) 15 f fd JN (K8 P w K mg base CT C):=by
 refine F.okX C1 (λvs H Q E h=>?_) (λcdv A outer s H vs Q E hr h=>?_)
 ·obtain ⟨f,j,rfl,_⟩:=h;rfl
 ·obtain ⟨f,j,rfl,hj,⟨name,qual,params,body,scope,Jm,pm,cv,ctv,sp,hf,FO,hb,hrun⟩,R,q⟩:=h
  refine ⟨_,(Zc (psn 2 C1.nd (Zx Jh))
   (Zc (ps_try (i:=0) (ie:=3) Z Z Z Z (Or.inl Z) hr C1.nd Z Z (by rfl) XE.thaw (λ_=>by exact (Zc (psn 2 C1.nd (Zx (pa3 (BE K T.n_isinstance (pv 3) (FM XE.g0)) (BE K T.n_isinstance (pv 3) (FM XE.g1)) (BE K T.n_isinstance (pv 3) (FM XE.g2)))))
     (Zc (psn 2 C1.nd (Zh ME (pv 2) (Zx (pa3 (BE K T.n_isinstance (pv 3) (FM XE.g3)) (BE K T.n_isinstance (pv 3) (FM XE.g4)) (BE K T.n_isinstance (pv 3) (FM XE.g5))))))
     (Zc (psn 2 C1.nd (Zh ME (pv 2) (Zx (pa3 (BE K T.n_isinstance (pv 3) (FM XE.g6)) (BE K T.n_isinstance (pv 3) (FM XE.g7)) (BE K T.n_isinstance (pv 3) (FM XE.g8))))))
     (Zc (psn 2 C1.nd (Zh ME (pv 2) (Zx (pa3 (BE K T.n_isinstance (pv 3) (FM XE.g9)) (BE K T.n_isinstance (pv 3) (FM XE.g10)) (BE K T.n_isinstance (pv 3) (FM XE.g11))))))
     (Ze (psn 2 C1.nd (Zh ME (pv 2) (Zx (pa1 (BE K T.n_isinstance (pv 3) (LJ T.n_ValueError)))))))))))))
   (Ze (Zi (CO (op_eqB hr.units0) (pv 2) (EB Z (Yi.of (T:=["_law_k"]) (js:=[1]) (Zd IU).names RM Z Z Z D9_) (AY (by rfl) T.n_range (pa1 Za)) (λ_ _ _ _=>⟨(Zw (i:=0) (by show List.Nodup (["_law_k","_law_place"]:List fZ);decide +kernel) Z (Or.inl Z)),CS,(CO (XR K) (pv 0) (Jc (pa2 (pv 1) Za)) Z)⟩)) (EC _)))))),?_⟩
  try dsimp only [cK_,cL_]
  refine ⟨sz9,λl hl=>?_⟩;have s0:Same H (upd H l (.lst [])):=Same.upd hl;refine ⟨_,Z,f,name,qual,params,body,scope,Jm,pm,cv,ctv,sp,Z,s0 _ _ hf,FO,hb,hrun _ _ _ s0 λH1 xa s1 hx=>?_⟩;refine ⟨xa,C j,Z,Z,R.ex,?_⟩;have sx:Same H1 (upd H1 xa (.ext (JT xa (.ref (C j))))):=Same.upd hx;have hX:(upd H1 xa (.ext (JT xa (.ref (C j))))) xa=some (.ext (JT xa (.ref (C j)))):=Zb;generalize (upd H1 xa (.ext (JT xa (.ref (C j)))))=G0 at sx hX ⊢;have sG0:Same H G0:=(s0.trans s1).trans sx;clear sx s1 s0 hx;refine ⟨_,Z,xa,_,_,_,Z,hX,R.kx,.inr ⟨_,Z,R.one 0 (by decide)⟩,_,Z,xa,_,_,_,Z,hX,R.kx,.inr ⟨_,Z,R.one 1 (by decide)⟩,_,Z,xa,_,_,_,Z,hX,R.kx,.inr ⟨_,Z,R.one 2 (by decide)⟩,sz9,λp1 f1=>?_⟩;have sg1:=Same.upd (o:=.lst [.bl (decide (0=j)),.bl (decide (1=j)),.bl (decide (2=j))]) f1;have hL1:(upd G0 p1 (.lst [.bl (decide (0=j)),.bl (decide (1=j)),.bl (decide (2=j))])) p1=some (.lst [.bl (decide (0=j)),.bl (decide (1=j)),.bl (decide (2=j))]):=Zb;generalize (upd G0 p1 (.lst [.bl (decide (0=j)),.bl (decide (1=j)),.bl (decide (2=j))]))=G1 at sg1 hL1 ⊢;have sG1:=sG0.trans sg1;have hX1:=sg1 _ _ hX;refine ⟨_,Z,_,Z,xa,_,_,_,Z,hX1,R.kx,.inr ⟨_,Z,R.one 3 (by decide)⟩,_,Z,xa,_,_,_,Z,hX1,R.kx,.inr ⟨_,Z,R.one 4 (by decide)⟩,_,Z,xa,_,_,_,Z,hX1,R.kx,.inr ⟨_,Z,R.one 5 (by decide)⟩,sz9,λq2 g2=>?_⟩;refine ⟨p1,q2,_,_,Z,Z,Same.upd g2 _ _ hL1,Zb,sz9,λp2 f2=>?_⟩;have sg2:=(Same.upd (o:=.lst [.bl (decide (3=j)),.bl (decide (4=j)),.bl (decide (5=j))]) g2).trans (Same.upd (o:=.lst ([.bl (decide (0=j)),.bl (decide (1=j)),.bl (decide (2=j))] ++ [.bl (decide (3=j)),.bl (decide (4=j)),.bl (decide (5=j))])) f2);have hL2:(upd (upd G1 q2 (.lst [.bl (decide (3=j)),.bl (decide (4=j)),.bl (decide (5=j))])) p2 (.lst ([.bl (decide (0=j)),.bl (decide (1=j)),.bl (decide (2=j))] ++ [.bl (decide (3=j)),.bl (decide (4=j)),.bl (decide (5=j))]))) p2=some (.lst ([.bl (decide (0=j)),.bl (decide (1=j)),.bl (decide (2=j))] ++ [.bl (decide (3=j)),.bl (decide (4=j)),.bl (decide (5=j))])):=Zb;generalize (upd (upd G1 q2 (.lst [.bl (decide (3=j)),.bl (decide (4=j)),.bl (decide (5=j))])) p2 (.lst ([.bl (decide (0=j)),.bl (decide (1=j)),.bl (decide (2=j))] ++ [.bl (decide (3=j)),.bl (decide (4=j)),.bl (decide (5=j))])))=G2 at sg2 hL2 ⊢;have sG2:=sG1.trans sg2;have hX2:=sg2 _ _ hX1;refine ⟨_,Z,_,Z,xa,_,_,_,Z,hX2,R.kx,.inr ⟨_,Z,R.one 6 (by decide)⟩,_,Z,xa,_,_,_,Z,hX2,R.kx,.inr ⟨_,Z,R.one 7 (by decide)⟩,_,Z,xa,_,_,_,Z,hX2,R.kx,.inr ⟨_,Z,R.one 8 (by decide)⟩,sz9,λq3 g3=>?_⟩;refine ⟨p2,q3,_,_,Z,Z,Same.upd g3 _ _ hL2,Zb,sz9,λp3 f3=>?_⟩;refine ⟨_,Z,_,Z,xa,_,_,_,Z,Same.upd f3 _ _ (Same.upd g3 _ _ hX2),R.kx,.inr ⟨_,Z,R.one 9 (by decide)⟩,_,Z,xa,_,_,_,Z,Same.upd f3 _ _ (Same.upd g3 _ _ hX2),R.kx,.inr ⟨_,Z,R.one 10 (by decide)⟩,_,Z,xa,_,_,_,Z,Same.upd f3 _ _ (Same.upd g3 _ _ hX2),R.kx,.inr ⟨_,Z,R.one 11 (by decide)⟩,sz9,λq4 g4=>?_⟩;refine ⟨p3,q4,_,_,Z,Z,Same.upd g4 _ _ Zb,Zb,sz9,λp4 f4=>?_⟩;refine ⟨_,Z,_,Z,xa,_,_,_,Z,Same.upd f4 _ _ (Same.upd g4 _ _ (Same.upd f3 _ _ (Same.upd g3 _ _ hX2))),R.kx,.inl ⟨_,Z,R.ve⟩,sz9,λq5 g5=>?_⟩;refine ⟨p4,q5,_,_,Z,Z,Same.upd g5 _ _ Zb,Zb,sz9,λp5 f5=>?_⟩;have sG5:=(((((sG2.trans (Same.upd (o:=.lst [.bl (decide (6=j)),.bl (decide (7=j)),.bl (decide (8=j))]) g3)).trans (Same.upd f3)).trans (Same.upd g4)).trans (Same.upd f4)).trans (Same.upd g5)).trans (Same.upd (o:=.lst (((([.bl (decide (0=j)),.bl (decide (1=j)),.bl (decide (2=j))] ++ [.bl (decide (3=j)),.bl (decide (4=j)),.bl (decide (5=j))]) ++ [.bl (decide (6=j)),.bl (decide (7=j)),.bl (decide (8=j))]) ++ [.bl (decide (9=j)),.bl (decide (10=j)),.bl (decide (11=j))]) ++ [.bl true])) f5);refine ⟨_,Z,13,Z,by decide,by decide,λph fph=>?_⟩;have h5:=Zb (H:=(upd (upd (upd (upd (upd G2 q3 (.lst [.bl (decide (6=j)),.bl (decide (7=j)),.bl (decide (8=j))])) p3 (.lst (([.bl (decide (0=j)),.bl (decide (1=j)),.bl (decide (2=j))] ++ [.bl (decide (3=j)),.bl (decide (4=j)),.bl (decide (5=j))]) ++ [.bl (decide (6=j)),.bl (decide (7=j)),.bl (decide (8=j))]))) q4 (.lst [.bl (decide (9=j)),.bl (decide (10=j)),.bl (decide (11=j))])) p4 (.lst ((([.bl (decide (0=j)),.bl (decide (1=j)),.bl (decide (2=j))] ++ [.bl (decide (3=j)),.bl (decide (4=j)),.bl (decide (5=j))]) ++ [.bl (decide (6=j)),.bl (decide (7=j)),.bl (decide (8=j))]) ++ [.bl (decide (9=j)),.bl (decide (10=j)),.bl (decide (11=j))]))) q5 (.lst [.bl true]))) (a:=p5) (o:=.lst (((([.bl (decide (0=j)),.bl (decide (1=j)),.bl (decide (2=j))] ++ [.bl (decide (3=j)),.bl (decide (4=j)),.bl (decide (5=j))]) ++ [.bl (decide (6=j)),.bl (decide (7=j)),.bl (decide (8=j))]) ++ [.bl (decide (9=j)),.bl (decide (10=j)),.bl (decide (11=j))]) ++ [.bl true]));revert fph;generalize upd (upd (upd (upd (upd (upd G2 q3 (.lst [.bl (decide (6=j)),.bl (decide (7=j)),.bl (decide (8=j))])) p3 (.lst (([.bl (decide (0=j)),.bl (decide (1=j)),.bl (decide (2=j))] ++ [.bl (decide (3=j)),.bl (decide (4=j)),.bl (decide (5=j))]) ++ [.bl (decide (6=j)),.bl (decide (7=j)),.bl (decide (8=j))]))) q4 (.lst [.bl (decide (9=j)),.bl (decide (10=j)),.bl (decide (11=j))])) p4 (.lst ((([.bl (decide (0=j)),.bl (decide (1=j)),.bl (decide (2=j))] ++ [.bl (decide (3=j)),.bl (decide (4=j)),.bl (decide (5=j))]) ++ [.bl (decide (6=j)),.bl (decide (7=j)),.bl (decide (8=j))]) ++ [.bl (decide (9=j)),.bl (decide (10=j)),.bl (decide (11=j))]))) q5 (.lst [.bl true])) p5 (.lst (((([.bl (decide (0=j)),.bl (decide (1=j)),.bl (decide (2=j))] ++ [.bl (decide (3=j)),.bl (decide (4=j)),.bl (decide (5=j))]) ++ [.bl (decide (6=j)),.bl (decide (7=j)),.bl (decide (8=j))]) ++ [.bl (decide (9=j)),.bl (decide (10=j)),.bl (decide (11=j))]) ++ [.bl true]))=G5 at sG5 h5 ⊢;intro fph;have h5n:p5 ≠ ph:=Zf h5 fph;refine EI (λi σ H2=>(∃ v,σ=[v,some (.int (j:Int))])/\Same G5 H2/\H2 ph=some (.lst ((i9 i).map λk:Nat=>V.bl (inV (.int ((0:Int)+(k:Int))) [.int (j:Int),.int 12])))) ?_ ?_ ?_
  ·exact ⟨⟨none,Z⟩,Same.upd fph,Zb⟩
  ·rintro i σ H2 hi ⟨⟨v,rfl⟩,sH,hp⟩;have hi':i < 13:=hi;refine DN ?_;refine ⟨_,Z,_,Z,sz9,λtp ft=>⟨tp,_,Z,.inr (SqT.of Zb),Z,Z,_,Same.upd ft _ _ hp,Js (by rw [fU,iS];lia),⟨_,Z⟩,?_,?_⟩⟩
   ·intro b o hb;have:b ≠ ph:=λz=>by rw [z] at hb;rw [fph] at hb;cases hb
    rw [Zk this];exact Same.upd ft _ _ (sH _ _ hb)
   ·rw [Zb,HF (f:=λk:Nat=>V.bl (inV (.int ((0:Int)+(k:Int))) [.int (j:Int),.int 12]))];rfl
  rintro σ1 H6 ⟨_,s6,h6⟩;refine ⟨p5,ph,([0,1,2,3,4,5,6,7,8,9,10,11].map (λi:Nat=>decide (i=j)) ++ [true]),(i9 13).map (λk:Nat=>inV (.int ((0:Int)+(k:Int))) [.int (j:Int),.int 12]),Z,Z,SqL.of (s6 _ _ h5),SqL.of (h6.trans (by rw [List.map_map];rfl)),?_⟩;rw [D7_ (dG j hj)];exact q _ (sG5.trans s6)
abbrev aW:hZ:=top 80
abbrev N_seen:List fZ:=["_law_ground","_law_needs","_law_heats","_law_thick","_law_bed","_law_row_here","_law_whether","_law_deep","_law_found"]
abbrev aL:List fZ:=["_law_ground","_law_needs","_law_heats"]
theorem GF:Zj N_seen aL (Zd aW):=mk9
def aS (K:W.Frag) (G:fT):Sp:=λvs H Q _=>E6 λ(p a b:fT) (kept:List V) (Ss:List Zq) (S:Zq)=>vs=[.ref p,.ref a,.ref b]/\Ya G H p kept Ss/\Ss.getLast? = some S/\SqL K H a (S.fQ.map V.int)/\SqL K H b (S.fR.map V.int)/\S.fR.length=S.fQ.length/\S.fQ.length <= 1000/\∀ H',Same H H'->Q (.bl true) H'
theorem ok_seen (F:Fun K "_law_seen" "_law_seen" aW f fd) (T:Txt K mg) (TG:DF K mg G) (o_whole:Ok P w K mg base "_law_whole" GI 1 FG) (o_numbers:Ok P w K mg base "_law_numbers" N0 2 (P3 K))
  (om_needs:OkM P w K mg base G "needs" MZ 2 (OU G)) (om_heats:OkM P w K mg base G "heats" MR 2 (P0 G)) (om_need:OkM P w K mg base G "need" DY 2 (JW G)) (om_heat:OkM P w K mg base G "heat" DX 2 (IH G)) (om_down_to:OkM P w K mg base G "down_to" CN 3 (GB G)) (om_q24:OkM P w K mg base G "is_thawed" K2 3 (QW G)) (om_thawed:OkM P w K mg base G "thawed" K0 2 (MI G)) (om_front:OkM P w K mg base G "front" NG 2 (OT G)):Ym P w K mg base CX0 4 f fd aL (aS K G):=by
  obtain ⟨p,a,b,kept,Ss,S,rfl,hG,hl,hA,hB,he,hn,q⟩:=‹GF›;obtain ⟨dx,pk,ps,ds,h1,_⟩:=id hG.ex
  refine ⟨_,(Zc (Yk (PW.pt (BL (AZ (AG (Zg o_numbers hr (pa2 (Zv om_needs TG.cl hr (pv 0)) (pv 1))))) (Ji (AZ (AG (Zg o_numbers hr (pa2 (Zv om_heats TG.cl hr (pv 0)) (pv 2)))))))) (Ze (Zi BO)) Zn) (Zc (psn 3 GF.nd (Zx Jh)) (Zc (AO PassesOwn.never Z (MQ (by rfl) T.n_range (pa2 Za (Zh Zz (Zy T.n_len (pv 1)) Za))) (Zw (i:=4) GF.nd Z (Or.inl Z)) (Zc (psn 5 GF.nd (Zx (pa3 (Yp om_need TG.cl hr (pv 0) (pa1 (pv 4))) (Yp om_heat TG.cl hr (pv 0) (pa1 (pv 4))) (Yp om_down_to TG.cl hr (pv 0) (pa1 (pv 4)))))) (Zc (Yk (AZ (AG (Zg o_numbers hr (pa2 (pv 5) (Zx (pa3 (pxl (pv 1) (Zh Yj (pv 4) Za)) (pxl (pv 2) (Zh Yj (pv 4) Za)) (D0 (by rfl) T.n_sum (Jz BJ (pv 2) (B7 (Zh Yj (pv 4) Za)) BY)))))))) (Ze (Zi BO)) Zn) (Zc (psn 6 GF.nd (Yp om_q24 TG.cl hr (pv 0) (pa1 (pv 4)))) (Zc (Yk (PW.pt (BL (AZ (AG (BB T.n_isinstance (pv 6) (LJ T.n_bool)))) (Ji (pcr GZ (pv 6) (CO Jv (pxl (pv 2) (Zh Yj (pv 4) Za)) (pxl (pv 1) (Zh Yj (pv 4) Za)) (EC _)))))) (Ze (Zi BO)) Zn) (Ze (Yk (pcr Jv (pxl (pv 2) (Zh Yj (pv 4) Za)) (pxl (pv 1) (Zh Yj (pv 4) Za))) (Ze (Zp (D2 gJ gH gI Yo (pv 3) (pa1 (pv 4))))) Zn))))))) (Zc (psn 7 GF.nd Za) (Zc (LV PassesOwn.never (PW.pt (LA (pcr DA (pv 7) (Zy T.n_len (pv 1))) (HI (aC SI (Zh Yj (Zy T.n_len (pv 1)) (pv 7)) (pv 3) Z)))) (Ze (psn 7 GF.nd (Zh Zz (pv 7) Za)))) (Zc (psn 8 GF.nd (Zv om_front TG.cl hr (pv 0))) (Zc (Yk (PW.pt (BL (AZ (AG (Zg o_whole hr (pa1 (pv 8))))) (Ji (pcr GZ (pv 8) (pv 7))))) (Ze (Zi BO)) Zn) (Ze (Zi (Zg o_numbers hr (pa2 (Zv om_thawed TG.cl hr (pv 0)) (pv 3)))))))))))),?_⟩
  try dsimp only [cK_,cL_]
  refine Yr λD1 hx=>?_;refine ⟨_,Z,p,dx,_,Z,h1,gN,p,kept,Ss,S,Z,hG,hl,λH1 l1 s1 f1 hl1=>⟨_,Z,l1,a,S.fQ,Z,hl1,s1.seq hA,by omega,_,Z,?_⟩⟩;refine CV ?_;refine ⟨_,Z,p,dx,_,Z,s1 _ _ h1,gN,p,kept,Ss,S,Z,hG.same s1,hl,λH2 l2 s2 f2 hl2=>⟨_,Z,l2,b,S.fR,Z,hl2,(s1.trans s2).seq hB,by omega,_,Z,?_⟩⟩;refine CV ?_;refine hx _ _ ?_;refine Yr λD1 hx=>?_;have s12:=s1.trans s2;refine ⟨sz9,λpt ft=>?_⟩;have s13:=s12.trans (Same.upd (o:=.lst []) ft);have hp0:(upd H2 pt (.lst [])) pt=some (.lst []):=Zb;have ft0:H pt=none:=s12.free ft;generalize upd H2 pt (.lst [])=H3 at s13 hp0 ⊢;refine hx _ _ ?_;refine Yr λD1 hx=>?_;refine ⟨_,Z,a,_,Z,.inl (s13.seq hA),_,_,Z,Z,_,_,Z,?_,?_⟩
  ·rw [fU];exact ⟨by omega,by omega,by omega,by omega⟩
  have kp:∀ {H':Hp} {b:fT} {o:HO},(∀ b o,b ≠ pt->H3 b=some o->H' b=some o)->H b=some o->H' b=some o:=λ{H' b o} k e=>k b o (Zf e ft0) (s13 _ _ e);refine C9 (n:=(((S.fQ.map V.int).length:Int)+1 - 1).toNat) (λi σ H4=>(∃ v4 v5 v6,σ=[some (.ref p),some (.ref a),some (.ref b),some (.ref pt),v4,v5,v6,none,none])/\Same H H4/\H4 pt=some (.lst ((AD S.fQ S.fR i).map V.int))) ?_ ?_ ?_
  ·exact ⟨⟨none,none,none,Z⟩,s13,hp0⟩
  ·rintro i σ H4 hi ⟨⟨v4,v5,v6,rfl⟩,s4,h4t⟩;rw [fU] at hi;have hi':i < S.fQ.length:=by omega
   rw [show (1:Int)+(i:Int)=(i:Int)+1 by omega];have h4p:=s4 _ _ h1;have hG4:=hG.same s4;have cut0:DD (S.fR.map V.int) (some ((i:Int)+1 - 1)) none=(S.fR.drop i).map V.int:=by rw [show (i:Int)+1 - 1=(i:Int) by omega,DO,k6]
   have atN:atI (S.fQ.map V.int) ((i:Int)+1 - 1)=some (.int (S.fQ.getD i 0)):=by rw [show (i:Int)+1 - 1=(i:Int) by omega];exact Yz hi'
   have atH:atI (S.fR.map V.int) ((i:Int)+1 - 1)=some (.int (S.fR.getD i 0)):=by rw [show (i:Int)+1 - 1=(i:Int) by omega];exact Yz (by omega)
   refine Yr λD1 hx=>?_;refine ⟨_,Z,p,dx,_,Z,h4p,gN,_,Z,p,kept,Ss,S,i,Z,hG4,hl,hi',?_⟩;refine ⟨_,Z,p,dx,_,Z,h4p,gN,_,Z,p,kept,Ss,S,i,Z,hG4,hl,by omega,?_⟩;refine ⟨_,Z,p,dx,_,Z,h4p,gN,_,Z,p,kept,Ss,S,i,Z,hG4,hl,by omega,by omega,λH5 s5=>⟨sz9,λpr fr=>?_⟩⟩;have s46:=s5.trans (Same.upd (o:=.lst [.int (S.fQ.getD i 0),.int (S.fR.getD i 0),.int (down S.fR i)]) fr);have h6r:(upd H5 pr (.lst [.int (S.fQ.getD i 0),.int (S.fR.getD i 0),.int (down S.fR i)])) pr=some (.lst [.int (S.fQ.getD i 0),.int (S.fR.getD i 0),.int (down S.fR i)]):=Zb;generalize upd H5 pr (.lst [.int (S.fQ.getD i 0),.int (S.fR.getD i 0),.int (down S.fR i)])=H6 at s46 h6r ⊢;refine hx _ _ ?_;refine Yr λD1 hx=>?_;have s6:=s4.trans s46;refine ⟨_,Z,_,Z,_,Z,_,_,Z,Z,a,_,_,_,Z,Z,s6.seq hA,atN,_,Z,_,Z,_,_,Z,Z,b,_,_,_,Z,Z,s6.seq hB,atH,_,Z,_,Z,_,_,Z,Z,_,Z,b,_,Z,s6.seq hB,λc1 e1=>⟨c1,S.fR.drop i,Z,SqL.of (Zb.trans (by rw [<- cut0])),sz9,λpl fl=>?_⟩⟩;have s67:=(Same.upd (o:=.lst (DD (S.fR.map V.int) (some ((i:Int)+1 - 1)) none)) e1).trans (Same.upd (o:=.lst [.int (S.fQ.getD i 0),.int (S.fR.getD i 0),.int (S.fR.drop i).sum]) fl);refine ⟨pr,pl,[S.fQ.getD i 0,S.fR.getD i 0,down S.fR i],Z,s67 _ _ h6r,SqL.of Zb,by show 3 <= 100000;decide,_,Z,?_⟩;refine CV ?_;refine hx _ _ ?_;have s7:=s6.trans s67;have h7t:=s67 _ _ (s46 _ _ h4t);generalize upd (upd H6 c1 (.lst (DD (S.fR.map V.int) (some ((i:Int)+1 - 1)) none))) pl (.lst [.int (S.fQ.getD i 0),.int (S.fR.getD i 0),.int (S.fR.drop i).sum])=H7 at s7 h7t ⊢;clear s67;refine Yr λD1 hx=>?_;refine ⟨_,Z,p,dx,_,Z,s7 _ _ h1,gN,_,Z,p,kept,Ss,S,i,Z,hG.same s7,hl,hi',he,?_⟩;refine hx _ _ ?_;refine Yr λD1 hx=>?_;refine ⟨_,Z,_,_,_,true,Z,.bl _,.inl ⟨_,Z,kit_bb _⟩,_,Z,?_⟩;refine CV ?_;refine ⟨_,Z,_,Z,_,Z,_,_,Z,Z,b,_,_,_,Z,Z,s7.seq hB,atH,_,Z,_,Z,_,_,Z,Z,a,_,_,_,Z,Z,s7.seq hA,atN,Z,Z,_,Z,?_⟩;refine DT (by rw [QC]) ?_;refine hx _ _ ?_;refine ⟨_,Z,_,Z,_,_,Z,Z,b,_,_,_,Z,Z,s7.seq hB,atH,_,Z,_,Z,_,_,Z,Z,a,_,_,_,Z,Z,s7.seq hA,atN,Z,_,Z,?_⟩;have hlen:=FH S.fQ S.fR i;refine Jl (λhc=>?_) (λhc=>?_)
   ·have hc:=V.int.inj (D8_ hc);refine ⟨_,Z,.inl ⟨Z,_,SqL.of h7t⟩,_,Z,pt,_,_,Z,Z,h7t,Js (by rw [fU];omega),⟨_,_,_,Z⟩,s7.set ft0,Zb.trans ?_⟩;rw [MC hc,gO];rfl
   ·have hc:¬ S.fR.getD i 0=S.fQ.getD i 0:=λc=>hc (D7_ (congrArg V.int c));exact ⟨⟨_,_,_,Z⟩,s7,by rw [OW hc];exact h7t⟩
  ·rintro σ H4 ⟨⟨v4,v5,v6,rfl⟩,s4,h4t⟩;rw [show (((S.fQ.map V.int).length:Int)+1 - 1).toNat=S.fQ.length by rw [fU];omega] at h4t;have el:((S.fQ.map V.int).length:Int)=(S.fQ.length:Int):=by rw [fU]
   refine hx _ _ ?_;refine Yr λD1 hx=>?_;refine hx _ _ ?_;refine Yr λD1 hx=>?_;refine ⟨λm σ H5=>∃ k:Nat,m=S.fQ.length - k/\σ=[some (.ref p),some (.ref a),some (.ref b),some (.ref pt),v4,v5,v6,some (.int (k:Int)),none]/\H5=H4/\k <= S.fQ.length/\∀ j,j < S.fQ.length->S.fQ.length - k <= j->S.fR.getD j 0=S.fQ.getD j 0,⟨_,0,Z,Z,Z,iG _,λj h1 h2=>by omega⟩,?_⟩;rintro m σ H5 ⟨k,rfl,rfl,rfl,hk,hall⟩;have flat:((AD S.fQ S.fR S.fQ.length).map V.int).all QU=true:=List.all_eq_true.mpr λx hx=>by
    obtain ⟨z,_,rfl⟩:=kL.mp hx;rfl
   refine ⟨_,Z,_,Z,a,_,Z,.inl (s4.seq hA),_,_,Z,Z,_,Z,?_⟩;refine Jl (λhlt=>?_) (λhlt=>?_)
   ·have hlt:(k:Int) < ((S.fQ.map V.int).length:Int):=D8_ hlt;refine ⟨_,Z,a,_,Z,.inl (s4.seq hA),_,Z,_,_,Z,Z,_,Z,pt,_,Z,.inl (SqL.of h4t),Z,flat,_,Z,?_⟩;have ej:((S.fQ.map V.int).length:Int) - (k:Int)=((S.fQ.length - k - 1:Nat):Int)+1:=by omega
    have ein:inV (.int (((S.fQ.map V.int).length:Int) - (k:Int))) ((AD S.fQ S.fR S.fQ.length).map V.int)=decide (S.fR.getD (S.fQ.length - k - 1) 0=S.fQ.getD (S.fQ.length - k - 1) 0):=by
     rw [ej];exact fN (by omega)
    refine Jl (λhc=>?_) (λhc=>?_)
    ·have hc:inV (.int (((S.fQ.map V.int).length:Int) - (k:Int))) ((AD S.fQ S.fR S.fQ.length).map V.int)=true:=hc;rw [ein] at hc;have hc:=D8_ hc;refine ⟨λσ' H'=>∃ k':Nat,S.fQ.length - (k+1)=S.fQ.length - k'/\σ' = [some (.ref p),some (.ref a),some (.ref b),some (.ref pt),v4,v5,v6,some (.int (k':Int)),none]/\H' = H5/\k' <= S.fQ.length/\∀ j,j < S.fQ.length->S.fQ.length - k' <= j->S.fR.getD j 0=S.fQ.getD j 0,λσ' H' h=>⟨S.fQ.length - (k+1),by omega,h⟩,?_⟩;refine ⟨_,Z,_,_,Z,Z,k+1,Z,congrArg (λz:Int=>[some (V.ref p),some (.ref a),some (.ref b),some (.ref pt),v4,v5,v6,some (.int z),none]) (show (k:Int)+1=((k+1:Nat):Int) by omega),Z,by omega,λj h1 h2=>?_⟩;by_cases e:j=S.fQ.length - k - 1
     ·rw [e];exact hc
     ·exact hall j h1 (by omega)
    ·have hc:¬ inV (.int (((S.fQ.map V.int).length:Int) - (k:Int))) ((AD S.fQ S.fR S.fQ.length).map V.int)=true:=hc;rw [ein,decide_eq_true_iff] at hc;refine hx _ _ ?_;refine Yr λD1 hx=>?_;refine ⟨_,Z,p,dx,_,Z,s4 _ _ h1,gN,p,kept,Ss,S,Z,hG.same s4,hl,he,hn,λf hf=>?_⟩;obtain rfl:f=k:=U7 hf ⟨hk,hall,λ_=>hc⟩;refine hx _ _ ?_;refine Yr λD1 hx=>?_;refine ⟨_,Z,_,Z,_,Z,?_⟩;refine CV ?_;refine ⟨_,Z,_,Z,Z,_,Z,?_⟩;refine DT Z ?_;refine hx _ _ ?_;exact ⟨_,Z,p,dx,_,Z,s4 _ _ h1,gN,p,kept,Ss,S,Z,hG.same s4,hl,he,hn,λl fl=>⟨_,Z,l,pt,AD S.fQ S.fR S.fQ.length,Z,Zb,SqL.of (Same.upd fl _ _ h4t),by have:=FH S.fQ S.fR S.fQ.length;omega,q _ (s4.trans (Same.upd fl))⟩⟩
   ·have hlt:¬ (k:Int) < ((S.fQ.map V.int).length:Int):=λc=>hlt (D7_ c);refine CV ?_;refine hx _ _ ?_;refine Yr λD1 hx=>?_;refine ⟨_,Z,p,dx,_,Z,s4 _ _ h1,gN,p,kept,Ss,S,Z,hG.same s4,hl,he,hn,λf hf=>?_⟩;obtain rfl:f=k:=U7 hf ⟨hk,hall,λh=>absurd h (by omega)⟩;refine hx _ _ ?_;refine Yr λD1 hx=>?_;refine ⟨_,Z,_,Z,_,Z,?_⟩;refine CV ?_;refine ⟨_,Z,_,Z,Z,_,Z,?_⟩;refine DT Z ?_;refine hx _ _ ?_;exact ⟨_,Z,p,dx,_,Z,s4 _ _ h1,gN,p,kept,Ss,S,Z,hG.same s4,hl,he,hn,λl fl=>⟨_,Z,l,pt,AD S.fQ S.fR S.fQ.length,Z,Zb,SqL.of (Same.upd fl _ _ h4t),by have:=FH S.fQ S.fR S.fQ.length;omega,q _ (s4.trans (Same.upd fl))⟩⟩
abbrev s_q11:hZ:=top 82
abbrev N_q11:List fZ:=["_law_found","_law_due","_law_k"]
abbrev P_q11:List fZ:=["_law_found","_law_due"]
theorem sc_q11:Zj N_q11 P_q11 (Zd s_q11):=mk9
def sp_q11 (K:W.Frag):Sp:=λvs H Q _=>E5 λ(a b:fT) (ts us:List fT) (ss:List (Bool × Int))=>vs=[.ref a,.ref b]/\H a=some (.tup (ts.map V.ref))/\SqT K H b (us.map V.ref)/\Zu H ts ss/\Zu H us ss/\ss.length <= 1000/\Q (.bl true) H
theorem ok_q11 (F:Fun K "_law_same_seasons" "_law_same_seasons" s_q11 f fd) (T:Txt K mg) (o_whole:Ok P w K mg base "_law_whole" GI 1 FG):Ym P w K mg base CX0 2 f fd P_q11 (sp_q11 K):=by
  obtain ⟨a,b,ts,us,ss,rfl,hA,hB,hT,hU,hn,q⟩:=‹sc_q11›;have el:(ts.map V.ref).length=(us.map V.ref).length:=by rw [fU,fU,hT.len,hU.len]
  refine ⟨_,(Zc (Yk (PW.pt (BL (AZ (AG (BB T.n_isinstance (pv 0) (LJ T.n_tuple)))) (Ji (pcr GZ (Zy T.n_len (pv 0)) (Zy T.n_len (pv 1)))))) (Ze (Zi BO)) Zn) (Zc (AO PassesOwn.never Z (AY (by rfl) T.n_range (pa1 (Zy T.n_len (pv 1)))) (Zw (i:=2) sc_q11.nd Z (Or.inl Z)) (Zc (Yk (PW.pt (BL (AZ (AG (BB T.n_isinstance (pxt (pv 0) (pv 2)) (LJ T.n_tuple)))) (Ji (pcr GZ (Zy T.n_len (pxt (pv 0) (pv 2))) Za)))) (Ze (Zi BO)) Zn) (Zc (Yk (PW.pt (BL (AZ (AG (BB T.n_isinstance (pxt (pxt (pv 0) (pv 2)) Za) (LJ T.n_str)))) (Ji (pcr GZ (pxt (pxt (pv 0) (pv 2)) Za) (pxt (pxt (pv 1) (pv 2)) Za))))) (Ze (Zi BO)) Zn) (Ze (Yk (PW.pt (BL (AZ (AG (Zg o_whole hr (pa1 (pxt (pxt (pv 0) (pv 2)) Za))))) (Ji (pcr GZ (pxt (pxt (pv 0) (pv 2)) Za) (pxt (pxt (pv 1) (pv 2)) Za))))) (Ze (Zi BO)) Zn))))) (Ze (Zi BO)))),?_⟩
  try dsimp only [cK_,cL_]
  refine ⟨_,Z,_,_,_,true,Z,.tup hA,.inl ⟨_,Z,O7 _⟩,_,Z,?_⟩;refine CV ?_;refine ⟨_,Z,a,_,Z,.inr (SqT.of hA),_,Z,b,_,Z,.inr hB,Z,_,Z,?_⟩;refine DT (by rw [el]) ?_;refine ⟨_,Z,b,_,Z,.inr hB,_,Z,by lia,by rw [fU,hU.len];lia,?_⟩;refine C9 (n:=((us.map V.ref).length:Int).toNat) (λi σ H2=>(∃ v,σ=[some (.ref a),some (.ref b),v])/\H2=H) ⟨⟨none,Z⟩,Z⟩ ?_ ?_
  ·rintro i σ H2 hi ⟨⟨v,rfl⟩,rfl⟩;rw [fU,hU.len] at hi;have hi':i < ss.length:=by lia
   have ez:ss[i]? = some ss[i]:=fX hi';generalize ss[i]=z at ez;obtain ⟨t,t1,t2⟩:=hT.at' i z ez;obtain ⟨u,u1,u2⟩:=hU.at' i z ez;have e0:(0:Int)+(i:Int)=(i:Int):=by lia
   rw [e0];have aT:atI (ts.map V.ref) (i:Int)=some (.ref t):=AT (j:=i) (by rw [gE,t1];rfl);have aU:atI (us.map V.ref) (i:Int)=some (.ref u):=AT (j:=i) (by rw [gE,u1];rfl);refine ⟨_,Z,_,Z,a,_,_,_,Z,Z,SqT.of hA,aT,_,_,_,true,Z,.tup t2,.inl ⟨_,Z,O7 _⟩,_,Z,?_⟩;refine CV ?_;refine ⟨_,Z,_,Z,a,_,_,_,Z,Z,SqT.of hA,aT,t,_,Z,.inr (SqT.of t2),Z,_,Z,?_⟩;refine DT Z ?_;refine ⟨_,Z,_,Z,a,_,_,_,Z,Z,SqT.of hA,aT,t,_,_,_,Z,Z,SqT.of t2,Z,_,_,_,true,Z,.str _,.inl ⟨_,Z,WC _⟩,_,Z,?_⟩;refine CV ?_;refine ⟨_,Z,_,Z,a,_,_,_,Z,Z,SqT.of hA,aT,t,_,_,_,Z,Z,SqT.of t2,Z,_,Z,_,Z,b,_,_,_,Z,Z,hB,aU,u,_,_,_,Z,Z,SqT.of u2,Z,Z,_,Z,?_⟩;refine DT Z ?_;refine ⟨_,Z,_,Z,a,_,_,_,Z,Z,SqT.of hA,aT,t,_,_,_,Z,Z,SqT.of t2,Z,_,Z,_,Z,?_⟩;refine CV ?_;refine ⟨_,Z,_,Z,a,_,_,_,Z,Z,SqT.of hA,aT,t,_,_,_,Z,Z,SqT.of t2,Z,_,Z,_,Z,b,_,_,_,Z,Z,hB,aU,u,_,_,_,Z,Z,SqT.of u2,Z,Z,_,Z,?_⟩;refine DT Z ?_;exact ⟨⟨_,Z⟩,Z⟩
  ·rintro σ H2 ⟨_,rfl⟩;exact q
abbrev HL:hZ:=top 81
abbrev UU:List fZ:=["_law_found","_law_due"]
abbrev HW:List fZ:=["_law_found","_law_due"]
theorem SC:Zj UU HW (Zd HL):=mk9
def KU (K:W.Frag):Sp:=λvs H Q _=>E3 λ(a b:fT) (A:Act)=>vs=[.ref a,.ref b]/\FW H a A/\FW H b A/\A.Fit/\Q (.bl true) H
theorem TR (F:Fun K "_law_same_deed" "_law_same_deed" HL f fd) (T:Txt K mg) (o_whole:Ok P w K mg base "_law_whole" GI 1 FG) (o_q11:Ok P w K mg base "_law_same_seasons" P_q11 2 (sp_q11 K)):Ym P w K mg base CX0 3 f fd HW (KU K):=by
  obtain ⟨a,b,B,rfl,hA,hB,hF,q⟩:=‹SC›
  refine ⟨_,(Zc (Yk (PW.pt (BL (AZ (AG (BB T.n_isinstance (pv 0) (LJ T.n_tuple)))) (Ji (pcr GZ (Zy T.n_len (pv 0)) (Zy T.n_len (pv 1)))))) (Ze (Zi BO)) Zn) (Zc (Yk (PW.pt (BL (AZ (AG (BB T.n_isinstance (pxt (pv 0) Za) (LJ T.n_str)))) (Ji (pcr GZ (pxt (pv 0) Za) (pxt (pv 1) Za))))) (Ze (Zi BO)) Zn) (Zc (Yk (PW.pt (LA (pcr Jv (pxt (pv 1) Za) Zs) (HI (AZ (AG (Zg o_q11 hr (pa2 (pxt (pv 0) Za) (pxt (pv 1) Za)))))))) (Ze (Zi BO)) Zn) (Ze (Zi (OA (Zg o_whole hr (pa1 (pxt (pv 0) (Zh Yj (Zy T.n_len (pv 1)) Za)))) (T4 (CO Jv (pxt (pv 0) (Zh Yj (Zy T.n_len (pv 1)) Za)) (pxt (pv 1) (Zh Yj (Zy T.n_len (pv 1)) Za)) (EC _))))))))),?_⟩
  try dsimp only [cK_,cL_]
  cases B with
  | sea z=>
   have hA:H a=some (.tup [.str (AX z.1),.int z.2]):=hA;have hB:H b=some (.tup [.str (AX z.1),.int z.2]):=hB;refine ⟨_,Z,_,_,_,true,Z,.tup hA,.inl ⟨_,Z,O7 _⟩,_,Z,?_⟩;refine CV ?_;refine ⟨_,Z,a,_,Z,.inr (SqT.of hA),_,Z,b,_,Z,.inr (SqT.of hB),Z,_,Z,?_⟩;refine DT Z ?_;refine ⟨_,Z,a,_,_,_,Z,Z,SqT.of hA,Z,_,_,_,true,Z,.str _,.inl ⟨_,Z,WC _⟩,_,Z,?_⟩;refine CV ?_;refine ⟨_,Z,a,_,_,_,Z,Z,SqT.of hA,Z,_,Z,b,_,_,_,Z,Z,SqT.of hB,Z,Z,_,Z,?_⟩;refine DT Z ?_;refine ⟨_,Z,b,_,_,_,Z,Z,SqT.of hB,Z,Z,_,Z,?_⟩;rw [GQ];refine CV ?_;refine CV ?_;refine ⟨_,Z,_,Z,b,_,Z,.inr (SqT.of hB),_,_,Z,Z,a,_,_,_,Z,Z,SqT.of hA,Z,_,Z,_,Z,?_⟩;refine IA ?_;refine ⟨_,Z,_,Z,b,_,Z,.inr (SqT.of hB),_,_,Z,Z,a,_,_,_,Z,Z,SqT.of hA,Z,_,Z,_,Z,b,_,Z,.inr (SqT.of hB),_,_,Z,Z,b,_,_,_,Z,Z,SqT.of hB,Z,Z,?_⟩;rw [D7_ Z];exact q
  | lay m=>
   have hA:H a=some (.tup [.str "lay",.int m]):=hA;have hB:H b=some (.tup [.str "lay",.int m]):=hB;refine ⟨_,Z,_,_,_,true,Z,.tup hA,.inl ⟨_,Z,O7 _⟩,_,Z,?_⟩;refine CV ?_;refine ⟨_,Z,a,_,Z,.inr (SqT.of hA),_,Z,b,_,Z,.inr (SqT.of hB),Z,_,Z,?_⟩;refine DT Z ?_;refine ⟨_,Z,a,_,_,_,Z,Z,SqT.of hA,Z,_,_,_,true,Z,.str _,.inl ⟨_,Z,WC _⟩,_,Z,?_⟩;refine CV ?_;refine ⟨_,Z,a,_,_,_,Z,Z,SqT.of hA,Z,_,Z,b,_,_,_,Z,Z,SqT.of hB,Z,Z,_,Z,?_⟩;refine DT Z ?_;refine ⟨_,Z,b,_,_,_,Z,Z,SqT.of hB,Z,Z,_,Z,?_⟩;refine Jl (λh=>absurd (V.str.inj (D8_ h)) D9_) (λ_=>?_);refine CV ?_;refine ⟨_,Z,_,Z,b,_,Z,.inr (SqT.of hB),_,_,Z,Z,a,_,_,_,Z,Z,SqT.of hA,Z,_,Z,_,Z,?_⟩;refine IA ?_;refine ⟨_,Z,_,Z,b,_,Z,.inr (SqT.of hB),_,_,Z,Z,a,_,_,_,Z,Z,SqT.of hA,Z,_,Z,_,Z,b,_,Z,.inr (SqT.of hB),_,_,Z,Z,b,_,_,_,Z,Z,SqT.of hB,Z,Z,?_⟩;rw [D7_ Z];exact q
  | yrs ss n=>
   obtain ⟨y1,y2,_⟩:=hF;obtain ⟨u,ts,a1,a2,a3⟩:=hA;obtain ⟨u',ts',b1,b2,b3⟩:=hB;refine ⟨_,Z,_,_,_,true,Z,.tup a1,.inl ⟨_,Z,O7 _⟩,_,Z,?_⟩;refine CV ?_;refine ⟨_,Z,a,_,Z,.inr (SqT.of a1),_,Z,b,_,Z,.inr (SqT.of b1),Z,_,Z,?_⟩;refine DT Z ?_;refine ⟨_,Z,a,_,_,_,Z,Z,SqT.of a1,Z,_,_,_,true,Z,.str _,.inl ⟨_,Z,WC _⟩,_,Z,?_⟩;refine CV ?_;refine ⟨_,Z,a,_,_,_,Z,Z,SqT.of a1,Z,_,Z,b,_,_,_,Z,Z,SqT.of b1,Z,Z,_,Z,?_⟩;refine DT Z ?_;refine ⟨_,Z,b,_,_,_,Z,Z,SqT.of b1,Z,Z,_,Z,?_⟩;refine Jl (λ_=>?_) (λh=>absurd (D7_ Z) h);refine ⟨_,Z,a,_,_,_,Z,Z,SqT.of a1,Z,_,Z,b,_,_,_,Z,Z,SqT.of b1,Z,u,u',ts,ts',ss,Z,a2,SqT.of b2,a3,b3,by lia,_,Z,?_⟩;refine CV ?_;refine ⟨_,Z,_,Z,b,_,Z,.inr (SqT.of b1),_,_,Z,Z,a,_,_,_,Z,Z,SqT.of a1,Z,_,Z,_,Z,?_⟩;refine IA ?_;refine ⟨_,Z,_,Z,b,_,Z,.inr (SqT.of b1),_,_,Z,Z,a,_,_,_,Z,Z,SqT.of a1,Z,_,Z,_,Z,b,_,Z,.inr (SqT.of b1),_,_,Z,Z,b,_,_,_,Z,Z,SqT.of b1,Z,Z,?_⟩;rw [D7_ Z];exact q
abbrev VS:hZ:=top 83
abbrev N_books:List fZ:=["_law_ground","_law_kept","_law_balance","_law_found","_law_k"]
abbrev V2:List fZ:=["_law_ground","_law_kept","_law_balance"]
theorem P9:Zj N_books V2 (Zd VS):=mk9
def XG (K:W.Frag) (G:fT):Sp:=λvs H Q _=>E7 λ(x pq pb:fT) (ts us:List fT) (As:List Act) (Ss:List Zq)=>E2 λ(S S0:Zq)=>vs=[.ref x,.ref pq,.ref pb]/\Ya G H x (ts.map V.ref) Ss/\Ss.getLast? = some S/\Ss[0]? = some S0/\SqL K H pq (us.map V.ref)/\AQ H ts As/\AQ H us As/\(∀ A ∈ As,A.Fit)/\As.length <= 1000/\SqL K H pb [.int S0.fR.sum,.int S.found,.int S.taken]/\∀ H',Same H H'->Q (.bl true) H'
theorem ok_books (F:Fun K "_law_books" "_law_books" VS f fd) (T:Txt K mg) (TG:DF K mg G) (o_same_deed:Ok P w K mg base "_law_same_deed" HW 3 (KU K)) (o_told:Ok P w K mg base "_law_told" W7 2 (VY K)) (om_deeds:OkM P w K mg base G "deeds" MG 1 (O3 G)) (om_balance:OkM P w K mg base G "balance" HP 2 (KR G)):Ym P w K mg base CX0 4 f fd V2 (XG K G):=by
  obtain ⟨x,pq,pb,ts,us,As,Ss,S,S0,rfl,hG,hl,h0,hQ,hT,hU,hF,hn,hB,q⟩:=‹P9›;obtain ⟨dx,pk,ps,ds,h1,_⟩:=id hG.ex
  refine ⟨_,(Zc (psn 3 P9.nd (Zv om_deeds TG.cl hr (pv 0))) (Zc (Yk (PW.pt (BL (AZ (AG (BB T.n_isinstance (pv 3) (LJ T.n_list)))) (Ji (pcr GZ (Zy T.n_len (pv 3)) (Zy T.n_len (pv 1)))))) (Ze (Zi BO)) Zn) (Zc (AO PassesOwn.never Z (AY (by rfl) T.n_range (pa1 (Zy T.n_len (pv 1)))) (Zw (i:=4) P9.nd Z (Or.inl Z)) (Ze (Yk (AZ (AG (Zg o_same_deed hr (pa2 (pxl (pv 3) (pv 4)) (pxl (pv 1) (pv 4)))))) (Ze (Zi BO)) Zn))) (Ze (Zi (Zg o_told hr (pa2 (Zv om_balance TG.cl hr (pv 0)) (pv 2)))))))),?_⟩
  try dsimp only [cK_,cL_]
  refine ⟨_,Z,x,dx,_,Z,h1,gN,x,_,_,Z,hG,λH1 l s1 fl hl1=>?_⟩;have hQ1:=s1.seq hQ;have el:(ts.map V.ref).length=(us.map V.ref).length:=by rw [fU,fU,hT.len,hU.len]
  refine ⟨_,Z,_,_,_,true,Z,.lst hl1,.inl ⟨_,Z,kit_ll _⟩,_,Z,?_⟩;refine CV ?_;refine ⟨_,Z,l,_,Z,.inl (SqL.of hl1),_,Z,pq,_,Z,.inl hQ1,Z,_,Z,?_⟩;refine DT (by rw [el]) ?_;refine ⟨_,Z,pq,_,Z,.inl hQ1,_,Z,by lia,by rw [fU,hU.len];lia,?_⟩;refine C9 (n:=((us.map V.ref).length:Int).toNat) (λi σ H2=>(∃ v,σ=[some (.ref x),some (.ref pq),some (.ref pb),some (.ref l),v])/\H1=H2) ⟨⟨none,Z⟩,Z⟩ ?_ ?_
  ·rintro i σ H2 hi ⟨⟨v,rfl⟩,rfl⟩;rw [fU,hU.len] at hi;have hi':i < As.length:=by lia
   have ez:As[i]? = some As[i]:=fX hi';have hFi:=hF _ (i7 ez);generalize As[i]=z at ez hFi;obtain ⟨t,t1,t2⟩:=hT.at' i z ez;obtain ⟨u,u1,u2⟩:=hU.at' i z ez;have e0:(0:Int)+(i:Int)=(i:Int):=by lia
   rw [e0];have aT:atI (ts.map V.ref) (i:Int)=some (.ref t):=AT (j:=i) (by rw [gE,t1];rfl);have aU:atI (us.map V.ref) (i:Int)=some (.ref u):=AT (j:=i) (by rw [gE,u1];rfl);refine ⟨_,Z,_,Z,l,_,_,_,Z,Z,SqL.of hl1,aT,_,Z,_,Z,pq,_,_,_,Z,Z,hQ1,aU,t,u,z,Z,t2.same s1,u2.same s1,hFi,_,Z,?_⟩;refine CV ?_;exact ⟨⟨_,Z⟩,Z⟩
  ·rintro σ H2 ⟨⟨v,rfl⟩,rfl⟩;refine ⟨_,Z,x,dx,_,Z,s1 _ _ h1,gN,x,_,_,S,S0,Z,hG.same s1,hl,h0,λH3 t3 s3 f3 h3=>?_⟩;exact ⟨_,Z,t3,pb,[S0.fR.sum,S.found,S.taken],Z,h3,.inl ((s1.trans s3).seq hB),by show 3 <= 1000;decide,q _ (s1.trans s3)⟩
abbrev fB:hZ:=top 84
abbrev N_deed:List fZ:=["_law_cell","_law_scale","_law_pick","_law_rest","_law_kind","_law_many","_law_times"]
abbrev ZU:List fZ:=["_law_cell","_law_scale"]
theorem EV:Zj N_deed ZU (Zd fB):=mk9
def fH:Sp:=λvs H Q _=>E2 λ(cell scale:Int)=>vs=[.int cell,.int scale]/\1 <= scale/\scale <= 999999 /\
 ∀ (H':Hp) (t:fT) (A:Act),Same H H'->H t=none->A.Fit->FW H' t A->Q (.ref t) H'
theorem deed_lay (r:Int):∃ m:Int,atI [V.int (1+r % 200),V.int (1+r % 9)] (r / 200 % 2)=some (.int m)/\1 <= m/\m <= 200:=by
 have h3:=gM (r / 200) (show (2:Int) ≠ 0 by decide);have h4:=gC (r / 200) (show (0:Int) < 2 by decide);have a1:=gM r (show (200:Int) ≠ 0 by decide);have a2:=gC r (show (0:Int) < 200 by decide);have a3:=gM r (show (9:Int) ≠ 0 by decide);have a4:=gC r (show (0:Int) < 9 by decide);have h5:r / 200 % 2=0\/r / 200 % 2=1:=by lia
 rcases h5 with e | e <;> rw [e]
 ·exact ⟨_,Z,by lia,by lia⟩
 ·exact ⟨_,Z,by lia,by lia⟩
theorem ZE (k r:Int):∃ m:Nat,atI [V.int 1,V.int 2,V.int 3,V.int (10 ^ 18),V.int (1+r % 40),V.int (1+r % 10 ^ 18)] (k % 6)=some (.int ((m:Int)+1))/\(m:Int)+1 <= 1000000000000000000:=by
 have h3:=gM k (show (6:Int) ≠ 0 by decide);have h4:=gC k (show (0:Int) < 6 by decide);have a1:=gM r (show (40:Int) ≠ 0 by decide);have a2:=gC r (show (0:Int) < 40 by decide);have a3:=gM r (show (10 ^ 18:Int) ≠ 0 by decide);have a4:=gC r (show (0:Int) < 10 ^ 18 by decide);have mk:∀ x:Int,1 <= x->x <= 1000000000000000000->∃ m:Nat,(some (V.int x):Option V)=some (.int ((m:Int)+1))/\(m:Int)+1 <= 1000000000000000000:=λx h1 h2=>⟨(x - 1).toNat,by rw [show (((x - 1).toNat:Nat):Int)+1=x by lia],by lia⟩;have h5:k % 6=0\/k % 6=1\/k % 6=2\/k % 6=3\/k % 6=4\/k % 6=5:=by lia
 rcases h5 with e | e | e | e | e | e <;> rw [e]
 ·exact mk 1 (by lia) (by lia)
 ·exact mk 2 (by lia) (by lia)
 ·exact mk 3 (by lia) (by lia)
 ·exact mk (10 ^ 18) (by decide) (by decide)
 ·exact mk (1+r % 40) (by lia) (by lia)
 ·exact mk (1+r % 10 ^ 18) (by lia) (by lia)
theorem deed_div (k:Int) (h:3 < k % 6):atI [V.int 40,V.int (10 ^ 18)] (k % 6 - 4)=some (.int 40)\/atI [V.int 40,V.int (10 ^ 18)] (k % 6 - 4)=some (.int (10 ^ 18)):=by
 have h4:=gC k (show (0:Int) < 6 by decide);have h5:k % 6=4\/k % 6=5:=by lia
 rcases h5 with e | e <;> rw [e]
 ·exact .inl Z
 ·exact .inr Z
theorem ok_deed (F:Fun K "_law_deed" "_law_deed" fB f fd) (T:Txt K mg) (o_amount:Ok P w K mg base "_law_amount" LS 1 NS) (o_seasons:Ok P w K mg base "_law_seasons" IS 3 K3):Ym P w K mg base CX0 4 f fd ZU fH:=by
  obtain ⟨cell,scale,rfl,h1,h2,q⟩:=‹EV›
  refine ⟨_,(Zc (psn 2 EV.nd (Zh Yn (pv 0) Za)) (Zc (psn 3 EV.nd (Zh Jk (pv 0) Za)) (Zc (Yk (pcr DA (pv 2) Za) (Ze (Zi (Jc (pa2 Zs (Zg o_amount hr (pa2 (pv 3) (pv 1))))))) Zn) (Zc (Yk (pcr DA (pv 2) Za) (Ze (Zi (Jc (pa2 Zs (Zg o_amount hr (pa2 (pv 3) (pv 1))))))) Zn) (Zc (Yk (pcr Jv (pv 2) Za) (Ze (Zi (Jc (pa2 Zs (pxl (Zx (pa2 (Zh Zz Za (Zh Yn (pv 3) Za)) (Zh Zz Za (Zh Yn (pv 3) Za)))) (Zh Yn (Zh Jk (pv 3) Za) Za)))))) Zn) (Zc (psn 4 EV.nd (Zh Yn (pv 3) Za)) (Zc (psn 5 EV.nd (Zh Zz Za (Zh Yn (Zh Jk (pv 3) Za) Za))) (Zc (psn 3 EV.nd (Zh Jk (pv 3) Za)) (Zc (psn 6 EV.nd (pxl (Zx (Zo Za (Zo Za (Zo Za (pa3 (Zh FT Za Za) (Zh Zz Za (Zh Yn (pv 3) Za)) (Zh Zz Za (Zh Yn (pv 3) (Zh FT Za Za)))))))) (pv 4))) (Zc (Yk (pcr CM (pv 4) Za) (Ze (psn 3 EV.nd (Zh op_fdivB (pv 3) (pxl (Zx (pa2 Za (Zh FT Za Za))) (Zh Yj (pv 4) Za))))) Zn) (Zc (Yk (pcr Jv (pv 3) Za) (Ze (psn 3 EV.nd (Zh Zz (Zh DV Za (pv 0)) Za))) Zn) (Ze (Zi (Jc (pa3 Zs (AR IL (by rfl) T.n_tuple D9_ (pa1 (Zg o_seasons hr (pa3 (pv 3) (pv 5) (pv 1))))) (pv 6)))))))))))))))),?_⟩
  try dsimp only [cK_,cL_]
  refine ⟨_,Z,_,_,Z,Z,(by show (0:Int) < 7;decide),?_⟩;refine ⟨_,Z,_,_,Z,Z,⟨by decide,by decide⟩,?_⟩;refine ⟨_,Z,_,_,Z,Z,_,Z,?_⟩;refine Jl (λ_=>?_) (λ_=>?_)
  ·refine ⟨_,Z,_,Z,_,_,Z,h1,h2,λm H2 m0 m1 s2=>⟨sz9,λt ft=>?_⟩⟩;exact q _ t (.sea (true,m)) (s2.trans (Same.upd ft)) (s2.free ft) ⟨m0,m1⟩ Zb
  refine ⟨_,Z,_,_,Z,Z,_,Z,?_⟩;refine Jl (λ_=>?_) (λ_=>?_)
  ·refine ⟨_,Z,_,Z,_,_,Z,h1,h2,λm H2 m0 m1 s2=>⟨sz9,λt ft=>?_⟩⟩;exact q _ t (.sea (false,m)) (s2.trans (Same.upd ft)) (s2.free ft) ⟨m0,m1⟩ Zb
  refine ⟨_,Z,Z,_,Z,?_⟩;refine Jl (λ_=>?_) (λ_=>?_)
  ·obtain ⟨m,em,m0,m1⟩:=deed_lay (cell / 7);refine ⟨_,Z,_,_,Z,Z,(by show (0:Int) < 200;decide),_,_,Z,Z,_,Z,_,_,Z,Z,(by show (0:Int) < 9;decide),_,_,Z,Z,sz9,λp hp=>?_⟩;refine ⟨_,Z,_,_,Z,Z,⟨by decide,by decide⟩,_,_,Z,Z,(by show (0:Int) < 2;decide),p,_,_,_,Z,Z,SqL.of Zb,em,sz9,λt ft=>?_⟩;exact q _ t (.lay m) ((Same.upd hp).trans (Same.upd ft)) ((Same.upd hp).free ft) ⟨m0,m1⟩ Zb
  obtain ⟨n,en,hn1,hn12⟩:∃ n:Nat,1+cell / 7 / 6 % 12=(n:Int)/\1 <= n/\n <= 12:=by
   have h1:=gM (cell / 7 / 6) (show (12:Int) ≠ 0 by decide);have h2:=gC (cell / 7 / 6) (show (0:Int) < 12 by decide);exact ⟨(1+cell / 7 / 6 % 12).toNat,by lia,by lia,by lia⟩
  refine ⟨_,Z,_,_,Z,Z,(by show (0:Int) < 6;decide),?_⟩;refine ⟨_,Z,_,_,Z,Z,⟨by decide,by decide⟩,_,_,Z,Z,(by show (0:Int) < 12;decide),_,_,Z,Z,?_⟩;refine ⟨_,Z,_,_,Z,Z,⟨by decide,by decide⟩,?_⟩;obtain ⟨m,em,hm⟩:=ZE (cell / 7) (cell / 7 / 72);refine ⟨_,_,Z,Z,⟨by decide,by decide,by decide⟩,_,Z,_,_,Z,Z,(by show (0:Int) < 40;decide),_,_,Z,Z,_,Z,_,_,Z,Z,⟨by decide,by decide,by decide⟩,_,_,Z,Z,(by show (0:Int) < 10 ^ 18;decide),_,_,Z,Z,sz9,λp1 f1=>?_⟩;refine ⟨_,Z,p1,_,_,_,Z,Z,SqL.of Zb,em,?_⟩;dsimp only [FV];refine E1 (λσ' H'=>∃ r:Int,Same H H'/\σ' = [some (.int cell),some (.int scale),some (.int (cell % 7)),some (.int r),some (.int (cell / 7 % 6)),some (.int (1+cell / 7 / 6 % 12)),some (.int ((m:Int)+1))]) (λnx hnx=>?_) ?_
  ·refine ⟨_,Z,_,_,Z,Z,_,Z,?_⟩;refine Jl (λhc=>?_) (λ_=>hnx _ _ ⟨_,Same.upd f1,Z⟩);have hc:(3:Int) < cell / 7 % 6:=D8_ hc;refine ⟨_,Z,_,_,Z,Z,⟨by decide,by decide,by decide⟩,sz9,λp2 f2=>?_⟩;rcases deed_div (cell / 7) hc with e | e
   ·exact ⟨_,Z,_,_,Z,Z,p2,_,_,_,Z,Z,SqL.of Zb,e,_,_,Z,Z,⟨by decide,by decide +kernel⟩,hnx _ _ ⟨_,(Same.upd f1).trans (Same.upd f2),Z⟩⟩
   ·exact ⟨_,Z,_,_,Z,Z,p2,_,_,_,Z,Z,SqL.of Zb,e,_,_,Z,Z,⟨by decide,by decide +kernel⟩,hnx _ _ ⟨_,(Same.upd f1).trans (Same.upd f2),Z⟩⟩
  rintro _ H1 ⟨r,s1,rfl⟩;refine E1 (λσ' H'=>∃ r:Int,Same H H'/\σ' = [some (.int cell),some (.int scale),some (.int (cell % 7)),some (.int r),some (.int (cell / 7 % 6)),some (.int (1+cell / 7 / 6 % 12)),some (.int ((m:Int)+1))]) (λnx hnx=>?_) ?_
  ·refine ⟨_,Z,Z,_,Z,?_⟩;refine Jl (λhc=>?_) (λ_=>hnx _ _ ⟨_,s1,Z⟩);exact ⟨_,Z,_,_,Z,Z,.inl ⟨by decide,by decide⟩,_,_,Z,Z,hnx _ _ ⟨_,s1,Z⟩⟩
  rintro _ H2 ⟨r2,s2,rfl⟩;refine ⟨_,Z,_,Z,_,Z,_,_,n,congrArg (λz=>[V.int _,V.int z,V.int _]) en,by lia,h1,h2,λH3 p3 ts ss s3 f3 hl hz hp hS=>?_⟩;refine ⟨p3,_,Z,.inl ⟨SqL.of hp,λu fu=>⟨_,Z,sz9,λt ft=>?_⟩⟩⟩;have s5:=(Same.upd (o:=.tup (ts.map V.ref)) fu).trans (Same.upd (o:=.tup [.str "years",.ref u,.int ((m:Int)+1)]) ft);exact q _ t (.yrs ss m) ((s2.trans s3).trans s5) ((s2.trans s3).free ((Same.upd fu).free ft)) ⟨by lia,by lia,hz,hm⟩ ⟨u,ts,Zb,Same.upd ft _ _ Zb,hS.same s5⟩
abbrev s_do:hZ:=top 85
abbrev N_do:List fZ:=["_law_ground","_law_deed_here"]
abbrev P_do:List fZ:=["_law_ground","_law_deed_here"]
theorem sc_do:Zj N_do P_do (Zd s_do):=mk9
def sp_do (G:fT):Sp:=λvs H Q _=>E8 λ(p pk ps t:fT) (kept:List V) (Ss:List Zq) (S S0:Zq)=>E2 λ(A:Act) (ok:fT->Prop)=>vs=[.ref p,.ref t]/\Yg G ok H p pk ps kept Ss/\(∀ b,H b=none->ok b)/\Ss.getLast? = some S/\Ss[0]? = some S0/\kept.length < 300/\Ss.length <= 1000/\FW H t A/\A.Fit/\(A.isLay=true->S.fQ.length < S0.fQ.length+20)/\Zr S.fQ S.fR/\1 <= S.fQ.length/\S.fQ.length <= 1000 /\
 ∀ (H':Hp) (v:V) (u:fT),FU pk ps H H'->H u=none->FW H' u A->Told H' v S A->Yg G ok H' p pk ps (kept ++ [.ref u]) (Ss ++ [doS S A])->Q v H'
theorem ok_do (F:Fun K "_law_do" "_law_do" s_do f fd) (T:Txt K mg) (TG:DF K mg G) (om_warm:OkM P w K mg base G "warm" JV 9 (TZ G)) (om_cold:OkM P w K mg base G "cold" II 9 (TK G)) (om_lay:OkM P w K mg base G "lay" MP 2 (WE G)) (om_years:OkM P w K mg base G "years" GC 9 (O5 K G)):Ym P w K mg base CX0 10 f fd P_do (sp_do G):=by
  obtain ⟨p,pk,ps,t,kept,Ss,S,S0,B,ok,rfl,hG,hok,hl,h0,l1,l2,hA,hF,hy,hO,hn1,hn2,q⟩:=‹sc_do›;obtain ⟨dx,ds,h1,h2,h3,_⟩:=id hG.ex
  refine ⟨_,(Zc (Yk (pcr Jv (pxt (pv 1) Za) Zs) (Ze (Zi (Yp om_warm TG.cl hr (pv 0) (pa1 (pxt (pv 1) Za))))) Zn) (Zc (Yk (pcr Jv (pxt (pv 1) Za) Zs) (Ze (Zi (Yp om_cold TG.cl hr (pv 0) (pa1 (pxt (pv 1) Za))))) Zn) (Zc (Yk (pcr Jv (pxt (pv 1) Za) Zs) (Ze (Zi (Yp om_lay TG.cl hr (pv 0) (pa1 (pxt (pv 1) Za))))) Zn) (Ze (Zi (Yp om_years TG.cl hr (pv 0) (pa2 (Jo T.n_list (pxt (pv 1) Za)) (pxt (pv 1) Za)))))))),?_⟩
  try dsimp only [cK_,cL_]
  cases B with
  | sea z=>
   obtain ⟨zb,zm⟩:=z;obtain ⟨z0,z1⟩:0 <= zm/\zm <= 1000000:=hF;refine ⟨_,Z,t,_,_,_,Z,Z,SqT.of hA,Z,Z,_,Z,?_⟩;rw [EG];cases zb with
   | true=>
    refine IA ?_;refine ⟨_,Z,p,dx,_,Z,h1,gN,_,Z,t,_,_,_,Z,Z,SqT.of hA,Z,p,pk,ps,_,_,S,zm,ok,Z,hG,hok,hl,l1,l2,z0,z1,hO,hn1,hn2,λH' u k f1 h1 X1=>?_⟩;exact q H' _ u k f1 h1 (congrArg V.int (cP S.fQ S.fR zm)) X1
   | false=>
    refine CV ?_;refine ⟨_,Z,t,_,_,_,Z,Z,SqT.of hA,Z,Z,_,Z,?_⟩;rw [GJ];refine IA ?_;refine ⟨_,Z,p,dx,_,Z,h1,gN,_,Z,t,_,_,_,Z,Z,SqT.of hA,Z,p,pk,ps,_,_,S,zm,ok,Z,hG,hok,hl,l1,l2,z0,z1,hO,hn1,hn2,λH' u k f1 h1 X1=>?_⟩;exact q H' _ u k f1 h1 (congrArg V.int (bO S.fQ S.fR zm)) X1
  | lay m=>
   obtain ⟨m0,m1⟩:1 <= m/\m <= 200:=hF;refine ⟨_,Z,t,_,_,_,Z,Z,SqT.of hA,Z,Z,_,Z,?_⟩;refine Jl (λh=>absurd (V.str.inj (D8_ h)) D9_) (λ_=>?_);refine ⟨_,Z,t,_,_,_,Z,Z,SqT.of hA,Z,Z,_,Z,?_⟩;refine Jl (λh=>absurd (V.str.inj (D8_ h)) D9_) (λ_=>?_);refine ⟨_,Z,t,_,_,_,Z,Z,SqT.of hA,Z,Z,_,Z,?_⟩;refine Jl (λ_=>?_) (λh=>absurd (D7_ Z) h);refine ⟨_,Z,p,dx,_,Z,h1,gN,_,Z,t,_,_,_,Z,Z,SqT.of hA,Z,p,pk,ps,_,_,S,S0,m,ok,Z,hG,hok,hl,h0,l1,l2,m0,m1,hy Z,hO.len,hn2,λH' u k f1 h1 X1=>?_⟩;exact q H' _ u k f1 h1 Z X1
  | yrs ss n=>
   obtain ⟨y1,y2,y3,y4⟩:1 <= ss.length/\ss.length <= 12/\(∀ z ∈ ss,0 <= z.2/\z.2 <= 1000000)/\(n:Int)+1 <= 1000000000000000000:=hF;obtain ⟨u',ts,a1,a2,a3⟩:=hA;refine ⟨_,Z,t,_,_,_,Z,Z,SqT.of a1,Z,Z,_,Z,?_⟩;refine Jl (λh=>absurd (V.str.inj (D8_ h)) D9_) (λ_=>?_);refine ⟨_,Z,t,_,_,_,Z,Z,SqT.of a1,Z,Z,_,Z,?_⟩;refine Jl (λh=>absurd (V.str.inj (D8_ h)) D9_) (λ_=>?_);refine ⟨_,Z,t,_,_,_,Z,Z,SqT.of a1,Z,Z,_,Z,?_⟩;refine Jl (λh=>absurd (V.str.inj (D8_ h)) D9_) (λ_=>?_);refine ⟨_,Z,p,dx,_,Z,h1,gN,_,Z,t,_,_,_,Z,Z,SqT.of a1,Z,u',_,Z,.inr (SqT.of a2),λl fl=>?_⟩;have s1:=Same.upd (o:=.lst (ts.map V.ref)) fl;refine ⟨_,Z,t,_,_,_,Z,Z,SqT.of (s1 _ _ a1),Z,?_⟩;refine ⟨p,pk,ps,l,kept,Ss,S,ts,ss,n,ok,Z,hG.same s1,λb e=>hok b (s1.free e),hl,l1,l2,SqL.of Zb,a3.same s1,y3,y1,y2,y4,hO,hn1,hn2,λH' u v k f1 hD X1 hv=>?_⟩;rw [MD] at hv;exact q H' _ u ((s1.keep2 pk ps).trans k) (s1.free f1) hD ⟨v,Z,hv⟩ X1
abbrev dP:hZ:=top 86
abbrev N_done:List fZ:=["_law_needs","_law_heats","_law_balance","_law_deed_here","_law_left","_law_at_here","_law_sums","_law_season_here"]
abbrev dO:List fZ:=["_law_needs","_law_heats","_law_balance","_law_deed_here"]
theorem KM:Zj N_done dO (Zd dP):=mk9
def dX (K:W.Frag):Sp:=λvs H Q _=>E7 λ(a b c t:fT) (S:Zq) (s0:Int) (A:Act)=>vs=[.ref a,.ref b,.ref c,.ref t]/\H a=some (.lst (S.fQ.map V.int))/\H b=some (.lst (S.fR.map V.int))/\H c=some (.lst [.int s0,.int S.found,.int S.taken])/\FW H t A/\A.Fit/\a ≠ b/\a ≠ c/\b ≠ c/\Zr S.fQ S.fR/\1 <= S.fQ.length/\S.fQ.length <= 999 /\
 ∀ (H':Hp) (p:fT),BR [a,b,c] H H'->H p=none->H' a=some (.lst ((doS S A).fQ.map V.int))->H' b=some (.lst ((doS S A).fR.map V.int))->H' c=some (.lst [.int s0,.int (doS S A).found,.int (doS S A).taken])->H' p=some (.lst ((dueL S A).map V.int))->Q (.ref p) H'
theorem ok_done (F:Fun K "_law_done" "_law_done" dP f fd) (T:Txt K mg) (o_go:Ok P w K mg base "_law_go" P_go 1 (sp_go K)) (o_again:Ok P w K mg base "_law_again" VQ 2 (WV K)):Ym P w K mg base CX0 3 f fd dO (dX K):=by
  obtain ⟨a,b,c,t,S,s0,B,rfl,hA,hB,hC,hT,hF,nab,nac,nbc,hO,hn1,hn2,q⟩:=‹KM›;have hl:=hO.len
  refine ⟨_,(Zc (Yk (pcr Jv (pxt (pv 3) Za) Zs) (Zc (Zp (D2 gJ gH gI Yo (pv 0) (pa1 (pxt (pv 3) Za)))) (Zc (Zp (D2 gJ gH gI Yo (pv 1) (pa1 Za))) (Ze (Zi (Zx (pa1 (Zy T.n_len (pv 0)))))))) Zn) (Zc (Yk (pcr GZ (pxt (pv 3) Za) Zs) (Zc (psn 4 KM.nd (Zg o_go hr (pa3 (pv 0) (pv 1) (pv 3)))) (Zc (psn 5 KM.nd (Zh Zz Za (AR C7 (by rfl) T.n_int D9_ (pa1 (CO Jv (pxt (pv 3) Za) Zs (EC _)))))) (Zc (EK (Zh Yj (Zh Zz (pxl (pv 2) (pv 5)) (pxt (pv 3) Za)) (pv 4)) (FP (pv 2) (pv 5) BU)) (Ze (Zi (Zx (pa1 (pv 4)))))))) Zn) (Zc (psn 6 KM.nd (Zg o_again hr (Zo (pv 0) (pa3 (pv 1) (pxt (pv 3) Za) (pxt (pv 3) Za))))) (Zc (AO PassesOwn.never Z (pi_tup (pxt (pv 3) Za)) (Zw (i:=7) KM.nd Z (Or.inl Z)) (Zc (psn 5 KM.nd (Zh Zz Za (AR C7 (by rfl) T.n_int D9_ (pa1 (CO Jv (pxt (pv 7) Za) Zs (EC _)))))) (Ze (EK (Zh Zz (pxl (pv 2) (pv 5)) (Zh DV (pxt (pv 3) Za) (pxt (pv 7) Za))) (FP (pv 2) (pv 5) BU))))) (Zc (EK (Zh Yj (pxl (pv 2) Za) (pxl (pv 6) Za)) (FP (pv 2) Za BU)) (Zc (EK (Zh Yj (pxl (pv 2) Za) (pxl (pv 6) Za)) (FP (pv 2) Za BU)) (Ze (Zi (pv 6))))))))),?_⟩
  try dsimp only [cK_,cL_]
  cases B with
  | lay m=>
   have hT:H t=some (.tup [.str "lay",.int m]):=hT;refine ⟨_,Z,t,_,_,_,Z,Z,SqT.of hT,Z,Z,_,Z,?_⟩;refine Jl (λ_=>?_) (λh=>absurd (D7_ Z) h);refine ⟨_,Z,.inl ⟨Z,_,SqL.of hA⟩,_,Z,t,_,_,_,Z,Z,SqT.of hT,Z,a,_,_,Z,Z,hA,Js (by rw [fU];lia),?_⟩;have h1b:(upd H a (.lst (S.fQ.map V.int ++ [.int m]))) b=some (.lst (S.fR.map V.int)):=(Zk (Ne.symm nab)).trans hB;refine ⟨_,Z,.inl ⟨Z,_,SqL.of h1b⟩,b,_,_,Z,Z,h1b,Js (by rw [fU];lia),?_⟩;have h2a:(upd (upd H a (.lst (S.fQ.map V.int ++ [.int m]))) b (.lst (S.fR.map V.int ++ [.int 0]))) a=some (.lst ((S.fQ ++ [m]).map V.int)):=by rw [Zk nab,Zb,gO];rfl
   refine ⟨_,Z,a,_,Z,.inl (SqL.of h2a),sz9,λp fp=>?_⟩;have h2b:(upd (upd H a (.lst (S.fQ.map V.int ++ [.int m]))) b (.lst (S.fR.map V.int ++ [.int 0]))) b=some (.lst ((S.fR ++ [0]).map V.int)):=by rw [Zb,gO];rfl
   have h2c:(upd (upd H a (.lst (S.fQ.map V.int ++ [.int m]))) b (.lst (S.fR.map V.int ++ [.int 0]))) c=some (.lst [.int s0,.int S.found,.int S.taken]):=by rw [Zk (Ne.symm nbc),Zk (Ne.symm nac)];exact hC
   have k2:BR [a,b,c] H (upd (upd H a (.lst (S.fQ.map V.int ++ [.int m]))) b (.lst (S.fR.map V.int ++ [.int 0]))):=(DP (by simp)).trans (DP (by simp));generalize upd (upd H a (.lst (S.fQ.map V.int ++ [.int m]))) b (.lst (S.fR.map V.int ++ [.int 0]))=H2 at h2a h2b h2c k2 fp ⊢;have s3:=Same.upd (o:=.lst [.int (((S.fQ ++ [m]).map V.int).length:Int)]) fp;refine q _ p (k2.trans (s3.keepL _)) (k2.free (λx hx=>?_) fp) (s3 _ _ h2a) (s3 _ _ h2b) (s3 _ _ h2c) (Zb.trans ?_)
   ·rcases gR.mp hx with rfl | hx
    ·exact ⟨_,h2a⟩
    rcases gR.mp hx with rfl | hx
    ·exact ⟨_,h2b⟩
    obtain rfl:x=c:=by simpa using hx
    exact ⟨_,h2c⟩
   ·show some (HO.lst [.int (((S.fQ ++ [m]).map V.int).length:Int)])=some (HO.lst [.int ((S.fQ.length:Int)+1)]);rw [show (((S.fQ ++ [m]).map V.int).length:Int)=(S.fQ.length:Int)+1 by rw [fU,i6];rfl]
  | sea z=>
   obtain ⟨zb,zm⟩:=z;obtain ⟨z0,z1⟩:0 <= zm/\zm <= 1000000:=hF;have hT:H t=some (.tup [.str (AX zb),.int zm]):=hT;refine ⟨_,Z,t,_,_,_,Z,Z,SqT.of hT,Z,Z,_,Z,?_⟩;rw [QX];refine CV ?_;refine ⟨_,Z,t,_,_,_,Z,Z,SqT.of hT,Z,Z,_,Z,?_⟩;rw [GQ];refine IA ?_;refine ⟨_,Z,_,Z,_,Z,a,b,t,S.fQ,S.fR,(zb,zm),Z,SqL.of hA,hB,hT,nab,hO,hn1,by lia,z0,?_⟩;have h1a:(upd H b (.lst ((C8 S.fQ S.fR (zb,zm)).map V.int))) a=some (.lst (S.fQ.map V.int)):=(Zk nab).trans hA;have h1b:(upd H b (.lst ((C8 S.fQ S.fR (zb,zm)).map V.int))) b=some (.lst ((C8 S.fQ S.fR (zb,zm)).map V.int)):=Zb;have h1c:(upd H b (.lst ((C8 S.fQ S.fR (zb,zm)).map V.int))) c=some (.lst [.int s0,.int S.found,.int S.taken]):=(Zk (Ne.symm nbc)).trans hC;have h1t:=CW (o:=.lst ((C8 S.fQ S.fR (zb,zm)).map V.int)) hB _ _ hT;have k1:BR [a,b,c] H (upd H b (.lst ((C8 S.fQ S.fR (zb,zm)).map V.int))):=DP (by simp);generalize upd H b (.lst ((C8 S.fQ S.fR (zb,zm)).map V.int))=H1 at h1a h1b h1c h1t k1 ⊢;refine ⟨_,Z,t,_,_,_,Z,Z,SqT.of h1t,Z,Z,.inr ⟨_,Z,?_⟩⟩;rw [GJ];have fin:∀ (o:List V) (p:fT),(upd H1 c (.lst o)) p=none->o=[.int s0,.int (doS S (.sea (zb,zm))).found,.int (doS S (.sea (zb,zm))).taken]->(doS S (.sea (zb,zm))).fQ=S.fQ->(doS S (.sea (zb,zm))).fR=C8 S.fQ S.fR (zb,zm)->Q (.ref p) (upd (upd H1 c (.lst o)) p (.lst [.int (Yh S.fQ S.fR (zb,zm))])):=λo p fp eo e1 e2=>by
    have k2:BR [a,b,c] H (upd H1 c (.lst o)):=k1.trans (DP (by simp));have h2a:(upd H1 c (.lst o)) a=some (.lst (S.fQ.map V.int)):=(Zk nac).trans h1a;have h2b:(upd H1 c (.lst o)) b=some (.lst ((C8 S.fQ S.fR (zb,zm)).map V.int)):=(Zk nbc).trans h1b;have h2c:(upd H1 c (.lst o)) c=some (.lst o):=Zb;have s3:=Same.upd (o:=.lst [.int (Yh S.fQ S.fR (zb,zm))]) fp;refine q _ p (k2.trans (s3.keepL _)) (k2.free (λx hx=>?_) fp) (by rw [e1];exact s3 _ _ h2a) (by rw [e2];exact s3 _ _ h2b) (by rw [<- eo];exact s3 _ _ h2c) Zb;rcases gR.mp hx with rfl | hx
    ·exact ⟨_,h2a⟩
    rcases gR.mp hx with rfl | hx
    ·exact ⟨_,h2b⟩
    obtain rfl:x=c:=by simpa using hx
    exact ⟨_,h2c⟩
   cases zb with
   | true=>
    refine ⟨_,_,Z,Z,?_⟩;refine ⟨_,Z,_,Z,c,_,_,_,Z,Z,SqL.of h1c,Z,_,Z,t,_,_,_,Z,Z,SqT.of h1t,Z,_,_,Z,Z,_,Z,_,_,Z,Z,_,Z,_,Z,c,_,_,1,Z,Z,h1c,Z,?_⟩;refine ⟨_,Z,sz9,λp fp=>?_⟩;refine fin _ p fp ?_ (by rw [UK]) (by rw [UK]);rw [UK];rfl
   | false=>
    refine ⟨_,_,Z,Z,?_⟩;refine ⟨_,Z,_,Z,c,_,_,_,Z,Z,SqL.of h1c,Z,_,Z,t,_,_,_,Z,Z,SqT.of h1t,Z,_,_,Z,Z,_,Z,_,_,Z,Z,_,Z,_,Z,c,_,_,2,Z,Z,h1c,Z,?_⟩;refine ⟨_,Z,sz9,λp fp=>?_⟩;refine fin _ p fp ?_ (by rw [UW]) (by rw [UW]);rw [UW];rfl
  | yrs ss n=>
   obtain ⟨y1,y2,y3,y4⟩:1 <= ss.length/\ss.length <= 12/\(∀ z ∈ ss,0 <= z.2/\z.2 <= 1000000)/\(n:Int)+1 <= 1000000000000000000:=hF;obtain ⟨u,ts,a1,a2,a3⟩:=hT;refine ⟨_,Z,t,_,_,_,Z,Z,SqT.of a1,Z,Z,_,Z,?_⟩;refine Jl (λh=>absurd (V.str.inj (D8_ h)) D9_) (λ_=>?_);refine ⟨_,Z,t,_,_,_,Z,Z,SqT.of a1,Z,Z,_,Z,?_⟩;refine DT Z ?_;refine ⟨_,Z,_,Z,_,Z,t,_,_,_,Z,Z,SqT.of a1,Z,_,Z,t,_,_,_,Z,Z,SqT.of a1,Z,a,b,u,S.fQ,S.fR,ts,ss,n+1,Z,SqL.of hA,hB,a2,a3,nab,hO,hn1,by lia,λz hz=>(y3 z hz).1,by lia,λH1 p k1 h1b fp h1p=>?_⟩;have kt1:KN H H1:=λx xs e=>k1 _ _ (AF e hB (by intro z;cases z)) e;have h1t:=kt1 _ _ a1;have h1u:=kt1 _ _ a2;have h1s:=a3.tup kt1;have h1a:=k1 _ _ nab hA;have h1c:=k1 _ _ (Ne.symm nbc) hC;have npc:p ≠ c:=Ne.symm (Zf hC fp);have nbp:b ≠ p:=Zf hB fp;have nap:a ≠ p:=Zf hA fp;have kL1:BR [a,b,c] H H1:=λx o nx e=>k1 x o (λz=>nx (by simp [z])) e;refine ⟨_,Z,t,_,_,_,Z,Z,SqT.of h1t,Z,u,Z,⟨_,SqT.of h1u⟩,?_⟩;refine fL (xs:=ts.map V.ref) (λi σ H2=>E2 λ(v5 v7:Option V)=>σ=[some (.ref a),some (.ref b),some (.ref c),some (.ref t),none,v5,some (.ref p),v7]/\RC c H1 H2/\H2 c=some (.lst [.int s0,.int (S.found+((n:Int)+1) * DS true (ss.take i)),.int (S.taken+((n:Int)+1) * DS false (ss.take i))])) ?_ ?_ ?_ ?_
   ·refine ⟨none,none,Z,RC.refl _ _,?_⟩;show H1 c=some (.lst [.int s0,.int (S.found+((n:Int)+1) * 0),.int (S.taken+((n:Int)+1) * 0)]);rw [Int.mul_zero,jE,jE];exact h1c
   ·rintro i σ H2 _ ⟨_,_,_,k2,_⟩;exact SqT.of (k2 _ _ (AF h1u h1c (by intro z;cases z)) h1u)
   ·rintro i x σ H2 hx ⟨v5,v7,rfl,k2,h2c⟩;obtain ⟨tz,z,rfl,ez,e2⟩:=h1s.item hx;have h2z:=k2 _ _ (AF e2 h1c (by intro z;cases z)) e2;have h2t:=k2 _ _ (AF h1t h1c (by intro z;cases z)) h1t;refine ⟨_,Z,tz,_,_,_,Z,Z,SqT.of h2z,Z,Z,.inr ⟨_,Z,?_⟩⟩;rw [GJ];rw [OE (b:=true) ez,OE (b:=false) ez];generalize DS true (ss.take i)=x1 at *;generalize DS false (ss.take i)=x2 at *;obtain ⟨zb,zm⟩:=z;cases zb with
    | true=>
     refine ⟨_,_,Z,Z,?_⟩;refine ⟨_,Z,_,Z,c,_,_,_,Z,Z,SqL.of h2c,Z,_,Z,t,_,_,_,Z,Z,SqT.of h2t,Z,_,Z,tz,_,_,_,Z,Z,SqT.of h2z,Z,_,_,Z,Z,.inl ⟨by lia,by lia⟩,_,_,Z,Z,_,Z,_,Z,c,_,_,1,Z,Z,h2c,Z,?_⟩;refine ⟨_,_,Z,k2.trans RC.upd,Zb.trans ?_⟩;show some (HO.lst [.int s0,.int (S.found+((n:Int)+1) * x1+((n:Int)+1) * zm),.int (S.taken+((n:Int)+1) * x2)])=some (HO.lst [.int s0,.int (S.found+((n:Int)+1) * (x1+zm)),.int (S.taken+((n:Int)+1) * (x2+0))]);rw [Int.mul_add,jE,Int.add_assoc]
    | false=>
     refine ⟨_,_,Z,Z,?_⟩;refine ⟨_,Z,_,Z,c,_,_,_,Z,Z,SqL.of h2c,Z,_,Z,t,_,_,_,Z,Z,SqT.of h2t,Z,_,Z,tz,_,_,_,Z,Z,SqT.of h2z,Z,_,_,Z,Z,.inl ⟨by lia,by lia⟩,_,_,Z,Z,_,Z,_,Z,c,_,_,2,Z,Z,h2c,Z,?_⟩;refine ⟨_,_,Z,k2.trans RC.upd,Zb.trans ?_⟩;show some (HO.lst [.int s0,.int (S.found+((n:Int)+1) * x1),.int (S.taken+((n:Int)+1) * x2+((n:Int)+1) * zm)])=some (HO.lst [.int s0,.int (S.found+((n:Int)+1) * (x1+0)),.int (S.taken+((n:Int)+1) * (x2+zm))]);rw [Int.mul_add ((n:Int)+1) x2 zm,jE,Int.add_assoc]
   ·rintro σ H2 ⟨v5,v7,rfl,k2,h2c⟩;have el:ss.take (ts.map V.ref).length=ss:=iJ (by rw [fU,a3.len];exact gA _);rw [el] at h2c;have h2p:=k2 _ _ npc h1p;refine ⟨_,Z,c,_,_,_,Z,Z,SqL.of h2c,Z,_,Z,p,_,_,_,Z,Z,SqL.of h2p,Z,_,_,Z,Z,_,Z,c,_,_,1,Z,Z,h2c,Z,?_⟩;have h3c:∀ o,(upd H2 c o) c=some o:=λo=>Zb;have h3p:∀ o,(upd H2 c o) p=_:=λo=>(Zk npc).trans h2p;refine ⟨_,Z,c,_,_,_,Z,Z,SqL.of (h3c _),Z,_,Z,p,_,_,_,Z,Z,SqL.of (h3p _),Z,_,_,Z,Z,_,Z,c,_,_,2,Z,Z,h3c _,Z,?_⟩;refine ⟨_,Z,?_⟩;rw [CK];have kc:∀ o,BR [a,b,c] H (upd H2 c o):=λo=>kL1.trans (BR.trans (λx u nx e=>k2 x u (λz=>nx (by simp [z])) e) (DP (by simp)));refine q _ p (kc _) fp ?_ ?_ ?_ ?_
    ·rw [Zk nac];exact k2 _ _ nac h1a
    ·rw [Zk nbc,do_yrs];exact k2 _ _ nbc h1b
    ·rw [Zb,do_yrs];rfl
    ·exact (Zk npc).trans h2p
abbrev b5:hZ:=top 87
abbrev N_fits:List fZ:=["_law_found","_law_deed_here","_law_due"]
abbrev cJ:List fZ:=["_law_found","_law_deed_here","_law_due"]
theorem sc_fits:Zj N_fits cJ (Zd b5):=mk9
def bP (K:W.Frag):Sp:=λvs H Q _=>E5 λ(v:V) (t p:fT) (S:Zq) (A:Act)=>vs=[v,.ref t,.ref p]/\FW H t A/\Told H v S A/\H p=some (.lst ((dueL S A).map V.int))/\Q (.bl true) H
theorem ok_fits (F:Fun K "_law_fits" "_law_fits" b5 f fd) (T:Txt K mg) (o_whole:Ok P w K mg base "_law_whole" GI 1 FG) (o_told:Ok P w K mg base "_law_told" W7 2 (VY K)):Ym P w K mg base CX0 3 f fd cJ (bP K):=by
  obtain ⟨v,t,p,S,B,rfl,hA,hT,hp,q⟩:=‹sc_fits›
  refine ⟨_,(Zc (Yk (pcr Jv (pxt (pv 1) Za) Zs) (Ze (Zi (Zg o_told hr (pa2 (pv 0) (pv 2))))) Zn) (Ze (Zi (OA (Zg o_whole hr (pa1 (pv 0))) (T4 (CO Jv (pv 0) (pxl (pv 2) Za) (EC _))))))),?_⟩
  try dsimp only [cK_,cL_]
  cases B with
  | sea z=>
   obtain rfl:=hT;refine ⟨_,Z,t,_,_,_,Z,Z,SqT.of hA,Z,Z,_,Z,?_⟩;refine Jl (λh=>absurd h (by rw [GQ];decide)) (λ_=>?_);refine ⟨_,Z,_,Z,_,Z,?_⟩;refine IA ?_;refine ⟨_,Z,_,Z,p,_,_,_,Z,Z,SqL.of hp,Z,Z,?_⟩;rw [D7_ Z];exact q
  | lay m=>
   obtain rfl:=hT;refine ⟨_,Z,t,_,_,_,Z,Z,SqT.of hA,Z,Z,_,Z,?_⟩;refine Jl (λh=>absurd (V.str.inj (D8_ h)) D9_) (λ_=>?_);refine ⟨_,Z,_,Z,_,Z,?_⟩;refine IA ?_;refine ⟨_,Z,_,Z,p,_,_,_,Z,Z,SqL.of hp,Z,Z,?_⟩;rw [D7_ Z];exact q
  | yrs ss n=>
   obtain ⟨u,rfl,hu⟩:=hT;obtain ⟨u',ts,h1,h2,h3⟩:=hA;refine ⟨_,Z,t,_,_,_,Z,Z,SqT.of h1,Z,Z,_,Z,?_⟩;refine Jl (λ_=>?_) (λh=>absurd (D7_ Z) h);exact ⟨_,Z,_,Z,u,p,dueL S (.yrs ss n),Z,hu,.inl (SqL.of hp),by show 2 <= 1000;decide,q⟩
abbrev JD:hZ:=top 88
abbrev TY:List fZ:=["_law_ground","_law_needs","_law_heats","_law_heavy","_law_cells","_law_kept","_law_balance","_law_snaps","_law_scale","_law_most","_law_deeds_here","_law_cell","_law_deed_here","_law_due"]
abbrev NQ:List fZ:=["_law_ground","_law_needs","_law_heats","_law_heavy","_law_cells"]
theorem AB:Zj TY NQ (Zd JD):=mk9
theorem heavy_at (z:Int):∃ m:Nat,atI [V.int 0,V.int 0,V.int 0,V.int 20] (z % 4)=some (.int (m:Int))/\m <= 20:=by
 have h3:=gM z (show (4:Int) ≠ 0 by decide);have h4:=gC z (show (0:Int) < 4 by decide);have h5:z % 4=0\/z % 4=1\/z % 4=2\/z % 4=3:=by lia
 rcases h5 with e | e | e | e <;> rw [e]
 ·exact ⟨0,Z,by decide⟩
 ·exact ⟨0,Z,by decide⟩
 ·exact ⟨0,Z,by decide⟩
 ·exact ⟨20,Z,by decide⟩
def OX (K:W.Frag) (G:fT):Sp:=λvs H Q _=>E8 λ(x pk ps pn ph pc:fT) (S0:Zq) (heavy:Int)=>E2 λ(cells:List Int) (W:List fT)=>vs=[.ref x,.ref pn,.ref ph,.int heavy,.ref pc]/\Yg G (λb=>b ∉ W) H x pk ps [] [S0]/\S0.Ok/\S0.found=0/\S0.taken=0/\S0.fQ.length <= 30/\H pn=some (.lst (S0.fQ.map V.int))/\H ph=some (.lst (S0.fR.map V.int))/\pn ≠ ph/\pn ∈ W/\ph ∈ W/\pk ∉ W/\ps ∉ W/\(∀ b ∈ W,∃ o,H b=some o)/\H pc=some (.lst (cells.map V.int))/\cells.length <= 63 /\
 ∀ (H':Hp) (l pq pb pz:fT) (ts us qs:List fT) (As:List Act),BR [pk,ps,pn,ph] H H'->H l=none->H pq=none->H pb=none->H pz=none->l ≠ pq->l ≠ pb->l ≠ pz->pq ≠ pb->pq ≠ pz->pb ≠ pz->H' l=some (.lst [.ref pq,.ref pb,.ref pz]) ->
  H' pn=some (.lst ((DR S0 As).fQ.map V.int))->H' ph=some (.lst ((DR S0 As).fR.map V.int))->H' pq=some (.lst (us.map V.ref))->H' pb=some (.lst [.int S0.fR.sum,.int (DR S0 As).found,.int (DR S0 As).taken])->H' pz=some (.lst (qs.map V.ref))->AQ H' us As->AQ H' ts As->(∀ A ∈ As,A.Fit)->As.length <= 20+cells.length->(DR S0 As).fQ.length <= S0.fQ.length+20 ->
  DI H' (λb=>b ∉ [pk,ps,pn,ph,pq,pb,pz]/\H b=none) qs S0.fR.sum (JP S0 As)->Yg G (λb=>b ∉ pq :: pb :: pz :: W) H' x pk ps (ts.map V.ref) (JP S0 As)->Q (.ref l) H'
theorem XV (F:Fun K "_law_history" "_law_history" JD f fd) (T:Txt K mg) (o_deed:Ok P w K mg base "_law_deed" ZU 4 fH) (o_done:Ok P w K mg base "_law_done" dO 3 (dX K)) (o_do:Ok P w K mg base "_law_do" P_do 10 (sp_do G)) (o_fits:Ok P w K mg base "_law_fits" cJ 3 (bP K)):Ym P w K mg base CX0 11 f fd NQ (OX K G):=by
  obtain ⟨x,pk,ps,pn,ph,pc,S0,heavy,cells,W,rfl,hG,hS0,f0,t0,h30,hN,hH,nnh,mW1,mW2,nW1,nW2,hW,hC,hcl,q⟩:=‹AB›
  refine ⟨_,(Zc (psn 5 AB.nd (Zx Jh)) (Zc (psn 6 AB.nd (Zx (pa3 (D0 (by rfl) T.n_sum (pv 2)) Za Za))) (Zc (psn 7 AB.nd (Zx (pa1 (Zx (pa3 (Jo T.n_list (pv 1)) (Jo T.n_list (pv 2)) (Jo T.n_list (pv 6))))))) (Zc (psn 8 AB.nd (D0 (by rfl) T.n_sum (pv 1))) (Zc (psn 9 AB.nd (Zh Zz (Zy T.n_len (pv 1)) Za)) (Zc (HQ (i:=10) Z AB.nd Z Z (Yi.of (T:=["_law_k"]) (js:=[]) (Zd JD).names TY Z Z Z D9_) (AY (by rfl) T.n_range (pa1 (pxl (Zx (Zo Za (pa3 Za Za Za))) (Zh Yn (pv 3) Za)))) (λ_ _ _ _=>⟨(Zw (i:=0) (by show List.Nodup (["_law_k"]:List fZ);decide +kernel) Z (Or.inl Z)),CS,(Jc (pa2 Zs (Zh Zz Za (Zh Yn (Zh DV (pv 0) Za) Za))))⟩)) (Zc (AO PassesOwn.never Z (BN (pv 4)) (Zw (i:=11) AB.nd Z (Or.inl Z)) (Ze (Zp (D2 gJ gH gI Yo (pv 10) (pa1 (Zg o_deed hr (pa2 (pv 11) (pv 8)))))))) (Zc (AO PassesOwn.never Z (BN (pv 10)) (Zw (i:=12) AB.nd Z (Or.inl Z)) (Zc (Yk (PW.pt (LA (pcr Jv (pxt (pv 12) Za) Zs) (HI (pcr Jv (Zy T.n_len (pv 1)) (pv 9))))) (Ze (psn 12 AB.nd (Jc (pa2 Zs (pxt (pv 12) Za))))) Zn) (Zc (psn 13 AB.nd (Zg o_done hr (Zo (pv 1) (pa3 (pv 2) (pv 6) (pv 12))))) (Zc (Yk (AZ (AG (Zg o_fits hr (pa3 (Zg o_do hr (pa2 (pv 0) (pv 12))) (pv 12) (pv 13))))) (Ze (Zi (Zx (pa3 (Zx Jh) (Zx Jh) (Zx Jh))))) Zn) (Zc (Zp (D2 gJ gH gI Yo (pv 5) (pa1 (pv 12)))) (Ze (Zp (D2 gJ gH gI Yo (pv 7) (pa1 (Zx (pa3 (Jo T.n_list (pv 1)) (Jo T.n_list (pv 2)) (Jo T.n_list (pv 6))))))))))))) (Ze (Zi (Zx (pa3 (pv 5) (pv 6) (pv 7))))))))))))),?_⟩
  try dsimp only [cK_,cL_]
  have hsum:=hS0.sum (by omega);have hlo:=hS0.lo;obtain ⟨dxg,dsg,hg1,hg2,hg3,_⟩:=id hG.ex;have nkk:=hG.ne;have nkn:pk ≠ pn:=λe=>nW1 (e ▸ mW1);have nkh:pk ≠ ph:=λe=>nW1 (e ▸ mW2);have nsn:ps ≠ pn:=λe=>nW2 (e ▸ mW1);have nsh:ps ≠ ph:=λe=>nW2 (e ▸ mW2);refine Yr λD1 hx=>?_;refine ⟨sz9,λpq fq=>?_⟩;have sA:=Same.upd (o:=.lst []) fq;have hAq:(upd H pq (.lst [])) pq=some (.lst []):=Zb;generalize upd H pq (.lst [])=HA at sA hAq ⊢;refine hx _ _ ?_;refine Yr λD1 hx=>?_;refine ⟨_,Z,ph,S0.fR,Z,SqL.of (sA _ _ hH),sz9,λpb fb=>?_⟩;have sB:=Same.upd (o:=.lst [.int S0.fR.sum,.int 0,.int 0]) fb;have hBb:(upd HA pb (.lst [.int S0.fR.sum,.int 0,.int 0])) pb=some (.lst [.int S0.fR.sum,.int 0,.int 0]):=Zb;generalize upd HA pb (.lst [.int S0.fR.sum,.int 0,.int 0])=HB at sB hBb ⊢;refine hx _ _ ?_;have sHB:=sA.trans sB;have nqb:pq ≠ pb:=Zf hAq fb;have hBq:=sB _ _ hAq;refine Yr λD1 hx=>?_;refine ⟨_,Z,pn,_,Z,.inl (SqL.of (sHB _ _ hN)),λc1 f1=>?_⟩;have s1:=Same.upd (o:=.lst (S0.fQ.map V.int)) f1;have h1:(upd HB c1 (.lst (S0.fQ.map V.int))) c1=some (.lst (S0.fQ.map V.int)):=Zb;generalize upd HB c1 (.lst (S0.fQ.map V.int))=H1 at s1 h1 ⊢;refine ⟨_,Z,ph,_,Z,.inl (SqL.of (s1 _ _ (sHB _ _ hH))),λc2 f2=>?_⟩;have s2:=Same.upd (o:=.lst (S0.fR.map V.int)) f2;have h2:(upd H1 c2 (.lst (S0.fR.map V.int))) c2=some (.lst (S0.fR.map V.int)):=Zb;generalize upd H1 c2 (.lst (S0.fR.map V.int))=H2 at s2 h2 ⊢;refine ⟨_,Z,pb,_,Z,.inl (SqL.of (s2 _ _ (s1 _ _ hBb))),λc3 f3=>?_⟩;have s3:=Same.upd (o:=.lst [.int S0.fR.sum,.int 0,.int 0]) f3;have h3:(upd H2 c3 (.lst [.int S0.fR.sum,.int 0,.int 0])) c3=some (.lst [.int S0.fR.sum,.int 0,.int 0]):=Zb;generalize upd H2 c3 (.lst [.int S0.fR.sum,.int 0,.int 0])=H3 at s3 h3 ⊢;refine ⟨sz9,λq0 fq0=>?_⟩;have s4:=Same.upd (o:=.lst [.ref c1,.ref c2,.ref c3]) fq0;have h4:(upd H3 q0 (.lst [.ref c1,.ref c2,.ref c3])) q0=some (.lst [.ref c1,.ref c2,.ref c3]):=Zb;generalize upd H3 q0 (.lst [.ref c1,.ref c2,.ref c3])=H4 at s4 h4 ⊢;refine ⟨sz9,λpz fz=>?_⟩;have s5:=Same.upd (o:=.lst [.ref q0]) fz;have h5z:(upd H4 pz (.lst [.ref q0])) pz=some (.lst [.ref q0]):=Zb;generalize upd H4 pz (.lst [.ref q0])=H5 at s5 h5z ⊢;refine hx _ _ ?_;have sB5:=(((s1.trans s2).trans s3).trans s4).trans s5;have s05:=sHB.trans sB5;have fc1:=f1;have fc2:=s1.free f2;have fc3:=s1.free (s2.free f3);have fcq:=s1.free (s2.free (s3.free fq0));have fcz:=s1.free (s2.free (s3.free (s4.free fz)));have nqz:pq ≠ pz:=Zf hBq fcz;have nbz:pb ≠ pz:=Zf hBb fcz;have h5c1:=s5 _ _ (s4 _ _ (s3 _ _ (s2 _ _ h1)));have h5c2:=s5 _ _ (s4 _ _ (s3 _ _ h2));have h5c3:=s5 _ _ (s4 _ _ h3);have h5q0:=s5 _ _ h4;have nz1:c1 ≠ pz:=Zf (s4 _ _ (s3 _ _ (s2 _ _ h1))) fz;have nz2:c2 ≠ pz:=Zf (s4 _ _ (s3 _ _ h2)) fz;have nz3:c3 ≠ pz:=Zf (s4 _ _ h3) fz;have nz4:q0 ≠ pz:=Zf h4 fz;have h5q:=sB5 _ _ hBq;have h5b:=sB5 _ _ hBb;have fq0':H pq=none:=fq;have fb0:H pb=none:=sA.free fb;have fz0:H pz=none:=sHB.free fcz;clear h1 h2 h3 h4 s1 s2 s3 s4 s5 f2 f3 fq0 fz sA sB hAq fb;refine Yr λD1 hx=>?_;refine ⟨_,Z,pn,S0.fQ,Z,SqL.of (s05 _ _ hN),?_⟩;refine hx _ _ ?_;refine Yr λD1 hx=>?_;refine ⟨_,Z,pn,_,Z,.inl (SqL.of (s05 _ _ hN)),_,_,Z,Z,?_⟩;refine hx _ _ ?_;obtain ⟨m,em,hm⟩:=heavy_at heavy;refine Yr λD1 hx=>?_;refine ⟨sz9,λp4 f4=>?_⟩;have s6:=Same.upd (o:=.lst [.int 0,.int 0,.int 0,.int 20]) f4;have h64:(upd H5 p4 (.lst [.int 0,.int 0,.int 0,.int 20])) p4=some (.lst [.int 0,.int 0,.int 0,.int 20]):=Zb;generalize upd H5 p4 (.lst [.int 0,.int 0,.int 0,.int 20])=H6 at s6 h64 ⊢;refine ⟨_,Z,_,_,Z,Z,(by show (0:Int) < 4;decide),p4,_,_,_,Z,Z,SqL.of h64,em,_,Z,by omega,by omega,λpd fd=>?_⟩;refine EI (n:=m) (λi σ H'=>(∃ v,σ=[v])/\Same H6 H'/\∃ (us:List fT) (As:List Act),As.length=i/\(∀ A ∈ As,A.Fit)/\H' pd=some (.lst (us.map V.ref))/\AQ H' us As) ?_ ?_ ?_
  ·exact ⟨⟨none,Z⟩,Same.upd fd,[],[],Z,by simp,Zb,AQ.nil _⟩
  ·rintro i σ H' hi ⟨⟨v,rfl⟩,s7,us,As,hAl,hAf,h7d,hA⟩;have e0:(0:Int)+(i:Int)=(i:Int):=by omega
   rw [e0];have b0:=gM ((i:Int) * 7) (show (9:Int) ≠ 0 by decide);have b1:=gC ((i:Int) * 7) (show (0:Int) < 9 by decide);refine DN ?_;refine ⟨_,Z,_,_,Z,Z,.inl ⟨by omega,by omega⟩,_,_,Z,Z,(by show (0:Int) < 9;decide),_,_,Z,Z,sz9,λu fu=>?_⟩;have h8d:=Same.upd (o:=.tup [.str "lay",.int (1+(i:Int) * 7 % 9)]) fu _ _ h7d;have hul:=hA.len;refine ⟨_,h8d,Js (by rw [fU];omega),⟨_,Z⟩,(s7.trans (Same.upd fu)).set fd,us ++ [u],As ++ [.lay (1+(i:Int) * 7 % 9)],by simp [hAl],λA hA'=>?_,?_,?_⟩
   ·rcases iM.mp hA' with h | h
    ·exact hAf A h
    ·obtain rfl:A = .lay (1+(i:Int) * 7 % 9):=by simpa using h
     exact ⟨by omega,by omega⟩
   ·rw [Zb,gO];rfl
   ·exact ((hA.same (Same.upd fu)).snoc (A:=.lay (1+(i:Int) * 7 % 9)) Zb).tup (CW h8d)
  rintro _ H7 ⟨_,s7,us0,As0,hAl0,hAf0,h7d,hA0⟩;refine hx _ _ ?_;refine Yr λD1 hx=>?_;refine ⟨_,Z,pc,Z,⟨_,SqL.of (s7 _ _ (s6 _ _ (s05 _ _ hC)))⟩,?_⟩;have s67:=s6.trans s7;have hul0:=hA0.len;have fd5:H5 pd=none:=s6.free fd;have fd0:H pd=none:=s05.free fd5;refine D9 (xs:=cells.map V.int) (λi σ H'=>E3 λ(v11:Option V) (us:List fT) (Bs:List Act)=>σ=[some (.ref x),some (.ref pn),some (.ref ph),some (.int heavy),some (.ref pc),some (.ref pq),some (.ref pb),some (.ref pz),some (.int S0.fQ.sum),some (.int (((S0.fQ.map V.int).length:Int)+20)),some (.ref pd),v11,none,none]/\Same H5 H'/\Bs.length=m+i/\(∀ A ∈ Bs,A.Fit)/\H' pd=some (.lst (us.map V.ref))/\AQ H' us Bs) ?_ ?_ ?_ ?_
  ·exact ⟨none,us0,As0,Z,s67,hAl0,hAf0,h7d,hA0⟩
  ·rintro i σ H' _ ⟨_,_,_,_,s8,_⟩;exact SqL.of (s8 _ _ (s05 _ _ hC))
  ·rintro i y σ H' hy ⟨v11,us,Bs,rfl,s8,hBl,hBf,h8d,hB⟩;obtain ⟨hil,rfl⟩:=BQ hy;have hul:=hB.len;refine ⟨_,Z,.inl ⟨Z,_,SqL.of h8d⟩,_,Z,_,Z,_,_,Z,hsum.1,by omega,λH9 t B s9 ft hF hA9=>?_⟩;have h9d:=s9 _ _ h8d;refine ⟨pd,_,_,Z,Z,h9d,Js (by rw [fU];omega),_,us ++ [t],Bs ++ [B],Z,(s8.trans s9).set fd5,by simp [hBl];omega,λA hA'=>?_,?_,?_⟩
   ·rcases iM.mp hA' with h | h
    ·exact hBf A h
    ·obtain rfl:A=B:=by simpa using h
     exact hF
   ·rw [Zb,gO];rfl
   ·exact ((hB.same s9).snoc hA9).tup (CW h9d)
  rintro _ H8 ⟨v11,dts,Bs,rfl,s8,hBl,hBf,h8d,hB8⟩;refine hx _ _ ?_;rw [fU] at hBl;have hdl:=hB8.len;clear s7 s6 s67 h64 h7d hA0 hAf0 hAl0 em f4 fd;have s08:=s05.trans s8;have sub4:∀ b,b ∉ [pk,ps,pn,ph,pq,pb,pz,pd]->b ∉ [pk,ps,pn,ph]:=λb h z=>h (jC [pq,pb,pz,pd] z);have ndq:pq ≠ pd:=Zf h5q fd5;have ndb:pb ≠ pd:=Zf h5b fd5;have ndz:pz ≠ pd:=Zf h5z fd5;have old':∀ b o,H b=some o->b ≠ pq/\b ≠ pb/\b ≠ pz/\b ≠ pd:=λb o e=>⟨Zf e fq0',Zf e fb0,Zf e fz0,Zf e fd0⟩;obtain ⟨okq,okb,okz,okd⟩:=old' _ _ hg2;obtain ⟨osq,osb,osz,osd⟩:=old' _ _ hg3;obtain ⟨onq,onb,onz,ond⟩:=old' _ _ hN;obtain ⟨ohq,ohb,ohz,ohd⟩:=old' _ _ hH;have old:∀ b o,H b=some o->b ∉ [pq,pb,pz,pd]:=λb o e=>nm (Zf e fq0') (nm (Zf e fb0) (nm (Zf e fz0) (nm (Zf e fd0) nm0)));clear old';refine Yr λD1 hx=>?_;refine ⟨_,Z,pd,Z,⟨_,SqL.of h8d⟩,?_⟩
  refine D9 (xs:=dts.map V.ref) (λi σ H'=>E7 λ(w11 v12 v13:Option V) (ts us qs:List fT) (As:List Act)=>σ=[some (.ref x),some (.ref pn),some (.ref ph),some (.int heavy),some (.ref pc),some (.ref pq),some (.ref pb),some (.ref pz),some (.int S0.fQ.sum),some (.int (((S0.fQ.map V.int).length:Int)+20)),some (.ref pd),w11,v12,v13]/\As.length=i/\(∀ A ∈ As,A.Fit)/\BR [pk,ps,pn,ph] H H'/\H' pn=some (.lst ((DR S0 As).fQ.map V.int))/\H' ph=some (.lst ((DR S0 As).fR.map V.int))/\H' pq=some (.lst (us.map V.ref))/\H' pb=some (.lst [.int S0.fR.sum,.int (DR S0 As).found,.int (DR S0 As).taken])/\H' pz=some (.lst (qs.map V.ref))/\H' pd=some (.lst (dts.map V.ref)) /\ AQ H' dts Bs/\AQ H' us As/\AQ H' ts As/\DI H' (λb=>b ∉ [pk,ps,pn,ph,pq,pb,pz,pd]/\H b=none) qs S0.fR.sum (JP S0 As)/\Yg G (λb=>b ∉ W/\b ∉ [pq,pb,pz,pd]) H' x pk ps (ts.map V.ref) (JP S0 As)/\(DR S0 As).fQ.length <= S0.fQ.length+20) ?_ ?_ ?_ ?_
  ·refine ⟨v11,none,none,[],[],[q0],[],Z,Z,by simp,s08.keepL _,s08 _ _ hN,s08 _ _ hH,s8 _ _ h5q,?_,s8 _ _ h5z,h8d,hB8,AQ.nil _,AQ.nil _,?_,?_,by show S0.fQ.length <= _;omega⟩
   ·show H8 pb=some (.lst [.int S0.fR.sum,.int S0.found,.int S0.taken]);rw [f0,t0];exact s8 _ _ h5b
   ·have fr:∀ c:fT,HB c=none->c ≠ pz->∀ o,H5 c=some o->c ∉ [pk,ps,pn,ph,pq,pb,pz,pd]/\H c=none:=λc fc nz o e=>⟨nm (nn (sHB _ _ hg2) fc) (nm (nn (sHB _ _ hg3) fc) (nm (nn (sHB _ _ hN) fc) (nm (nn (sHB _ _ hH) fc) (nm (nn hBq fc) (nm (nn hBb fc) (nm nz (nm (Zf e fd5) nm0))))))),sHB.free fc⟩;refine (DI.nil H8 _ S0.fR.sum).snoc (S:=S0) ⟨c1,c2,c3,s8 _ _ h5q0,s8 _ _ h5c1,s8 _ _ h5c2,?_,fr _ fcq nz4 _ h5q0,fr _ fc1 nz1 _ h5c1,fr _ fc2 nz2 _ h5c2,fr _ fc3 nz3 _ h5c3⟩;rw [f0,t0];exact s8 _ _ h5c3
   ·exact (hG.tight.same s08).weak λb ⟨e1,o,e2⟩=>⟨e1,old b o e2⟩
  ·rintro i σ H' _ ⟨_,_,_,_,_,_,_,_,_,_,_,_,_,_,_,_,h,_⟩;exact SqL.of h
  ·rintro i y σ H9 hy ⟨w11,v12,v13,ts,us,qs,As,rfl,hAl,hAf,k9,h9n,h9h,h9q,h9b,h9z,h9d,hB9,hU9,hT9,hZ9,X9,hlen⟩;obtain ⟨t,B,rfl,eB,hB⟩:=hB9.item hy;have hBF:=hBf B (i7 eB);have hiB:i < Bs.length:=(gK.mp eB).1;have hSk:=cI hS0 As hAf;obtain ⟨dx9,ds9,g91,g92,g93,_⟩:=id X9.ex;have hL8:∀ b ∈ [pk,ps,pn,ph,pq,pb,pz,pd],∃ xs,H9 b=some (.lst xs):=fa ⟨_,g92⟩ (fa ⟨_,g93⟩ (fa ⟨_,h9n⟩ (fa ⟨_,h9h⟩ (fa ⟨_,h9q⟩ (fa ⟨_,h9b⟩ (fa ⟨_,h9z⟩ (fa ⟨_,h9d⟩ fa0)))))));dsimp only [FV];refine E1 (λσ' H'=>E2 λ(t':fT) (A:Act)=>Same H9 H'/\FW H' t' A/\A.Fit/\(A.isLay=true->(DR S0 As).fQ.length < S0.fQ.length+20)/\σ' = [some (.ref x),some (.ref pn),some (.ref ph),some (.int heavy),some (.ref pc),some (.ref pq),some (.ref pb),some (.ref pz),some (.int S0.fQ.sum),some (.int (((S0.fQ.map V.int).length:Int)+20)),some (.ref pd),w11,some (.ref t'),v13]) (λnx hnx=>?_) ?_
   ·cases B with
    | sea z=>
     refine ⟨_,Z,t,_,_,_,Z,Z,SqT.of hB,Z,Z,_,Z,?_⟩;rw [QX];refine CV ?_;refine CV ?_;exact hnx _ _ ⟨t,.sea z,Same.refl _,hB,hBF,(by intro z;cases z),Z⟩
    | yrs ss n=>
     obtain ⟨u1,ts1,b1,b2,b3⟩:=id hB;refine ⟨_,Z,t,_,_,_,Z,Z,SqT.of b1,Z,Z,_,Z,?_⟩;refine Jl (λh=>absurd (V.str.inj (D8_ h)) D9_) (λ_=>?_);refine CV ?_;exact hnx _ _ ⟨t,.yrs ss n,Same.refl _,hB,hBF,(by intro z;cases z),Z⟩
    | lay mm=>
     have hB':H9 t=some (.tup [.str "lay",.int mm]):=hB;obtain ⟨b1,b2⟩:1 <= mm/\mm <= 200:=hBF;refine ⟨_,Z,t,_,_,_,Z,Z,SqT.of hB',Z,Z,_,Z,?_⟩;refine Jl (λ_=>?_) (λh=>absurd (D7_ Z) h);refine ⟨_,Z,pn,_,Z,.inl (SqL.of h9n),_,Z,Z,_,Z,?_⟩;refine Jl (λ_=>?_) (λhc=>?_)
     ·refine ⟨_,Z,t,_,_,_,Z,Z,SqT.of hB',Z,sz9,λt' ft'=>?_⟩;exact hnx _ _ ⟨t',.sea (true,mm),Same.upd ft',Zb,⟨by show 0 <= mm;omega,by show mm <= 1000000;omega⟩,(by intro z;cases z),Z⟩
     ·refine hnx _ _ ⟨t,.lay mm,Same.refl _,hB,⟨b1,b2⟩,λ_=>?_,Z⟩;have:¬ (((DR S0 As).fQ.map V.int).length:Int)=((S0.fQ.map V.int).length:Int)+20:=λe=>hc (D7_ (congrArg V.int e));rw [fU,fU] at this;omega
   rintro _ H10 ⟨t',A,s10,hA10,hAF,hlay,rfl⟩;have h10n:=s10 _ _ h9n;have h10h:=s10 _ _ h9h;have h10b:=s10 _ _ h9b;have h10q:=s10 _ _ h9q;have h10z:=s10 _ _ h9z;have h10d:=s10 _ _ h9d;have X10:=X9.same s10;refine Yr λD1 hx=>?_;refine ⟨_,Z,_,Z,_,Z,_,Z,pn,ph,pb,t',DR S0 As,S0.fR.sum,A,Z,h10n,h10h,h10b,hA10,hAF,nnh,onb,ohb,hSk.fR,hSk.lo,by omega,λH11 p k11 fp h11n h11h h11b h11p=>?_⟩;refine hx _ _ ?_;have l3:∀ b ∈ [pn,ph,pb],∃ xs,H10 b=some (.lst xs):=fa ⟨_,h10n⟩ (fa ⟨_,h10h⟩ (fa ⟨_,h10b⟩ fa0));have X11:=X10.keepL k11 l3 (nm nkn (nm nkh (nm okb nm0))) (nm nsn (nm nsh (nm osb nm0))) (fx (λe=>e.1 mW1) (fx (λe=>e.1 mW2) (fx (λe=>e.2 (mi 1)) fx0)));have kt11:=k11.tups l3;have hA11:=hA10.tup kt11;have h11q:=k11 _ _ (nm (Ne.symm onq) (nm (Ne.symm ohq) (nm nqb nm0))) h10q;have h11z:=k11 _ _ (nm (Ne.symm onz) (nm (Ne.symm ohz) (nm (Ne.symm nbz) nm0))) h10z;have h11d:=k11 _ _ (nm (Ne.symm ond) (nm (Ne.symm ohd) (nm (Ne.symm ndb) nm0))) h10d;obtain ⟨dx11,ds11,g1,g2,g3,_⟩:=id X11.ex;have fr11:∀ b,H11 b=none->H b=none:=λb e=>k9.free (fa ⟨_,g92⟩ (fa ⟨_,g93⟩ (fa ⟨_,h9n⟩ (fa ⟨_,h9h⟩ fa0)))) (s10.free (k11.free (fa ⟨_,h11n⟩ (fa ⟨_,h11h⟩ (fa ⟨_,h11b⟩ fa0))) e));have hok11:∀ b,H11 b=none->b ∉ W/\b ∉ [pq,pb,pz,pd]:=λb e=>⟨λz=>(let ⟨_,g⟩:=hW b z;nomatch (fr11 b e).symm.trans g),nm (nn h11q e) (nm (nn h11b e) (nm (nn h11z e) (nm (nn h11d e) nm0)))⟩;have hTl:=hT9.len;have hUl:=hU9.len;have hZl:=hZ9.len;rw [IT] at hZl;refine Yr λD1 hx=>?_;refine ⟨_,Z,_,Z,x,pk,ps,t',_,_,DR S0 As,S0,A,_,Z,X11,hok11,O4 S0 As,NM S0 As,by rw [fU];omega,by rw [IT];omega,hA11,hAF,hlay,hSk.fR,hSk.lo,by omega,λH12 v u k12 fu hu hv X12=>?_⟩;have h12:∀ b o,b ≠ pk->b ≠ ps->H11 b=some o->H12 b=some o:=k12;have kt12:=k12.tups g2 g3;have hA12:=hA11.tup kt12;have npk:=nn (s10 _ _ g92) fp;have nps:=nn (s10 _ _ g93) fp;refine ⟨_,Z,_,Z,v,t',p,DR S0 As,A,Z,hA12,hv,h12 _ _ npk nps h11p,_,Z,?_⟩;refine CV ?_;refine hx _ _ ?_;have h12n:=h12 _ _ (Ne.symm nkn) (Ne.symm nsn) h11n;have h12h:=h12 _ _ (Ne.symm nkh) (Ne.symm nsh) h11h;have h12b:=h12 _ _ (Ne.symm okb) (Ne.symm osb) h11b;have h12q:=h12 _ _ (Ne.symm okq) (Ne.symm osq) h11q;have h12z:=h12 _ _ (Ne.symm okz) (Ne.symm osz) h11z;have h12d:=h12 _ _ (Ne.symm okd) (Ne.symm osd) h11d;have eS:doS (DR S0 As) A=DR S0 (As ++ [A]):=(ND S0 As A).symm;rw [<- OM] at X12;rw [eS] at h12n h12h h12b;refine Yr λD1 hx=>?_;refine ⟨_,Z,.inl ⟨Z,_,SqL.of h12q⟩,_,Z,pq,_,_,Z,Z,h12q,Js (by rw [fU];omega),?_⟩;have k13:BR [pq] H12 (upd H12 pq (.lst (us.map V.ref ++ [.ref t']))):=DP (mi 0);have h13q:(upd H12 pq (.lst (us.map V.ref ++ [.ref t']))) pq=some (.lst ((us ++ [t']).map V.ref)):=by rw [Zb,gO];rfl
   have kt13:=CW (o:=.lst (us.map V.ref ++ [.ref t'])) h12q;generalize upd H12 pq (.lst (us.map V.ref ++ [.ref t']))=H13 at k13 h13q kt13 ⊢;refine hx _ _ ?_;have X13:=X12.keepL k13 (fa ⟨_,h12q⟩ fa0) (nm okq nm0) (nm osq nm0) (fx (λe=>e.2 (mi 0)) fx0);have h13n:=k13 _ _ (nm onq nm0) h12n;have h13h:=k13 _ _ (nm ohq nm0) h12h;have h13b:=k13 _ _ (nm (Ne.symm nqb) nm0) h12b;have h13z:=k13 _ _ (nm (Ne.symm nqz) nm0) h12z;have h13d:=k13 _ _ (nm (Ne.symm ndq) nm0) h12d;refine ⟨_,Z,.inl ⟨Z,_,SqL.of h13z⟩,_,Z,pn,_,Z,.inl (SqL.of h13n),λd1 e1=>?_⟩;have u1:=Same.upd (o:=.lst ((DR S0 (As ++ [A])).fQ.map V.int)) e1;have j1:(upd H13 d1 (.lst ((DR S0 (As ++ [A])).fQ.map V.int))) d1=some (.lst ((DR S0 (As ++ [A])).fQ.map V.int)):=Zb;generalize upd H13 d1 (.lst ((DR S0 (As ++ [A])).fQ.map V.int))=J1 at u1 j1 ⊢;refine ⟨_,Z,ph,_,Z,.inl (SqL.of (u1 _ _ h13h)),λd2 e2=>?_⟩;have u2:=Same.upd (o:=.lst ((DR S0 (As ++ [A])).fR.map V.int)) e2;have j2:(upd J1 d2 (.lst ((DR S0 (As ++ [A])).fR.map V.int))) d2=some (.lst ((DR S0 (As ++ [A])).fR.map V.int)):=Zb;generalize upd J1 d2 (.lst ((DR S0 (As ++ [A])).fR.map V.int))=J2 at u2 j2 ⊢;refine ⟨_,Z,pb,_,Z,.inl (SqL.of (u2 _ _ (u1 _ _ h13b))),λd3 e3=>?_⟩;have u3:=Same.upd (o:=.lst [.int S0.fR.sum,.int (DR S0 (As ++ [A])).found,.int (DR S0 (As ++ [A])).taken]) e3;have j3:(upd J2 d3 (.lst [.int S0.fR.sum,.int (DR S0 (As ++ [A])).found,.int (DR S0 (As ++ [A])).taken])) d3=some (.lst [.int S0.fR.sum,.int (DR S0 (As ++ [A])).found,.int (DR S0 (As ++ [A])).taken]):=Zb;generalize upd J2 d3 (.lst [.int S0.fR.sum,.int (DR S0 (As ++ [A])).found,.int (DR S0 (As ++ [A])).taken])=J3 at u3 j3 ⊢;refine ⟨sz9,λd4 e4=>?_⟩;have u4:=Same.upd (o:=.lst [.ref d1,.ref d2,.ref d3]) e4;have j4:(upd J3 d4 (.lst [.ref d1,.ref d2,.ref d3])) d4=some (.lst [.ref d1,.ref d2,.ref d3]):=Zb;generalize upd J3 d4 (.lst [.ref d1,.ref d2,.ref d3])=J4 at u4 j4 ⊢;have uu:=((u1.trans u2).trans u3).trans u4;have j4z:=uu _ _ h13z;refine ⟨pz,_,_,Z,Z,j4z,Js (by rw [fU];omega),?_⟩;have k14:BR [pz] J4 (upd J4 pz (.lst (qs.map V.ref ++ [.ref d4]))):=DP (mi 0);have h14z:(upd J4 pz (.lst (qs.map V.ref ++ [.ref d4]))) pz=some (.lst ((qs ++ [d4]).map V.ref)):=by rw [Zb,gO];rfl
   have kt14:=CW (o:=.lst (qs.map V.ref ++ [.ref d4])) j4z;generalize upd J4 pz (.lst (qs.map V.ref ++ [.ref d4]))=H14 at k14 h14z kt14 ⊢;have X14:=(X13.same uu).keepL k14 (fa ⟨_,j4z⟩ fa0) (nm okz nm0) (nm osz nm0) (fx (λe=>e.2 (mi 2)) fx0);have kk4:BR [pk,ps,pn,ph,pq,pb,pz,pd] H9 H13:=(((s10.keepL _).trans (k11.mono (fa (mi 2) (fa (mi 3) (fa (mi 5) fa0))))).trans (k12.keepL.mono (fa (mi 0) (fa (mi 1) fa0)))).trans (k13.mono (fa (mi 4) fa0));have kk:BR [pk,ps,pn,ph,pq,pb,pz,pd] H9 H14:=(kk4.trans (uu.keepL _)).trans (k14.mono (fa (mi 6) fa0));have ktt:KN H9 H14:=kk.tups hL8;have fr13:∀ c:fT,H13 c=none->∀ o,J4 c=some o->c ∉ [pk,ps,pn,ph,pq,pb,pz,pd]/\H c=none:=λc fc o ej=>by
    obtain ⟨dx13,ds13,y1,y2,y3,_⟩:=id X13.ex;have nc:c ∉ [pk,ps,pn,ph,pq,pb,pz,pd]:=nm (nn y2 fc) (nm (nn y3 fc) (nm (nn h13n fc) (nm (nn h13h fc) (nm (nn h13q fc) (nm (nn h13b fc) (nm (nn h13z fc) (nm (nn h13d fc) nm0)))))));exact ⟨nc,nof λo' zc=>nomatch fc.symm.trans (kk4 _ _ nc (k9 _ _ (sub4 _ nc) zc))⟩
   have fd1:=fr13 _ e1;have fd2:=fr13 _ (u1.free e2);have fd3:=fr13 _ (u1.free (u2.free e3));have fd4:=fr13 _ (u1.free (u2.free (u3.free e4)));have j41:=u4 _ _ (u3 _ _ (u2 _ _ j1));have j42:=u4 _ _ (u3 _ _ j2);have j43:=u4 _ _ j3;have nz':∀ c:fT,c ∉ [pk,ps,pn,ph,pq,pb,pz,pd]->c ∉ [pz]:=λc h=>nm (na 6 h) nm0;refine ⟨_,_,_,ts ++ [u],us ++ [t'],qs ++ [d4],As ++ [A],Z,by simp [hAl],λA' hA'=>?_,λb o nb e=>?_,k14 _ _ (nm onz nm0) (uu _ _ h13n),k14 _ _ (nm ohz nm0) (uu _ _ h13h),k14 _ _ (nm nqz nm0) (uu _ _ h13q),k14 _ _ (nm nbz nm0) (uu _ _ h13b),h14z,k14 _ _ (nm (Ne.symm ndz) nm0) (uu _ _ h13d),hB9.tup ktt,(hU9.tup ktt).snoc (hA12.tup (kt13.trans (uu.keepT.trans kt14))),(hT9.tup ktt).snoc (hu.tup (kt13.trans (uu.keepT.trans kt14))),?_,by rw [gO];exact X14,?_⟩
   ·rcases iM.mp hA' with h | h
    ·exact hAf A' h
    ·obtain rfl:A' = A:=by simpa using h
     exact hAF
   ·exact kk b o (nm (na 0 nb) (nm (na 1 nb) (nm (na 2 nb) (nm (na 3 nb) (old b o e))))) (k9 b o nb e)
   ·rw [OM,eS];exact (hZ9.keep (λb o hb e=>kk b o hb.1 e) (λb hb=>hb)).snoc ⟨d1,d2,d3,k14 _ _ (nz' _ (fd4 _ j4).1) j4,k14 _ _ (nz' _ (fd1 _ j41).1) j41,k14 _ _ (nz' _ (fd2 _ j42).1) j42,k14 _ _ (nz' _ (fd3 _ j43).1) j43,fd4 _ j4,fd1 _ j41,fd2 _ j42,fd3 _ j43⟩
   ·rw [<- eS,do_len];split
    ·rename_i hl;have:=hlay hl;omega
    ·omega
  ·rintro _ H9 ⟨w11,v12,v13,ts,us,qs,As,rfl,hAl,hAf,k9,h9n,h9h,h9q,h9b,h9z,h9d,hB9,hU9,hT9,hZ9,X9,hlen⟩;refine hx _ _ ?_;rw [fU] at hAl;obtain ⟨dx9,ds9,g91,g92,g93,_⟩:=id X9.ex;refine ⟨_,Z,_,Z,_,Z,sz9,λl fl=>?_⟩;have sl:=Same.upd (o:=.lst [.ref pq,.ref pb,.ref pz]) fl;have fl0:H l=none:=k9.free (fa ⟨_,g92⟩ (fa ⟨_,g93⟩ (fa ⟨_,h9n⟩ (fa ⟨_,h9h⟩ fa0)))) fl;refine q _ l pq pb pz ts us qs As (k9.trans (sl.keepL _)) fl0 fq0' fb0 fz0 (Ne.symm (Zf h9q fl)) (Ne.symm (Zf h9b fl)) (Ne.symm (Zf h9z fl)) nqb nqz nbz Zb (sl _ _ h9n) (sl _ _ h9h) (sl _ _ h9q) (sl _ _ h9b) (sl _ _ h9z) (hU9.same sl) (hT9.same sl) hAf (by omega) hlen ?_ ?_
   ·exact hZ9.keep (λb o _ e=>sl b o e) λb hb=>⟨λz=>hb.1 (jC [pd] z),hb.2⟩
   ·exact (X9.same sl).weak λb hb=>nm (na 0 hb.2) (nm (na 1 hb.2) (nm (na 2 hb.2) hb.1))
abbrev MN:hZ:=top 89
abbrev aY:List fZ:=["_law_call"]
abbrev N9:List fZ:=["_law_call"]
theorem Y1:Zj aY N9 (Zd MN):=mk9
def OV (P:gL) (w:gX) (K:W.Frag) (mg:fZ->Option fV) (base:iC):Sp:=λvs H Q _=>∃ (f:fT),vs=[.ref f]/\CL P w K mg base H f/\∀ H',Same H H'->Q (.bl true) H'
theorem ZC (F:Fun K "_law_answers" "_law_answers" MN f fd) (T:Txt K mg):Ym P w K mg base (CX1 P w) 15 f fd N9 (OV P w K mg base):=by
 refine F.okX Y1 (λvs H Q E h=>?_) (λcdv A outer s H vs Q E hr h=>?_)
 ·obtain ⟨f,rfl,_⟩:=h;rfl
 ·obtain ⟨f,rfl,⟨name,qual,params,body,scope,Jm,pm,cv,ctv,sp,hf,FO,hb,hrun⟩,q⟩:=h
  refine ⟨_,(Zc (ps_tryA (i:=0) Z (Or.inl Z) hr) (Ze (Zi BO))),?_⟩
  try dsimp only [cK_,cL_]
  exact ⟨_,Z,f,name,qual,params,body,scope,Jm,pm,cv,ctv,sp,Z,hf,FO,hb,hrun _ _ _ (Same.refl _) λv H1 s1=>q _ s1⟩
abbrev PV:hZ:=top 90
abbrev N_beyond:List fZ:=["_law_cell","_law_most"]
abbrev PX:List fZ:=["_law_cell","_law_most"]
theorem cK:Zj N_beyond PX (Zd PV):=mk9
def RO:Sp:=λvs H Q _=>E2 λ(cell most:Int)=>vs=[.int cell,.int most]/\0 <= most/\∀ (z:Int) (H':Hp),Same H H'->¬ (1 <= z/\z <= most)->Q (.int z) H'
theorem ZK (r c most:Int) (h0:0 <= most):∃ m:Int,atI [V.int 0,V.int (-1),V.int (most+1),V.int (most+1+r % 10 ^ 30),V.int (-1 - r % 10 ^ 30)] (c % 5)=some (.int m)/\¬ (1 <= m/\m <= most):=by
 have h3:=gM c (show (5:Int) ≠ 0 by decide);have h4:=gC c (show (0:Int) < 5 by decide);have a3:=gM r (show (10 ^ 30:Int) ≠ 0 by decide);have h5:c % 5=0\/c % 5=1\/c % 5=2\/c % 5=3\/c % 5=4:=by lia
 rcases h5 with e | e | e | e | e <;> rw [e]
 ·exact ⟨_,Z,by lia⟩
 ·exact ⟨_,Z,by lia⟩
 ·exact ⟨_,Z,by lia⟩
 ·exact ⟨_,Z,by lia⟩
 ·exact ⟨_,Z,by lia⟩
theorem cG (F:Fun K "_law_beyond" "_law_beyond" PV f fd) (T:Txt K mg):Ym P w K mg base CX0 1 f fd PX RO:=by
  obtain ⟨cell,most,rfl,h0,q⟩:=‹cK›;refine ⟨_,(Ze (Zi (pxl (Zx (Zo Za (Zo (KK EQ Za) (pa3 (Zh Zz (pv 1) Za) (Zh Zz (Zh Zz (pv 1) Za) (Zh Yn (Zh Jk (pv 0) Za) (Zh FT Za Za))) (Zh Yj (KK EQ Za) (Zh Yn (Zh Jk (pv 0) Za) (Zh FT Za Za))))))) (Zh Yn (pv 0) Za)))),?_⟩
  try dsimp only [cK_,cL_]
  obtain ⟨z,ez,hz⟩:=ZK (cell / 5) cell most h0;refine ⟨_,Z,_,Z,_,_,Z,Z,_,Z,_,_,Z,Z,_,Z,_,_,Z,Z,⟨by decide,by decide⟩,_,_,Z,Z,⟨by decide,by decide,by decide⟩,_,_,Z,Z,(by show (0:Int) < 10 ^ 30;decide),_,_,Z,Z,_,Z,_,Z,_,_,Z,Z,⟨by decide,by decide⟩,_,_,Z,Z,⟨by decide,by decide,by decide⟩,_,_,Z,Z,(by show (0:Int) < 10 ^ 30;decide),_,_,Z,Z,sz9,λp f=>?_⟩;exact ⟨_,Z,_,_,Z,Z,(by show (0:Int) < 5;decide),p,_,_,_,Z,Z,SqL.of Zb,ez,q z _ (Same.upd f) hz⟩
abbrev QH:hZ:=top 91
abbrev N_faulty:List fZ:=["_law_cell","_law_many","_law_amounts","_law_scale","_law_year","_law_far","_law_place"]
abbrev R4:List fZ:=["_law_cell","_law_many","_law_amounts","_law_scale"]
theorem IZ:Zj N_faulty R4 (Zd QH):=mk9
def RV:Sp:=λvs H Q _=>E4 λ(cell amounts scale:Int) (many:Nat)=>vs=[.int cell,.int (many:Int),.int amounts,.int scale]/\many <= 100/\1 <= scale/\scale <= 999999 /\
 ∀ (H':Hp) (p:fT) (ts:List fT) (ss:List (Bool × Int)),Same H H'->H p=none->H' p=some (.lst (ts.map V.ref))->Zu H' ts ss->ss.length=many->(cell=1/\0 < many->¬ ∀ z ∈ ss.take 60,Yl z.2)->(¬ (cell=1/\0 < many)->∀ z ∈ ss,Yl z.2)->Q (.ref p) H'
theorem bad_at (c far:Int) (hf:0 <= far):∃ m:Int,atI [V.int (-1),V.int 1000001,V.int (-1 - far),V.int (1000001+far)] (c % 4)=some (.int m)/\¬ Yl m:=by
 have h1:=gM c (show (4:Int) ≠ 0 by decide);have h2:=gC c (show (0:Int) < 4 by decide);have h5:c % 4=0\/c % 4=1\/c % 4=2\/c % 4=3:=by lia
 rcases h5 with e | e | e | e <;> rw [e]
 ·exact ⟨_,Z,by unfold Yl;lia⟩
 ·exact ⟨_,Z,by unfold Yl;lia⟩
 ·exact ⟨_,Z,by unfold Yl;lia⟩
 ·exact ⟨_,Z,by unfold Yl;lia⟩
theorem Zu.set {H:Hp} {ts:List fT} {ss:List (Bool × Int)} (S:Zu H ts ss) {k:Nat} {t:fT} {z:Bool × Int} (hk:k < ss.length) (ht:H t=some (.tup [.str (AX z.1),.int z.2])):Zu H (ts.set k t) (ss.set k z):=by
 refine ⟨by rw [kE,kE,S.len],λj y e=>?_⟩;have hl:=S.len;by_cases h:k=j
 ·subst h;rw [iX hk] at e;cases e;exact ⟨t,by rw [iX (by lia)],ht⟩
 ·rw [jD h] at e;obtain ⟨u,e1,e2⟩:=S.at' j y e;exact ⟨u,by rw [jD h];exact e1,e2⟩
theorem aF (F:Fun K "_law_faulty" "_law_faulty" QH f fd) (T:Txt K mg) (o_seasons:Ok P w K mg base "_law_seasons" IS 3 K3):Ym P w K mg base CX0 4 f fd R4 RV:=by
  obtain ⟨cell,amounts,scale,many,rfl,hm,h1,h2,q⟩:=‹IZ›
  refine ⟨_,(Zc (psn 4 IZ.nd (Zg o_seasons hr (pa3 (Zh Jk (pv 2) Za) (pv 1) (pv 3)))) (Zc (Yk (PW.pt (LA (pcr Jv (pv 0) Za) (HI (pcr CM (pv 1) Za)))) (Zc (psn 5 IZ.nd (Zh Yn (Zh Jk (pv 2) Za) (Zh FT Za Za))) (Zc (psn 6 IZ.nd (Zh Yn (Zh Jk (pv 2) Za) (O6 (by rfl) T.n_min (pv 1) Za))) (Ze (EK (Jc (pa2 (pxt (pxl (pv 4) (pv 6)) Za) (pxl (Zx (Zo (KK EQ Za) (pa3 Za (Zh Yj (KK EQ Za) (pv 5)) (Zh Zz Za (pv 5))))) (Zh Yn (pv 2) Za)))) (FP (pv 4) (pv 6) BU))))) Zn) (Ze (Zi (pv 4))))),?_⟩
  try dsimp only [cK_,cL_]
  refine Yr λD1 hx=>?_;refine ⟨_,Z,_,_,Z,Z,⟨by decide,by decide⟩,_,Z,_,Z,_,_,many,Z,by omega,h1,h2,λH1 p ts ss s1 fp hl hz hp hS=>?_⟩;refine hx _ _ ?_
  try dsimp only [FV]
  refine E1 (λσ' H'=>E4 λ(ts':List fT) (ss':List (Bool × Int)) (v5 v6:Option V)=>σ' = [some (.int cell),some (.int (many:Int)),some (.int amounts),some (.int scale),some (.ref p),v5,v6]/\Same H H'/\H' p=some (.lst (ts'.map V.ref))/\Zu H' ts' ss'/\ss'.length=many/\(cell=1/\0 < many->¬ ∀ z ∈ ss'.take 60,Yl z.2)/\(¬ (cell=1/\0 < many)->∀ z ∈ ss',Yl z.2)) (λnx hnx=>?_) ?_
  ·have plain:¬ (cell=1/\0 < many)->nx _ _:=λno=>hnx _ _ ⟨ts,ss,none,none,Z,s1,hp,hS,hl,λh=>absurd h no,λ_=>hz⟩;refine ⟨_,Z,Z,_,Z,?_⟩;refine Jl (λhc=>?_) (λhc=>plain λh=>hc (D7_ (congrArg V.int h.1)));have hc:cell=1:=V.int.inj (D8_ hc);refine ⟨_,Z,_,_,Z,Z,_,Z,?_⟩;refine Jl (λh0=>?_) (λh0=>plain λh=>h0 (D7_ (show (0:Int) < (many:Int) by omega)));have h0:(0:Int) < (many:Int):=D8_ h0;refine Yr λD3 hz3=>?_;refine ⟨_,Z,_,_,Z,Z,⟨by decide,by decide⟩,_,_,Z,Z,⟨by decide,by decide,by decide⟩,_,_,Z,Z,(by show (0:Int) < 10 ^ 30;decide),?_⟩;refine hz3 _ _ ?_;have far0:0 <= amounts / 4 % 10 ^ ((30:Int).toNat):=gM _ (by decide);obtain ⟨bad,ebad,hbad⟩:=bad_at amounts _ far0;have hmin:(0:Int) < (if (60:Int) < (many:Int) then 60 else (many:Int)):=by split <;> omega
   refine Yr λD3 hz3=>?_;refine ⟨_,Z,_,_,Z,Z,⟨by decide,by decide⟩,_,Z,_,_,Z,_,_,Z,Z,hmin,?_⟩;refine hz3 _ _ ?_;obtain ⟨k,ek,hk,hk60⟩:∃ k:Nat,amounts / 4 % (if (60:Int) < (many:Int) then 60 else (many:Int))=(k:Int)/\k < many/\k < 60:=by
    have hmm:(if (60:Int) < (many:Int) then 60 else (many:Int)) <= (many:Int)/\(if (60:Int) < (many:Int) then 60 else (many:Int)) <= 60:=by split <;> omega
    generalize (if (60:Int) < (many:Int) then 60 else (many:Int))=mn at hmin hmm ⊢;have r1:=gM (amounts / 4) (Int.ne_of_gt hmin);have r2:=gC (amounts / 4) hmin;generalize amounts / 4 % mn=rr at r1 r2 ⊢;exact ⟨rr.toNat,by omega,by omega,by omega⟩
   try dsimp only
   rw [ek];have hlt:=hS.len;obtain ⟨t,et,ht⟩:=hS.at' k ss[k] (fX (by omega));have atk:atI (ts.map V.ref) (k:Int)=some (.ref t):=AT (j:=k) (by rw [gE,et];rfl);refine ⟨_,Z,_,Z,p,_,_,_,Z,Z,SqL.of hp,atk,t,_,_,_,Z,Z,SqT.of ht,Z,_,Z,_,Z,_,Z,_,_,Z,Z,_,Z,_,_,Z,Z,sz9,λp0 f0=>⟨_,Z,_,_,Z,Z,(by show (0:Int) < 4;decide),p0,_,_,_,Z,Z,SqL.of Zb,ebad,?_⟩⟩;have w0:=Same.upd (o:=.lst [V.int (-1),V.int 1000001,V.int (-1 - amounts / 4 % 10 ^ ((30:Int).toNat)),V.int (1000001+amounts / 4 % 10 ^ ((30:Int).toNat))]) f0;refine ⟨sz9,λt2 ft2=>?_⟩;have w2:=w0.trans (Same.upd (o:=.tup [.str (AX ss[k].1),.int bad]) ft2);have h2t:(upd (upd H1 p0 (.lst [V.int (-1),V.int 1000001,V.int (-1 - amounts / 4 % 10 ^ ((30:Int).toNat)),V.int (1000001+amounts / 4 % 10 ^ ((30:Int).toNat))])) t2 (.tup [.str (AX ss[k].1),.int bad])) t2=some (.tup [.str (AX ss[k].1),.int bad]):=Zb;refine ⟨_,Z,_,Z,p,_,_,k,Z,Z,w2 _ _ hp,KC (k:=k) (by rw [fU];omega),?_⟩;have h2p:=w2 _ _ hp;have hS2:=hS.same w2;have s12:=s1.trans w2;generalize upd (upd H1 p0 _) t2 _=H2 at h2t h2p hS2 s12 ⊢;have kt:=CW (o:=.lst ((ts.map V.ref).set k (.ref t2))) h2p;have hS3:=(hS2.set (k:=k) (t:=t2) (z:=(ss[k].1,bad)) (by omega) h2t).tup kt;refine hnx _ _ ⟨ts.set k t2,ss.set k (ss[k].1,bad),_,_,Z,s12.set fp,by rw [Zb,lJ],hS3,by rw [kE];exact hl,λ_ all=>hbad (all (ss[k].1,bad) (i7 (i:=k) (by rw [jQ hk60,iX (by omega)]))),λno=>absurd ⟨hc,by omega⟩ no⟩
  rintro _ H2 ⟨ts',ss',v5,v6,rfl,s2,h2p,hS2,hl2,q1,q2⟩;exact ⟨_,Z,q _ p ts' ss' s2 fp h2p hS2 hl2 q1 q2⟩
abbrev Yb:hZ:=top 92
abbrev UH:List fZ:=["_law_ground","_law_bed","_law_deed_here","_law_year","_law_times","_law_spot","_law_calls"]
abbrev EU:List fZ:=["_law_ground","_law_bed","_law_deed_here","_law_year","_law_times","_law_spot"]
theorem LB:Zj UH EU (Zd Yb):=mk9
structure WO (ws:List Bool) (S:Zq) (nk:Nat) (ss:List (Bool × Int)) (b dn m y u:Int):Prop where
 t0:ws.getD 0 false=true->¬ (1 <= b/\b <= (S.fQ.length:Int))
 f0:ws.getD 0 false=false->1 <= b/\b <= (S.fQ.length:Int)
 t1:ws.getD 1 false=true->¬ (0 <= dn/\dn <= (nk:Int))
 f1:ws.getD 1 false=false->0 <= dn/\dn <= (nk:Int)
 t5:ws.getD 5 false=true->¬ (1 <= ss.length/\ss.length <= 12)
 f5:ws.getD 5 false=false->1 <= ss.length/\ss.length <= 12
 t6:ws.getD 6 false=true->¬ ∀ z ∈ ss.take 60,Yl z.2
 f6:ws.getD 6 false=false->∀ z ∈ ss,Yl z.2
 t7:ws.getD 7 false=true->¬ (1 <= m/\m <= 1000000000000000000)
 f7:ws.getD 7 false=false->1 <= m/\m <= 1000000000000000000
 t8:ws.getD 8 false=true->¬ (1 <= y/\y <= 1000000000000000000/\1 <= u/\u <= (ss.length:Int))
 f8:ws.getD 8 false=false->1 <= ss.length->1 <= y/\y <= 1000000000000000000/\1 <= u/\u <= (ss.length:Int)
theorem WO.bad6 {ws:List Bool} {S:Zq} {nk:Nat} {ss:List (Bool × Int)} {b dn m y u:Int} (F:WO ws S nk ss b dn m y u) (h:ws.getD 6 false=true):¬ ∀ z ∈ ss,Yl z.2:=λall=>F.t6 h λz hz=>all z (jM hz)
def SR:List (List Nat):=[[0,6],[0,5,6,7],[0,5,6],[0],[0],[0],[0],[5,6],[5,6,8],[1]]
def FX (P:gL) (w:gX) (K:W.Frag) (mg:fZ->Option fV) (base:iC) (G CT:fT) (C:Nat->fT) (PT:fT):Sp:=λvs H Q _=>E8 λ(x py pl:fT) (b dn m y u:Int)=>E6 λ(kept:List V) (Ss:List Zq) (S:Zq) (ts:List fT) (ss:List (Bool × Int)) (ws:List Bool)=>vs=[.ref x,.int b,.int dn,.ref py,.int m,.ref pl]/\Ya G H x kept Ss/\Ss.getLast? = some S/\kept.length+1=Ss.length/\kept.length <= 1000/\NY S.fQ S.fR/\(∀ i,0 <= down S.fQ i)/\H py=some (.lst (ts.map V.ref))/\Zu H ts ss/\ss.length <= 100/\H pl=some (.lst [.int y,.int u])/\WO ws S kept.length ss b dn m y u/\BC PT ((("_law_questions":fZ) ++ ".<locals>.") ++ "<lambda>") H /\
 ∀ (H':Hp) (pc:fT) (fs:List fT),LH PT H H'->BC PT ((("_law_questions":fZ) ++ ".<locals>.") ++ "<lambda>") H'->H' pc=some (.lst (fs.map V.ref))->fs.length=10->(∀ (k:Nat) (g:fT) (d:List Nat),fs[k]? = some g->SR[k]? = some d->(IK ws d=[]->CL P w K mg base H' g)/\(∀ j r,IK ws d=j :: r->Jf P w K mg base C H' g j/\BW K CT C j))->Q (.ref pc) H'
theorem RX (F:Fun K "_law_questions" "_law_questions" Yb f fd) (T:Txt K mg) (TG:DF K mg G) {c PT CT:fT} {C:Nat->fT} (XE:Errs mg CT C) (R0:BW K CT C 0) (R1:BW K CT C 1) (R5:BW K CT C 5) (R6:BW K CT C 6) (R7:BW K CT C 7) (R8:BW K CT C 8) (hcode:fd.code = .ref c) (hC:W.CodeHd base c PT) (hB:base.BuiltinsAt mg PT)
  (om_need:OkM P w K mg base G "need" DY 2 (JW G)) (om_heat:OkM P w K mg base G "heat" DX 2 (IH G)) (om_down_to:OkM P w K mg base G "down_to" CN 3 (GB G)) (om_q24:OkM P w K mg base G "is_thawed" K2 3 (QW G)) (om_rule:OkM P w K mg base G "rule" JJ 4 (UE K G)) (om_q17:OkM P w K mg base G "years_rule" ML 5 (XC K G)) (om_q3:OkM P w K mg base G "first_thawed" SW 7 (aZ K G)) (om_q20:OkM P w K mg base G "rest_year" NJ 6 (XD K G)) (om_coming:OkM P w K mg base G "coming" EF 8 (N3 K G)) (om_q6:OkM P w K mg base G "heats_behind" TQ 2 (fD G))
  (om_needX:O1 P w K mg base G "need" DY 2 (ER G mg 0)) (om_heatX:O1 P w K mg base G "heat" DX 2 (ER G mg 0)) (om_down_toX:O1 P w K mg base G "down_to" CN 3 (ER G mg 0)) (om_q24X:O1 P w K mg base G "is_thawed" K2 3 (ER G mg 0)) (om_ruleX:O1 P w K mg base G "rule" JJ 4 (OD K G mg)) (om_q17X:O1 P w K mg base G "years_rule" ML 5 (SY K G mg)) (om_q3X:O1 P w K mg base G "first_thawed" SW 7 (WG K G mg)) (om_q20X:O1 P w K mg base G "rest_year" NJ 6 (S9 K G mg)) (om_comingX:O1 P w K mg base G "coming" EF 8 (KP K G mg)) (om_q6X:O1 P w K mg base G "heats_behind" TQ 2 (WS G mg)):Ym P w K mg base (CX1 P w) 16 f fd EU (FX P w K mg base G CT C PT):=by
 refine F.okR LB D9_ (λvs H Q E h=>?_) (λA outer s H vs Q E hr h=>?_)
 ·obtain ⟨x,py,pl,b,dn,m,y,u,kept,Ss,S,ts,ss,ws,rfl,_⟩:=h;rfl
 ·obtain ⟨x,py,pl,b,dn,m,y,u,kept,Ss,S,ts,ss,ws,rfl,hG,hl,hkl,hk,B,hdn,hpy,hS,hss,hpl,FA,hT0,q⟩:=h;have hBl:=B.len;have hBhi:=B.hi
  refine ⟨_,(AU (psn 6 LB.nd (Zx (pa1 (C6 (c:=c) (P:=PT) (Zd Yb).names Z Z D9_ hcode hC hB)))) (AU (Zp (D2 gJ gH gI Yo (pv 6) (pa1 (C6 (c:=c) (P:=PT) (Zd Yb).names Z Z D9_ hcode hC hB)))) (AU (Zp (D2 gJ gH gI Yo (pv 6) (pa1 (C6 (c:=c) (P:=PT) (Zd Yb).names Z Z D9_ hcode hC hB)))) (AU (Zp (D2 gJ gH gI Yo (pv 6) (pa1 (C6 (c:=c) (P:=PT) (Zd Yb).names Z Z D9_ hcode hC hB)))) (AU (Zp (D2 gJ gH gI Yo (pv 6) (pa1 (C6 (c:=c) (P:=PT) (Zd Yb).names Z Z D9_ hcode hC hB)))) (AU (Zp (D2 gJ gH gI Yo (pv 6) (pa1 (C6 (c:=c) (P:=PT) (Zd Yb).names Z Z D9_ hcode hC hB)))) (AU (Zp (D2 gJ gH gI Yo (pv 6) (pa1 (C6 (c:=c) (P:=PT) (Zd Yb).names Z Z D9_ hcode hC hB)))) (AU (Zp (D2 gJ gH gI Yo (pv 6) (pa1 (C6 (c:=c) (P:=PT) (Zd Yb).names Z Z D9_ hcode hC hB)))) (AU (Zp (D2 gJ gH gI Yo (pv 6) (pa1 (C6 (c:=c) (P:=PT) (Zd Yb).names Z Z D9_ hcode hC hB)))) (AU (Zp (D2 gJ gH gI Yo (pv 6) (pa1 (C6 (c:=c) (P:=PT) (Zd Yb).names Z Z D9_ hcode hC hB)))) (bM (pv 6)))))))))))),?_⟩
  try dsimp only [cK_,cL_]
  refine CB λD1 hx=>tAsg_i (OZ hT0 λf1 pc G1 fpc s1 hp1 hT1 L1=>hx _ _ ?_);refine CB λD1 hx=>Jw (fs:=[f1]) hT1 fpc s1 hp1 L1 Z Z λf2 G2 s2 hp2 hT2 L2=>hx _ _ ?_;refine CB λD1 hx=>Jw (fs:=([f1] ++ [f2])) hT2 fpc s2 hp2 L2 Z Z λf3 G3 s3 hp3 hT3 L3=>hx _ _ ?_;refine CB λD1 hx=>Jw (fs:=(([f1] ++ [f2]) ++ [f3])) hT3 fpc s3 hp3 L3 Z Z λf4 G4 s4 hp4 hT4 L4=>hx _ _ ?_;refine CB λD1 hx=>Jw (fs:=((([f1] ++ [f2]) ++ [f3]) ++ [f4])) hT4 fpc s4 hp4 L4 Z Z λf5 G5 s5 hp5 hT5 L5=>hx _ _ ?_;refine CB λD1 hx=>Jw (fs:=(((([f1] ++ [f2]) ++ [f3]) ++ [f4]) ++ [f5])) hT5 fpc s5 hp5 L5 Z Z λf6 G6 s6 hp6 hT6 L6=>hx _ _ ?_;refine CB λD1 hx=>Jw (fs:=((((([f1] ++ [f2]) ++ [f3]) ++ [f4]) ++ [f5]) ++ [f6])) hT6 fpc s6 hp6 L6 Z Z λf7 G7 s7 hp7 hT7 L7=>hx _ _ ?_;refine CB λD1 hx=>Jw (fs:=(((((([f1] ++ [f2]) ++ [f3]) ++ [f4]) ++ [f5]) ++ [f6]) ++ [f7])) hT7 fpc s7 hp7 L7 Z Z λf8 G8 s8 hp8 hT8 L8=>hx _ _ ?_;refine CB λD1 hx=>Jw (fs:=((((((([f1] ++ [f2]) ++ [f3]) ++ [f4]) ++ [f5]) ++ [f6]) ++ [f7]) ++ [f8])) hT8 fpc s8 hp8 L8 Z Z λf9 G9 s9 hp9 hT9 L9=>hx _ _ ?_;refine CB λD1 hx=>Jw (fs:=(((((((([f1] ++ [f2]) ++ [f3]) ++ [f4]) ++ [f5]) ++ [f6]) ++ [f7]) ++ [f8]) ++ [f9])) hT9 fpc s9 hp9 L9 Z Z λf10 G10 s10 hp10 hT10 L10=>hx _ _ ?_;have sT10:FY H G10:=s10.sameT hT0;generalize hes:((((((((([f1] ++ [f2]) ++ [f3]) ++ [f4]) ++ [f5]) ++ [f6]) ++ [f7]) ++ [f8]) ++ [f9]) ++ [f10])=fs at hp10 L10;have hfl:fs.length=10:=by rw [<- hes];rfl
  clear L1 hp1 hT1 L2 hp2 hT2 L3 hp3 hT3 L4 hp4 hT4 L5 hp5 hT5 L6 hp6 hT6 L7 hp7 hT7 L8 hp8 hT8 L9 hp9 hT9 s1 s2 s3 s4 s5 s6 s7 s8 s9;have hG10:Ya G G10 x kept Ss:=hG.sameT sT10;obtain ⟨dx,pk,ps,ds,gx,_⟩:=id hG10.ex;have h10y:=sT10.lst hpy;have h10p:=sT10.lst hpl;have hS10:Zu G10 ts ss:=hS.tup λt xs e=>sT10 _ _ (λ_ z=>by cases z) e;have gn:∀ {m:fZ},(m == ("kept":fZ))=false->(m == ("stages":fZ))=false->(gF pk ps).lookup m=none:=gF_no _ _;refine ⟨_,Z,λcs CA=>?_⟩;have hcc:=IW CA.un;have thr:∀ {nm:fZ} {j:Nat} {E':XK} {Hn:Hp},mg nm=some (.ref (C j))->(∀ (H1:Hp) (xa:fT),Same Hn H1->H1 xa=none->E' (.ref (C j)) (some xa) H1)->Thr mg nm E' Hn:=λ{nm j E' Hn} hg hE C' xa H' hm s hx=>by
   have:=hg.symm.trans hm;cases this;exact hE H' xa s hx
  have ye:∀ {E':XK} {Hn:Hp} {j:Nat},(j=5/\ws.getD 5 false=true)\/(j=6/\ws.getD 5 false=false/\ws.getD 6 false=true)->(∀ (H1:Hp) (xa:fT),Same Hn H1->H1 xa=none->E' (.ref (C j)) (some xa) H1)->(¬ (1 <= ss.length/\ss.length <= 12)->Thr mg "BadYear" E' Hn)/\(1 <= ss.length/\ss.length <= 12->¬ (∀ z ∈ ss,Yl z.2)->Thr mg "BadAmount" E' Hn)/\¬ ((1 <= ss.length/\ss.length <= 12)/\∀ z ∈ ss,Yl z.2):=λ{E' Hn j} hj hE=>by
   rcases hj with ⟨rfl,e⟩ | ⟨rfl,e,e'⟩
   ·exact ⟨λ_=>thr XE.g5 hE,λl=>absurd l (FA.t5 e),λl=>absurd l.1 (FA.t5 e)⟩
   ·exact ⟨λb=>absurd (FA.f5 e) b,λ_ _=>thr XE.g6 hE,λl=>absurd l.2 (FA.bad6 e')⟩
  have yg:∀ {E':XK} {Hn:Hp},ws.getD 5 false=false->ws.getD 6 false=false->(¬ (1 <= ss.length/\ss.length <= 12)->Thr mg "BadYear" E' Hn)/\(1 <= ss.length/\ss.length <= 12->¬ (∀ z ∈ ss,Yl z.2)->Thr mg "BadAmount" E' Hn):=λ{E' Hn} e e'=>⟨λb=>absurd (FA.f5 e) b,λ_ b=>absurd (FA.f6 e') b⟩;refine q _ pc fs (λb o no e=>hcc _ _ (s10 b o no e)) (hT10.same hcc) (hcc _ _ hp10) hfl λk g d eg ed=>?_
  match k,ed with
  | 0,ed=>
    cases ed;obtain ⟨f',ef,LI⟩:=L10.2 0 _ Z;rw [eg] at ef;cases ef;have mk:=BK (P:=P) (w:=w) (K:=K) (mg:=mg) (base:=base) (C:=C) (N:=["_law_ground","_law_bed","_law_year"]) (σ:=[some (.ref x),some (.int b),some (.ref py)]) (outer:=(Zd Yb).names) LI CA (λ_ _ _ _=>bn0 Z) (cvS ⟨by decide +kernel,CA.val 0 _ _ Z Z Z⟩ (cvS ⟨by decide +kernel,CA.val 1 _ _ Z Z Z⟩ (cvS ⟨by decide +kernel,CA.val 3 _ _ Z Z Z⟩ cv0)));have ref0:ws.getD 0 false=true->Jf P w K mg base C (AL cs G10) g 0:=λt0=>by
     refine mk.1 0 λc' A2 out2 s8' H0 Q' E' hr2 s0 hE=>⟨_,Ys om_ruleX TG.cl hr2 (Je Z (Heap.get?_none_of_le (gA _))) (pv 0) (pa2 (pv 1) (Jz BJ (pv 2) BY (B7 Za))),?_⟩;refine ⟨_,Z,x,dx,_,Z,s0 _ _ gx,gn D9_ D9_,_,Z,_,Z,_,Z,py,_,Z,SqL.of (s0 _ _ h10y),λl fl=>?_⟩;have sl:=Same.upd (o:=.lst (DD (ts.map V.ref) none (some 60))) fl;have el:(upd H0 l (.lst (DD (ts.map V.ref) none (some 60)))) l=some (.lst ((ts.take 60).map V.ref)):=by rw [Zb,show (60:Int)=((60:Nat):Int) from rfl,GH,kQ]
     exact ⟨x,kept,Ss,S,l,ts.take 60,ss.take 60,b,Z,(hG10.same s0).same sl,hl,hBl,by lia,hdn,SqL.of el,(hS10.same (s0.trans sl)).take 60,by rw [iH];lia,λ_=>(thr XE.g0 hE).same sl,λz=>absurd z (FA.t0 t0)⟩
    have ref6:ws.getD 0 false=false->ws.getD 6 false=true->Jf P w K mg base C (AL cs G10) g 6:=λn0 t6=>by
     refine mk.1 6 λc' A2 out2 s8' H0 Q' E' hr2 s0 hE=>⟨_,Ys om_ruleX TG.cl hr2 (Je Z (Heap.get?_none_of_le (gA _))) (pv 0) (pa2 (pv 1) (Jz BJ (pv 2) BY (B7 Za))),?_⟩;refine ⟨_,Z,x,dx,_,Z,s0 _ _ gx,gn D9_ D9_,_,Z,_,Z,_,Z,py,_,Z,SqL.of (s0 _ _ h10y),λl fl=>?_⟩;have sl:=Same.upd (o:=.lst (DD (ts.map V.ref) none (some 60))) fl;have el:(upd H0 l (.lst (DD (ts.map V.ref) none (some 60)))) l=some (.lst ((ts.take 60).map V.ref)):=by rw [Zb,show (60:Int)=((60:Nat):Int) from rfl,GH,kQ]
     exact ⟨x,kept,Ss,S,l,ts.take 60,ss.take 60,b,Z,(hG10.same s0).same sl,hl,hBl,by lia,hdn,SqL.of el,(hS10.same (s0.trans sl)).take 60,by rw [iH];lia,λz=>absurd (FA.f0 n0) z,λ_=>⟨FA.t6 t6,(thr XE.g6 hE).same sl⟩⟩
    have answ:ws.getD 0 false=false->ws.getD 6 false=false->CL P w K mg base (AL cs G10) g:=λn0 n6=>by
     obtain ⟨b',rfl,hb'⟩:∃ b':Nat,b=(b':Int)+1/\b' < S.fQ.length:=⟨(b - 1).toNat,by have:=FA.f0 n0;lia,by have:=FA.f0 n0;lia⟩;refine mk.2 λc' A2 out2 s8' H0 Q' E' hr2 s0 hE=>⟨_,Yp om_rule TG.cl hr2 (pv 0) (pa2 (pv 1) (Jz BJ (pv 2) BY (B7 Za))),?_⟩;refine ⟨_,Z,x,dx,_,Z,s0 _ _ gx,gn D9_ D9_,_,Z,_,Z,_,Z,py,_,Z,SqL.of (s0 _ _ h10y),λl fl=>?_⟩;have sl:=Same.upd (o:=.lst (DD (ts.map V.ref) none (some 60))) fl;have el:(upd H0 l (.lst (DD (ts.map V.ref) none (some 60)))) l=some (.lst ((ts.take 60).map V.ref)):=by rw [Zb,show (60:Int)=((60:Nat):Int) from rfl,GH,kQ]
     exact ⟨x,l,kept,Ss,S,b',ts.take 60,ss.take 60,Z,(hG10.same s0).same sl,hl,hb',by lia,hdn _,SqL.of el,(hS10.same (s0.trans sl)).take 60,λz hz=>FA.f6 n6 z (jM hz),by rw [iH];lia,λH' r s _ _=>hE (.ref r) _ (sl.trans s)⟩
    exact Ye (λt0=>⟨ref0 t0,R0⟩) λn0=>Ye (λt6=>⟨ref6 n0 t6,R6⟩) λn6=>Jy (answ n0 n6)
  | 1,ed=>
    cases ed;obtain ⟨f',ef,LI⟩:=L10.2 1 _ Z;rw [eg] at ef;cases ef;have mk:=BK (P:=P) (w:=w) (K:=K) (mg:=mg) (base:=base) (C:=C) (N:=["_law_ground","_law_bed","_law_year","_law_times"]) (σ:=[some (.ref x),some (.int b),some (.ref py),some (.int m)]) (outer:=(Zd Yb).names) LI CA (λ_ _ _ _=>bn0 Z) (cvS ⟨by decide +kernel,CA.val 0 _ _ Z Z Z⟩ (cvS ⟨by decide +kernel,CA.val 1 _ _ Z Z Z⟩ (cvS ⟨by decide +kernel,CA.val 3 _ _ Z Z Z⟩ (cvS ⟨by decide +kernel,CA.val 4 _ _ Z Z Z⟩ cv0))));have ref0:ws.getD 0 false=true->Jf P w K mg base C (AL cs G10) g 0:=λt0=>mk.1 0 λc' A2 out2 s8' H0 Q' E' hr2 s0 hE=>⟨_,Ys om_q17X TG.cl hr2 (Je Z (Heap.get?_none_of_le (gA _))) (pv 0) (pa3 (pv 1) (pv 2) (pv 3)),⟨_,Z,x,dx,_,Z,s0 _ _ gx,gn D9_ D9_,_,Z,_,Z,_,Z,x,kept,Ss,S,py,ts,ss,b,m,Z,(hG10.same s0),hl,hBl,by lia,hdn,λ_=>thr XE.g0 hE,λz=>absurd z (FA.t0 t0)⟩⟩;have ref7:ws.getD 0 false=false->ws.getD 5 false=false->ws.getD 6 false=false->ws.getD 7 false=true->Jf P w K mg base C (AL cs G10) g 7:=λn0 n5 n6 t7=>mk.1 7 λc' A2 out2 s8' H0 Q' E' hr2 s0 hE=>⟨_,Ys om_q17X TG.cl hr2 (Je Z (Heap.get?_none_of_le (gA _))) (pv 0) (pa3 (pv 1) (pv 2) (pv 3)),⟨_,Z,x,dx,_,Z,s0 _ _ gx,gn D9_ D9_,_,Z,_,Z,_,Z,x,kept,Ss,S,py,ts,ss,b,m,Z,(hG10.same s0),hl,hBl,by lia,hdn,λz=>absurd (FA.f0 n0) z,λ_=>⟨⟨SqL.of (s0 _ _ h10y),hS10.same s0,(yg n5 n6).1,(yg n5 n6).2⟩,λ_ _=>⟨FA.t7 t7,thr XE.g7 hE⟩⟩⟩⟩;have ref:∀ j:Nat,(j=5/\ws.getD 5 false=true)\/(j=6/\ws.getD 5 false=false/\ws.getD 6 false=true)->ws.getD 0 false=false->Jf P w K mg base C (AL cs G10) g j:=λj hj n0=>mk.1 j λc' A2 out2 s8' H0 Q' E' hr2 s0 hE=>⟨_,Ys om_q17X TG.cl hr2 (Je Z (Heap.get?_none_of_le (gA _))) (pv 0) (pa3 (pv 1) (pv 2) (pv 3)),⟨_,Z,x,dx,_,Z,s0 _ _ gx,gn D9_ D9_,_,Z,_,Z,_,Z,x,kept,Ss,S,py,ts,ss,b,m,Z,(hG10.same s0),hl,hBl,by lia,hdn,λz=>absurd (FA.f0 n0) z,λ_=>⟨⟨SqL.of (s0 _ _ h10y),hS10.same s0,(ye hj hE).1,(ye hj hE).2.1⟩,λl g=>absurd ⟨l,g⟩ (ye hj hE).2.2⟩⟩⟩;have answ:ws.getD 0 false=false->ws.getD 5 false=false->ws.getD 6 false=false->ws.getD 7 false=false->CL P w K mg base (AL cs G10) g:=λn0 n5 n6 n7=>by
     obtain ⟨b',rfl,hb'⟩:∃ b':Nat,b=(b':Int)+1/\b' < S.fQ.length:=⟨(b - 1).toNat,by have:=FA.f0 n0;lia,by have:=FA.f0 n0;lia⟩;obtain ⟨m',rfl,hm'⟩:∃ m':Nat,m=(m':Int)+1/\(m':Int)+1 <= 1000000000000000000:=⟨(m - 1).toNat,by have:=FA.f7 n7;lia,by have:=FA.f7 n7;lia⟩;exact mk.2 λc' A2 out2 s8' H0 Q' E' hr2 s0 hE=>⟨_,Yp om_q17 TG.cl hr2 (pv 0) (pa3 (pv 1) (pv 2) (pv 3)),⟨_,Z,x,dx,_,Z,s0 _ _ gx,gn D9_ D9_,_,Z,_,Z,_,Z,x,py,kept,Ss,S,b',ts,ss,m',Z,(hG10.same s0),hl,hb',by lia,hdn _,SqL.of (s0 _ _ h10y),hS10.same s0,FA.f6 n6,(FA.f5 n5).1,(FA.f5 n5).2,hm',λH' r s _=>hE (.ref r) _ s⟩⟩
    exact Ye (λt0=>⟨ref0 t0,R0⟩) λn0=>Ye (λt5=>⟨ref 5 (.inl ⟨Z,t5⟩) n0,R5⟩) λn5=>Ye (λt6=>⟨ref 6 (.inr ⟨Z,n5,t6⟩) n0,R6⟩) λn6=>Ye (λt7=>⟨ref7 n0 n5 n6 t7,R7⟩) λn7=>Jy (answ n0 n5 n6 n7)
  | 2,ed=>
    cases ed;obtain ⟨f',ef,LI⟩:=L10.2 2 _ Z;rw [eg] at ef;cases ef;have mk:=BK (P:=P) (w:=w) (K:=K) (mg:=mg) (base:=base) (C:=C) (N:=["_law_ground","_law_bed","_law_year"]) (σ:=[some (.ref x),some (.int b),some (.ref py)]) (outer:=(Zd Yb).names) LI CA (λ_ _ _ _=>bn0 Z) (cvS ⟨by decide +kernel,CA.val 0 _ _ Z Z Z⟩ (cvS ⟨by decide +kernel,CA.val 1 _ _ Z Z Z⟩ (cvS ⟨by decide +kernel,CA.val 3 _ _ Z Z Z⟩ cv0)));have ref0:ws.getD 0 false=true->Jf P w K mg base C (AL cs G10) g 0:=λt0=>mk.1 0 λc' A2 out2 s8' H0 Q' E' hr2 s0 hE=>⟨_,Ys om_q3X TG.cl hr2 (Je Z (Heap.get?_none_of_le (gA _))) (pv 0) (pa2 (pv 1) (pv 2)),⟨_,Z,x,dx,_,Z,s0 _ _ gx,gn D9_ D9_,_,Z,_,Z,x,kept,Ss,S,py,ts,ss,b,Z,(hG10.same s0),hl,hBl,by lia,λ_=>thr XE.g0 hE,λz=>absurd z (FA.t0 t0)⟩⟩;have ref:∀ j:Nat,(j=5/\ws.getD 5 false=true)\/(j=6/\ws.getD 5 false=false/\ws.getD 6 false=true)->ws.getD 0 false=false->Jf P w K mg base C (AL cs G10) g j:=λj hj n0=>mk.1 j λc' A2 out2 s8' H0 Q' E' hr2 s0 hE=>⟨_,Ys om_q3X TG.cl hr2 (Je Z (Heap.get?_none_of_le (gA _))) (pv 0) (pa2 (pv 1) (pv 2)),⟨_,Z,x,dx,_,Z,s0 _ _ gx,gn D9_ D9_,_,Z,_,Z,x,kept,Ss,S,py,ts,ss,b,Z,(hG10.same s0),hl,hBl,by lia,λz=>absurd (FA.f0 n0) z,λ_=>⟨⟨SqL.of (s0 _ _ h10y),hS10.same s0,(ye hj hE).1,(ye hj hE).2.1⟩,(ye hj hE).2.2⟩⟩⟩;have answ:ws.getD 0 false=false->ws.getD 5 false=false->ws.getD 6 false=false->CL P w K mg base (AL cs G10) g:=λn0 n5 n6=>by
     obtain ⟨b',rfl,hb'⟩:∃ b':Nat,b=(b':Int)+1/\b' < S.fQ.length:=⟨(b - 1).toNat,by have:=FA.f0 n0;lia,by have:=FA.f0 n0;lia⟩;exact mk.2 λc' A2 out2 s8' H0 Q' E' hr2 s0 hE=>⟨_,Yp om_q3 TG.cl hr2 (pv 0) (pa2 (pv 1) (pv 2)),⟨_,Z,x,dx,_,Z,s0 _ _ gx,gn D9_ D9_,_,Z,_,Z,x,py,kept,Ss,S,b',ts,ss,Z,(hG10.same s0),hl,SqL.of (s0 _ _ h10y),hS10.same s0,B,FA.f6 n6,(FA.f5 n5).1,(FA.f5 n5).2,hb',λH' t _ _ _ s _ _ _=>hE (.ref t) _ s⟩⟩
    exact Ye (λt0=>⟨ref0 t0,R0⟩) λn0=>Ye (λt5=>⟨ref 5 (.inl ⟨Z,t5⟩) n0,R5⟩) λn5=>Ye (λt6=>⟨ref 6 (.inr ⟨Z,n5,t6⟩) n0,R6⟩) λn6=>Jy (answ n0 n5 n6)
  | 3,ed=>
    cases ed;obtain ⟨f',ef,LI⟩:=L10.2 3 _ Z;rw [eg] at ef;cases ef;have mk:=BK (P:=P) (w:=w) (K:=K) (mg:=mg) (base:=base) (C:=C) (N:=["_law_ground","_law_bed"]) (σ:=[some (.ref x),some (.int b)]) (outer:=(Zd Yb).names) LI CA (λ_ _ _ _=>bn0 Z) (cvS ⟨by decide +kernel,CA.val 0 _ _ Z Z Z⟩ (cvS ⟨by decide +kernel,CA.val 1 _ _ Z Z Z⟩ cv0));have ref0:ws.getD 0 false=true->Jf P w K mg base C (AL cs G10) g 0:=λt0=>mk.1 0 λc' A2 out2 s8' H0 Q' E' hr2 s0 hE=>⟨_,Ys om_needX TG.cl hr2 (Je Z (Heap.get?_none_of_le (gA _))) (pv 0) (pa1 (pv 1)),⟨_,Z,x,dx,_,Z,s0 _ _ gx,gn D9_ D9_,_,Z,x,b,[],kept,Ss,S,Z,Z,(hG10.same s0),hl,hBl,by lia,FA.t0 t0,λC' xa hm hx=>thr XE.g0 hE C' xa H0 hm (Same.refl _) hx⟩⟩;have answ:ws.getD 0 false=false->CL P w K mg base (AL cs G10) g:=λn0=>by
     obtain ⟨b',rfl,hb'⟩:∃ b':Nat,b=(b':Int)+1/\b' < S.fQ.length:=⟨(b - 1).toNat,by have:=FA.f0 n0;lia,by have:=FA.f0 n0;lia⟩;exact mk.2 λc' A2 out2 s8' H0 Q' E' hr2 s0 hE=>⟨_,Yp om_need TG.cl hr2 (pv 0) (pa1 (pv 1)),⟨_,Z,x,dx,_,Z,s0 _ _ gx,gn D9_ D9_,_,Z,x,kept,Ss,S,b',Z,(hG10.same s0),hl,hb',hE _ _ (Same.refl _)⟩⟩
    exact Ye (λt0=>⟨ref0 t0,R0⟩) λn0=>Jy (answ n0)
  | 4,ed=>
    cases ed;obtain ⟨f',ef,LI⟩:=L10.2 4 _ Z;rw [eg] at ef;cases ef;have mk:=BK (P:=P) (w:=w) (K:=K) (mg:=mg) (base:=base) (C:=C) (N:=["_law_ground","_law_bed"]) (σ:=[some (.ref x),some (.int b)]) (outer:=(Zd Yb).names) LI CA (λ_ _ _ _=>bn0 Z) (cvS ⟨by decide +kernel,CA.val 0 _ _ Z Z Z⟩ (cvS ⟨by decide +kernel,CA.val 1 _ _ Z Z Z⟩ cv0));have ref0:ws.getD 0 false=true->Jf P w K mg base C (AL cs G10) g 0:=λt0=>mk.1 0 λc' A2 out2 s8' H0 Q' E' hr2 s0 hE=>⟨_,Ys om_heatX TG.cl hr2 (Je Z (Heap.get?_none_of_le (gA _))) (pv 0) (pa1 (pv 1)),⟨_,Z,x,dx,_,Z,s0 _ _ gx,gn D9_ D9_,_,Z,x,b,[],kept,Ss,S,Z,Z,(hG10.same s0),hl,hBl,by lia,FA.t0 t0,λC' xa hm hx=>thr XE.g0 hE C' xa H0 hm (Same.refl _) hx⟩⟩;have answ:ws.getD 0 false=false->CL P w K mg base (AL cs G10) g:=λn0=>by
     obtain ⟨b',rfl,hb'⟩:∃ b':Nat,b=(b':Int)+1/\b' < S.fQ.length:=⟨(b - 1).toNat,by have:=FA.f0 n0;lia,by have:=FA.f0 n0;lia⟩;exact mk.2 λc' A2 out2 s8' H0 Q' E' hr2 s0 hE=>⟨_,Yp om_heat TG.cl hr2 (pv 0) (pa1 (pv 1)),⟨_,Z,x,dx,_,Z,s0 _ _ gx,gn D9_ D9_,_,Z,x,kept,Ss,S,b',Z,(hG10.same s0),hl,by lia,hE _ _ (Same.refl _)⟩⟩
    exact Ye (λt0=>⟨ref0 t0,R0⟩) λn0=>Jy (answ n0)
  | 5,ed=>
    cases ed;obtain ⟨f',ef,LI⟩:=L10.2 5 _ Z;rw [eg] at ef;cases ef;have mk:=BK (P:=P) (w:=w) (K:=K) (mg:=mg) (base:=base) (C:=C) (N:=["_law_ground","_law_bed"]) (σ:=[some (.ref x),some (.int b)]) (outer:=(Zd Yb).names) LI CA (λ_ _ _ _=>bn0 Z) (cvS ⟨by decide +kernel,CA.val 0 _ _ Z Z Z⟩ (cvS ⟨by decide +kernel,CA.val 1 _ _ Z Z Z⟩ cv0));have ref0:ws.getD 0 false=true->Jf P w K mg base C (AL cs G10) g 0:=λt0=>mk.1 0 λc' A2 out2 s8' H0 Q' E' hr2 s0 hE=>⟨_,Ys om_down_toX TG.cl hr2 (Je Z (Heap.get?_none_of_le (gA _))) (pv 0) (pa1 (pv 1)),⟨_,Z,x,dx,_,Z,s0 _ _ gx,gn D9_ D9_,_,Z,x,b,[],kept,Ss,S,Z,Z,(hG10.same s0),hl,hBl,by lia,FA.t0 t0,λC' xa hm hx=>thr XE.g0 hE C' xa H0 hm (Same.refl _) hx⟩⟩;have answ:ws.getD 0 false=false->CL P w K mg base (AL cs G10) g:=λn0=>by
     obtain ⟨b',rfl,hb'⟩:∃ b':Nat,b=(b':Int)+1/\b' < S.fQ.length:=⟨(b - 1).toNat,by have:=FA.f0 n0;lia,by have:=FA.f0 n0;lia⟩;exact mk.2 λc' A2 out2 s8' H0 Q' E' hr2 s0 hE=>⟨_,Yp om_down_to TG.cl hr2 (pv 0) (pa1 (pv 1)),⟨_,Z,x,dx,_,Z,s0 _ _ gx,gn D9_ D9_,_,Z,x,kept,Ss,S,b',Z,(hG10.same s0),hl,by lia,by lia,λH' s=>hE _ _ s⟩⟩
    exact Ye (λt0=>⟨ref0 t0,R0⟩) λn0=>Jy (answ n0)
  | 6,ed=>
    cases ed;obtain ⟨f',ef,LI⟩:=L10.2 6 _ Z;rw [eg] at ef;cases ef;have mk:=BK (P:=P) (w:=w) (K:=K) (mg:=mg) (base:=base) (C:=C) (N:=["_law_ground","_law_bed"]) (σ:=[some (.ref x),some (.int b)]) (outer:=(Zd Yb).names) LI CA (λ_ _ _ _=>bn0 Z) (cvS ⟨by decide +kernel,CA.val 0 _ _ Z Z Z⟩ (cvS ⟨by decide +kernel,CA.val 1 _ _ Z Z Z⟩ cv0));have ref0:ws.getD 0 false=true->Jf P w K mg base C (AL cs G10) g 0:=λt0=>mk.1 0 λc' A2 out2 s8' H0 Q' E' hr2 s0 hE=>⟨_,Ys om_q24X TG.cl hr2 (Je Z (Heap.get?_none_of_le (gA _))) (pv 0) (pa1 (pv 1)),⟨_,Z,x,dx,_,Z,s0 _ _ gx,gn D9_ D9_,_,Z,x,b,[],kept,Ss,S,Z,Z,(hG10.same s0),hl,hBl,by lia,FA.t0 t0,λC' xa hm hx=>thr XE.g0 hE C' xa H0 hm (Same.refl _) hx⟩⟩;have answ:ws.getD 0 false=false->CL P w K mg base (AL cs G10) g:=λn0=>by
     obtain ⟨b',rfl,hb'⟩:∃ b':Nat,b=(b':Int)+1/\b' < S.fQ.length:=⟨(b - 1).toNat,by have:=FA.f0 n0;lia,by have:=FA.f0 n0;lia⟩;exact mk.2 λc' A2 out2 s8' H0 Q' E' hr2 s0 hE=>⟨_,Yp om_q24 TG.cl hr2 (pv 0) (pa1 (pv 1)),⟨_,Z,x,dx,_,Z,s0 _ _ gx,gn D9_ D9_,_,Z,x,kept,Ss,S,b',Z,(hG10.same s0),hl,hb',hBl,hE _ _ (Same.refl _)⟩⟩
    exact Ye (λt0=>⟨ref0 t0,R0⟩) λn0=>Jy (answ n0)
  | 7,ed=>
    cases ed;obtain ⟨f',ef,LI⟩:=L10.2 7 _ Z;rw [eg] at ef;cases ef;have mk:=BK (P:=P) (w:=w) (K:=K) (mg:=mg) (base:=base) (C:=C) (N:=["_law_ground","_law_year"]) (σ:=[some (.ref x),some (.ref py)]) (outer:=(Zd Yb).names) LI CA (λ_ _ _ _=>bn0 Z) (cvS ⟨by decide +kernel,CA.val 0 _ _ Z Z Z⟩ (cvS ⟨by decide +kernel,CA.val 3 _ _ Z Z Z⟩ cv0));have ref:∀ j:Nat,(j=5/\ws.getD 5 false=true)\/(j=6/\ws.getD 5 false=false/\ws.getD 6 false=true)->Jf P w K mg base C (AL cs G10) g j:=λj hj=>mk.1 j λc' A2 out2 s8' H0 Q' E' hr2 s0 hE=>⟨_,Ys om_q20X TG.cl hr2 (Je Z (Heap.get?_none_of_le (gA _))) (pv 0) (pa1 (pv 1)),⟨_,Z,x,dx,_,Z,s0 _ _ gx,gn D9_ D9_,_,Z,x,kept,Ss,S,py,ts,ss,Z,(hG10.same s0),hl,hBl,by lia,SqL.of (s0 _ _ h10y),hS10.same s0,(ye hj hE).1,(ye hj hE).2.1,(ye hj hE).2.2⟩⟩;have answ:ws.getD 5 false=false->ws.getD 6 false=false->CL P w K mg base (AL cs G10) g:=λn5 n6=>by
     exact mk.2 λc' A2 out2 s8' H0 Q' E' hr2 s0 hE=>⟨_,Yp om_q20 TG.cl hr2 (pv 0) (pa1 (pv 1)),⟨_,Z,x,dx,_,Z,s0 _ _ gx,gn D9_ D9_,_,Z,x,py,kept,Ss,S,ts,ss,Z,(hG10.same s0),hl,SqL.of (s0 _ _ h10y),hS10.same s0,B,FA.f6 n6,(FA.f5 n5).1,(FA.f5 n5).2,λH' r s _=>hE (.int r) _ s⟩⟩
    exact Ye (λt5=>⟨ref 5 (.inl ⟨Z,t5⟩),R5⟩) λn5=>Ye (λt6=>⟨ref 6 (.inr ⟨Z,n5,t6⟩),R6⟩) λn6=>Jy (answ n5 n6)
  | 8,ed=>
    cases ed;obtain ⟨f',ef,LI⟩:=L10.2 8 _ Z;rw [eg] at ef;cases ef;have mk:=BK (P:=P) (w:=w) (K:=K) (mg:=mg) (base:=base) (C:=C) (N:=["_law_ground","_law_year","_law_spot"]) (σ:=[some (.ref x),some (.ref py),some (.ref pl)]) (outer:=(Zd Yb).names) LI CA (λ_ _ _ _=>bn0 Z) (cvS ⟨by decide +kernel,CA.val 0 _ _ Z Z Z⟩ (cvS ⟨by decide +kernel,CA.val 3 _ _ Z Z Z⟩ (cvS ⟨by decide +kernel,CA.val 5 _ _ Z Z Z⟩ cv0)));have ref8:ws.getD 5 false=false->ws.getD 6 false=false->ws.getD 8 false=true->Jf P w K mg base C (AL cs G10) g 8:=λn5 n6 t8=>mk.1 8 λc' A2 out2 s8' H0 Q' E' hr2 s0 hE=>⟨_,Ys om_comingX TG.cl hr2 (Je Z (Heap.get?_none_of_le (gA _))) (pv 0) (pa3 (pv 1) (pxl (pv 2) Za) (pxl (pv 2) Za)),⟨_,Z,x,dx,_,Z,s0 _ _ gx,gn D9_ D9_,_,Z,_,Z,pl,_,_,_,Z,Z,SqL.of (s0 _ _ h10p),Z,_,Z,pl,_,_,_,Z,Z,SqL.of (s0 _ _ h10p),Z,x,kept,Ss,S,py,ts,ss,y,u,Z,(hG10.same s0),hl,hBl,by lia,SqL.of (s0 _ _ h10y),hS10.same s0,(yg n5 n6).1,(yg n5 n6).2,λ_ _=>⟨FA.t8 t8,thr XE.g8 hE⟩⟩⟩;have ref:∀ j:Nat,(j=5/\ws.getD 5 false=true)\/(j=6/\ws.getD 5 false=false/\ws.getD 6 false=true)->Jf P w K mg base C (AL cs G10) g j:=λj hj=>mk.1 j λc' A2 out2 s8' H0 Q' E' hr2 s0 hE=>⟨_,Ys om_comingX TG.cl hr2 (Je Z (Heap.get?_none_of_le (gA _))) (pv 0) (pa3 (pv 1) (pxl (pv 2) Za) (pxl (pv 2) Za)),⟨_,Z,x,dx,_,Z,s0 _ _ gx,gn D9_ D9_,_,Z,_,Z,pl,_,_,_,Z,Z,SqL.of (s0 _ _ h10p),Z,_,Z,pl,_,_,_,Z,Z,SqL.of (s0 _ _ h10p),Z,x,kept,Ss,S,py,ts,ss,y,u,Z,(hG10.same s0),hl,hBl,by lia,SqL.of (s0 _ _ h10y),hS10.same s0,(ye hj hE).1,(ye hj hE).2.1,λl g=>absurd ⟨l,g⟩ (ye hj hE).2.2⟩⟩;have answ:ws.getD 5 false=false->ws.getD 6 false=false->ws.getD 8 false=false->CL P w K mg base (AL cs G10) g:=λn5 n6 n8=>by
     obtain ⟨gy1,gy2,gu1,gu2⟩:=FA.f8 n8 (FA.f5 n5).1;obtain ⟨y',rfl⟩:∃ y':Nat,y=(y':Int)+1:=⟨(y - 1).toNat,by lia⟩;obtain ⟨u',rfl⟩:∃ u':Nat,u=(u':Int):=⟨u.toNat,by lia⟩;exact mk.2 λc' A2 out2 s8' H0 Q' E' hr2 s0 hE=>⟨_,Yp om_coming TG.cl hr2 (pv 0) (pa3 (pv 1) (pxl (pv 2) Za) (pxl (pv 2) Za)),⟨_,Z,x,dx,_,Z,s0 _ _ gx,gn D9_ D9_,_,Z,_,Z,pl,_,_,_,Z,Z,SqL.of (s0 _ _ h10p),Z,_,Z,pl,_,_,_,Z,Z,SqL.of (s0 _ _ h10p),Z,x,py,kept,Ss,S,ts,ss,y',u',Z,(hG10.same s0),hl,SqL.of (s0 _ _ h10y),hS10.same s0,B,FA.f6 n6,(FA.f5 n5).1,(FA.f5 n5).2,by lia,by lia,by lia,λH' p s _ _=>hE (.ref p) _ s⟩⟩
    exact Ye (λt5=>⟨ref 5 (.inl ⟨Z,t5⟩),R5⟩) λn5=>Ye (λt6=>⟨ref 6 (.inr ⟨Z,n5,t6⟩),R6⟩) λn6=>Ye (λt8=>⟨ref8 n5 n6 t8,R8⟩) λn8=>Jy (answ n5 n6 n8)
  | 9,ed=>
    cases ed;obtain ⟨f',ef,LI⟩:=L10.2 9 _ Z;rw [eg] at ef;cases ef;have mk:=BK (P:=P) (w:=w) (K:=K) (mg:=mg) (base:=base) (C:=C) (N:=["_law_ground","_law_deed_here"]) (σ:=[some (.ref x),some (.int dn)]) (outer:=(Zd Yb).names) LI CA (λ_ _ _ _=>bn0 Z) (cvS ⟨by decide +kernel,CA.val 0 _ _ Z Z Z⟩ (cvS ⟨by decide +kernel,CA.val 2 _ _ Z Z Z⟩ cv0));have ref1:ws.getD 1 false=true->Jf P w K mg base C (AL cs G10) g 1:=λt1=>mk.1 1 λc' A2 out2 s8' H0 Q' E' hr2 s0 hE=>⟨_,Ys om_q6X TG.cl hr2 (Je Z (Heap.get?_none_of_le (gA _))) (pv 0) (pa1 (pv 1)),⟨_,Z,x,dx,_,Z,s0 _ _ gx,gn D9_ D9_,_,Z,x,kept,Ss,dn,Z,(hG10.same s0),hk,FA.t1 t1,λC' xa hm hx=>thr XE.g1 hE C' xa H0 hm (Same.refl _) hx⟩⟩;have answ:ws.getD 1 false=false->CL P w K mg base (AL cs G10) g:=λn1=>by
     obtain ⟨i,rfl,hi⟩:∃ i:Nat,dn=(i:Int)/\i <= kept.length:=⟨dn.toNat,by have:=FA.f1 n1;lia,by have:=FA.f1 n1;lia⟩;exact mk.2 λc' A2 out2 s8' H0 Q' E' hr2 s0 hE=>⟨_,Yp om_q6 TG.cl hr2 (pv 0) (pa1 (pv 1)),⟨_,Z,x,dx,_,Z,s0 _ _ gx,gn D9_ D9_,_,Z,x,kept,Ss,_,i,Z,(hG10.same s0),by lia,fX (by lia),λH' l s _ _=>hE (.ref l) _ s⟩⟩
    exact Ye (λt1=>⟨ref1 t1,R1⟩) λn1=>Jy (answ n1)
  | k+10,ed=>simp [SR] at ed
abbrev CF:hZ:=top 93
abbrev fM:List fZ:=["_law_ground","_law_year","_law_times","_law_need","_law_calls","_law_bad"]
abbrev QB:List fZ:=["_law_ground","_law_year","_law_times","_law_need"]
theorem QP:Zj fM QB (Zd CF):=mk9
structure ZQ (ws:List Bool) (ss:List (Bool × Int)) (m nd:Int):Prop where
 t3:ws.getD 3 false=true->¬ (1 <= nd/\nd <= 200)
 t5:ws.getD 5 false=true->¬ (1 <= ss.length/\ss.length <= 12)
 f5:ws.getD 5 false=false->1 <= ss.length/\ss.length <= 12
 t6:ws.getD 6 false=true->¬ ∀ z ∈ ss,Yl z.2
 f6:ws.getD 6 false=false->∀ z ∈ ss,Yl z.2
 t7:ws.getD 7 false=true->¬ (1 <= m/\m <= 1000000000000000000)
def RY:List (List Nat):=[[5,6,7],[3],[6],[6]]
def GY (ss:List (Bool × Int)):List Int:=(ss.map (·.2)).filter λm=>decide (m < 0) || decide (1000000 < m)
theorem eY {ss:List (Bool × Int)} {m:Int} (h:m ∈ GY ss):¬ Yl m:=by
 have h:=(jN.mp h).2;rcases Bool.or_eq_true_iff.mp h with h | h
 ·have:=D8_ h;unfold Yl;lia
 ·have:=D8_ h;unfold Yl;lia
def QT (P:gL) (w:gX) (K:W.Frag) (mg:fZ->Option fV) (base:iC) (G CT:fT) (C:Nat->fT) (PT:fT):Sp:=λvs H Q _=>E8 λ(x pk ps py:fT) (m nd:Int) (kept:List V) (Ss:List Zq)=>E6 λ(S S0:Zq) (ok:fT->Prop) (ts:List fT) (ss:List (Bool × Int)) (ws:List Bool)=>vs=[.ref x,.ref py,.int m,.int nd]/\Yg G ok H x pk ps kept Ss/\Ss.getLast? = some S/\Ss[0]? = some S0/\H py=some (.lst (ts.map V.ref))/\Zu H ts ss/\ss.length <= 100/\ZQ ws ss m nd/\BC PT ((("_law_deeds":fZ) ++ ".<locals>.") ++ "<lambda>") H /\
 ∀ (H':Hp) (pc:fT) (fs:List fT),LH PT H H'->BC PT ((("_law_deeds":fZ) ++ ".<locals>.") ++ "<lambda>") H'->H' pc=some (.lst (fs.map V.ref))->fs.length <= 4->(∀ (k:Nat) (g:fT) (d:List Nat),fs[k]? = some g->RY[k]? = some d->(IK ws d=[]->True)/\(∀ j r,IK ws d=j :: r->Jf P w K mg base C H' g j/\BW K CT C j))->Q (.ref pc) H'
theorem ok_deeds (F:Fun K "_law_deeds" "_law_deeds" CF f fd) (T:Txt K mg) (TG:DF K mg G) {c PT CT:fT} {C:Nat->fT} (XE:Errs mg CT C) (R3:BW K CT C 3) (R5:BW K CT C 5) (R6:BW K CT C 6) (R7:BW K CT C 7) (hcode:fd.code = .ref c) (hC:W.CodeHd base c PT) (hB:base.BuiltinsAt mg PT)
  (om_yearsX:O1 P w K mg base G "years" GC 3 (NB K mg)) (om_layX:O1 P w K mg base G "lay" MP 2 (T1 G mg)) (om_warmX:O1 P w K mg base G "warm" JV 2 (OL mg)) (om_coldX:O1 P w K mg base G "cold" II 2 (OJ mg)):Ym P w K mg base (CX1 P w) 16 f fd QB (QT P w K mg base G CT C PT):=by
 refine F.okR QP D9_ (λvs H Q E h=>?_) (λA outer s H vs Q E hr h=>?_)
 ·obtain ⟨x,pk,ps,py,m,nd,kept,Ss,S,S0,ok,ts,ss,ws,rfl,_⟩:=h;rfl
 ·obtain ⟨x,pk,ps,py,m,nd,kept,Ss,S,S0,ok,ts,ss,ws,rfl,hG,hl,h0,hpy,hS,hss,FA,hT0,q⟩:=h
  refine ⟨_,(AU (psn 4 QP.nd (Zx (pa1 (C6 (c:=c) (P:=PT) (Zd CF).names Z Z D9_ hcode hC hB)))) (AU (Zp (D2 gJ gH gI Yo (pv 4) (pa1 (C6 (c:=c) (P:=PT) (Zd CF).names Z Z D9_ hcode hC hB)))) (AU (NX (i:=5) QP.nd Z (Or.inr Z) (EB Z (Yi.of (T:=["_law_season_here"]) (js:=[]) (Zd CF).names fM Z Z Z D9_) (BN (pv 1)) (λ_ _ _ _=>⟨(Zw (i:=0) (by show List.Nodup (["_law_season_here"]:List fZ);decide +kernel) Z (Or.inl Z)),(QI (PW.pt (BL (pcr DA (KL (MJ K) (pv 0) Za (λ_ _=>rfl)) Za) (Ji (pcr CM (KL (MJ K) (pv 0) Za (λ_ _=>rfl)) Za))))),(KL (MJ K) (pv 0) Za (λ_ _=>rfl))⟩))) (AU (Yk (pcr (WU hr.units0) (pv 5) (Zx Jh)) (Zc (Zp (D2 gJ gH gI Yo (pv 4) (pa1 (C6 (c:=c) (P:=PT) (Zd CF).names Z Z D9_ hcode hC hB)))) (Ze (Zp (D2 gJ gH gI Yo (pv 4) (pa1 (C6 (c:=c) (P:=PT) (Zd CF).names Z Z D9_ hcode hC hB)))))) Zn) (bM (pv 4)))))),?_⟩
  try dsimp only [cK_,cL_]
  refine CB λD1 hx=>tAsg_i (OZ hT0 λf1 pc G1 fpc s1 hp1 hT1 L1=>hx _ _ ?_);refine CB λD1 hx=>Jw (fs:=[f1]) hT1 fpc s1 hp1 L1 Z Z λf2 G2 s2 hp2 hT2 L2=>hx _ _ ?_;have sT2:FY H G2:=s2.sameT hT0;have h2y:=sT2.lst hpy;have hS2:Zu G2 ts ss:=hS.tup λt xs e=>sT2 _ _ (λ_ z=>by cases z) e;clear L1 hp1 hT1 s1;refine CB λD1 hx=>?_;refine ⟨_,Z,py,Z,⟨_,SqL.of h2y⟩,λpb fpb=>?_⟩;refine EH (xs:=ts.map V.ref) (λi σ H'=>(∃ v,σ=[v])/\H' = upd G2 pb (.lst ((GY (ss.take i)).map V.int))) ?_ ?_ ?_ ?_
  ·exact ⟨⟨none,Z⟩,Z⟩
  ·rintro i σ H' _ ⟨_,rfl⟩;exact SqL.of (Same.upd fpb _ _ h2y)
  ·rintro i y σ H' hy ⟨⟨v,rfl⟩,rfl⟩;obtain ⟨t,z,rfl,hzi,ht⟩:=hS2.item hy;have hil:=(gK.mp hzi).1;have ht2:=Same.upd (o:=.lst ((GY (ss.take i)).map V.int)) fpb _ _ ht;have hlen:(GY (ss.take i)).length <= 100:=iV (kG _ _) (by rw [fU,iH];lia);have tk:GY (ss.take (i+1))=GY (ss.take i) ++ (if (decide (z.2 < 0) || decide (1000000 < z.2))=true then [z.2] else []):=by
    unfold GY;rw [B5 hzi,gO,jJ];show _ ++ List.filter _ [z.2]=_;rw [jI,List.filter_nil]
   rw [tk];have bt:(decide (z.2 < 0) || decide (1000000 < z.2))=true->upd (upd G2 pb (.lst ((GY (ss.take i)).map V.int))) pb (.lst ((GY (ss.take i)).map V.int ++ [V.int z.2]))=upd G2 pb (.lst ((GY (ss.take i) ++ (if (decide (z.2 < 0) || decide (1000000 < z.2))=true then [z.2] else [])).map V.int)):=λe=>by rw [CK,if_pos e,gO];rfl
   refine ⟨_,Z,t,_,_,_,Z,Z,SqT.of ht2,Z,_,_,Z,Z,_,Z,?_⟩;refine Jl (λhlt=>?_) (λhlt=>?_)
   ·have hlt:z.2 < 0:=D8_ hlt;refine IA ?_;exact ⟨_,Z,t,_,_,_,Z,Z,SqT.of ht2,Z,_,Zb,Js (by rw [fU];lia),⟨_,Z⟩,bt (by simp [hlt])⟩
   ·have hlt:¬ (z.2 < 0):=λe=>hlt (D7_ e);refine ⟨_,Z,t,_,_,_,Z,Z,SqT.of ht2,Z,_,_,Z,Z,_,Z,?_⟩;refine Jl (λhgt=>?_) (λhgt=>?_)
    ·have hgt:1000000 < z.2:=D8_ hgt;exact ⟨_,Z,t,_,_,_,Z,Z,SqT.of ht2,Z,_,Zb,Js (by rw [fU];lia),⟨_,Z⟩,bt (by simp [hgt])⟩
    ·have hgt:¬ (1000000 < z.2):=λe=>hgt (D7_ e);exact ⟨⟨_,Z⟩,by rw [if_neg (by simp only [Bool.or_eq_true,decide_eq_true_eq,not_or];exact ⟨hlt,hgt⟩),jH]⟩
  rintro σ0 H3 ⟨_,rfl⟩;rw [fU,hS2.len,iZ];refine hx _ _ ?_;have s3:=Same.upd (o:=.lst ((GY ss).map V.int)) fpb;have h3b:(upd G2 pb (.lst ((GY ss).map V.int))) pb=some (.lst ((GY ss).map V.int)):=Zb;have npb:pb ≠ pc:=Ne.symm (Zf hp2 fpb);generalize upd G2 pb (.lst ((GY ss).map V.int))=G3 at s3 h3b ⊢;have bad:∀ m0 ∈ GY ss,¬ Yl m0:=λm0 h=>eY h;generalize GY ss=bs at h3b bad;have hT3:=hT2.same s3;have hp3:=s3 _ _ hp2;have L3:=L2.same s3;have s03:LH PT H G3:=λb o nb e=>s3 _ _ (s2 b o nb e);clear hT2 hp2 L2 s2 sT2 h2y hS2;have gn:∀ {m:fZ},(m == ("kept":fZ))=false->(m == ("stages":fZ))=false->(gF pk ps).lookup m=none:=gF_no _ _;have thr:∀ {nm:fZ} {j:Nat} {E':XK} {Hn:Hp},mg nm=some (.ref (C j))->(∀ (H1:Hp) (xa:fT),Same Hn H1->H1 xa=none->E' (.ref (C j)) (some xa) H1)->Thr mg nm E' Hn:=λ{nm j E' Hn} hg hE C' xa H' hm s hx=>by
   have:=hg.symm.trans hm;cases this;exact hE H' xa s hx
  refine CB λD1 hx=>?_;refine ⟨_,Z,sz9,λpe fe=>?_⟩;have s4:=Same.upd (o:=.lst []) fe;have h4e:(upd G3 pe (.lst [])) pe=some (.lst []):=Zb;generalize upd G3 pe (.lst [])=G4 at s4 h4e ⊢;refine ⟨pb,pe,_,Z,Z,SqL.of (s4 _ _ h3b),SqL.of h4e,_,Z,?_⟩;have s04:LH PT H G4:=λb o nb e=>s4 _ _ (s03 b o nb e);have hT4:=hT3.same s4;have hp4:=s4 _ _ hp3;have L4:=L3.same s4;have h4b:=s4 _ _ h3b;clear s3 s4 h3b hT3 hp3 L3 s03;cases bs with
  | nil=>
   refine CV ?_;refine hx _ _ ?_;have sT4:FY H G4:=s04.sameT hT0;have h4y:=sT4.lst hpy;have hS4:Zu G4 ts ss:=hS.tup λt xs e=>sT4 _ _ (λ_ z=>by cases z) e;have hG4:=hG.sameT sT4;obtain ⟨dx,_,gx,_⟩:=id hG4.ex;generalize hes:[f1] ++ [f2]=fs at hp4 L4;have hfl:fs.length=2:=by rw [<- hes];rfl
   refine ⟨_,Z,λcs CA=>?_⟩;have hcc:=IW CA.un;refine q _ pc fs (λb o no e=>hcc _ _ (s04 b o no e)) (hT4.same hcc) (hcc _ _ hp4) (by lia) λk g d eg ed=>?_
   match k,ed with
   | 0,ed=>
    cases ed;obtain ⟨f',ef,LI⟩:=L4.2 0 _ Z;rw [eg] at ef;cases ef;have mk:=BK (P:=P) (w:=w) (K:=K) (mg:=mg) (base:=base) (C:=C) (N:=["_law_ground","_law_year","_law_times"]) (σ:=[some (.ref x),some (.ref py),some (.int m)]) (outer:=(Zd CF).names) LI CA (λ_ _ _ _=>bn0 Z) (cvS ⟨by decide +kernel,CA.val 0 _ _ Z Z Z⟩ (cvS ⟨by decide +kernel,CA.val 1 _ _ Z Z Z⟩ (cvS ⟨by decide +kernel,CA.val 2 _ _ Z Z Z⟩ cv0)));have ref5:ws.getD 5 false=true->Jf P w K mg base C (AL cs G4) g 5:=λt5=>mk.1 5 λc' A2 out2 s8' H0 Q' E' hr2 s0 hE=>⟨_,Ys om_yearsX TG.cl hr2 (Je Z (Heap.get?_none_of_le (gA _))) (pv 0) (pa2 (pv 1) (pv 2)),⟨_,Z,x,dx,_,Z,s0 _ _ gx,gn D9_ D9_,_,Z,_,Z,x,py,m,ts,ss,Z,SqL.of (s0 _ _ h4y),hS4.same s0,.inl ⟨FA.t5 t5,thr XE.g5 hE⟩⟩⟩;have ref6:ws.getD 5 false=false->ws.getD 6 false=true->Jf P w K mg base C (AL cs G4) g 6:=λn5 t6=>mk.1 6 λc' A2 out2 s8' H0 Q' E' hr2 s0 hE=>⟨_,Ys om_yearsX TG.cl hr2 (Je Z (Heap.get?_none_of_le (gA _))) (pv 0) (pa2 (pv 1) (pv 2)),⟨_,Z,x,dx,_,Z,s0 _ _ gx,gn D9_ D9_,_,Z,_,Z,x,py,m,ts,ss,Z,SqL.of (s0 _ _ h4y),hS4.same s0,.inr ⟨(FA.f5 n5).1,(FA.f5 n5).2,.inl ⟨FA.t6 t6,thr XE.g6 hE⟩⟩⟩⟩;have ref7:ws.getD 5 false=false->ws.getD 6 false=false->ws.getD 7 false=true->Jf P w K mg base C (AL cs G4) g 7:=λn5 n6 t7=>mk.1 7 λc' A2 out2 s8' H0 Q' E' hr2 s0 hE=>⟨_,Ys om_yearsX TG.cl hr2 (Je Z (Heap.get?_none_of_le (gA _))) (pv 0) (pa2 (pv 1) (pv 2)),⟨_,Z,x,dx,_,Z,s0 _ _ gx,gn D9_ D9_,_,Z,_,Z,x,py,m,ts,ss,Z,SqL.of (s0 _ _ h4y),hS4.same s0,.inr ⟨(FA.f5 n5).1,(FA.f5 n5).2,.inr ⟨FA.f6 n6,FA.t7 t7,thr XE.g7 hE⟩⟩⟩⟩;exact Ye (λt5=>⟨ref5 t5,R5⟩) λn5=>Ye (λt6=>⟨ref6 n5 t6,R6⟩) λn6=>Ye (λt7=>⟨ref7 n5 n6 t7,R7⟩) λn7=>Jy trivial
   | 1,ed=>
    cases ed;obtain ⟨f',ef,LI⟩:=L4.2 1 _ Z;rw [eg] at ef;cases ef;have mk:=BK (P:=P) (w:=w) (K:=K) (mg:=mg) (base:=base) (C:=C) (N:=["_law_ground","_law_need"]) (σ:=[some (.ref x),some (.int nd)]) (outer:=(Zd CF).names) LI CA (λ_ _ _ _=>bn0 Z) (cvS ⟨by decide +kernel,CA.val 0 _ _ Z Z Z⟩ (cvS ⟨by decide +kernel,CA.val 3 _ _ Z Z Z⟩ cv0));have ref3:ws.getD 3 false=true->Jf P w K mg base C (AL cs G4) g 3:=λt3=>mk.1 3 λc' A2 out2 s8' H0 Q' E' hr2 s0 hE=>⟨_,Ys om_layX TG.cl hr2 (Je Z (Heap.get?_none_of_le (gA _))) (pv 0) (pa1 (pv 1)),⟨_,Z,x,dx,_,Z,s0 _ _ gx,gn D9_ D9_,_,Z,x,pk,ps,kept,Ss,S,S0,nd,ok,Z,(hG4.same s0),hl,h0,.inl ⟨FA.t3 t3,λC' xa hm hx=>thr XE.g3 hE C' xa H0 hm (Same.refl _) hx⟩⟩⟩;exact Ye (λt3=>⟨ref3 t3,R3⟩) λn3=>Jy trivial
   | k+2,ed=>exact absurd (gK.mp eg).1 (by lia)
  | cons m0 mr=>
   refine IA ?_;refine Yr λD3 hz3=>NT (fs:=([f1] ++ [f2])) hT4 fpc s04 hp4 L4 Z Z λf3 G5 s05 n5 hp5 hT5 L5=>hz3 _ _ ?_;refine NT (fs:=(([f1] ++ [f2]) ++ [f3])) hT5 fpc s05 hp5 L5 Z Z λf4 G6 s06 n6 hp6 hT6 L6=>hx _ _ ?_;have h6b:=n6 _ _ (λ_ z=>by cases z) npb (n5 _ _ (λ_ z=>by cases z) npb h4b);clear n5 n6;have sT6:FY H G6:=s06.sameT hT0;have h6y:=sT6.lst hpy;have hS6:Zu G6 ts ss:=hS.tup λt xs e=>sT6 _ _ (λ_ z=>by cases z) e;have hG6:=hG.sameT sT6;obtain ⟨dx,_,gx,_⟩:=id hG6.ex;generalize hes:(([f1] ++ [f2]) ++ [f3]) ++ [f4]=fs at hp6 L6;have hfl:fs.length=4:=by rw [<- hes];rfl
   refine ⟨_,Z,λcs CA=>?_⟩;have hcc:=IW CA.un;refine q _ pc fs (λb o no e=>hcc _ _ (s06 b o no e)) (hT6.same hcc) (hcc _ _ hp6) (by lia) λk g d eg ed=>?_
   match k,ed with
   | 0,ed=>
    cases ed;obtain ⟨f',ef,LI⟩:=L6.2 0 _ Z;rw [eg] at ef;cases ef;have mk:=BK (P:=P) (w:=w) (K:=K) (mg:=mg) (base:=base) (C:=C) (N:=["_law_ground","_law_year","_law_times"]) (σ:=[some (.ref x),some (.ref py),some (.int m)]) (outer:=(Zd CF).names) LI CA (λ_ _ _ _=>bn0 Z) (cvS ⟨by decide +kernel,CA.val 0 _ _ Z Z Z⟩ (cvS ⟨by decide +kernel,CA.val 1 _ _ Z Z Z⟩ (cvS ⟨by decide +kernel,CA.val 2 _ _ Z Z Z⟩ cv0)));have ref5:ws.getD 5 false=true->Jf P w K mg base C (AL cs G6) g 5:=λt5=>mk.1 5 λc' A2 out2 s8' H0 Q' E' hr2 s0 hE=>⟨_,Ys om_yearsX TG.cl hr2 (Je Z (Heap.get?_none_of_le (gA _))) (pv 0) (pa2 (pv 1) (pv 2)),⟨_,Z,x,dx,_,Z,s0 _ _ gx,gn D9_ D9_,_,Z,_,Z,x,py,m,ts,ss,Z,SqL.of (s0 _ _ h6y),hS6.same s0,.inl ⟨FA.t5 t5,thr XE.g5 hE⟩⟩⟩;have ref6:ws.getD 5 false=false->ws.getD 6 false=true->Jf P w K mg base C (AL cs G6) g 6:=λn5 t6=>mk.1 6 λc' A2 out2 s8' H0 Q' E' hr2 s0 hE=>⟨_,Ys om_yearsX TG.cl hr2 (Je Z (Heap.get?_none_of_le (gA _))) (pv 0) (pa2 (pv 1) (pv 2)),⟨_,Z,x,dx,_,Z,s0 _ _ gx,gn D9_ D9_,_,Z,_,Z,x,py,m,ts,ss,Z,SqL.of (s0 _ _ h6y),hS6.same s0,.inr ⟨(FA.f5 n5).1,(FA.f5 n5).2,.inl ⟨FA.t6 t6,thr XE.g6 hE⟩⟩⟩⟩;have ref7:ws.getD 5 false=false->ws.getD 6 false=false->ws.getD 7 false=true->Jf P w K mg base C (AL cs G6) g 7:=λn5 n6 t7=>mk.1 7 λc' A2 out2 s8' H0 Q' E' hr2 s0 hE=>⟨_,Ys om_yearsX TG.cl hr2 (Je Z (Heap.get?_none_of_le (gA _))) (pv 0) (pa2 (pv 1) (pv 2)),⟨_,Z,x,dx,_,Z,s0 _ _ gx,gn D9_ D9_,_,Z,_,Z,x,py,m,ts,ss,Z,SqL.of (s0 _ _ h6y),hS6.same s0,.inr ⟨(FA.f5 n5).1,(FA.f5 n5).2,.inr ⟨FA.f6 n6,FA.t7 t7,thr XE.g7 hE⟩⟩⟩⟩;exact Ye (λt5=>⟨ref5 t5,R5⟩) λn5=>Ye (λt6=>⟨ref6 n5 t6,R6⟩) λn6=>Ye (λt7=>⟨ref7 n5 n6 t7,R7⟩) λn7=>Jy trivial
   | 1,ed=>
    cases ed;obtain ⟨f',ef,LI⟩:=L6.2 1 _ Z;rw [eg] at ef;cases ef;have mk:=BK (P:=P) (w:=w) (K:=K) (mg:=mg) (base:=base) (C:=C) (N:=["_law_ground","_law_need"]) (σ:=[some (.ref x),some (.int nd)]) (outer:=(Zd CF).names) LI CA (λ_ _ _ _=>bn0 Z) (cvS ⟨by decide +kernel,CA.val 0 _ _ Z Z Z⟩ (cvS ⟨by decide +kernel,CA.val 3 _ _ Z Z Z⟩ cv0));have ref3:ws.getD 3 false=true->Jf P w K mg base C (AL cs G6) g 3:=λt3=>mk.1 3 λc' A2 out2 s8' H0 Q' E' hr2 s0 hE=>⟨_,Ys om_layX TG.cl hr2 (Je Z (Heap.get?_none_of_le (gA _))) (pv 0) (pa1 (pv 1)),⟨_,Z,x,dx,_,Z,s0 _ _ gx,gn D9_ D9_,_,Z,x,pk,ps,kept,Ss,S,S0,nd,ok,Z,(hG6.same s0),hl,h0,.inl ⟨FA.t3 t3,λC' xa hm hx=>thr XE.g3 hE C' xa H0 hm (Same.refl _) hx⟩⟩⟩;exact Ye (λt3=>⟨ref3 t3,R3⟩) λn3=>Jy trivial
   | 2,ed=>
    cases ed;obtain ⟨f',ef,LI⟩:=L6.2 2 _ Z;rw [eg] at ef;cases ef;have mk:=BK (P:=P) (w:=w) (K:=K) (mg:=mg) (base:=base) (C:=C) (N:=["_law_ground","_law_bad"]) (σ:=[some (.ref x),some (.ref pb)]) (outer:=(Zd CF).names) LI CA (λ_ _ _ _=>bn0 Z) (cvS ⟨by decide +kernel,CA.val 0 _ _ Z Z Z⟩ (cvS ⟨by decide +kernel,CA.val 5 _ _ Z Z Z⟩ cv0));have ref6:ws.getD 6 false=true->Jf P w K mg base C (AL cs G6) g 6:=λt6=>mk.1 6 λc' A2 out2 s8' H0 Q' E' hr2 s0 hE=>⟨_,Ys om_warmX TG.cl hr2 (Je Z (Heap.get?_none_of_le (gA _))) (pv 0) (pa1 (pxl (pv 1) Za)),⟨_,Z,x,dx,_,Z,s0 _ _ gx,gn D9_ D9_,_,Z,pb,_,_,_,Z,Z,SqL.of (s0 _ _ h6b),AT (j:=0) Z,x,m0,Z,bad m0 (by simp),thr XE.g6 hE⟩⟩;exact Ye (λt6=>⟨ref6 t6,R6⟩) λn6=>Jy trivial
   | 3,ed=>
    cases ed;obtain ⟨f',ef,LI⟩:=L6.2 3 _ Z;rw [eg] at ef;cases ef;have mk:=BK (P:=P) (w:=w) (K:=K) (mg:=mg) (base:=base) (C:=C) (N:=["_law_ground","_law_bad"]) (σ:=[some (.ref x),some (.ref pb)]) (outer:=(Zd CF).names) LI CA (λ_ _ _ _=>bn0 Z) (cvS ⟨by decide +kernel,CA.val 0 _ _ Z Z Z⟩ (cvS ⟨by decide +kernel,CA.val 5 _ _ Z Z Z⟩ cv0));have ref6:ws.getD 6 false=true->Jf P w K mg base C (AL cs G6) g 6:=λt6=>mk.1 6 λc' A2 out2 s8' H0 Q' E' hr2 s0 hE=>⟨_,Ys om_coldX TG.cl hr2 (Je Z (Heap.get?_none_of_le (gA _))) (pv 0) (pa1 (pxl (pv 1) Za)),⟨_,Z,x,dx,_,Z,s0 _ _ gx,gn D9_ D9_,_,Z,pb,_,_,_,Z,Z,SqL.of (s0 _ _ h6b),AT (j:=0) Z,x,m0,Z,bad m0 (by simp),thr XE.g6 hE⟩⟩;exact Ye (λt6=>⟨ref6 t6,R6⟩) λn6=>Jy trivial
   | k+4,ed=>simp [RY] at ed
abbrev WH:hZ:=top 94
abbrev N_held:List fZ:=["_law_calls","_law_doors","_law_wrong","_law_free","_law_k","_law_due"]
abbrev WJ:List fZ:=["_law_calls","_law_doors","_law_wrong","_law_free"]
theorem UY:Zj N_held WJ (Zd WH):=mk9
def V1 (P:gL) (w:gX) (K:W.Frag) (mg:fZ->Option fV) (base:iC) (CT:fT) (C:Nat->fT):Sp:=λvs H Q _=>E8 λ(pc pd pw:fT) (fs ps:List fT) (ds:List (List Nat)) (ws:List Bool) (free:Bool)=>vs=[.ref pc,.ref pd,.ref pw,.bl free]/\H pc=some (.lst (fs.map V.ref))/\fs.length <= 100/\fs.length <= ds.length/\H pd=some (.lst (ps.map V.ref))/\(∀ (k:Nat) (d:List Nat),ds[k]? = some d->∃ p,ps[k]? = some p/\H p=some (.lst (d.map λj:Nat=>V.int (j:Int))))/\(∀ d ∈ ds,d.length <= 4/\∀ j ∈ d,j < 12)/\H pw=some (.lst (ws.map V.bl))/\ws.length=12 /\
 (∀ (k:Nat) (g:fT) (d:List Nat),fs[k]? = some g->ds[k]? = some d->(IK ws d=[]->free=true->CL P w K mg base H g)/\(∀ j r,IK ws d=j :: r->Jf P w K mg base C H g j/\BW K CT C j))/\∀ H',Same H H'->Q (.bl true) H'
theorem ok_held (F:Fun K "_law_held" "_law_held" WH f fd) (T:Txt K mg) {CT:fT} {C:Nat->fT} (o_refusal:OkX P w K mg base "_law_refusal" JN 15 (K8 P w K mg base CT C)) (o_answers:OkX P w K mg base "_law_answers" N9 15 (OV P w K mg base)):Ym P w K mg base (CX1 P w) 16 f fd WJ (V1 P w K mg base CT C):=by
 refine F.okL UY (λvs H Q E h=>?_) (λA outer s H vs Q E hr h=>?_)
 ·obtain ⟨pc,pd,pw,fs,ps,ds,ws,free,rfl,_⟩:=h;rfl
 ·obtain ⟨pc,pd,pw,fs,ps,ds,ws,free,rfl,hc,hf1,hfd,hpd,hds,hdl,hw,hwl,hd,q⟩:=h
  refine ⟨_,(Zc (AO PassesOwn.never Z (AY (by rfl) T.n_range (pa1 (Zy T.n_len (pv 0)))) (Zw (i:=4) UY.nd Z (Or.inl Z)) (Zc (HQ (i:=5) Z UY.nd Z Z (Yi.of (T:=["_law_kind"]) (js:=[2]) (Zd WH).names N_held Z Z Z D9_) (BN (pxl (pv 1) (pv 4))) (λ_ _ _ _=>⟨(Zw (i:=0) (by show List.Nodup (["_law_kind","_law_wrong"]:List fZ);decide +kernel) Z (Or.inl Z)),(QI (AG (KL (JX K) (pv 1) (pv 0) (λ_ _=>rfl)))),(pv 0)⟩)) (Zc (Yk (PW.pt (LA (pcr (WU hr.units0) (pv 5) (Zx Jh)) (HI (AZ (AG (pe_callC o_refusal hr (pa2 (pxl (pv 0) (pv 4)) (pxl (pv 5) Za)) (λ_=>rfl) (W8 D9_ (λ_ _ h=>nomatch h)))))))) (Ze (Zi BO)) Zn) (Ze (Yk (PW.pt (LA (pcr (op_eqNil hr.units0) (pv 5) (Zx Jh)) (LA (AG (pv 3)) (HI (AZ (AG (Yc o_answers hr T7 (pa1 (pxl (pv 0) (pv 4)))))))))) (Ze (Zi BO)) Zn))))) (Ze (Zi BO))),?_⟩
  try dsimp only [cK_,cL_]
  refine ⟨_,Z,pc,_,Z,.inl (SqL.of hc),_,Z,by lia,by rw [fU];lia,?_⟩;refine C9 (n:=((fs.map V.ref).length:Int).toNat) (λk σ H'=>(∃ v4 v5,σ=[some (.ref pc),some (.ref pd),some (.ref pw),some (.bl free),v4,v5])/\Same H H') ?_ ?_ ?_
  ·exact ⟨⟨_,_,Z⟩,Same.refl _⟩
  ·rintro k σ H8 hk ⟨⟨v4,v5,rfl⟩,s8⟩;rw [fU] at hk;have hk:k < fs.length:=by lia
   rw [show (0:Int)+(k:Int)=(k:Int) by lia];obtain ⟨d,ed⟩:∃ d,ds[k]? = some d:=⟨_,fX (by lia)⟩;obtain ⟨p,ep,hp⟩:=hds k d ed;obtain ⟨g,eg⟩:∃ g,fs[k]? = some g:=⟨_,fX hk⟩;obtain ⟨d1,d2⟩:=hdl d (i7 ed);obtain ⟨q1,q2⟩:=hd k g d eg ed;have h8p:=s8 _ _ hp;have h8w:=s8 _ _ hw;refine ⟨_,Z,_,Z,pd,_,_,_,Z,Z,SqL.of (s8 _ _ hpd),AT (j:=k) (by rw [gE,ep];rfl),p,Z,⟨_,SqL.of h8p⟩,λl fl=>?_⟩;refine EH (xs:=d.map λj:Nat=>V.int (j:Int)) (λi σ H'=>(∃ v,σ=[v,some (.ref pw)])/\H' = upd H8 l (.lst ((IK ws (d.take i)).map λj:Nat=>V.int (j:Int)))) ?_ ?_ ?_ ?_
   ·exact ⟨⟨none,Z⟩,Z⟩
   ·rintro i σ H' _ ⟨_,rfl⟩;exact SqL.of (Same.upd fl _ _ h8p)
   ·rintro i y σ H' hy ⟨⟨v,rfl⟩,rfl⟩;rw [gE] at hy;obtain ⟨j,ej,rfl⟩:∃ j,d[i]? = some j/\y = .int (j:Int):=by
     cases z:d[i]? with
     | none=>rw [z] at hy;cases hy
     | some j=>rw [z] at hy;cases hy;exact ⟨j,Z,Z⟩
    have hj:=d2 j (i7 ej);have ew:(ws.map V.bl)[j]? = some (.bl (ws.getD j false)):=by
     rw [gE,fX (by lia),fY,fX (by lia)];rfl
    have hdl:(IK ws (d.take i)).length <= 4:=iV (kG _ _) (by rw [iH];lia);refine ⟨_,Z,_,Z,pw,_,_,_,Z,Z,SqL.of (Same.upd fl _ _ h8w),AT ew,_,Z,?_⟩;have tk:IK ws (d.take (i+1))=IK ws (d.take i) ++ (if ws.getD j false=true then [j] else []):=by
     unfold IK;rw [B5 ej,jJ,jI,List.filter_nil]
    rw [tk];cases z:ws.getD j false with
    | true=>exact IA ⟨_,Z,_,Zb,Js (by rw [fU];lia),⟨_,Z⟩,by rw [CK,if_pos Z,gO];rfl⟩
    | false=>exact CV ⟨⟨_,Z⟩,by rw [if_neg (by decide),jH]⟩
   rintro σ H9 ⟨_,rfl⟩;rw [fU,iZ];have s9:=Same.upd (o:=.lst ((IK ws d).map λj:Nat=>V.int (j:Int))) fl;have e9:(upd H8 l (.lst ((IK ws d).map λj:Nat=>V.int (j:Int)))) l=some (.lst ((IK ws d).map λj:Nat=>V.int (j:Int))):=Zb;generalize upd H8 l (.lst ((IK ws d).map λj:Nat=>V.int (j:Int)))=H9 at s9 e9 ⊢;have hdj:∀ j ∈ IK ws d,j < 12:=λj hj=>d2 j (jN.mp hj).1;generalize IK ws d=due at e9 q1 q2 hdj;have s79:=s8.trans s9;have at_c:atI (fs.map V.ref) (k:Int)=some (.ref g):=AT (by rw [gE,eg];rfl);refine ⟨_,Z,sz9,λpe fe=>?_⟩;have s10:=Same.upd (o:=.lst []) fe;have e10:(upd H9 pe (.lst [])) pe=some (.lst []):=Zb;generalize upd H9 pe (.lst [])=H10 at s10 e10 ⊢;refine ⟨l,pe,_,Z,Z,SqL.of (s10 _ _ e9),SqL.of e10,_,Z,?_⟩;have s710:=s79.trans s10;cases due with
   | nil=>
    refine CV ?_;refine CV ?_;refine ⟨_,Z,sz9,λpe fe=>?_⟩;have s11:=Same.upd (o:=.lst []) fe;have e11:(upd H10 pe (.lst [])) pe=some (.lst []):=Zb;generalize upd H10 pe (.lst [])=H11 at s11 e11 ⊢;refine ⟨l,pe,_,Z,Z,SqL.of (s11 _ _ (s10 _ _ e9)),SqL.of e11,_,Z,?_⟩;refine IA ?_;have s711:=s710.trans s11;refine ⟨_,Z,free,Z,?_⟩;cases free with
    | false=>
     refine CV ?_;refine CV ?_;exact ⟨⟨_,_,Z⟩,s711⟩
    | true=>
     refine IA ?_;refine ⟨_,Z,_,Z,pc,_,_,_,Z,Z,SqL.of (s711 _ _ hc),at_c,g,Z,VH (q1 Z Z) s711,λH12 s12=>⟨_,Z,?_⟩⟩;refine CV ?_;exact ⟨⟨_,_,Z⟩,s711.trans s12⟩
   | cons j r=>
    obtain ⟨LR,R⟩:=q2 j r Z;refine IA ?_;dsimp only [FV,tIfS,tNot,tB,tCallC,Yw];refine ⟨_,Z,_,Z,pc,_,_,_,Z,Z,SqL.of (s710 _ _ hc),at_c,_,Z,l,_,_,_,Z,Z,SqL.of (s10 _ _ e9),AT (j:=0) Z,?_⟩;intro cs CA;refine ⟨g,j,Z,hdj j (by simp),HJ (HJ LR s710) (IW CA.un),R,λH11 s11=>?_⟩;have s12:=s11.drop CA.un;refine ⟨_,Z,?_⟩;refine CV ?_;refine ⟨_,Z,sz9,λpe fe=>?_⟩;have s13:=Same.upd (o:=.lst []) fe;have e13:(upd (D4 cs H11) pe (.lst [])) pe=some (.lst []):=Zb;generalize upd (D4 cs H11) pe (.lst [])=H13 at s13 e13 ⊢;refine ⟨l,pe,_,Z,Z,SqL.of (s13 _ _ (s12 _ _ (s10 _ _ e9))),SqL.of e13,_,Z,?_⟩;refine CV ?_;refine CV ?_;exact ⟨⟨_,_,Z⟩,(s710.trans s12).trans s13⟩
  ·rintro σ H8 ⟨⟨v4,v5,rfl⟩,s8⟩;exact q _ s8
abbrev s_law:hZ:=top 95
abbrev N_law:List fZ:=["_law_script","_law_needs","_law_heats","_law_ground","_law_past","_law_wrong","_law_pick","_law_kind","_law_many","_law_year","_law_cells","_law_bed","_law_kept","_law_deed_here","_law_need","_law_times","_law_spot","_law_handed","_law_doors"]
abbrev P_law:List fZ:=["_law_script"]
theorem BP:Zj N_law P_law (Zd s_law):=mk9
def WL (K:W.Frag) (PT PT2:fT):Sp:=λvs H Q _=>E2 λ(a:fT) (ns:List Int)=>vs=[.ref a]/\SqL K H a (ns.map V.int)/\ns.length <= 63/\H PT=some (.tbl #[])/\H PT2=some (.tbl #[])/\PT ≠ PT2/\∀ H',Q (.bl true) H'
theorem many_at (w5:Bool) (c x y:Int):∃ n:Nat,n <= 100/\(w5=true->¬ (1 <= n/\n <= 12))/\(w5=false->1 <= n/\n <= 12)/\∀ z:Int,atI [V.int 0,V.int 13,V.int (14+x % 47),V.int 100] (y % 4)=some (.int z)->atI [V.int (1+c % 12),V.int z] (if w5=true then 1 else 0)=some (.int (n:Int)):=by
 have h3:=gM y (show (4:Int) ≠ 0 by decide);have h4:=gC y (show (0:Int) < 4 by decide);have a1:=gM c (show (12:Int) ≠ 0 by decide);have a2:=gC c (show (0:Int) < 12 by decide);have b1:=gM x (show (47:Int) ≠ 0 by decide);have b2:=gC x (show (0:Int) < 47 by decide);cases w5 with
 | false=>
  refine ⟨(1+c % 12).toNat,by lia,by simp,λ_=>by lia,λz _=>?_⟩;show some (V.int (1+c % 12))=some (.int (((1+c % 12).toNat:Nat):Int));rw [show (((1+c % 12).toNat:Nat):Int)=1+c % 12 by lia]
 | true=>
  have h5:y % 4=0\/y % 4=1\/y % 4=2\/y % 4=3:=by lia
  rcases h5 with e | e | e | e <;> rw [e]
  ·exact ⟨0,by lia,λ_=>by lia,by simp,λz hz=>by cases hz;rfl⟩
  ·exact ⟨13,by lia,λ_=>by lia,by simp,λz hz=>by cases hz;rfl⟩
  ·refine ⟨(14+x % 47).toNat,by lia,λ_=>by lia,by simp,λz hz=>?_⟩;cases hz;show some (V.int (14+x % 47))=some (.int (((14+x % 47).toNat:Nat):Int));rw [show (((14+x % 47).toNat:Nat):Int)=14+x % 47 by lia]
  ·exact ⟨100,by lia,λ_=>by lia,by simp,λz hz=>by cases hz;rfl⟩
theorem four_at (x y:Int):∃ z:Int,atI [V.int 0,V.int 13,V.int (14+x % 47),V.int 100] (y % 4)=some (.int z):=by
 have h3:=gM y (show (4:Int) ≠ 0 by decide);have h4:=gC y (show (0:Int) < 4 by decide);have h5:y % 4=0\/y % 4=1\/y % 4=2\/y % 4=3:=by lia
 rcases h5 with e | e | e | e <;> rw [e] <;> exact ⟨_,Z⟩
theorem sum_nn:∀ {xs:List Int},(∀ x ∈ xs,0 <= x)->0 <= xs.sum
 | [],_=>iU _
 | y :: ys,h=>by
  rw [lM];have:=h y (by simp);have:=sum_nn λx hx=>h x (gD y hx)
  lia
theorem eQ (w:Bool) (x z:Int):atI [V.int x,V.int z] (if w=true then 1 else 0)=some (.int (if w=true then z else x)):=by cases w <;> rfl
theorem RT {ws:List Bool} (hl:ws.length=12) {j:Nat} (h:j < 12):atI (ws.map V.bl) (j:Int)=some (.bl (ws.getD j false)):=AT (by
 rw [gE,fX (by lia),fY,fX (by lia)];rfl)
theorem three_at (w:Bool) (x y z:Int) (c:Int):∃ m:Int,atI [V.int x,V.int y,V.int z] ((if w=true then 1 else 0) * (1+c % 2))=some (.int m)/\(w=false->m=x)/\(w=true->m=y\/m=z):=by
 have h3:=gM c (show (2:Int) ≠ 0 by decide);have h4:=gC c (show (0:Int) < 2 by decide);have h5:c % 2=0\/c % 2=1:=by lia
 cases w with
 | false=>exact ⟨x,by rw [if_neg (by decide),Int.zero_mul];rfl,λ_=>rfl,by simp⟩
 | true=>
  rcases h5 with e | e <;> rw [e]
  ·exact ⟨y,Z,by simp,λ_=>.inl Z⟩
  ·exact ⟨z,Z,by simp,λ_=>.inr Z⟩
theorem ok_law (F:Fun K "law" "law" s_law f fd) (T:Txt K mg) (TG:DF K mg G) {PT PT2 CT:fT} {C:Nat->fT}
  (o_at:Ok P w K mg base "_law_at" P_at 1 (sp_at K)) (o_beds:Ok P w K mg base "_law_beds" bZ 2 (bW K)) (o_history:Ok P w K mg base "_law_history" NQ 11 (OX K G)) (o_beyond:Ok P w K mg base "_law_beyond" PX 1 RO) (o_faulty:Ok P w K mg base "_law_faulty" R4 4 RV) (o_seen:Ok P w K mg base "_law_seen" aL 4 (aS K G)) (o_books:Ok P w K mg base "_law_books" V2 4 (XG K G))
  (o_questions:OkX P w K mg base "_law_questions" EU 16 (FX P w K mg base G CT C PT)) (o_deeds:OkX P w K mg base "_law_deeds" QB 16 (QT P w K mg base G CT C PT2)) (o_held:OkX P w K mg base "_law_held" WJ 16 (V1 P w K mg base CT C))
  (oi_two:OkI P w K mg base G PL 2 (JH K G) []):Ym P w K mg base (CX1 P w) 17 f fd P_law (WL K PT PT2):=by
 refine F.okL BP (λvs H Q E h=>?_) (λA outer s H vs Q E hr h=>?_)
 ·obtain ⟨a,ns,rfl,_⟩:=h;rfl
 ·obtain ⟨a,ns,rfl,hS,hlen,hTq,hTd,nePP,q⟩:=h
  refine ⟨_,(ZJ.to (Yv (PSq.of (EK (Zg o_beds hr (pa1 (pv 0))) (pg_tupL (n:=2) (by rfl) (Jp (Zw (i:=1) BP.nd Z (Or.inl Z)) (Jp (Zw (i:=2) BP.nd Z (Or.inl Z)) FC))))) (Yv (PSq.of (psn 3 BP.nd (pe_makeO oi_two .nil hr TG.mgG (pa2 (Jo T.n_list (pv 1)) (Jo T.n_list (pv 2)))))) (Yv (PSq.of (psn 4 BP.nd (Zg o_history hr (Zo (pv 3) (Zo (pv 1) (pa3 (pv 2) (Zh Jk (Zg o_at hr (pa2 (pv 0) Za)) Za) (Jz BJ (pv 0) (B7 Za) (B7 Za)))))))) (Yv (PSq.of (Yk (pcr (op_eqA hr.units0) (pxl (pv 4) Za) (Zx Jh)) (Ze (Zi BO)) Zn)) (Yv (PSq.of (psn 5 BP.nd (Zh eE (Zx (pa1 BO)) Za))) (Yv (PSq.of (psn 6 BP.nd (Zg o_at hr (pa2 (pv 0) Za)))) (Yv (PSq.of (AO PassesOwn.never Z (BN (Zx (Zo Za (Zo Za (Zo Za (Zo Za (pa3 Za Za Za))))))) (Zw (i:=7) BP.nd Z (Or.inl Z)) (Zc (EK (CO Jv (Zh Yn (pv 6) Za) Za (EC _)) (FP (pv 5) (pv 7) BU)) (Ze (psn 6 BP.nd (Zh Jk (pv 6) Za)))))) (Yv (PSq.of (psn 8 BP.nd (pxl (Zx (pa2 (Zh Zz Za (Zh Yn (pv 6) Za)) (pxl (Zx (Zo Za (pa3 Za (Zh Zz Za (Zh Yn (Zh Jk (pv 6) Za) Za)) Za))) (Zh Yn (pv 6) Za)))) (AR C7 (by rfl) T.n_int D9_ (pa1 (pxl (pv 5) Za)))))) (Yv (PSq.of (psn 9 BP.nd (Zg o_faulty hr (Zo (AR C7 (by rfl) T.n_int D9_ (pa1 (pxl (pv 5) Za))) (pa3 (pv 8) (Zg o_at hr (pa2 (pv 0) Za)) (D0 (by rfl) T.n_sum (pv 1))))))) (Yv (PSq.of (EK (OA (pxl (pv 5) Za) (T4 (CO CM (pv 8) Za (EC _)))) (FP (pv 5) Za BU))) (Yv (PSq.of (HQ (i:=10) Z BP.nd Z Z (Yi.of (T:=["_law_k"]) (js:=[0]) (Zd s_law).names N_law Z Z Z D9_) (MQ (by rfl) T.n_range (pa2 Za Za)) (λ_ _ _ _=>⟨(Zw (i:=0) (by show List.Nodup (["_law_k","_law_script"]:List fZ);decide +kernel) Z (Or.inl Z)),CS,(Zg o_at hr (pa2 (pv 1) (pv 0)))⟩))) (Yv (PSq.of (psn 11 BP.nd (pxl (Zx (pa2 (Zh Zz Za (Zh Yn (pxl (pv 10) Za) (Zy T.n_len (pv 1)))) (Zg o_beyond hr (pa2 (pxl (pv 10) Za) (Zy T.n_len (pv 1)))))) (AR C7 (by rfl) T.n_int D9_ (pa1 (pxl (pv 5) Za)))))) (Yv (PSq.of (psn 12 BP.nd (Zy T.n_len (pxl (pv 4) Za)))) (Yv (PSq.of (psn 13 BP.nd (Zx (pa3 (Zh Yn (pxl (pv 10) Za) (Zh Zz (pv 12) Za)) (Zh Zz (Zh Zz (pv 12) Za) (Zh Yn (Zh Jk (pxl (pv 10) Za) Za) (Zh FT Za Za))) (Zh Yj (KK EQ Za) (Zh Yn (Zh Jk (pxl (pv 10) Za) Za) (Zh FT Za Za))))))) (Yv (PSq.of (psn 13 BP.nd (pxl (pv 13) (Zh DV (AR C7 (by rfl) T.n_int D9_ (pa1 (pxl (pv 5) Za))) (Zh Zz Za (Zh Yn (pxl (pv 10) Za) Za)))))) (Yv (PSq.of (psn 14 BP.nd (pxl (Zx (pa2 (Zh Zz Za (Zh Yn (pxl (pv 10) Za) Za)) (Zg o_beyond hr (pa2 (pxl (pv 10) Za) Za)))) (AR C7 (by rfl) T.n_int D9_ (pa1 (pxl (pv 5) Za)))))) (Yv (PSq.of (psn 15 BP.nd (pxl (Zx (pa2 (Zh Zz Za (Zh Yn (pxl (pv 10) Za) (Zh FT Za Za))) (Zg o_beyond hr (pa2 (pxl (pv 10) Za) (Zh FT Za Za))))) (AR C7 (by rfl) T.n_int D9_ (pa1 (pxl (pv 5) Za)))))) (Yv (PSq.of (psn 16 BP.nd (Zx (pa2 (Zh Zz Za (Zh Yn (pxl (pv 10) Za) (Zh FT Za Za))) (Zh Zz Za (Zh Yn (pxl (pv 10) Za) (P6 (by rfl) T.n_max Za (pv 8)))))))) (Yv (PSq.of (Yk (AG (pxl (pv 5) Za)) (Ze (EK (Zg o_beyond hr (pa2 (Zh Jk (pxl (pv 10) Za) Za) (pxl (Zx (pa2 (Zh FT Za Za) (pv 8))) (Zh Yn (pxl (pv 10) Za) Za)))) (FP (pv 16) (Zh Yn (pxl (pv 10) Za) Za) BU))) Zn)) (Yv (PSq.of (psn 17 BP.nd (Jo T.n_list (pv 9)))) (Yv (ps_setQ (i:=18) BP.nd Z (Or.inl Z) (cQ aM pe_li4q VZ GD GD GD GD aM VZ GD)) (Yv (PSq.of (Yk (AZ (AG (Yc o_held hr T7 (Zo (Yc o_questions hr T7 (Zo (pv 3) (Zo (pv 11) (Zo (pv 13) (pa3 (pv 17) (pv 15) (pv 16)))))) (pa3 (pv 18) (pv 5) BO))))) (Ze (Zi BO)) Zn)) (Yv (PSq.of (Yk (AZ (AG (Yc o_held hr T7 (Zo (Yc o_deeds hr T7 (Zo (pv 3) (pa3 (pv 17) (pv 15) (pv 14)))) (pa3 (PEq.to (pe_lstL4 VZ GD GD GD)) (pv 5) BO))))) (Ze (Zi BO)) Zn)) (pss_oneQ (PSq.of (Zi (OA (CO (op_eqR hr.units0) (pv 17) (pv 9) (EC _)) (OA (Zg o_seen hr (pa3 (pv 3) (pv 1) (pv 2))) (T4 (Zg o_books hr (pa3 (pv 3) (pxl (pv 4) Za) (pxl (pv 4) Za))))))))))))))))))))))))))))))))),?_⟩;refine Yr λD1 hx=>?_;refine ⟨_,Z,a,ns,Z,hS,λH1 l pn ph fQ fR s1 fl fpn fph d1 d2 d3 hl hn hh B h30=>?_⟩;refine ⟨l,_,Z,SqL.of hl,Z,_,_,Z,_,_,Z,Z,?_⟩;refine hx _ _ ?_;refine Yr λD1 hx=>?_;refine ⟨_,Z,pn,_,Z,.inl (SqL.of hn),λc1 f1=>⟨_,Z,ph,_,Z,.inl (SqL.of (Same.upd f1 _ _ hh)),λc2 f2=>?_⟩⟩;refine init_of (Same.upd f2 _ _ Zb) Zb B h30 λH3 x pk ps s3 fk fs X3=>?_;have s2:=(Same.upd (o:=.lst (fQ.map V.int)) f1).trans (Same.upd (o:=.lst (fR.map V.int)) f2);have h2n:=s2 _ _ hn;have h2h:=s2 _ _ hh;generalize upd (upd H1 c1 (.lst (fQ.map V.int))) c2 (.lst (fR.map V.int))=H2 at s2 h2n h2h s3 fk fs X3;have fk0:H pk=none:=s1.free (s2.free fk);have fs0:H ps=none:=s1.free (s2.free fs);have s03:=(s1.trans s2).trans s3;have h3n:=s3 _ _ h2n;have h3h:=s3 _ _ h2h;have nkn:pk ≠ pn:=Ne.symm (Zf h2n fk);have nkh:pk ≠ ph:=Ne.symm (Zf h2h fk);have nsn:ps ≠ pn:=Ne.symm (Zf h2n fs);have nsh:ps ≠ ph:=Ne.symm (Zf h2h fs);clear f1 f2 hl hn hh fl;refine hx _ _ ?_;refine Yr λD1 hx=>?_;refine ⟨_,Z,_,Z,_,Z,_,Z,a,ns,0,Z,s03.seq hS,_,_,Z,Z,⟨by decide,by decide⟩,_,Z,_,Z,_,Z,a,_,Z,s03.seq hS,λpc fc=>?_⟩;obtain ⟨cells,ec,hcl⟩:=cut_ints ns (some 10) (some 18);have s4:=Same.upd (o:=.lst (DD (ns.map V.int) (some 10) (some 18))) fc;have h4c:(upd H3 pc (.lst (DD (ns.map V.int) (some 10) (some 18)))) pc=some (.lst (cells.map V.int)):=by rw [Zb,ec]
  generalize upd H3 pc (.lst (DD (ns.map V.int) (some 10) (some 18)))=H4 at s4 h4c ⊢;have s04:=s03.trans s4;refine ⟨x,pk,ps,pn,ph,pc,⟨fQ,fR,0,0⟩,_,cells,[pn,ph],Z,(X3.same s4).weak λb e z=>?_,B.stage,Z,Z,h30,s4 _ _ h3n,s4 _ _ h3h,d3,by simp,by simp,by simpa using ⟨nkn,nkh⟩,by simpa using ⟨nsn,nsh⟩,λb hb=>?_,h4c,by omega,λH5 l5 pq pb pz ts us qs As k5 fl5 fq5 fb5 fz5 n1 n2 n3 n4 n5 n6 h5l h5n h5h h5q h5b h5z U5 T5 hF hA20 hN20 Z5 X5=>?_⟩
  ·simp only [gR,iQ,or_false] at z;rcases z with rfl | rfl
   ·rw [h2n] at e;cases e
   ·rw [h2h] at e;cases e
  ·simp only [gR,iQ,or_false] at hb;rcases hb with rfl | rfl
   ·exact ⟨_,s4 _ _ h3n⟩
   ·exact ⟨_,s4 _ _ h3h⟩
  have k05:BR [pk,ps,pn,ph] H H5:=(s04.keepL _).trans k5;have hSq:∀ {H':Hp},Same H5 H'->SqL K H' a (ns.map V.int):=λ{H'} s=>s.seq (k05.seq hS λo e z=>by
   simp only [gR,iQ,or_false] at z;rcases z with z | z | z | z
   ·exact Zf e fk0 z
   ·exact Zf e fs0 z
   ·exact Zf e fpn z
   ·exact Zf e fph z)
  have oS:(DR ⟨fQ,fR,0,0⟩ As).Ok:=cI B.stage As hF;have lS:(DR ⟨fQ,fR,0,0⟩ As).fQ.length <= 50:=by
   have hN20:(DR ⟨fQ,fR,0,0⟩ As).fQ.length <= fQ.length+20:=hN20;omega
  have last5:=O4 ⟨fQ,fR,0,0⟩ As;have hl5:=T5.len;have hh5:=IT ⟨fQ,fR,0,0⟩ As;have first5:=NM ⟨fQ,fR,0,0⟩ As;have hT5:∀ {Pq:fT} {qual:fZ},H Pq=some (.tbl #[])->BC Pq qual H5:=λ{Pq qual} hT=>BC.keepL (BC.nil (s04 _ _ hT)) k5 (λb hb=>by
   obtain ⟨_,_,_,g3k,g3s,_⟩:=id X3.ex;simp only [gR,iQ,or_false] at hb;rcases hb with rfl | rfl | rfl | rfl
   ·exact ⟨_,s4 _ _ g3k⟩
   ·exact ⟨_,s4 _ _ g3s⟩
   ·exact ⟨_,s4 _ _ h3n⟩
   ·exact ⟨_,s4 _ _ h3h⟩)
  generalize DR ⟨fQ,fR,0,0⟩ As=S at *;generalize JP ⟨fQ,fR,0,0⟩ As=Ss at *;have hOl:=oS.fR.len;have hSlo:=oS.lo;obtain ⟨hs1,hs2⟩:=oS.sum (by omega);obtain ⟨dx,ds,hg,_⟩:=id X5.ex;have hTq5:=hT5 (qual:=(("_law_questions":fZ) ++ ".<locals>.") ++ "<lambda>") hTq;have hTd5:=hT5 (qual:=(("_law_deeds":fZ) ++ ".<locals>.") ++ "<lambda>") hTd;clear hT5;refine hx _ _ ?_
  try dsimp only [FV]
  refine Yr λD1 hx=>?_;refine ⟨_,Z,l5,_,_,_,Z,Z,SqL.of h5l,Z,sz9,λpe fe=>?_⟩;have s6:=Same.upd (o:=.lst []) fe;have h6e:(upd H5 pe (.lst [])) pe=some (.lst []):=Zb;generalize upd H5 pe (.lst [])=H6 at s6 h6e ⊢;refine ⟨pb,pe,[fR.sum,S.found,S.taken],[],Z,Z,SqL.of (s6 _ _ h5b),SqL.of h6e,_,Z,?_⟩;refine Jl (λh=>absurd (D8_ h) (by simp)) (λ_=>?_);refine hx _ _ ?_;have BS:NY S.fQ S.fR:=⟨hOl,hSlo,by omega,λi hi=>oS.need _ (getD_mem hi),λi hi=>⟨oS.fR.lo i hi,oS.fR.hi i hi⟩⟩;have hdn:∀ i,0 <= down S.fQ i:=λi=>by
   unfold down;exact sum_nn λx hx=>by have:=(oS.need x (List.mem_of_mem_drop hx)).1;omega
  have hSq6:=hSq s6;have X6:=X5.same s6;have hTq6:=hTq5.same s6;have hTd6:=hTd5.same s6;have h6n:=s6 _ _ h5n;have h6h:=s6 _ _ h5h;have h6l:=s6 _ _ h5l;have h6q:=s6 _ _ h5q;have h6b:=s6 _ _ h5b;have U6:=U5.same s6;have T6:=T5.same s6;clear h5n h5h h5l h5q h5b h5z U5 T5 X5 hTq5 hTd5 s6 h6e hSq k5 k05 Z5 s4 s03 s04 s1 s2 s3 X3 h3n h3h h2n h2h h4c hg fe;refine Yr λD1 hx=>?_;refine ⟨sz9,λp1 f1=>?_⟩;have u1:=Same.upd (o:=.lst [.bl false]) f1;have e1:(upd H6 p1 (.lst [.bl false])) p1=some (.lst [.bl false]):=Zb;generalize upd H6 p1 (.lst [.bl false])=H7 at u1 e1 ⊢;refine ⟨p1,12,_,Z,Z,e1,by decide,by decide,(by show 1 * 12 <= _;decide),λpw fw=>?_⟩;refine hx _ _ ?_;have e2:(upd H7 pw (.lst (hV (12:Int).toNat [V.bl false]).flatten))=upd H7 pw (.lst ((hV 12 false).map V.bl)):=rfl;rw [e2];have h8w:(upd H7 pw (.lst ((hV 12 false).map V.bl))) pw=some (.lst ((hV 12 false).map V.bl)):=Zb;have fw6:H6 pw=none:=u1.free fw;have s8:=u1.trans (Same.upd (o:=.lst ((hV 12 false).map V.bl)) fw);generalize upd H7 pw (.lst ((hV 12 false).map V.bl))=H8 at s8 h8w ⊢;clear u1 e1 e2 f1 fw;refine Yr λD1 hx=>?_;refine ⟨_,Z,a,ns,3,Z,s8.seq hSq6,?_⟩;refine hx _ _ ?_;generalize ns.getD 3 0=pick0;refine E1 (λσ' H'=>E3 λ(pick:Int) (v7:Option V) (ws:List Bool)=>σ' = [some (.ref a),some (.ref pn),some (.ref ph),some (.ref x),some (.ref l5),some (.ref pw),some (.int pick),v7,none,none,none,none,none,none,none,none,none,none,none]/\Same H6 H'/\H' pw=some (.lst (ws.map V.bl))/\ws.length=12) (λnx hnx=>?_) ?_
  ·refine ⟨sz9,λp2 f2=>?_⟩;have u2:=Same.upd (o:=.lst [.int 6,.int 0,.int 5,.int 7,.int 8,.int 3,.int 1]) f2;have e2:(upd H8 p2 (.lst [.int 6,.int 0,.int 5,.int 7,.int 8,.int 3,.int 1])) p2=some (.lst ([6,0,5,7,8,3,1].map λj:Nat=>V.int (j:Int))):=Zb;generalize upd H8 p2 (.lst [.int 6,.int 0,.int 5,.int 7,.int 8,.int 3,.int 1])=H9 at u2 e2 ⊢;have np2:p2 ≠ pw:=Ne.symm (Zf h8w f2);have f62:H6 p2=none:=s8.free f2;refine ⟨p2,Z,⟨_,SqL.of e2⟩,?_⟩;refine D9 (xs:=[6,0,5,7,8,3,1].map λj:Nat=>V.int (j:Int)) (λi σ H'=>E3 λ(pick:Int) (v7:Option V) (ws:List Bool)=>σ=[some (.ref a),some (.ref pn),some (.ref ph),some (.ref x),some (.ref l5),some (.ref pw),some (.int pick),v7,none,none,none,none,none,none,none,none,none,none,none]/\Same H6 H'/\H' p2=some (.lst ([6,0,5,7,8,3,1].map λj:Nat=>V.int (j:Int)))/\H' pw=some (.lst (ws.map V.bl))/\ws.length=12) ?_ ?_ ?_ ?_
   ·exact ⟨pick0,none,hV 12 false,Z,s8.trans u2,e2,u2 _ _ h8w,Z⟩
   ·rintro i σ H' _ ⟨_,_,_,_,_,h,_⟩;exact SqL.of h
   ·rintro i y σ H10 hy ⟨pick,v7,ws,rfl,s10,h10p,h10w,hwl⟩;obtain ⟨j,rfl,hj⟩:∃ j:Nat,y = .int (j:Int)/\j < 12:=by
     rw [gE] at hy
     match i,hy with
     | 0,hy=>cases hy;exact ⟨6,Z,by decide⟩
     | 1,hy=>cases hy;exact ⟨0,Z,by decide⟩
     | 2,hy=>cases hy;exact ⟨5,Z,by decide⟩
     | 3,hy=>cases hy;exact ⟨7,Z,by decide⟩
     | 4,hy=>cases hy;exact ⟨8,Z,by decide⟩
     | 5,hy=>cases hy;exact ⟨3,Z,by decide⟩
     | 6,hy=>cases hy;exact ⟨1,Z,by decide⟩
     | k+7,hy=>simp at hy
    refine Yr λD3 hz3=>?_;refine ⟨_,Z,_,_,Z,Z,(by show (0:Int) < 2;decide),Z,?_⟩;refine ⟨_,Z,_,Z,pw,_,_,j,Z,Z,h10w,KC (k:=j) (by rw [fU];omega),?_⟩;refine hz3 _ _ ?_;refine ⟨_,Z,_,_,Z,Z,⟨by decide,by decide⟩,?_⟩;exact ⟨_,_,ws.set j (decide (V.int (pick % 2)=V.int 1)),Z,s10.set fw6,by rw [Zk np2];exact h10p,by rw [Zb,lJ],by rw [kE];exact hwl⟩
   ·rintro σ H10 ⟨pick,v7,ws,rfl,s10,_,h10w,hwl⟩;exact hnx _ _ ⟨pick,v7,ws,Z,s10,h10w,hwl⟩
  rintro _ H9 ⟨pick,v7,ws,rfl,s9,h9w,hwl⟩;clear s8 h8w;obtain ⟨n,hn100,hn5,hn5',en⟩:=many_at (ws.getD 5 false) pick (pick / 4) pick;obtain ⟨z4,e4⟩:=four_at (pick / 4) pick;refine Yr λD1 hx=>?_;refine ⟨_,Z,_,_,Z,Z,(by show (0:Int) < 12;decide),_,_,Z,Z,_,Z,_,_,Z,Z,⟨by decide,by decide⟩,_,_,Z,Z,(by show (0:Int) < 47;decide),_,_,Z,Z,sz9,λp2 f2=>?_⟩;have v2:=Same.upd (o:=.lst [V.int 0,V.int 13,V.int (14+pick / 4 % 47),V.int 100]) f2;refine ⟨_,Z,_,_,Z,Z,(by show (0:Int) < 4;decide),p2,_,_,_,Z,Z,SqL.of Zb,e4,sz9,λp3 f3=>?_⟩;have v3:=v2.trans (Same.upd (o:=.lst [V.int (1+pick % 12),V.int z4]) f3);refine ⟨_,Z,pw,_,_,_,Z,Z,SqL.of (v3 _ _ h9w),RT hwl (j:=5) (by decide),.inr ⟨_,Z,p3,_,_,_,Z,Z,SqL.of Zb,en z4 e4,?_⟩⟩;refine hx _ _ ?_;generalize upd (upd H9 p2 _) p3 _=H10 at v3 ⊢;have s10:=s9.trans v3;have h10w:=v3 _ _ h9w;clear en e4 v2 v3 f2 f3 s9 h9w;refine Yr λD1 hx=>?_;refine ⟨_,Z,pw,_,_,_,Z,Z,SqL.of h10w,RT hwl (j:=6) (by decide),.inr ⟨_,Z,_,Z,_,Z,a,ns,4,Z,s10.seq hSq6,_,Z,pn,S.fQ,Z,SqL.of (s10 _ _ h6n),_,_,_,n,Z,hn100,hs1,by omega,λH11 py ts0 ss s11 fpy h11y hS11 hsn bad6 good6=>?_⟩⟩;refine hx _ _ ?_;have nyw:py ≠ pw:=Ne.symm (Zf h10w fpy);have fy6:H6 py=none:=s10.free fpy;have h11w:=s11 _ _ h10w;have s12:=s10.trans s11;clear s10 s11 h10w fpy;obtain ⟨w6,hw6t,hw6f,hw6⟩:∃ w6:Bool,(w6=true->¬ ∀ z ∈ ss.take 60,Yl z.2)/\(w6=false->∀ z ∈ ss,Yl z.2)/\w6=(if ws.getD 6 false=true then decide ((0:Int) < (n:Int)) else false):=by
   refine ⟨_,λe=>bad6 ?_,λe=>good6 ?_,Z⟩
   ·by_cases h:ws.getD 6 false=true
    ·rw [if_pos h] at e ⊢;have:=D8_ e;exact ⟨Z,by omega⟩
    ·rw [if_neg h] at e;cases e
   ·rintro ⟨h1,h2⟩;by_cases h:ws.getD 6 false=true
    ·rw [if_pos h] at e;have:=of_decide_eq_false e;omega
    ·rw [if_neg h] at h1;cases h1
  refine E1 (λσ' H'=>σ' = [some (.ref a),some (.ref pn),some (.ref ph),some (.ref x),some (.ref l5),some (.ref pw),some (.int pick),v7,some (.int (n:Int)),some (.ref py),none,none,none,none,none,none,none,none,none]/\H' = upd H11 pw (.lst ((ws.set 6 w6).map V.bl))) (λnx hnx=>?_) ?_
  ·refine ⟨_,Z,pw,_,_,_,Z,Z,SqL.of h11w,RT hwl (j:=6) (by decide),_,Z,?_⟩;refine Jl (λhc=>?_) (λhc=>?_)
   ·rw [if_pos hc] at hw6;exact ⟨_,Z,_,_,Z,Z,_,Z,pw,_,_,6,Z,Z,h11w,KC (k:=6) (by rw [fU];omega),hnx _ _ ⟨Z,by rw [hw6,lJ]⟩⟩
   ·rw [if_neg hc] at hw6;exact ⟨_,Z,pw,_,_,6,Z,Z,h11w,KC (k:=6) (by rw [fU];omega),hnx _ _ ⟨Z,by rw [hw6,lJ]⟩⟩
  rintro _ _ ⟨rfl,rfl⟩;have h5w:(ws.set 6 w6).getD 5 false=ws.getD 5 false:=by
   rw [fY,fY,jD (by decide)]
  have h6w:(ws.set 6 w6).getD 6 false=w6:=by
   rw [fY,iX (by omega)];rfl
  have hwl':(ws.set 6 w6).length=12:=by rw [kE];exact hwl
  have h12w:(upd H11 pw (.lst ((ws.set 6 w6).map V.bl))) pw=some (.lst ((ws.set 6 w6).map V.bl)):=Zb;have s13:=s12.set (o:=.lst ((ws.set 6 w6).map V.bl)) fw6;have h12y:(upd H11 pw (.lst ((ws.set 6 w6).map V.bl))) py=some (.lst (ts0.map V.ref)):=by rw [Zk nyw];exact h11y
  have hS12:=hS11.tup (CW (o:=.lst ((ws.set 6 w6).map V.bl)) h11w);generalize upd H11 pw (.lst ((ws.set 6 w6).map V.bl))=H12 at s13 h12w h12y hS12 ⊢;rw [<- h5w] at hn5 hn5';rw [<- h6w] at hw6t hw6f;clear hw6 bad6 good6 h11w h11y hS11 s12 h5w h6w hwl;generalize ws.set 6 w6=ws' at *;refine Yr λD1 hx=>?_;refine ⟨5,10,Z,⟨by decide,by decide,by decide,by decide⟩,λpcs fcs=>?_⟩;refine EI (lo:=5) (n:=((10:Int) - 5).toNat) (λi σ H'=>(∃ v,σ=[v,some (.ref a)])/\∃ cs:List Int,cs.length=i/\H' = upd H12 pcs (.lst (cs.map V.int))) ?_ ?_ ?_
  ·exact ⟨⟨none,Z⟩,[],Z,Z⟩
  ·rintro i σ H' hi ⟨⟨v,rfl⟩,cs,hcs,rfl⟩;have hi:i < 5:=hi;refine DN ?_;refine ⟨_,Z,_,Z,a,ns,5+i,?_,(s13.trans (Same.upd fcs)).seq hSq6,?_⟩
   ·show [V.ref a,V.int (5+(i:Int))]=[V.ref a,V.int ((5+i:Nat):Int)];rw [show (5:Int)+(i:Int)=((5+i:Nat):Int) by omega]
   exact ⟨_,Zb,Js (by rw [fU];omega),⟨_,Z⟩,cs ++ [ns.getD (5+i) 0],by rw [i6,hcs];rfl,by rw [CK,gO];rfl⟩
  rintro σ0 H13 ⟨_,cs,hcs,rfl⟩;refine hx _ _ ?_;have u13:=Same.upd (o:=.lst (cs.map V.int)) fcs;have h13c:(upd H12 pcs (.lst (cs.map V.int))) pcs=some (.lst (cs.map V.int)):=Zb;generalize upd H12 pcs (.lst (cs.map V.int))=H13 at u13 h13c ⊢;have hcs:cs.length=5:=hcs;have s14:=s13.trans u13;have h13w:=u13 _ _ h12w;have h13y:=u13 _ _ h12y;have hS13:=hS12.same u13;clear u13 h12w h12y hS12 s13 fcs;have c_at:∀ j:Nat,j < 5->atI (cs.map V.int) (j:Int)=some (.int (cs.getD j 0)):=λj hj=>Yz (by omega);have e18:(10:Int) ^ ((18:Int).toNat)=1000000000000000000:=by decide
  have hlp:(0:Int) < ((S.fQ.map V.int).length:Int):=by rw [fU];omega
  refine Yr λD1 hx=>?_;refine ⟨_,Z,pcs,_,_,_,Z,Z,SqL.of h13c,c_at 0 (by decide),_,Z,pn,_,Z,.inl (SqL.of (s14 _ _ h6n)),_,_,Z,Z,hlp,_,_,Z,Z,_,Z,pcs,_,_,_,Z,Z,SqL.of h13c,c_at 0 (by decide),_,Z,pn,_,Z,.inl (SqL.of (s14 _ _ h6n)),_,_,Z,Int.le_of_lt hlp,λzb H14 x14 hzb=>?_⟩;refine ⟨sz9,λp6 f6=>?_⟩;have x15:=x14.trans (Same.upd (o:=.lst [V.int (1+cs.getD 0 0 % ((S.fQ.map V.int).length:Int)),V.int zb]) f6);refine ⟨_,Z,pw,_,_,_,Z,Z,SqL.of (x15 _ _ h13w),RT hwl' (j:=0) (by decide),.inr ⟨_,Z,p6,_,_,_,Z,Z,SqL.of Zb,eQ _ _ _,?_⟩⟩;refine hx _ _ ?_;obtain ⟨b,eb,hb0,hb0'⟩:∃ b:Int,(if ws'.getD 0 false=true then zb else 1+cs.getD 0 0 % ((S.fQ.map V.int).length:Int))=b/\(ws'.getD 0 false=true->¬ (1 <= b/\b <= (S.fQ.length:Int)))/\(ws'.getD 0 false=false->1 <= b/\b <= (S.fQ.length:Int)):=by
   rw [fU] at hzb hlp ⊢;refine ⟨_,Z,λe=>by rw [if_pos e];exact hzb,λe=>?_⟩;rw [if_neg (by rw [e];decide)];have r1:=gM (cs.getD 0 0) (Int.ne_of_gt hlp);have r2:=gC (cs.getD 0 0) hlp;omega
  rw [eb];generalize upd H14 p6 _=H15 at x15 ⊢;have s15:=s14.trans x15;have h15w:=x15 _ _ h13w;have h15y:=x15 _ _ h13y;have h15c:=x15 _ _ h13c;have hS15:=hS13.same x15;clear h13w s14 h13y h13c hS13 x14 x15 f6 hzb eb;refine Yr λD1 hx=>?_;refine ⟨_,Z,l5,_,_,_,Z,Z,SqL.of (s15 _ _ h6l),Z,pq,_,Z,.inl (SqL.of (s15 _ _ h6q)),?_⟩;refine hx _ _ ?_;rw [fU];have hUl:=U6.len;have hTl:=T6.len;have kpos:(0:Int) < (us.length:Int)+1:=by omega
  refine Yr λD1 hx=>?_;refine ⟨_,Z,pcs,_,_,_,Z,Z,SqL.of h15c,c_at 1 (by decide),_,Z,_,_,Z,Z,_,_,Z,Z,kpos,_,Z,_,_,Z,Z,_,Z,pcs,_,_,_,Z,Z,SqL.of h15c,c_at 1 (by decide),_,_,Z,Z,⟨by decide,by decide⟩,_,_,Z,Z,⟨by decide,by decide,by decide⟩,_,_,Z,Z,(by show (0:Int) < 10 ^ 30;decide),_,_,Z,Z,?_⟩;refine ⟨_,Z,_,Z,pcs,_,_,_,Z,Z,SqL.of h15c,c_at 1 (by decide),_,_,Z,Z,⟨by decide,by decide⟩,_,_,Z,Z,⟨by decide,by decide,by decide⟩,_,_,Z,Z,(by show (0:Int) < 10 ^ 30;decide),_,_,Z,Z,sz9,λpdh fdh=>?_⟩;refine hx _ _ ?_;have r1:=gM (cs.getD 1 0) (Int.ne_of_gt kpos);have r2:=gC (cs.getD 1 0) kpos;have r3:(0:Int) <= cs.getD 1 0 / 2 % 10 ^ ((30:Int).toNat):=gM _ (by decide)
  try dsimp only
  generalize cs.getD 1 0 % ((us.length:Int)+1)=da at r1 r2 ⊢;generalize cs.getD 1 0 / 2 % 10 ^ ((30:Int).toNat)=db at r3 ⊢;have x16:=Same.upd (o:=.lst [V.int da,V.int ((us.length:Int)+1+db),V.int (-1 - db)]) fdh;have h16d:(upd H15 pdh (.lst [V.int da,V.int ((us.length:Int)+1+db),V.int (-1 - db)])) pdh=some (.lst [V.int da,V.int ((us.length:Int)+1+db),V.int (-1 - db)]):=Zb;generalize upd H15 pdh (.lst [V.int da,V.int ((us.length:Int)+1+db),V.int (-1 - db)])=H16 at x16 h16d ⊢;have s16:=s15.trans x16;have h16w:=x16 _ _ h15w;have h16y:=x16 _ _ h15y;have h16c:=x16 _ _ h15c;have hS16:=hS15.same x16;clear h15w s15 h15y h15c hS15 x16 fdh;obtain ⟨dn,edn,hd1,hd1'⟩:=three_at (ws'.getD 1 false) da ((us.length:Int)+1+db) (-1 - db) (cs.getD 1 0);refine Yr λD1 hx=>?_;refine ⟨_,Z,_,Z,pw,_,_,_,Z,Z,SqL.of h16w,RT hwl' (j:=1) (by decide),.inr ⟨_,Z,_,Z,pcs,_,_,_,Z,Z,SqL.of h16c,c_at 1 (by decide),_,_,Z,Z,(by show (0:Int) < 2;decide),_,_,Z,Z,_,_,Z,Z,.inl (by split <;> exact ⟨by decide,by decide⟩),pdh,_,_,_,Z,Z,SqL.of h16d,edn,?_⟩⟩;refine hx _ _ ?_;have f1:ws'.getD 1 false=false->0 <= dn/\dn <= (us.length:Int):=λe=>by have:=hd1 e;omega
  have t1:ws'.getD 1 false=true->¬ (0 <= dn/\dn <= (us.length:Int)):=λe=>by have:=hd1' e;omega
  clear hd1 hd1' edn h16d r1 r2 r3;refine Yr λD1 hx=>?_;refine ⟨_,Z,pcs,_,_,_,Z,Z,SqL.of h16c,c_at 2 (by decide),_,_,Z,Z,(by show (0:Int) < 200;decide),_,_,Z,Z,_,Z,pcs,_,_,_,Z,Z,SqL.of h16c,c_at 2 (by decide),_,_,Z,(by show (0:Int) <= 200;decide),λzd H17 x17 hzd=>?_⟩;refine ⟨sz9,λp7 f7=>?_⟩;have x18:=x17.trans (Same.upd (o:=.lst [V.int (1+cs.getD 2 0 % 200),V.int zd]) f7);refine ⟨_,Z,pw,_,_,_,Z,Z,SqL.of (x18 _ _ h16w),RT hwl' (j:=3) (by decide),.inr ⟨_,Z,p7,_,_,_,Z,Z,SqL.of Zb,eQ _ _ _,?_⟩⟩;refine hx _ _ ?_;obtain ⟨nd,end_,t3⟩:∃ nd:Int,(if ws'.getD 3 false=true then zd else 1+cs.getD 2 0 % 200)=nd/\(ws'.getD 3 false=true->¬ (1 <= nd/\nd <= 200)):=⟨_,Z,λe=>by rw [if_pos e];exact hzd⟩;rw [end_];generalize upd H17 p7 _=H18 at x18 ⊢;have s18:=s16.trans x18;have h18w:=x18 _ _ h16w;have h18y:=x18 _ _ h16y;have h18c:=x18 _ _ h16c;have hS18:=hS16.same x18;clear h16w s16 h16y h16c hS16 x17 x18 f7 hzd end_;refine Yr λD1 hx=>?_;refine ⟨_,Z,pcs,_,_,_,Z,Z,SqL.of h18c,c_at 3 (by decide),_,_,Z,Z,⟨by decide,by decide,by decide⟩,_,_,Z,Z,(by show (0:Int) < 10 ^ 18;decide),_,_,Z,Z,_,Z,pcs,_,_,_,Z,Z,SqL.of h18c,c_at 3 (by decide),_,_,Z,Z,⟨by decide,by decide,by decide⟩,_,_,Z,(by show (0:Int) <= 10 ^ 18;decide),λzm H19 x19 hzm=>?_⟩;rw [e18] at hzm;refine ⟨sz9,λp8 f8=>?_⟩;have x20:=x19.trans (Same.upd (o:=.lst [V.int (1+cs.getD 3 0 % 10 ^ ((18:Int).toNat)),V.int zm]) f8);refine ⟨_,Z,pw,_,_,_,Z,Z,SqL.of (x20 _ _ h18w),RT hwl' (j:=7) (by decide),.inr ⟨_,Z,p8,_,_,_,Z,Z,SqL.of Zb,eQ _ _ _,?_⟩⟩;refine hx _ _ ?_;obtain ⟨m,em,t7,f7⟩:∃ m:Int,(if ws'.getD 7 false=true then zm else 1+cs.getD 3 0 % 10 ^ ((18:Int).toNat))=m/\(ws'.getD 7 false=true->¬ (1 <= m/\m <= 1000000000000000000))/\(ws'.getD 7 false=false->1 <= m/\m <= 1000000000000000000):=by
   refine ⟨_,Z,λe=>by rw [if_pos e];exact hzm,λe=>?_⟩;rw [if_neg (by rw [e];decide),e18];have r1:=gM (cs.getD 3 0) (show (1000000000000000000:Int) ≠ 0 by decide);have r2:=gC (cs.getD 3 0) (show (0:Int) < 1000000000000000000 by decide);omega
  rw [em];generalize upd H19 p8 _=H20 at x20 ⊢;have s20:=s18.trans x20;have h20w:=x20 _ _ h18w;have h20y:=x20 _ _ h18y;have h20c:=x20 _ _ h18c;have hS20:=hS18.same x20;clear h18w s18 h18y h18c hS18 x19 x20 f8 hzm em;refine Yr λD1 hx=>?_;have hmx:(0:Int) < (if (1:Int) < (n:Int) then (n:Int) else 1):=by split <;> omega
  refine ⟨_,Z,pcs,_,_,_,Z,Z,SqL.of h20c,c_at 4 (by decide),_,_,Z,Z,⟨by decide,by decide,by decide⟩,_,_,Z,Z,(by show (0:Int) < 10 ^ 18;decide),_,_,Z,Z,_,Z,pcs,_,_,_,Z,Z,SqL.of h20c,c_at 4 (by decide),_,Z,_,_,Z,_,_,Z,Z,hmx,_,_,Z,Z,sz9,λpl fpl=>?_⟩;refine hx _ _ ?_;have q1:=gM (cs.getD 4 0) (Int.ne_of_gt hmx);have q2:=gC (cs.getD 4 0) hmx;have q3:=gM (cs.getD 4 0) (show ((10:Int) ^ ((18:Int).toNat)) ≠ 0 by decide);have q4:=gC (cs.getD 4 0) (show (0:Int) < (10:Int) ^ ((18:Int).toNat) by decide)
  try dsimp only
  generalize cs.getD 4 0 % (if (1:Int) < (n:Int) then (n:Int) else 1)=sq at q1 q2 ⊢;generalize cs.getD 4 0 % (10:Int) ^ ((18:Int).toNat)=yq at q3 q4 ⊢;rw [e18] at q4;have x21:=Same.upd (o:=.lst [V.int (1+yq),V.int (1+sq)]) fpl;have h21p:(upd H20 pl (.lst [V.int (1+yq),V.int (1+sq)])) pl=some (.lst [V.int (1+yq),V.int (1+sq)]):=Zb;generalize upd H20 pl (.lst [V.int (1+yq),V.int (1+sq)])=H21 at x21 h21p ⊢;have s21:=s20.trans x21;have fl6:H6 pl=none:=s20.free fpl;have h21w:=x21 _ _ h20w;have h21y:=x21 _ _ h20y;have h21c:=x21 _ _ h20c;have hS21:=hS20.same x21;have nlw:pl ≠ pw:=Ne.symm (Zf h20w fpl);have nly:pl ≠ py:=Ne.symm (Zf h20y fpl);clear x21 h20w s20 h20y h20c hS20 fpl;refine E1 (λσ' H'=>E2 λ(y u:Int)=>σ' = [some (.ref a),some (.ref pn),some (.ref ph),some (.ref x),some (.ref l5),some (.ref pw),some (.int pick),v7,some (.int (n:Int)),some (.ref py),some (.ref pcs),some (.int b),some (.int (us.length:Int)),some (.int dn),some (.int nd),some (.int m),some (.ref pl),none,none]/\Same H6 H'/\H' pw=some (.lst (ws'.map V.bl))/\H' py=some (.lst (ts0.map V.ref))/\Zu H' ts0 ss/\H' pl=some (.lst [.int y,.int u])/\(ws'.getD 8 false=true->¬ (1 <= y/\y <= 1000000000000000000/\1 <= u/\u <= (n:Int)))/\(ws'.getD 8 false=false->1 <= n->1 <= y/\y <= 1000000000000000000/\1 <= u/\u <= (n:Int))) (λnx hnx=>?_) ?_
  ·refine ⟨_,Z,pw,_,_,_,Z,Z,SqL.of h21w,RT hwl' (j:=8) (by decide),_,Z,?_⟩;cases w8:ws'.getD 8 false with
   | false=>
    refine CV ?_;refine hnx _ _ ⟨1+yq,1+sq,Z,s21,h21w,h21y,hS21,h21p,(λz=>absurd (w8.symm.trans z) (by decide)),λ_ h1=>⟨by omega,by omega,by omega,?_⟩⟩;split at q2 <;> omega
   | true=>
    refine IA ?_;have g1:=gM (cs.getD 4 0) (show (2:Int) ≠ 0 by decide);have g2:=gC (cs.getD 4 0) (show (0:Int) < 2 by decide);have hg:cs.getD 4 0 % 2=0\/cs.getD 4 0 % 2=1:=by omega
    refine ⟨_,Z,pcs,_,_,_,Z,Z,SqL.of h21c,c_at 4 (by decide),_,_,Z,Z,⟨by decide,by decide⟩,_,_,Z,Z,⟨by decide,by decide,by decide⟩,_,Z,sz9,λp7 f7=>?_⟩;have x17:=Same.upd (o:=.lst [V.int (10 ^ ((18:Int).toNat)),V.int (n:Int)]) f7;obtain ⟨mo,emo,hmo,hmo1,hmo2⟩:∃ mo:Int,atI [V.int (10 ^ ((18:Int).toNat)),V.int (n:Int)] (cs.getD 4 0 % 2)=some (.int mo)/\0 <= mo/\(cs.getD 4 0 % 2=0->mo=1000000000000000000)/\(cs.getD 4 0 % 2=1->mo=(n:Int)):=by
     rcases hg with e | e <;> rw [e]
     ·exact ⟨_,Z,by rw [e18];decide,λ_=>e18,by omega⟩
     ·exact ⟨_,Z,by omega,by omega,λ_=>rfl⟩
    refine ⟨_,Z,pcs,_,_,_,Z,Z,SqL.of (x17 _ _ h21c),c_at 4 (by decide),_,_,Z,Z,(by show (0:Int) < 2;decide),p7,_,_,_,Z,Z,SqL.of Zb,emo,_,_,Z,hmo,λzz H22 x22 hzz=>?_⟩;have x22:=x17.trans x22;have h22p:=x22 _ _ h21p;have h22w:=x22 _ _ h21w;have h22y:=x22 _ _ h21y;have h22c:=x22 _ _ h21c;have hS22:=hS21.same x22;have kt:=λo=>CW (o:=o) h22p;refine ⟨_,Z,_,Z,pcs,_,_,_,Z,Z,SqL.of h22c,c_at 4 (by decide),_,_,Z,Z,(by show (0:Int) < 2;decide),?_⟩
    try dsimp only
    rcases hg with e | e <;> rw [e]
    ·have h0:=hmo1 e;refine ⟨pl,_,_,0,Z,Z,h22p,Z,?_⟩;exact hnx _ _ ⟨zz,1+sq,Z,(s21.trans x22).set fl6,by rw [Zk (Ne.symm nlw)];exact h22w,by rw [Zk (Ne.symm nly)];exact h22y,hS22.tup (kt _),Zb,λ_=>by omega,(λz=>absurd (w8.symm.trans z) (by decide))⟩
    ·have h0:=hmo2 e;refine ⟨pl,_,_,1,Z,Z,h22p,Z,?_⟩;exact hnx _ _ ⟨1+yq,zz,Z,(s21.trans x22).set fl6,by rw [Zk (Ne.symm nlw)];exact h22w,by rw [Zk (Ne.symm nly)];exact h22y,hS22.tup (kt _),Zb,λ_=>by omega,(λz=>absurd (w8.symm.trans z) (by decide))⟩
  rintro _ H22 ⟨y,u,rfl,s22,h22w,h22y,hS22,h22p,t8,f8⟩;clear h21p s21 h21w h21y h21c hS21 hmx q1 q2 q3 q4;refine Yr λD1 hx=>?_;refine ⟨_,Z,py,_,Z,.inl (SqL.of h22y),λpa fpa=>?_⟩;refine hx _ _ ?_;have x23:=Same.upd (o:=.lst (ts0.map V.ref)) fpa;have h23a:(upd H22 pa (.lst (ts0.map V.ref))) pa=some (.lst (ts0.map V.ref)):=Zb;generalize upd H22 pa (.lst (ts0.map V.ref))=H23 at x23 h23a ⊢;have s23:=s22.trans x23;have h23w:=x23 _ _ h22w;have h23y:=x23 _ _ h22y;have h23p:=x23 _ _ h22p;have hS23:=hS22.same x23;clear x23 s22 h22w h22y h22p hS22 fpa;refine Yr λD1 hx=>?_;refine ⟨sz9,λpq0 fq0=>?_⟩;have yq0:=Same.upd (o:=.lst [.int 0,.int 6]) fq0;have jq0:(upd H23 pq0 (.lst [.int 0,.int 6])) pq0=some (.lst [.int 0,.int 6]):=Zb;generalize upd H23 pq0 (.lst [.int 0,.int 6])=q0 at yq0 jq0 ⊢;refine ⟨sz9,λpq1 fq1=>?_⟩;have yq1:=Same.upd (o:=.lst [.int 0,.int 5,.int 6,.int 7]) fq1;have jq1:(upd q0 pq1 (.lst [.int 0,.int 5,.int 6,.int 7])) pq1=some (.lst [.int 0,.int 5,.int 6,.int 7]):=Zb;generalize upd q0 pq1 (.lst [.int 0,.int 5,.int 6,.int 7])=q1 at yq1 jq1 ⊢;refine ⟨sz9,λpq2 fq2=>?_⟩;have yq2:=Same.upd (o:=.lst [.int 0,.int 5,.int 6]) fq2;have jq2:(upd q1 pq2 (.lst [.int 0,.int 5,.int 6])) pq2=some (.lst [.int 0,.int 5,.int 6]):=Zb;generalize upd q1 pq2 (.lst [.int 0,.int 5,.int 6])=q2 at yq2 jq2 ⊢;refine ⟨sz9,λpq3 fq3=>?_⟩;have yq3:=Same.upd (o:=.lst [.int 0]) fq3;have jq3:(upd q2 pq3 (.lst [.int 0])) pq3=some (.lst [.int 0]):=Zb;generalize upd q2 pq3 (.lst [.int 0])=q3 at yq3 jq3 ⊢;refine ⟨sz9,λpq4 fq4=>?_⟩;have yq4:=Same.upd (o:=.lst [.int 0]) fq4;have jq4:(upd q3 pq4 (.lst [.int 0])) pq4=some (.lst [.int 0]):=Zb;generalize upd q3 pq4 (.lst [.int 0])=q4 at yq4 jq4 ⊢;refine ⟨sz9,λpq5 fq5=>?_⟩;have yq5:=Same.upd (o:=.lst [.int 0]) fq5;have jq5:(upd q4 pq5 (.lst [.int 0])) pq5=some (.lst [.int 0]):=Zb;generalize upd q4 pq5 (.lst [.int 0])=q5 at yq5 jq5 ⊢;refine ⟨sz9,λpq6 fq6=>?_⟩;have yq6:=Same.upd (o:=.lst [.int 0]) fq6;have jq6:(upd q5 pq6 (.lst [.int 0])) pq6=some (.lst [.int 0]):=Zb;generalize upd q5 pq6 (.lst [.int 0])=q6 at yq6 jq6 ⊢;refine ⟨sz9,λpq7 fq7=>?_⟩;have yq7:=Same.upd (o:=.lst [.int 5,.int 6]) fq7;have jq7:(upd q6 pq7 (.lst [.int 5,.int 6])) pq7=some (.lst [.int 5,.int 6]):=Zb;generalize upd q6 pq7 (.lst [.int 5,.int 6])=q7 at yq7 jq7 ⊢;refine ⟨sz9,λpq8 fq8=>?_⟩;have yq8:=Same.upd (o:=.lst [.int 5,.int 6,.int 8]) fq8;have jq8:(upd q7 pq8 (.lst [.int 5,.int 6,.int 8])) pq8=some (.lst [.int 5,.int 6,.int 8]):=Zb;generalize upd q7 pq8 (.lst [.int 5,.int 6,.int 8])=q8 at yq8 jq8 ⊢;refine ⟨sz9,λpq9 fq9=>?_⟩;have yq9:=Same.upd (o:=.lst [.int 1]) fq9;have jq9:(upd q8 pq9 (.lst [.int 1])) pq9=some (.lst [.int 1]):=Zb;generalize upd q8 pq9 (.lst [.int 1])=q9 at yq9 jq9 ⊢;refine ⟨sz9,λpdq fdq=>?_⟩;have ydq:=Same.upd (o:=.lst [.ref pq0,.ref pq1,.ref pq2,.ref pq3,.ref pq4,.ref pq5,.ref pq6,.ref pq7,.ref pq8,.ref pq9]) fdq;have jdq:(upd q9 pdq (.lst [.ref pq0,.ref pq1,.ref pq2,.ref pq3,.ref pq4,.ref pq5,.ref pq6,.ref pq7,.ref pq8,.ref pq9])) pdq=some (.lst ([pq0,pq1,pq2,pq3,pq4,pq5,pq6,pq7,pq8,pq9].map V.ref)):=Zb;generalize upd q9 pdq (.lst [.ref pq0,.ref pq1,.ref pq2,.ref pq3,.ref pq4,.ref pq5,.ref pq6,.ref pq7,.ref pq8,.ref pq9])=Dq at ydq jdq ⊢;have sdq:Same H23 Dq:=(((((((((yq0.trans yq1).trans yq2).trans yq3).trans yq4).trans yq5).trans yq6).trans yq7).trans yq8).trans yq9).trans ydq;have hdsq:∀ (k:Nat) (d:List Nat),SR[k]? = some d->∃ p,([pq0,pq1,pq2,pq3,pq4,pq5,pq6,pq7,pq8,pq9]:List fT)[k]? = some p/\Dq p=some (.lst (d.map λj:Nat=>V.int (j:Int))):=λk d e=>by
   match k,e with
   | 0,e=>cases e;exact ⟨pq0,Z,ydq _ _ (yq9 _ _ (yq8 _ _ (yq7 _ _ (yq6 _ _ (yq5 _ _ (yq4 _ _ (yq3 _ _ (yq2 _ _ (yq1 _ _ jq0)))))))))⟩
   | 1,e=>cases e;exact ⟨pq1,Z,ydq _ _ (yq9 _ _ (yq8 _ _ (yq7 _ _ (yq6 _ _ (yq5 _ _ (yq4 _ _ (yq3 _ _ (yq2 _ _ jq1))))))))⟩
   | 2,e=>cases e;exact ⟨pq2,Z,ydq _ _ (yq9 _ _ (yq8 _ _ (yq7 _ _ (yq6 _ _ (yq5 _ _ (yq4 _ _ (yq3 _ _ jq2)))))))⟩
   | 3,e=>cases e;exact ⟨pq3,Z,ydq _ _ (yq9 _ _ (yq8 _ _ (yq7 _ _ (yq6 _ _ (yq5 _ _ (yq4 _ _ jq3))))))⟩
   | 4,e=>cases e;exact ⟨pq4,Z,ydq _ _ (yq9 _ _ (yq8 _ _ (yq7 _ _ (yq6 _ _ (yq5 _ _ jq4)))))⟩
   | 5,e=>cases e;exact ⟨pq5,Z,ydq _ _ (yq9 _ _ (yq8 _ _ (yq7 _ _ (yq6 _ _ jq5))))⟩
   | 6,e=>cases e;exact ⟨pq6,Z,ydq _ _ (yq9 _ _ (yq8 _ _ (yq7 _ _ jq6)))⟩
   | 7,e=>cases e;exact ⟨pq7,Z,ydq _ _ (yq9 _ _ (yq8 _ _ jq7))⟩
   | 8,e=>cases e;exact ⟨pq8,Z,ydq _ _ (yq9 _ _ jq8)⟩
   | 9,e=>cases e;exact ⟨pq9,Z,ydq _ _ jq9⟩
   | k+10,e=>simp [SR] at e
  clear yq0 yq1 yq2 yq3 yq4 yq5 yq6 yq7 yq8 yq9 jq0 jq1 jq2 jq3 jq4 jq5 jq6 jq7 jq8 jq9 fq0 fq1 fq2 fq3 fq4 fq5 fq6 fq7 fq8 fq9 ydq;generalize ([pq0,pq1,pq2,pq3,pq4,pq5,pq6,pq7,pq8,pq9]:List fT)=asq at jdq hdsq;refine hx _ _ ?_;have s24:=s23.trans sdq;have h24w:=sdq _ _ h23w;have h24y:=sdq _ _ h23y;have h24p:=sdq _ _ h23p;have h24a:=sdq _ _ h23a;have hS24:=hS23.same sdq;clear s23 h23w h23y h23p h23a hS23 sdq;have X24:=X6.same s24;have hk1:(ts.map V.ref).length+1=Ss.length:=by rw [fU];omega
  have FQ:WO ws' S (ts.map V.ref).length ss b dn m y u:=⟨hb0,hb0',by rw [fU];intro e;have:=t1 e;omega,by rw [fU];intro e;have:=f1 e;omega,by rw [hsn];exact hn5,by rw [hsn];exact hn5',hw6t,hw6f,t7,f7,by rw [hsn];exact t8,by rw [hsn];exact f8⟩;refine Yr λD1 hx=>?_;refine ⟨_,Z,_,Z,_,Z,_,Z,_,Z,_,Z,x,pa,pl,b,dn,m,y,u,_,Ss,S,ts0,ss,ws',Z,X24.at,last5,hk1,by rw [fU];omega,BS,hdn,h24a,hS24,by omega,h24p,FQ,hTq6.same s24,λH25 qc qf sP25 _ h25c hqf doors=>?_⟩;have sT25:=sP25.sameT (hTq6.same s24);have h25w:=sT25.lst h24w;have h25d:=sT25.lst jdq;refine ⟨_,Z,_,Z,qc,pdq,pw,qf,asq,SR,ws',true,Z,h25c,by omega,by show qf.length <= 10;omega,h25d,λk d e=>?_,by decide,h25w,hwl',λk g d eg ed=>⟨λe _=>(doors k g d eg ed).1 e,(doors k g d eg ed).2⟩,λH26 s26=>?_⟩
  ·obtain ⟨p,e1,e2⟩:=hdsq k d e;exact ⟨p,e1,sT25.lst e2⟩
  refine ⟨_,Z,?_⟩;refine CV ?_;refine hx _ _ ?_;have sT26:FY Dq H26:=λb o no e=>s26 _ _ (sT25 b o no e);have hTd26:BC PT2 ((("_law_deeds":fZ) ++ ".<locals>.") ++ "<lambda>") H26:=BC.other (hTd6.same s24) (hTq6.same s24) (Ne.symm nePP) (λb o nb e=>s26 _ _ (sP25 b o nb e));have X26:=X24.sameT sT26;have h26a:=sT26.lst h24a;have h26w:=sT26.lst h24w;have hS26:Zu H26 ts0 ss:=hS24.tup λt xs e=>sT26 _ _ (λ_ z=>by cases z) e;have FD:ZQ ws' ss m nd:=⟨t3,by rw [hsn];exact hn5,by rw [hsn];exact hn5',λe=>FQ.bad6 e,hw6f,t7⟩;refine Yr λD1 hx=>?_;refine ⟨_,Z,_,Z,_,Z,_,Z,x,pk,ps,pa,m,nd,_,Ss,S,_,_,ts0,ss,ws',Z,X26,last5,first5,h26a,hS26,by omega,FD,hTd26,λH27 rc rf sP27 _ h27c hrf doors2=>?_⟩;have sT27:=sP27.sameT hTd26;have h27w:=sT27.lst h26w;refine ⟨sz9,λpe0 fe0=>?_⟩;have ye0:=Same.upd (o:=.lst [.int 5,.int 6,.int 7]) fe0;have je0:(upd H27 pe0 (.lst [.int 5,.int 6,.int 7])) pe0=some (.lst [.int 5,.int 6,.int 7]):=Zb;generalize upd H27 pe0 (.lst [.int 5,.int 6,.int 7])=e0 at ye0 je0 ⊢;refine ⟨sz9,λpe1 fe1=>?_⟩;have ye1:=Same.upd (o:=.lst [.int 3]) fe1;have je1:(upd e0 pe1 (.lst [.int 3])) pe1=some (.lst [.int 3]):=Zb;generalize upd e0 pe1 (.lst [.int 3])=e1 at ye1 je1 ⊢;refine ⟨sz9,λpe2 fe2=>?_⟩;have ye2:=Same.upd (o:=.lst [.int 6]) fe2;have je2:(upd e1 pe2 (.lst [.int 6])) pe2=some (.lst [.int 6]):=Zb;generalize upd e1 pe2 (.lst [.int 6])=e2 at ye2 je2 ⊢;refine ⟨sz9,λpe3 fe3=>?_⟩;have ye3:=Same.upd (o:=.lst [.int 6]) fe3;have je3:(upd e2 pe3 (.lst [.int 6])) pe3=some (.lst [.int 6]):=Zb;generalize upd e2 pe3 (.lst [.int 6])=e3 at ye3 je3 ⊢;refine ⟨sz9,λpde fde=>?_⟩;have yde:=Same.upd (o:=.lst [.ref pe0,.ref pe1,.ref pe2,.ref pe3]) fde;have jde:(upd e3 pde (.lst [.ref pe0,.ref pe1,.ref pe2,.ref pe3])) pde=some (.lst ([pe0,pe1,pe2,pe3].map V.ref)):=Zb;generalize upd e3 pde (.lst [.ref pe0,.ref pe1,.ref pe2,.ref pe3])=De at yde jde ⊢;have sde:Same H27 De:=(((ye0.trans ye1).trans ye2).trans ye3).trans yde;have hdse:∀ (k:Nat) (d:List Nat),RY[k]? = some d->∃ p,([pe0,pe1,pe2,pe3]:List fT)[k]? = some p/\De p=some (.lst (d.map λj:Nat=>V.int (j:Int))):=λk d e=>by
   match k,e with
   | 0,e=>cases e;exact ⟨pe0,Z,yde _ _ (ye3 _ _ (ye2 _ _ (ye1 _ _ je0)))⟩
   | 1,e=>cases e;exact ⟨pe1,Z,yde _ _ (ye3 _ _ (ye2 _ _ je1))⟩
   | 2,e=>cases e;exact ⟨pe2,Z,yde _ _ (ye3 _ _ je2)⟩
   | 3,e=>cases e;exact ⟨pe3,Z,yde _ _ je3⟩
   | k+4,e=>simp [RY] at e
  clear ye0 ye1 ye2 ye3 je0 je1 je2 je3 fe0 fe1 fe2 fe3 yde;generalize ([pe0,pe1,pe2,pe3]:List fT)=ase at jde hdse;refine ⟨_,Z,rc,pde,pw,rf,ase,RY,ws',false,Z,sde _ _ h27c,by omega,hrf,jde,hdse,by decide,sde _ _ h27w,hwl',λk g d eg ed=>⟨λ_ z=>(by cases z),λj r e=>⟨HJ ((doors2 k g d eg ed).2 j r e).1 sde,((doors2 k g d eg ed).2 j r e).2⟩⟩,λH28 s28=>?_⟩;refine ⟨_,Z,?_⟩;refine CV ?_;refine hx _ _ ?_;have sT28:FY Dq H28:=λb o no e=>s28 _ _ (sde _ _ (sT27 b o no (sT26 b o no e)));have sT68:FY H6 H28:=λb o no e=>sT28 b o no (s24 _ _ e);have X28:=X6.sameT sT68;refine ⟨_,Z,_,Z,pa,py,ts0,Z,Z,SqL.of (sT28.lst h24a),SqL.of (sT28.lst h24y),_,Z,?_⟩;refine IA ?_;refine ⟨_,Z,_,Z,_,Z,x,pn,ph,_,Ss,S,Z,X28.at,last5,SqL.of (sT68.lst h6n),SqL.of (sT68.lst h6h),hOl,by omega,λH29 s29=>⟨_,Z,?_⟩⟩;refine IA ?_;have kt:KN H6 H29:=λt xs e=>s29 _ _ (sT68 _ _ (λ_ z=>by cases z) e);exact ⟨_,Z,_,Z,l5,_,_,_,Z,Z,SqL.of (s29 _ _ (sT68.lst h6l)),Z,_,Z,l5,_,_,_,Z,Z,SqL.of (s29 _ _ (sT68.lst h6l)),Z,x,pq,pb,ts,us,As,Ss,S,_,Z,(X28.same s29).at,last5,first5,SqL.of (s29 _ _ (sT68.lst h6q)),T6.tup kt,U6.tup kt,hF,by omega,SqL.of (s29 _ _ (sT68.lst h6b)),λH' _=>q _⟩
end
theorem len0 {P:List fV->Prop} {us:List fV} (hl:us.length=0) (h:P []):P us:=iL hl ▸ h
theorem O0 {P:List fV->Prop} {n:Nat} {us:List fV} (hl:us.length=n+1) (h:∀ a t,t.length=n->P (a :: t)):P us:=match us,hl with | a :: t,hl=>h a t (Nat.succ.inj hl)
theorem len1 {fd:iF} {ps:List fZ} {us:List fV} (hl:us.length=1) (h:∀ a,bindArgs fd ⟨[a],[]⟩=pure (ps.zip [a])):bindArgs fd ⟨us,[]⟩=pure (ps.zip us):=O0 (P:=λus=>bindArgs fd ⟨us,[]⟩=pure (ps.zip us)) hl λa r h1=>len0 (P:=λus=>bindArgs fd ⟨a :: us,[]⟩=pure (ps.zip (a :: us))) h1 (h a)
theorem len2 {fd:iF} {ps:List fZ} {us:List fV} (hl:us.length=2) (h:∀ a b,bindArgs fd ⟨[a,b],[]⟩=pure (ps.zip [a,b])):bindArgs fd ⟨us,[]⟩=pure (ps.zip us):=O0 (P:=λus=>bindArgs fd ⟨us,[]⟩=pure (ps.zip us)) hl λa r h1=>O0 (P:=λus=>bindArgs fd ⟨a :: us,[]⟩=pure (ps.zip (a :: us))) h1 λb s h2=>len0 (P:=λus=>bindArgs fd ⟨a :: b :: us,[]⟩=pure (ps.zip (a :: b :: us))) h2 (h a b)
theorem len3 {fd:iF} {ps:List fZ} {us:List fV} (hl:us.length=3) (h:∀ a b c,bindArgs fd ⟨[a,b,c],[]⟩=pure (ps.zip [a,b,c])):bindArgs fd ⟨us,[]⟩=pure (ps.zip us):=O0 (P:=λus=>bindArgs fd ⟨us,[]⟩=pure (ps.zip us)) hl λa r h1=>O0 (P:=λus=>bindArgs fd ⟨a :: us,[]⟩=pure (ps.zip (a :: us))) h1 λb s h2=>O0 (P:=λus=>bindArgs fd ⟨a :: b :: us,[]⟩=pure (ps.zip (a :: b :: us))) h2 λc t h3=>len0 (P:=λus=>bindArgs fd ⟨a :: b :: c :: us,[]⟩=pure (ps.zip (a :: b :: c :: us))) h3 (h a b c)
theorem len4 {fd:iF} {ps:List fZ} {us:List fV} (hl:us.length=4) (h:∀ a b c d,bindArgs fd ⟨[a,b,c,d],[]⟩=pure (ps.zip [a,b,c,d])):bindArgs fd ⟨us,[]⟩=pure (ps.zip us):=O0 (P:=λus=>bindArgs fd ⟨us,[]⟩=pure (ps.zip us)) hl λa r h1=>O0 (P:=λus=>bindArgs fd ⟨a :: us,[]⟩=pure (ps.zip (a :: us))) h1 λb s h2=>O0 (P:=λus=>bindArgs fd ⟨a :: b :: us,[]⟩=pure (ps.zip (a :: b :: us))) h2 λc t h3=>O0 (P:=λus=>bindArgs fd ⟨a :: b :: c :: us,[]⟩=pure (ps.zip (a :: b :: c :: us))) h3 λd u h4=>len0 (P:=λus=>bindArgs fd ⟨a :: b :: c :: d :: us,[]⟩=pure (ps.zip (a :: b :: c :: d :: us))) h4 (h a b c d)
theorem len5 {fd:iF} {ps:List fZ} {us:List fV} (hl:us.length=5) (h:∀ a b c d e,bindArgs fd ⟨[a,b,c,d,e],[]⟩=pure (ps.zip [a,b,c,d,e])):bindArgs fd ⟨us,[]⟩=pure (ps.zip us):=O0 (P:=λus=>bindArgs fd ⟨us,[]⟩=pure (ps.zip us)) hl λa r h1=>O0 (P:=λus=>bindArgs fd ⟨a :: us,[]⟩=pure (ps.zip (a :: us))) h1 λb s h2=>O0 (P:=λus=>bindArgs fd ⟨a :: b :: us,[]⟩=pure (ps.zip (a :: b :: us))) h2 λc t h3=>O0 (P:=λus=>bindArgs fd ⟨a :: b :: c :: us,[]⟩=pure (ps.zip (a :: b :: c :: us))) h3 λd u h4=>O0 (P:=λus=>bindArgs fd ⟨a :: b :: c :: d :: us,[]⟩=pure (ps.zip (a :: b :: c :: d :: us))) h4 λe v h5=>len0 (P:=λus=>bindArgs fd ⟨a :: b :: c :: d :: e :: us,[]⟩=pure (ps.zip (a :: b :: c :: d :: e :: us))) h5 (h a b c d e)
theorem len6 {fd:iF} {ps:List fZ} {us:List fV} (hl:us.length=6) (h:∀ a b c d e f,bindArgs fd ⟨[a,b,c,d,e,f],[]⟩=pure (ps.zip [a,b,c,d,e,f])):bindArgs fd ⟨us,[]⟩=pure (ps.zip us):=O0 (P:=λus=>bindArgs fd ⟨us,[]⟩=pure (ps.zip us)) hl λa r h1=>O0 (P:=λus=>bindArgs fd ⟨a :: us,[]⟩=pure (ps.zip (a :: us))) h1 λb s h2=>O0 (P:=λus=>bindArgs fd ⟨a :: b :: us,[]⟩=pure (ps.zip (a :: b :: us))) h2 λc t h3=>O0 (P:=λus=>bindArgs fd ⟨a :: b :: c :: us,[]⟩=pure (ps.zip (a :: b :: c :: us))) h3 λd u h4=>O0 (P:=λus=>bindArgs fd ⟨a :: b :: c :: d :: us,[]⟩=pure (ps.zip (a :: b :: c :: d :: us))) h4 λe v h5=>O0 (P:=λus=>bindArgs fd ⟨a :: b :: c :: d :: e :: us,[]⟩=pure (ps.zip (a :: b :: c :: d :: e :: us))) h5 λf w h6=>len0 (P:=λus=>bindArgs fd ⟨a :: b :: c :: d :: e :: f :: us,[]⟩=pure (ps.zip (a :: b :: c :: d :: e :: f :: us))) h6 (h a b c d e f)
structure Amb (P:gL) (w:gX) (K:W.Frag) (mg:fZ->Option fV) (base:iC):Prop where
 ex:∃ h:iC,K.In h/\h.Ns iA mg
abbrev Gf (K:W.Frag) (n:fZ) (s:hZ):Prop:=∃ f d,lN K iA n=some (some (.ref f))/\Fun K n n s f d
abbrev Gm (K:W.Frag) (G:fT) (n q:fZ) (s:hZ):Prop:=∃ f d,iR K (.ref G) n=some (some (.ref f))/\lO K (.ref f)=true/\Fun K n q s f d
abbrev Uk (K:W.Frag) (a b:fT):Prop:=W.subIn K (.ref a) (.ref b)=some false/\(a == b)=false
abbrev Rw (K:W.Frag) (CT e:fT):Prop:=iR K (.ref e) "__getattribute__" = some (some (.builtin "BaseException.__getattribute__"))/\iR K (.ref e) "__getattr__" = some none/\iR K (.ref e) "__class__" = some (some (.builtin "object.__class__"))/\W.mroIn K e (.type "BaseException")=some true/\W.mroIn K e (.type "object")=some true/\W.subIn K (.ref e) (.ref CT)=some true/\W.subIn K (.ref e) (.type "ValueError")=some true
def Fl (K:W.Frag):List (fZ × hZ)->Prop
 | []=>True
 | (n,s) :: l=>Gf K n s/\Fl K l
def Ml (K:W.Frag) (G:fT):List (fZ × fZ × hZ)->Prop
 | []=>True
 | (n,q,s) :: l=>Gm K G n q s/\Ml K G l
def Zl (K:W.Frag):List fZ->Prop
 | []=>True
 | n :: l=>lN K iA n=some none/\Zl K l
def Cl (K:W.Frag):List (fZ × Int)->Prop
 | []=>True
 | (n,v) :: l=>(∃ t,lN K iA n=some (some (.int v t)))/\Cl K l
def Nl (K:W.Frag):List fZ->List fT->Prop
 | n :: ns,b :: l=>lN K iA n=some (some (.ref b))/\Nl K ns l
 | [],[]=>True
 | _,_=>False
def Il (K:W.Frag):List fT->Prop
 | []=>True
 | b :: l=>(∃ cd,W.clsIn K b=some cd)/\W.typeIn K (.ref b)=some (.type "type")/\Il K l
def Xl (K:W.Frag):List Bool->List fT->Prop
 | true :: bs,b :: l=>W.excIn K b [.type "ValueError",.type "Exception",.type "BaseException",.type "object"] "ValueError.__new__" = true/\Xl K bs l
 | false :: bs,_ :: l=>Xl K bs l
 | _,_=>True
def Ul (K:W.Frag) (a:fT) (j:Nat):Nat->List fT->Prop
 | _,[]=>True
 | i,b :: l=>(i=j\/Uk K a b)/\Ul K a j (i+1) l
def Rl9 (K:W.Frag) (CT:fT) (L:List fT):Nat->List Bool->List fT->Prop
 | i,true :: bs,b :: l=>(Rw K CT b/\Ul K b i 0 L)/\Rl9 K CT L (i+1) bs l
 | i,false :: bs,_ :: l=>Rl9 K CT L (i+1) bs l
 | _,_,_=>True
section
variable {K:W.Frag} {n q:fZ} {s:hZ} {f G b CT:fT} {d:iF} {l L:List fT} {ns:List fZ} {bs:List Bool}
theorem fl {r:List (fZ × hZ)} (a:lN K iA n=some (some (.ref f))) (F:Fun K n n s f d) (h:Fl K r):Fl K ((n,s) :: r):=⟨⟨f,d,a,F⟩,h⟩
theorem ml {r:List (fZ × fZ × hZ)} (a:iR K (.ref G) n=some (some (.ref f))) (i:lO K (.ref f)=true) (F:Fun K n q s f d) (h:Ml K G r):Ml K G ((n,q,s) :: r):=⟨⟨f,d,a,i,F⟩,h⟩
theorem zl (a:lN K iA n=some none) (h:Zl K ns):Zl K (n :: ns):=⟨a,h⟩
theorem cl {r:List (fZ × Int)} {v:Int} {t:Tok} (a:lN K iA n=some (some (.int v t))) (h:Cl K r):Cl K ((n,v) :: r):=⟨⟨t,a⟩,h⟩
theorem nl (a:lN K iA n=some (some (.ref b))) (h:Nl K ns l):Nl K (n :: ns) (b :: l):=⟨a,h⟩
theorem nl0:Nl K [] []:=trivial
theorem il {cd:ClassData} (a:W.clsIn K b=some cd) (c:W.typeIn K (.ref b)=some (.type "type")) (h:Il K l):Il K (b :: l):=⟨⟨cd,a⟩,c,h⟩
theorem xl (a:W.excIn K b [.type "ValueError",.type "Exception",.type "BaseException",.type "object"] "ValueError.__new__" = true) (h:Xl K bs l):Xl K (true :: bs) (b :: l):=⟨a,h⟩
theorem xl0 (h:Xl K bs l):Xl K (false :: bs) (b :: l):=h
theorem ul {a:fT} {i j:Nat} (u:Uk K a b) (h:Ul K a j (i+1) l):Ul K a j i (b :: l):=⟨.inr u,h⟩
theorem ul0 {a:fT} {i j:Nat} (e:i=j) (h:Ul K a j (i+1) l):Ul K a j i (b :: l):=⟨.inl e,h⟩
theorem rl {i:Nat} (r:Rw K CT b) (u:Ul K b i 0 L) (h:Rl9 K CT L (i+1) bs l):Rl9 K CT L i (true :: bs) (b :: l):=⟨⟨r,u⟩,h⟩
theorem rl0 {i:Nat} (h:Rl9 K CT L (i+1) bs l):Rl9 K CT L i (false :: bs) (b :: l):=h
theorem nl_at:∀ {ns:List fZ} {l:List fT},Nl K ns l->∀ i,i < ns.length->lN K iA (ns.getD i Str.empty)=some (some (.ref (l.getD i 0)))
 | _ :: _,_ :: _,h,0,_=>h.1
 | _ :: _,_ :: _,h,i+1,q=>nl_at h.2 i (iY q)
theorem il_at:∀ {l:List fT},Il K l->∀ i,i < l.length->(∃ cd,W.clsIn K (l.getD i 0)=some cd)/\W.typeIn K (.ref (l.getD i 0))=some (.type "type")
 | _ :: _,h,0,_=>⟨h.1,h.2.1⟩
 | _ :: _,h,i+1,q=>il_at h.2.2 i (iY q)
theorem xl_at:∀ {bs:List Bool} {l:List fT},Xl K bs l->∀ i,i < l.length->bs.getD i false=true->W.excIn K (l.getD i 0) [.type "ValueError",.type "Exception",.type "BaseException",.type "object"] "ValueError.__new__" = true
 | true :: _,_ :: _,h,0,_,_=>h.1
 | true :: _,_ :: _,h,i+1,q,e=>xl_at h.2 i (iY q) e
 | false :: bs,_ :: l,h,i+1,q,e=>xl_at (bs:=bs) (l:=l) h i (iY q) e
theorem ul_at {a:fT} {j:Nat}:∀ {i:Nat} {l:List fT},Ul K a j i l->∀ k,k < l.length->i+k=j\/Uk K a (l.getD k 0)
 | _,_ :: _,h,0,_=>h.1
 | i,_ :: _,h,k+1,q=>(ul_at h.2 k (iY q)).imp (λe=>by lia) id
theorem rl_at:∀ {i:Nat} {bs:List Bool} {l:List fT},Rl9 K CT L i bs l->∀ k,k < l.length->bs.getD k false=true->Rw K CT (l.getD k 0)/\Ul K (l.getD k 0) (i+k) 0 L
 | _,true :: _,_ :: _,h,0,_,_=>h.1
 | i,true :: _,_ :: _,h,k+1,q,e=>by
  have:=rl_at h.2 k (iY q) e;rw [Nat.add_right_comm] at this;exact this
 | i,false :: bs,_ :: l,h,k+1,q,e=>by
  have:=rl_at (i:=i+1) (bs:=bs) (l:=l) h k (iY q) e;rw [Nat.add_right_comm] at this;exact this
theorem jy {cdT:ClassData} (bT:W.subIn K (.ref CT) (.type "BaseException")=some true) (cT:W.clsIn K CT=some cdT) (tT:W.typeIn K (.ref CT)=some (.type "type")) (I:Il K L) (R:Rl9 K CT L 0 bs L) (hL:L.length=12) (j:Nat) (hj:j < 12) (e:bs.getD j false=true):BW K CT (λi=>L.getD i 0) j:=by
 obtain ⟨r,u⟩:=rl_at R j (by lia) e;refine ⟨⟨?_,r.1,r.2.1,r.2.2.1,r.2.2.2.1,r.2.2.2.2.1⟩,exm_of bT cT tT r.2.2.2.2.2.1,λi hi=>?_,kit_ve r.2.2.2.2.2.2⟩
 ·obtain ⟨⟨cd,h⟩,_⟩:=il_at I j (by lia);show (W.clsIn K (L.getD j 0)).isSome=true;rw [h];rfl
 ·by_cases e:i=j
  ·subst e;rw [D7_ Z];exact kit_self
  ·obtain ⟨⟨cd,h⟩,h2⟩:=il_at I i (by lia);rcases ul_at u i (by lia) with z | z
   ·exact absurd (by lia) e
   ·rw [decide_eq_false e];exact kit_no z.2 h h2 z.1
end
section
variable {P:gL} {w:gX} {K:W.Frag} {mg:fZ->Option fV} {base h:iC} {n q:fZ} {s:hZ} {f G CT:fT} {d:iF} {k:Nat} {ps ns:List fZ} {sp:Sp} {L:List fT}
theorem dk (A:Amb P w K mg base) (F:Gf K n s) (O:∀ f d,Fun K n n s f d->Ym P w K mg base CX0 k f d ps sp) (b:∀ f d,Fun K n n s f d->B9 K d ps []):Ok P w K mg base n ps k sp:=by
 obtain ⟨_,X,GX⟩:=A.ex;obtain ⟨f,d,a,F⟩:=F;exact ⟨_,_,O _ _ F,b _ _ F,kR X GX a,F.kp⟩
theorem dkX (A:Amb P w K mg base) (F:Gf K n s) (O:∀ f d,Fun K n n s f d->Ym P w K mg base (CX1 P w) k f d ps sp) (b:∀ f d,Fun K n n s f d->B9 K d ps []):OkX P w K mg base n ps k sp:=by
 obtain ⟨_,X,GX⟩:=A.ex;obtain ⟨f,d,a,F⟩:=F;exact ⟨_,_,O _ _ F,b _ _ F,kR X GX a,F.kp⟩
theorem mt (_:Amb P w K mg base) (F:Gm K G n q s) (O:∀ f d,Fun K n q s f d->Ym P w K mg base CX0 k f d ps sp) (b:∀ f d,Fun K n q s f d->B9 K d ps []):OkM P w K mg base G n ps k sp:=by
 obtain ⟨f,d,a,i,F⟩:=F;exact ⟨_,_,O _ _ F,b _ _ F,⟨a,i,F.kp⟩⟩
theorem mtX (_:Amb P w K mg base) (F:Gm K G n q s) (O:∀ f d,Fun K n q s f d->Ym P w K mg base (CX1 P w) k f d ps sp) (b:∀ f d,Fun K n q s f d->B9 K d ps []):O1 P w K mg base G n ps k sp:=by
 obtain ⟨f,d,a,i,F⟩:=F;exact ⟨_,_,O _ _ F,b _ _ F,⟨a,i,F.kp⟩⟩
theorem lw (F:Fun K "law" "law" s f d) (h:∀ kV doc pm an cdv ct v,bindArgs (j9 "law" "law" (BX s) (Jr s) (Zd s) .none kV doc pm an cdv ct) ⟨[v],[]⟩=pure [(("_law_script":fZ),v)]) (s':fW) (v:fV):BindsTo s' d ⟨[v],[]⟩ [("_law_script",v)]:=by
 obtain ⟨oc,od,kV,doc,pm,an,cdv,ct,osl,rfl,lk,hcd⟩:=F.ex;exact .of_eq (h _ _ _ _ _ _ _)
theorem bn1 (f:fT) (d:iF) (F:Fun K n q s f d) (hn:ps.length=1:=by rfl) (h:∀ kV doc pm an cdv ct a,bindArgs (j9 n q (BX s) (Jr s) (Zd s) .none kV doc pm an cdv ct) ⟨[a],[]⟩=pure (ps.zip [a]):=by exact λ_ _ _ _ _ _ _=>rfl):B9 K d ps []:=F.binds λkV doc pm an cdv ct _ hl=>len1 (hl.trans hn) λa=>h kV doc pm an cdv ct a
theorem bn2 (f:fT) (d:iF) (F:Fun K n q s f d) (hn:ps.length=2:=by rfl) (h:∀ kV doc pm an cdv ct a b,bindArgs (j9 n q (BX s) (Jr s) (Zd s) .none kV doc pm an cdv ct) ⟨[a,b],[]⟩=pure (ps.zip [a,b]):=by exact λ_ _ _ _ _ _ _ _=>rfl):B9 K d ps []:=F.binds λkV doc pm an cdv ct _ hl=>len2 (hl.trans hn) λa b=>h kV doc pm an cdv ct a b
theorem bn3 (f:fT) (d:iF) (F:Fun K n q s f d) (hn:ps.length=3:=by rfl) (h:∀ kV doc pm an cdv ct a b x,bindArgs (j9 n q (BX s) (Jr s) (Zd s) .none kV doc pm an cdv ct) ⟨[a,b,x],[]⟩=pure (ps.zip [a,b,x]):=by exact λ_ _ _ _ _ _ _ _ _=>rfl):B9 K d ps []:=F.binds λkV doc pm an cdv ct _ hl=>len3 (hl.trans hn) λa b x=>h kV doc pm an cdv ct a b x
theorem bn4 (f:fT) (d:iF) (F:Fun K n q s f d) (hn:ps.length=4:=by rfl) (h:∀ kV doc pm an cdv ct a b x y,bindArgs (j9 n q (BX s) (Jr s) (Zd s) .none kV doc pm an cdv ct) ⟨[a,b,x,y],[]⟩=pure (ps.zip [a,b,x,y]):=by exact λ_ _ _ _ _ _ _ _ _ _=>rfl):B9 K d ps []:=F.binds λkV doc pm an cdv ct _ hl=>len4 (hl.trans hn) λa b x y=>h kV doc pm an cdv ct a b x y
theorem bn5 (f:fT) (d:iF) (F:Fun K n q s f d) (hn:ps.length=5:=by rfl) (h:∀ kV doc pm an cdv ct a b x y z,bindArgs (j9 n q (BX s) (Jr s) (Zd s) .none kV doc pm an cdv ct) ⟨[a,b,x,y,z],[]⟩=pure (ps.zip [a,b,x,y,z]):=by exact λ_ _ _ _ _ _ _ _ _ _ _=>rfl):B9 K d ps []:=F.binds λkV doc pm an cdv ct _ hl=>len5 (hl.trans hn) λa b x y z=>h kV doc pm an cdv ct a b x y z
theorem bn6 (f:fT) (d:iF) (F:Fun K n q s f d) (hn:ps.length=6:=by rfl) (h:∀ kV doc pm an cdv ct a b x y z u,bindArgs (j9 n q (BX s) (Jr s) (Zd s) .none kV doc pm an cdv ct) ⟨[a,b,x,y,z,u],[]⟩=pure (ps.zip [a,b,x,y,z,u]):=by exact λ_ _ _ _ _ _ _ _ _ _ _ _=>rfl):B9 K d ps []:=F.binds λkV doc pm an cdv ct _ hl=>len6 (hl.trans hn) λa b x y z u=>h kV doc pm an cdv ct a b x y z u
end
theorem all_mk {l:W.OpenLaw} {w:gX} {K:W.Frag} {h:iC} {mg:fZ->Option fV} {fa c PT c2 PT2 CT G tD fi:fT} {cdT:ClassData} {oD:j5} {nD:Nat} {od an:Option fT} {sl:Array (Option fV)} {oc kV dc pm cv ct:fV} (X:K.In h) (GX:h.Ns iA mg) (hfa:mg "law" = some (.ref fa))
  (aG:lN K iA "Ground" = some (some (.ref G)))
  (f0:Fl K [("_law_at",s_at),("_law_row",s_row),("_law_beds",SD),("_law_amount",R9),("_law_season",P8),("_law_seasons",JM),("_law_deed",fB),("_law_go",s_go),("_law_again",UX),("_law_done",dP),("check_amount",s_q7),("check_room_for_deed",s_q0),("year_of",N2),("shared_from_top",s_q1),("warmed",IX),("chilled",IQ),("passed",QS),("each_down_to",s_q16),("still",VA),("season_rule",s_q21),("applied",NP),("joined",QR),("row_rule",GO),("check_times",s_q25),("repeated",GM),("heats_later",s_q23),("missed_later",s_q10),("whole_years",s_q22),("passed_until",s_q9),("amount_of",FE),("amount_until",s_q18),("stage_of",K4)])
  (f1:Fl K [("reached",MY),("check_need",s_q27),("check_laid",s_q31),("check_year",s_q30),("_law_do",s_do),("_law_whole",VE),("_law_told",eF),("_law_fits",b5),("_law_history",JD),("_law_beyond",PV),("_law_faulty",QH),("_law_numbers",MT),("check_bed",FK),("heat_down_to",s_q12),("thawed_beds",s_q26),("front_of",K9),("_law_seen",aW),("_law_same_seasons",s_q11),("_law_same_deed",HL),("_law_books",VS),("year_rule",ES),("rest_down_to",s_q14),("rest_of",GA),("first_season",Z9),("check_season",s_q8),("heats_at",GK),("check_deed",s_q29),("_law_refusal",IU),("_law_answers",MN),("_law_held",WH),("check_beds",s_q28),("check_heats",s_q19)])
  (M:Ml K G [("last_stage","Ground.last_stage",VD),("keep","Ground.keep",PK),("pass_seasons","Ground.pass_seasons",cF),("warm","Ground.warm",LO),("cold","Ground.cold",LX),("lay","Ground.lay",QY),("years","Ground.years",JS),("needs","Ground.needs",MS),("heats","Ground.heats",MM),("need","Ground.need",LU),("heat","Ground.heat",LL),("down_to","Ground.down_to",EY),("is_thawed","Ground.is_thawed",Q7),("thawed","Ground.thawed",KB),("front","Ground.front",NO),("deeds","Ground.deeds",NH),("stage_balance","Ground.stage_balance",dQ),("balance","Ground.balance",HN),("full_down_to","Ground.full_down_to",WT),("rule","Ground.rule",LM),("years_rule","Ground.years_rule",Q5),("first_thawed","Ground.first_thawed",X0),("rest_year","Ground.rest_year",QQ),("coming","Ground.coming",GU),("heats_behind","Ground.heats_behind",XJ)])
  (q0:∃ f d,lN K iA "_law_questions" = some (some (.ref f))/\Fun K "_law_questions" "_law_questions" Yb f d/\d.code = .ref c)
  (q1:∃ f d,lN K iA "_law_deeds" = some (some (.ref f))/\Fun K "_law_deeds" "_law_deeds" CF f d/\d.code = .ref c2)
  (ai:iR K (.ref G) "__init__" = some (some (.ref fi))) (ii:lO K (.ref fi)=true) (li:K.lookup fi=some ⟨oc,od,.func (j9 "__init__" "Ground.__init__" (BX KH) (Jr KH) (Zd KH) (.ref tD) kV dc pm an cv ct),sl⟩) (ci:kP K cv "Ground.__init__" = true)
  (lD:K.lookup tD=some oD) (sD:oD.data = .seq #[.none] nD) (lw0:Gf K "law" s_law)
  (zl0:Zl K ["ValueError","abs","bool","int","isinstance","len","list","max","min","range","reversed","str","sum","tuple","zip"]) (cs:Cl K [("MOST_BEDS",30),("MOST_LAID",20),("MOST_NEED",200),("MOST_AMOUNT",1000000),("MOST_SEASONS",12),("MOST_TIMES",1000000000000000000),("MOST_DEEDS",300)])
  (pg:kS K G Str.empty=true) (hd:lA K G=true) (po:W.plainOver K G=true) (sa:iR K (.ref G) "__setattr__" = some (some (.builtin "object.__setattr__"))) (mk:W.makesIn K G=true) (kc:jT K (.ref G)=true) (nK:iR K (.ref G) "kept" = some none) (nS:iR K (.ref G) "stages" = some none)
  (aT:lN K iA "ThawError" = some (some (.ref CT))) (bT:W.subIn K (.ref CT) (.type "BaseException")=some true) (cT:W.clsIn K CT=some cdT) (tT:W.typeIn K (.ref CT)=some (.type "type"))
  (NL:∃ L,Nl K ["UnknownBed","UnknownDeed","BadBeds","BadNeed","BadHeat","BadYear","BadAmount","BadTimes","UnknownSeason","TooManyLaid","TooManyDeeds","NothingDone"] L/\Il K L/\Xl K [true,true,false,true,false,true,true,true,true,true,false,false] L/\Rl9 K CT L 0 [true,true,false,true,false,true,true,true,true,false,false,false] L/\L.length=12)
  : ∃ fd:iF,(∀ (s:fW) (v:fV),BindsTo s fd ⟨[v],[]⟩ [("_law_script",v)])/\∀ base:iC,K.In base->base.Ns iA mg->W.CodeHd base c PT->base.BuiltinsAt mg PT->W.CodeHd base c2 PT2->base.BuiltinsAt mg PT2->Ym l.prog w K mg base (CX1 l.prog w) 17 fa fd ["_law_script"] (WL K PT PT2):=by
 obtain ⟨F0,F1,F2,F3,F4,F5,F6,F7,F8,F9,F10,F11,F12,F13,F14,F15,F16,F17,F18,F19,F20,F21,F22,F23,F24,F25,F26,F27,F28,F29,F30,F31,_⟩:=f0;obtain ⟨F32,F33,F34,F35,F36,F37,F38,F39,F40,F41,F42,F43,F44,F45,F46,F47,F48,F49,F50,F51,F52,F53,F54,F55,F56,F57,F58,F59,F60,F61,F62,F63,_⟩:=f1;obtain ⟨M0,M1,M2,M3,M4,M5,M6,M7,M8,M9,M10,M11,M12,M13,M14,M15,M16,M17,M18,M19,M20,M21,M22,M23,M24,_⟩:=M;obtain ⟨L,N,I,Y,R,hL⟩:=NL;obtain ⟨fb,dl,al,Fw⟩:=lw0;cases hfa.symm.trans (kR X GX al);obtain ⟨z0,z1,z2,z3,z4,z5,z6,z7,z8,z9,z10,z11,z12,z13,z14,_⟩:=zl0;obtain ⟨⟨_,g0⟩,⟨_,g1⟩,⟨_,g2⟩,⟨_,g3⟩,⟨_,g4⟩,⟨_,g5⟩,⟨_,g6⟩,_⟩:=cs;have T:Txt K mg:=⟨iW X GX z0,iW X GX z1,iW X GX z2,iW X GX z3,iW X GX z4,iW X GX z5,iW X GX z6,iW X GX z7,iW X GX z8,iW X GX z9,iW X GX z10,iW X GX z11,iW X GX z12,iW X GX z13,iW X GX z14,⟨_,kR X GX g0⟩,⟨_,kR X GX g1⟩,⟨_,kR X GX g2⟩,⟨_,kR X GX g3⟩,⟨_,kR X GX g4⟩,⟨_,kR X GX g5⟩,⟨_,kR X GX g6⟩⟩;have TG:DF K mg G:=⟨⟨pg,hd,po,sa⟩,nK,nS,kR X GX aG⟩;have g:=λi q=>kR X GX (nl_at N i q);have XE:Errs mg CT (λi=>L.getD i 0):=⟨kR X GX aT,g 0 (by decide),g 1 (by decide),g 2 (by decide),g 3 (by decide),g 4 (by decide),g 5 (by decide),g 6 (by decide),g 7 (by decide),g 8 (by decide),g 9 (by decide),g 10 (by decide),g 11 (by decide)⟩;have xu:=λi q e=>xl_at Y i q e;have ry:=λj q e=>jy bT cT tT I R hL j q e;obtain ⟨_,_,aq0,Fq0,hc0⟩:=q0;obtain ⟨_,_,aq1,Fq1,hc1⟩:=q1;have Fi:FunD K "__init__" "Ground.__init__" KH fi _:=⟨⟨_,_,_,_,_,_,_,_,_,_,Z,li,ci⟩⟩;refine ⟨_,lw Fw λ_ _ _ _ _ _ _=>rfl,λbase _ _ hC hB hC2 hB2=>?_⟩;have A:Amb l.prog w K mg base:=⟨⟨_,X,GX⟩⟩;have o0:=dk A F0 (λ_ _ F=>ok_at F T) bn2;have o1:=dk A F1 (λ_ _ F=>ok_row F T) bn3;have o2:=dk A F2 (λ_ _ F=>ok_beds F T o0 o1) bn1;have o3:=dk A F3 (λ_ _ F=>bV F T) bn2;have o4:=dk A F4 (λ_ _ F=>dD F T o3) bn2;have o5:=dk A F5 (λ_ _ F=>XT F T o1 o4) bn3;have o6:=dk A F6 (λ_ _ F=>ok_deed F T o3 o5) bn2;have o7:=dk A F7 (λ_ _ F=>ok_go F T) bn3;have o8:=dk A F8 (λ_ _ F=>ok_again F T o7) bn4;have o9:=dk A F9 (λ_ _ F=>ok_done F T o7 o8) bn4;have o10:=dk A F10 (λ_ _ F=>ok_q7 F T) bn1;have o11:=mt A M0 (λ_ _ F=>ok_G_q15 F T TG) bn1;have o12:=mt A M1 (λ_ _ F=>ZL F T TG) bn3;have o13:=dk A F11 (λ_ _ F=>ok_q0 F T) bn1;have o14:=dk A F12 (λ_ _ F=>XS F T) bn1;have o15:=dk A F13 (λ_ _ F=>ok_q1 F T) bn2;have o16:=dk A F14 (λ_ _ F=>bQ F T o10 o15) bn3;have o17:=dk A F15 (λ_ _ F=>YV F T o10 o15) bn3;have o18:=dk A F16 (λ_ _ F=>dW F T o16 o17) bn3;have o19:=dk A F17 (λ_ _ F=>ok_q16 F T) bn1;have o20:=dk A F18 (λ_ _ F=>ok_still F T) bn1;have o21:=dk A F19 (λ_ _ F=>ok_q21 F T o10) bn2;have o22:=dk A F20 (λ_ _ F=>Z0 F T) bn2;have o23:=dk A F21 (λ_ _ F=>bX F T o22) bn2;have o24:=dk A F22 (λ_ _ F=>UO F T o20 o21 o23) bn2;have o25:=dk A F23 (λ_ _ F=>ok_q25 F T) bn1;have o26:=dk A F24 (λ_ _ F=>VX F T o25 o23) bn2;have o27:=dk A F25 (λ_ _ F=>ok_q23 F T o19 o24 o26 o22) bn4;have o28:=dk A F26 (λ_ _ F=>ok_q10 F T o24 o18 o26 o22) bn4;have o29:=dk A F27 (λ_ _ F=>ok_q22 F T o18 o27 o28) bn4;have o30:=dk A F28 (λ_ _ F=>ok_q9 F T o29 o18) bn5;have o31:=dk A F29 (λ_ _ F=>RH F T) bn2;have o32:=dk A F30 (λ_ _ F=>ok_q18 F T o31) bn4;have o33:=dk A F31 (λ_ _ F=>VI F T) bn4;have o34:=dk A F32 (λ_ _ F=>Z1 F T o30 o32 o33) bn4;have o35:=mt A M2 (λ_ _ F=>ok_G_q4 F T TG o11 o12 o13 o14 o34) bn2;have o36:=mt A M3 (λ_ _ F=>aJ F T TG o10 o35) bn2;have o37:=mt A M4 (λ_ _ F=>ZP F T TG o10 o35) bn2;have o38:=dk A F33 (λ_ _ F=>ok_q27 F T) bn1;have o39:=dk A F34 (λ_ _ F=>ok_q31 F T) bn1;have o40:=mt A M5 (λ_ _ F=>ok_G_lay F T TG o11 o12 o38 o39 o13 o33) bn2;have o41:=dk A F35 (λ_ _ F=>ok_q30 F T o10) bn1;have o42:=mt A M6 (λ_ _ F=>Z8 F T TG o41 o25 o35) bn3;have o43:=dk A F36 (λ_ _ F=>ok_do F T TG o36 o37 o40 o42) bn2;have o44:=dk A F37 (λ_ _ F=>ok_whole F T) bn1;have o45:=dk A F38 (λ_ _ F=>ok_told F T o44) bn2;have o46:=dk A F39 (λ_ _ F=>ok_fits F T o44 o45) bn3;have o47:=dk A F40 (λ_ _ F=>XV F T o6 o9 o43 o46) bn5;have o48:=dk A F41 (λ_ _ F=>cG F T) bn2;have o49:=dk A F42 (λ_ _ F=>aF F T o5) bn4;have o50:=dk A F43 (λ_ _ F=>Y2 F T o44) bn2;have o51:=mt A M7 (λ_ _ F=>ZA F T TG o11) bn1;have o52:=mt A M8 (λ_ _ F=>Y4 F T TG o11) bn1;have o53:=dk A F44 (λ_ _ F=>RI F T) bn2;have o54:=mt A M9 (λ_ _ F=>dC F T TG o11 o53) bn2;have o55:=mt A M10 (λ_ _ F=>ZV F T TG o11 o53) bn2;have o56:=dk A F45 (λ_ _ F=>ok_q12 F T o53) bn2;have o57:=mt A M11 (λ_ _ F=>TC F T TG o11 o56) bn2;have o58:=mt A M12 (λ_ _ F=>ok_G_q24 F T TG o55 o54) bn2;have o59:=dk A F46 (λ_ _ F=>ok_q26 F T) bn2;have o60:=mt A M13 (λ_ _ F=>V4 F T TG o11 o59) bn1;have o61:=dk A F47 (λ_ _ F=>UN F T) bn2;have o62:=mt A M14 (λ_ _ F=>Y0 F T TG o11 o61) bn1;have o63:=dk A F48 (λ_ _ F=>ok_seen F T TG o44 o50 o51 o52 o54 o55 o57 o58 o60 o62) bn3;have o64:=dk A F49 (λ_ _ F=>ok_q11 F T o44) bn2;have o65:=dk A F50 (λ_ _ F=>TR F T o44 o64) bn2;have o66:=mt A M15 (λ_ _ F=>YZ F T TG) bn1;have o67:=mt A M16 (λ_ _ F=>ok_G_q2 F T TG) bn2;have o68:=mt A M17 (λ_ _ F=>RW F T TG o11 o67) bn1;have o69:=dk A F51 (λ_ _ F=>ok_books F T TG o65 o45 o66 o68) bn3;have o70:=mt A M18 (λ_ _ F=>ok_G_q5 F T TG o11 o53) bn2;have o71:=mt A M19 (λ_ _ F=>dB F T TG o70 o24) bn3;have o72:=dk A F52 (λ_ _ F=>UB F T o41 o24 o26) bn3;have o73:=mt A M20 (λ_ _ F=>ok_G_q17 F T TG o70 o72) bn4;have o74:=dk A F53 (λ_ _ F=>ok_q14 F T o24 o22) bn3;have o75:=dk A F54 (λ_ _ F=>YJ F T o41 o19 o74) bn3;have o76:=dk A F55 (λ_ _ F=>ok_q13 F T o53 o41 o21 o22 o74 o75) bn4;have o77:=mt A M21 (λ_ _ F=>ok_G_q3 F T TG o11 o76) bn3;have o78:=mt A M22 (λ_ _ F=>ok_G_q20 F T TG o11 o75) bn2;have o79:=dk A F56 (λ_ _ F=>ok_q8 F T) bn4;have o80:=dk A F57 (λ_ _ F=>UQ F T o41 o79 o30) bn5;have o81:=mt A M23 (λ_ _ F=>UT F T TG o11 o80) bn4;have o82:=dk A F58 (λ_ _ F=>ok_q29 F T) bn3;have o83:=mt A M24 (λ_ _ F=>ok_G_q6 F T TG o82) bn2;have o84:=dkX A F44 (λ_ _ F=>PD F T ⟨g 0 (by decide),xu 0 (by lia) Z⟩) bn2;have o85:=mtX A M9 (λ_ _ F=>YD F T TG o11 o84) bn2;have o86:=mtX A M10 (λ_ _ F=>Z6 F T TG o11 o84) bn2;have o87:=dkX A F45 (λ_ _ F=>ok_q12X F T o84) bn2;have o88:=mtX A M11 (λ_ _ F=>QE F T TG o11 o87) bn2;have o89:=mtX A M12 (λ_ _ F=>bJ F T TG o86 o85) bn2;have o90:=mtX A M18 (λ_ _ F=>ok_G_q5X F T TG o11 o84) bn2;have o91:=dkX A F10 (λ_ _ F=>ok_q7X F T ⟨g 6 (by decide),xu 6 (by lia) Z⟩) bn1;have o92:=dkX A F19 (λ_ _ F=>ok_q21X F T o91) bn2;have o93:=dkX A F22 (λ_ _ F=>SA F T o20 o92 o23) bn2;have o94:=mtX A M19 (λ_ _ F=>XW F T TG o70 o90 o93) bn3;have o95:=dkX A F35 (λ_ _ F=>ok_q30X F T ⟨g 5 (by decide),xu 5 (by lia) Z⟩ o91) bn1;have o96:=dkX A F23 (λ_ _ F=>ok_q25X F T ⟨g 7 (by decide),xu 7 (by lia) Z⟩) bn1;have o97:=dkX A F24 (λ_ _ F=>S2 F T o96) bn2;have o98:=dkX A F52 (λ_ _ F=>PF F T o95 o24 o97) bn3;have o99:=mtX A M20 (λ_ _ F=>dS F T TG o70 o90 o98) bn4;have o100:=dkX A F55 (λ_ _ F=>ok_q13X F T o84 o95) bn4;have o101:=mtX A M21 (λ_ _ F=>ok_G_q3X F T TG o11 o100) bn3;have o102:=dkX A F54 (λ_ _ F=>UZ F T o95) bn3;have o103:=mtX A M22 (λ_ _ F=>eZ F T TG o11 o102) bn2;have o104:=dkX A F56 (λ_ _ F=>ok_q8X F T ⟨g 8 (by decide),xu 8 (by lia) Z⟩) bn4;have o105:=dkX A F57 (λ_ _ F=>T8 F T o95 o104) bn5;have o106:=mtX A M23 (λ_ _ F=>SL F T TG o11 o105) bn4;have o107:=dkX A F58 (λ_ _ F=>ok_q29X F T ⟨g 1 (by decide),xu 1 (by lia) Z⟩) bn3;have o108:=mtX A M24 (λ_ _ F=>ok_G_q6X F T TG o107) bn2;have o109:OkX l.prog w K mg base "_law_questions" EU 16 (FX l.prog w K mg base G CT (λi=>L.getD i 0) PT):=⟨_,_,RX Fq0 T TG XE (ry 0 (by decide) Z) (ry 1 (by decide) Z) (ry 5 (by decide) Z) (ry 6 (by decide) Z) (ry 7 (by decide) Z) (ry 8 (by decide) Z) hc0 hC hB o54 o55 o57 o58 o71 o73 o77 o78 o81 o83 o85 o86 o88 o89 o94 o99 o101 o103 o106 o108,bn6 _ _ Fq0,kR X GX aq0,Fq0.kp⟩;have o110:=mtX A M6 (λ_ _ F=>V9 F T TG o95 o96) bn3;have o111:=dkX A F33 (λ_ _ F=>ok_q27X F T ⟨g 3 (by decide),xu 3 (by lia) Z⟩) bn1;have o112:=dkX A F34 (λ_ _ F=>ok_q31X F T ⟨g 9 (by decide),xu 9 (by lia) Z⟩) bn1;have o113:=mtX A M5 (λ_ _ F=>cO F T TG o11 o111 o112) bn2;have o114:=mtX A M3 (λ_ _ F=>YH F T TG o91) bn2;have o115:=mtX A M4 (λ_ _ F=>ZG F T TG o91) bn2;have o116:OkX l.prog w K mg base "_law_deeds" QB 16 (QT l.prog w K mg base G CT (λi=>L.getD i 0) PT2):=⟨_,_,ok_deeds Fq1 T TG XE (ry 3 (by decide) Z) (ry 5 (by decide) Z) (ry 6 (by decide) Z) (ry 7 (by decide) Z) hc1 hC2 hB2 o110 o113 o114 o115,bn4 _ _ Fq1,kR X GX aq1,Fq1.kp⟩;have o117:OkX l.prog w K mg base "_law_refusal" JN 15 (K8 l.prog w K mg base CT (λi=>L.getD i 0)):=dkX A F59 (λ_ _ F=>Y5 F T XE) bn2;have o118:=dkX A F60 (λ_ _ F=>ZC F T) bn1;have o119:OkX l.prog w K mg base "_law_held" WJ 16 (V1 l.prog w K mg base CT (λi=>L.getD i 0)):=dkX A F61 (λ_ _ F=>ok_held F T o117 o118) bn4;have o120:=dk A F62 (λ_ _ F=>ok_q28 F T) bn1;have o121:=dk A F63 (λ_ _ F=>ok_q19 F T) bn2;have oi:OkI l.prog w K mg base G PL 2 (JH K G) []:=⟨_,_,ok_G_q32 Fi T TG o120 o38 o121 o33,λs us KX hl=>by
  rw [jH] at hl ⊢;exact match us,hl with | [_,_,_],_=>W.binds_K KX Z lD sD Z Z,⟨mk,ai,ii,kc⟩⟩
 exact ok_law Fw T TG o0 o2 o47 o48 o49 o63 o69 o109 o116 o119 oi
theorem walk {l:W.OpenLaw} {q:gL} {loose:List fZ} {XP:(fZ->Option fV)->iC->Prop} {YP:gX->iC->Prop} {d d1 d2:DefRec} {K:Params->W.Frag} {c PT c2 PT2:fT} (hn:l.most=some 63) (hdf:d.params.defaults=[])
  (hY:∀ (w:gX) (h:iC),YP w h->(K w.params).In h) (hdn:d.name = "law") (hrec:(PyProof.Rows.recsOf q).find? (λe=>e.name == ("_law_questions":fZ))=some d1) (hd1:d1.name = "_law_questions") (ht:∀ w:gX,W.tabIn (K w.params) "_law_questions" = some (c,PT)) (hKP:∀ w:gX,(K w.params).lookup PT=none) (hrec2:(PyProof.Rows.recsOf q).find? (λe=>e.name == ("_law_deeds":fZ))=some d2) (hd2:d2.name = "_law_deeds") (ht2:∀ w:gX,W.tabIn (K w.params) "_law_deeds" = some (c2,PT2)) (hKP2:∀ w:gX,(K w.params).lookup PT2=none) (hPP:PT ≠ PT2)
  (F:∀ (w:gX) (mg:fZ->Option fV) (fa:fT) (h:iC),(K w.params).In h->h.Ns iA mg->mg "law" = some (.ref fa) ->
   ∃ fd:iF,(∀ (s:fW) (u:fV),BindsTo s fd ⟨[u],[]⟩ [("_law_script",u)])/\∀ base:iC,(K w.params).In base->base.Ns iA mg->W.CodeHd base c PT->base.BuiltinsAt mg PT->W.CodeHd base c2 PT2->base.BuiltinsAt mg PT2->Ym l.prog w (K w.params) mg base (CX1 l.prog w) 17 fa fd ["_law_script"] (WL (K w.params) PT PT2)) :
  W.WalkO q loose XP YP l.row.toRowW d [] (λf vs=>PySem.call f vs):=
 L2.walk_ofU (d1:=d1) (d2:=d2) (n:=63) (k:=17) (x:="_law_script") (c:=λ_=>c) (P:=λ_=>PT) (c2:=λ_=>c2) (P2:=λ_=>PT2) (CX:=λw=>CX1 l.prog w) (sp:=λw=>WL (K w.params) PT PT2) hn (by decide) hdf ⟨Z,by decide,by decide⟩ hY (by rw [hd1];exact hrec) (λw=>by rw [hd1];exact ht w) hKP (by rw [hd2];exact hrec2) (λw=>by rw [hd2];exact ht2 w) hKP2 (λw mg fa h a b e=>F w mg fa h a b (by rw [<- hdn];exact e)) (λ_ _ a ns hl _ hT hT2 hS=>⟨a,ns,Z,hS,hl,hT,hT2,hPP,λ_=>rfl⟩) λ_ _ _ _ _ z=>by obtain ⟨_,_,_,_,_,_,_,_,_,hE⟩:=z;exact hE
end Tf
namespace PySem.W.Fast
def tw4798910164877762797:=0
def tw275206413031147846:=0
def tw11713147852178217110:=0
def tw5928005190024462336:=0
def tw6033867003372412824:=0
def tw12889822936804772948:=0
def tw4936628468264436230:=0
def tw5170497670745381955:=0
def tw14348371865149335685:=0
def tw8012827252335858767:=0
def tw14303502845284264693:=0
def tw6517864329627520970:=0
def tw6766148987244635088:=0
def tw9846392769352255134:=0
def tw3738633505370101892:=0
def tw9820042909624106137:=0
def tw12088234526149708094:=0
def tw14574874833496084137:=0
def tw11563770583290936023:=0
def tw6173828485231600064:=0
def tw3272525869023162084:=0
def tw11977902435134631650:=0
def tw17375122582194805412:=0
def tw41976302325811115:=0
def tw529345391745352610:=0
def tw3753447245490667340:=0
def tw2197232960435722122:=0
def tw1707716795777633926:=0
def tw14366989363151542419:=0
def tw12843813787038791522:=0
def tw9892767377275148310:=0
def tw10064818229636085550:=0
def tw14149316320003911993:=0
def tw4916138422278196463:=0
def tw6373840440064319417:=0
def tw15547897415001723093:=0
def tw11625748147911024016:=0
def tw12780260584471909618:=0
def tw11413750141904282986:=0
def tw4988374413328311930:=0
def tw2155909044984963234:=0
def tw7389124432731121137:=0
def tw14415373906725265313:=0
def tw3776813010848258247:=0
def tw6853128552268369960:=0
def tw11577645745767299575:=0
def tw9556054037113241109:=0
def tw13624653630181246970:=0
def tw1972107528057939709:=0
def tw7496621887724333950:=0
def tw16852453901634456042:=0
def tw16094559305580217878:=0
def tw5801554473913373284:=0
def tw10276932149125722042:=0
def tw14601419042354337984:=0
def tw17181658062287242457:=0
def tw5154207293821119083:=0
def tw5335852693675971991:=0
def tw8030778763809124451:=0
def tw1545552964416290698:=0
def tw14076169402570357575:=0
def tw304622687561350674:=0
def tw4968901489266766336:=0
def tw8114247278978314964:=0
def tw4073697177687857023:=0
def tw4443318794670127489:=0
def tw5970333784447528447:=0
def tw1450505532142335711:=0
def tw13489577581461618729:=0
def tw13586025552408875621:=0
def tw8720700705176153988:=0
def tw11774519544900769574:=0
def tw15014468575708632416:=0
def tw8280302712568508053:=0
def tw13509301211472918385:=0
def tw3000450756268187726:=0
def tw1689062461759567394:=0
def tw5624345882851802266:=0
def tw11284789403830620652:=0
def tw5609947767127071535:=0
def tw14305260560167064449:=0
def tw11595594626148258068:=0
def tw9794257250938726630:=0
def tw12844386742676310211:=0
def tw13151590471606820480:=0
def tw10866871993816722680:=0
def tw13415473176347773475:=0
def tw3799598487984222247:=0
def tw16745986684388681354:=0
def tw729784767503572926:=0
def tw8519934159623357362:=0
def tw2048349870880930581:=0
def tw9820669887990715769:=0
def tw9579753660248856055:=0
def tw3907983659266732615:=0
def tw15923122709401037011:=0
def tw18387757965584636396:=0
def tw17743695130919532899:=0
def tw14019036285155147369:=0
def tw15080194447785778731:=0
def tw11522930730994734012:=0
def tw13434443635545230240:=0
def tw17717429128617256888:=0
def tw15054304531783966584:=0
def tw8879644789478195428:=0
def tw11766553279195962739:=0
def tw10240992614816576150:=0
def tw7394967389314915144:=0
def tw9175435934402994000:=0
def tw13145172271804665792:=0
def tw1022401062163394291:=0
def tw4830361017824822949:=0
def tw13025470940216391751:=0
def tw6481598108072134452:=0
def tw4079059793442319815:=0
def tw4060237390107144101:=0
def tw4978703116604930365:=0
def tw13486437865881133075:=0
def tw17589927143565474292:=0
def tw7080649128655247593:=0
def tw1796715354492199963:=0
def tw6573528875968102248:=0
def tw7177596202815873047:=0
def tw14592948042098642302:=0
def tw16044233159911351456:=0
def tw9653451823114817091:=0
def tw13937148791888190561:=0
def tw17764785191797056870:=0
def tw15598823216786721263:=0
def tw2318434029342701895:=0
def tw2651047624816970122:=0
def tw6677724947722537714:=0
def tw11369507873010790997:=0
def tw13714439971163880468:=0
def tw14054796462724968708:=0
def tw15205031401590510049:=0
def tw9130450349659575599:=0
def tw15323019014231998160:=0
def tw10866034111986920371:=0
def tw1571341378080646728:=0
def tw4376267007323623693:=0
def tw2194376410862864068:=0
def tw15395551277320088741:=0
def tw5145944610819642646:=0
def tw5995524769931822546:=0
def tw7587500219226259029:=0
def tw4497822264124104512:=0
def tw7292913129470415501:=0
def tw4479484133359483872:=0
def tw6178424594390369675:=0
def tw6574875056370841984:=0
def tw5613011781721055369:=0
def tw10778978811805078165:=0
def tw8081679866148200085:=0
def tw14791317831451353531:=0
def tw12625654575730651831:=0
def tw13944685417058483148:=0
def tw13836147993172617458:=0
def tw2424258674313454792:=0
def tw7100008333942648762:=0
def tw7789864277376950132:=0
def tw11635498459355665622:=0
def tw10743233659842964115:=0
def tw6187828433974171318:=0
def tw6971128363194152148:=0
def tw7333324100904780580:=0
def tw7720108673984873760:=0
def tw8349553328291863135:=0
def tw15687584986767213268:=0
def tw15533863748518415359:=0
def tw15846176258378132539:=0
def tw18057718499354948829:=0
def tw7173910326149169750:=0
def tw10894999317744086542:=0
def tw14454322832888288364:=0
def tw14246116414741552269:=0
def tw5844789834546059792:=0
def tw6545909611679562960:=0
def tw6294124862092824844:=0
def tw10536929789451308087:=0
def tw7949582324348573300:=0
def tw6232426254778647416:=0
def tw8181755899367834042:=0
def tw8097434650632214037:=0
def tw17520232485180895612:=0
def tw3943146002323934005:=0
def tw11089625754297238480:=0
def tw14568824495682855462:=0
def tw5919408769895250436:=0
def tw5851816038064206689:=0
def tw7115258478517142708:=0
def tw7140895276743106789:=0
def tw11846147417001714340:=0
def tw10475657777267089147:=0
def tw3272597412113643597:=0
def tw16699714969980143350:=0
def tw3574855889285967758:=0
def tw5851554942232128692:=0
def tw15173062967654294435:=0
def tw4986037431351591339:=0
def tw17717082741716870031:=0
def tw13089193442773845861:=0
def tw11100506635112806613:=0
def tw13961308623626876046:=0
def tw11185856655833976467:=0
def tw6361650217635931495:=0
def tw6701133305089139254:=0
def tw13581421482550878241:=0
def tw954178248808984195:=0
def tw6675723831218927283:=0
def tw11529487803230017850:=0
def tw14860909077576006052:=0
def tw17454285925398368891:=0
def tw10157444317414372214:=0
def tw6202436437784185283:=0
def tw16904467265293345991:=0
def tw1219319672374192760:=0
def tw5362124582795427800:=0
def tw11942003216615841246:=0
def tw3134998708222019764:=0
def tw17748631896382656215:=0
def tw841109946750036599:=0
def tw7389396393661880684:=0
def tw8134537650876092526:=0
def tw6999419973952923104:=0
def tw8731129210925802255:=0
def tw12604602194832935578:=0
def tw11774166490274805750:=0
def tw2359859938910405711:=0
def tw4100715856572379155:=0
def tw14921806906184456251:=0
def tw3316714309521013474:=0
def tw4018794650140733618:=0
def tw8832984287512811275:=0
def tw4215018330450854795:=0
def tw7908134857100714690:=0
def tw8193229333856957053:=0
def tw16172765722246240362:=0
def tw17885447763409284092:=0
def tw11533306819885140383:=0
def tw9808179645656501315:=0
def tw6194967812246218825:=0
def tw861018015010839733:=0
def tw998079866673233290:=0
def tw12425217174956920956:=0
def tw15965272111063396745:=0
def tw9957493080163217685:=0
def tw17683978095536006709:=0
def tw11061246956347326973:=0
def tw17672274603041101400:=0
def tw12371555691950213251:=0
def tw11937363838623967093:=0
def tw17905429383716275386:=0
def tw807623693459153040:=0
def tw8244764405238217214:=0
def tw351524916197072604:=0
def tw5336306497822736041:=0
def tw14245855590565470440:=0
def tw7040446959781986944:=0
def tw17472432495822604132:=0
def tw7893046196195263585:=0
def tw13610679246542327283:=0
def tw14846656011473458589:=0
def tw4643733095453435187:=0
def tw1552068398886674552:=0
def tw5296414433667483354:=0
def tw3093978860414402245:=0
def tw10301821218957449059:=0
def tw6110938006774546641:=0
def tw15261143578817550304:=0
def tw7426606466487119769:=0
def tw15301288898559010788:=0
def tw8284352952196052359:=0
def tw1398664100010520191:=0
def tw9747327568894249085:=0
def tw1426136068098441651:=0
def tw6847748686650676147:=0
def tw16170768596026224606:=0
def tw3797742501375209877:=0
def tw13370821763578997635:=0
def tw13888339493649339255:=0
def tw7709761204528013429:=0
def tw13159936553374250172:=0
def tw13923163549241479588:=0
def tw4882333911752844539:=0
def tw2367891392898742054:=0
def tw5821570795931478766:=0
def tw16946264507312683375:=0
def tw6612611709671667103:=0
def tw3625161350424963996:=0
def tw4718755119201379909:=0
def tw8744115346049320203:=0
def tw11487622314752174795:=0
def tw4846392897640262293:=0
def tw5029864777794945411:=0
def tw6998535723345815247:=0
def tw13131739400158281906:=0
def tw16070091421324738671:=0
def tw9981016744943242324:=0
def tw5832331958320454734:=0
def tw5145612146641068340:=0
def tw5184044423711802414:=0
def twPySem.W.Fast.tw13961308623626876046:=0
def tw17334378361154560233:=0
def tw17655624635688623516:=0
def tw8730671664272060363:=0
def tw8021951523782262085:=0
def twPySem.W.Fast.tw13089193442773845861:=0
def tw819344701855821008:=0
def tw6091536503442225269:=0
def tw4469115995680267091:=0
def tw11284497928006361694:=0
def tw18417937516894533358:=0
def tw3770268382392698715:=0
def tw1960000142810950713:=0
def tw99317718388140979:=0
def tw1214298542145124454:=0
def tw178334914751090729:=0
def tw13486570505777373046:=0
def tw11382507231752381573:=0
def tw14690990636719113781:=0
def tw10054227508895011180:=0
def tw13581369182646277792:=0
def tw9751323447747465957:=0
def tw10858056185303617302:=0
def tw14525556035976049553:=0
def tw11267692054851760891:=0
def tw13741918184366904908:=0
def tw8521108453186174992:=0
def tw15310091475102670293:=0
def tw4607841536848004711:=0
def tw8661541448572310402:=0
def tw1444683338555238801:=0
def tw2130069968589245876:=0
def tw14413772686439422586:=0
def tw12456929745488781842:=0
def tw7164477537953878299:=0
def twPySem.W.Fast.tw17683978095536006709:=0
def tw1704495525414341544:=0
def tw4351288296902904875:=0
def tw4716581627095843595:=0
def tw3977317047160152085:=0
def tw8682546141671041422:=0
def tw2732199967883956518:=0
def tw6192988289099209769:=0
def tw13543299517200076493:=0
def tw890437848474725555:=0
def tw10002409335290338429:=0
def tw3276121876541698491:=0
def tw2548794464760161915:=0
def tw6958310452464312393:=0
def tw17430605519463846180:=0
def twPySem.W.Fast.tw954178248808984195:=0
def tw11288982285027956575:=0
def twPySem.W.Fast.tw16172765722246240362:=0
def twPySem.W.Fast.tw8193229333856957053:=0
def twPySem.W.Fast.tw7908134857100714690:=0
def tw16135694230714618989:=0
def tw14469679514328585174:=0
def tw10533815379132168013:=0
def tw13878358303732598801:=0
def tw10188783227035184125:=0
end PySem.W.Fast
open PySem PySem.W PyProof.Rows
set_option maxRecDepth 100000 in
set_option maxHeartbeats 0 in
theorem PySem.Challenge.cw_thawfront_k42_whole_refusals_holds : PySem.Challenge.rw_thawfront_k42_whole_refusals.Holds := by
 w_on;o_law;k_head;(case hw=>w_witness2)
 k_fill
 refine' Tf.walk (l:=PySem.Challenge.rw_thawfront_k42_whole_refusals) rfl rfl (fun w h Y=>PySem.W.km_in_of Y) rfl ?g1 ?g2 ?g3 ?g4 ?g5 ?g6 ?g7 ?g8 ?g9 ?F
 (case g1=>rfl)
 (case g2=>rfl)
 (case g3=>intro w;refine' L2.tabIn_of ?h1 ?h2 ?h3 ?h4 ?h5;(case h1=>k_is);(case h2=>k_is);(case h3=>rfl);(case h4=>k_is);(case h5=>rfl))
 (case g4=>intro w;kernel_rfl)
 (case g5=>rfl)
 (case g6=>rfl)
 (case g7=>intro w;refine' L2.tabIn_of ?h1 ?h2 ?h3 ?h4 ?h5;(case h1=>k_is);(case h2=>k_is);(case h3=>rfl);(case h4=>k_is);(case h5=>rfl))
 (case g8=>intro w;kernel_rfl)
 (case g9=>decide)
 case F=>
  intro w mg fa h KX G hmg
  refine' Tf.all_mk KX G hmg ?u0 ?u1 ?u2 ?u3 ?u4 ?u5 ?u6 ?u7 ?u8 ?u9 ?u10 ?u11 ?u12 ?u13 ?u14 ?u15 ?u16 ?u17 ?u18 ?u19 ?u20 ?u21 ?u22 ?u23 ?u24 ?u25 ?u26 ?u27
  case u0=>k_is
  (case u1|u2=>repeat' (first | exact trivial | refine Tf.fl (by k_is) (L2.fun_mk (by k_is) (by k_is) (by k_is)) ?_))
  (case u3=>repeat' (first | exact trivial | refine Tf.ml (by k_is) (by k_is) (L2.fun_mk (by k_is) (by k_is) (by k_is)) ?_))
  (case u4|u5=>exact ⟨_,_,by k_is,L2.fun_mk (by k_is) (by k_is) (by k_is),rfl⟩)
  (case u12=>exact ⟨_,_,by k_is,L2.fun_mk (by k_is) (by k_is) (by k_is)⟩)
  (case u6|u7|u8|u9|u10=>k_is)
  (case u11=>rfl)
  (case u13=>repeat' (first | exact trivial | refine Tf.zl (by k_is) ?_))
  (case u14=>repeat' (first | exact trivial | refine Tf.cl (by k_is) ?_))
  (case u15|u16|u17|u18|u19|u20|u21|u22|u23|u24|u25|u26=>k_is)
  (case u27=>exact ⟨_,by repeat' (first | exact Tf.nl0 | apply Tf.nl | k_is),by repeat' (first | exact trivial | refine Tf.il (by k_is) (by k_is) ?_),by repeat' (first | exact trivial | refine Tf.xl0 ?_ | refine Tf.xl (by k_exc) ?_),by repeat' (first | exact trivial | refine Tf.rl0 ?_ | refine Tf.rl ⟨by k_is,by k_is,by k_is,by k_is,by k_is,by k_is,by k_is⟩ ?_ ?_ | refine Tf.ul0 rfl ?_ | refine Tf.ul ⟨by k_is,rfl⟩ ?_),rfl⟩)
