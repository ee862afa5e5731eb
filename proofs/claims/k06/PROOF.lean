import PyProof.Rows.All
import Wide.All
import OpenK.AllK
import Wide.FinOn
import Lean
import PyProof.EqAt
import PyProof.EqKinds
import PyProof.TupleCall
import PyProof.NeKinds
import PyProof.Rows.SortRuns
import PyProof.Rows.SortWalk
import KE.KSortTup
import KE.RegKTryMore
import KE.RegKIsAll
import KE.KPairComp
import PyProof.ExcAttrAll.ValueError
import PyProof.Rows.SumAny
import KE.KSortKey
import KE.KLam
import KE.KNestM
import KE.KListMore
import KE.KIntText
import PyProof.StrOps2
import PySem.Challenge.RW_weirgauge_k06_whole_told_just_once
set_option Elab.async false
set_option linter.all false
set_option maxRecDepth 100000
set_option maxHeartbeats 4000000
namespace L2
open PySem PySem.Spec PyProof.Rows
noncomputable abbrev Key := Sum Int Str
noncomputable def keyIs : Key → Value → Bool
 | .inl k, v => Value.isInt k v
 | .inr x, v => Value.isStrOf x v
noncomputable def keyH (w : World) : Key → Int
 | .inl k => hashInt k
 | .inr x => hashStr w x
theorem keyIs_shape : ∀ {k : Key} {v : Value}, keyIs k v = true → (∃ i t, k = Sum.inl i ∧ v = Value.int i t) ∨ (∃ x t, k = Sum.inr x ∧ v = Value.str x t)
 | .inl i, v, h => by
  obtain ⟨t, e⟩ := Value.isInt_shape (k := i) (v := v) h
  exact .inl ⟨i, t, rfl, e⟩
 | .inr x, v, h => by
  obtain ⟨t, e⟩ := Value.isStrOf_shape (x := x) (v := v) h
  exact .inr ⟨x, t, rfl, e⟩
theorem keyIs_int (i : Int) (t : Tok) : keyIs (.inl i) (.int i t) = true := by simp [keyIs, Value.isInt]
theorem keyIs_str (x : Str) (t : Tok) : keyIs (.inr x) (.str x t) = true := by simp [keyIs, Value.isStrOf]
theorem key_ll (a b : Int) : decide ((Sum.inl a : Key) = Sum.inl b) = (a == b) := by
 by_cases e : a = b
 ·subst e; simp
 ·have h : ¬ (Sum.inl a : Key) = Sum.inl b := fun q => e (Sum.inl.inj q)
  rw [decide_eq_false h]
  exact (beq_eq_false_iff_ne.mpr e).symm
theorem key_rr (a b : Str) : decide ((Sum.inr a : Key) = Sum.inr b) = decide (a = b) := by
 by_cases e : a = b
 ·subst e; simp
 ·have h : ¬ (Sum.inr a : Key) = Sum.inr b := fun q => e (Sum.inr.inj q)
  rw [decide_eq_false h, decide_eq_false e]
theorem key_lr (a : Int) (b : Str) : decide ((Sum.inl a : Key) = Sum.inr b) = false := decide_eq_false (fun q => nomatch q)
theorem key_rl (a : Str) (b : Int) : decide ((Sum.inr a : Key) = Sum.inl b) = false := decide_eq_false (fun q => nomatch q)
noncomputable def mixKind (prog : Program) (w : World) : PySem.KeyKind prog w Key where
 is := keyIs
 hash := keyH w
 inj := fun v a b ha hb => by
  rcases keyIs_shape ha with ⟨i, t, rfl, rfl⟩ | ⟨x, t, rfl, rfl⟩
  ·rcases keyIs_shape hb with ⟨j, u, rfl, e⟩ | ⟨y, u, rfl, e⟩
   ·injection e with e1 _; rw [e1]
   ·exact nomatch e
  ·rcases keyIs_shape hb with ⟨j, u, rfl, e⟩ | ⟨y, u, rfl, e⟩
   ·exact nomatch e
   ·injection e with e1 _; rw [e1]
 byValue := fun k v h => by
  rcases keyIs_shape h with ⟨i, t, rfl, rfl⟩ | ⟨x, t, rfl, rfl⟩ <;> rfl
 pyHash := fun hv h => by
  rcases keyIs_shape hv with ⟨i, t, rfl, rfl⟩ | ⟨x, t, rfl, rfl⟩
  ·exact wpAny_pyHash_int h
  ·exact wpAny_pyHash_str h
 eqBool := fun hu hv h => by
  rcases keyIs_shape hu with ⟨i, t, rfl, rfl⟩ | ⟨x, t, rfl, rfl⟩
  ·rcases keyIs_shape hv with ⟨j, u, rfl, rfl⟩ | ⟨y, u, rfl, rfl⟩
   ·rw [key_ll] at h; exact wpAny_eqBool_int h
   ·rw [key_lr] at h; exact SeqAt.EqAt.int_str i t y u _ _ _ _ h
  ·rcases keyIs_shape hv with ⟨j, u, rfl, rfl⟩ | ⟨y, u, rfl, rfl⟩
   ·rw [key_rl] at h; exact SeqAt.EqAt.str_int x t j u _ _ _ _ h
   ·rw [key_rr] at h; exact wpAny_eqBool_str h
 «strs» := fun k x t v h => by
  rcases keyIs_shape h with ⟨i, u, rfl, e⟩ | ⟨y, u, rfl, e⟩
  ·exact nomatch e
  ·injection e with e1 _
   subst e1
   cases v <;> rfl
theorem mixKind_int (prog : Program) (w : World) (i : Int) (t : Tok) : (mixKind prog w).is (.inl i) (.int i t) = true := keyIs_int i t
theorem mixKind_str (prog : Program) (w : World) (x : Str) (t : Tok) : (mixKind prog w).is (.inr x) (.str x t) = true := keyIs_str x t
end L2
namespace L2
open PySem PySem.Spec PyProof.Rows
inductive V where
 | non | bl (b : Bool) | int (i : Int) | str (x : Str) | byt (b : Array UInt8) | flt (b : UInt64) | ref (a : Addr) | ty (n : String)
 deriving DecidableEq
noncomputable def RelV : V → Value → Prop
 | .non, u => u = Value.none
 | .bl b, u => u = Value.bool b
 | .int i, u => ∃ t, u = Value.int i t
 | .str x, u => ∃ t, u = Value.str x t
 | .byt b, u => ∃ t, u = Value.bytes b t
 | .flt b, u => ∃ t, u = Value.float b t
 | .ref a, u => u = Value.ref a
 | .ty n, u => u = Value.type n
noncomputable abbrev Vals : List V → List Value → Prop := Paired RelV
theorem Vals.length {xs : List V} {us : List Value} (r : Vals xs us) : xs.length = us.length := Paired.length r
theorem Vals.get : ∀ {xs : List V} {us : List Value} {i : Nat} {x : V}, Vals xs us → xs[i]? = some x → ∃ u, us[i]? = some u ∧ RelV x u
 | _, _, _, _, .nil, e => by simp at e
 | _, _, 0, _, .cons r _, e => by simp at e; subst e; exact ⟨_, rfl, r⟩
 | _, _, i + 1, x, .cons _ t, e => by
  obtain ⟨u, h1, h2⟩ := Vals.get (i := i) (x := x) t (by simpa using e)
  exact ⟨u, by simpa using h1, h2⟩
theorem Vals.append : ∀ {xs ys : List V} {us ws : List Value}, Vals xs us → Vals ys ws → Vals (xs ++ ys) (us ++ ws)
 | _, _, _, _, .nil, s => s
 | _, _, _, _, .cons r t, s => .cons r (Vals.append t s)
theorem Vals.take : ∀ {xs : List V} {us : List Value} (n : Nat), Vals xs us → Vals (xs.take n) (us.take n)
 | _, _, 0, _ => .nil
 | _, _, _ + 1, .nil => .nil
 | _, _, n + 1, .cons r t => .cons r (Vals.take n t)
theorem Vals.drop : ∀ {xs : List V} {us : List Value} (n : Nat), Vals xs us → Vals (xs.drop n) (us.drop n)
 | _, _, 0, r => r
 | _, _, _ + 1, .nil => .nil
 | _, _, n + 1, .cons _ t => Vals.drop n t
noncomputable def RelO : Option V → Option Value → Prop
 | some v, some u => RelV v u
 | none, none => True
 | _, _ => False
noncomputable def KV {κ : Type} : List (κ × V) → List (κ × Value) → Prop := Paired fun (p : κ × V) (q : κ × Value) => p.1 = q.1 ∧ RelV p.2 q.2
noncomputable def kV : Key → V
 | .inl i => .int i
 | .inr x => .str x
inductive HO where
  | lst (xs : List V)
  | tup (xs : List V)
  | dK (kvs : List (Key × V)) | dT (kvs : List (List Key × V))
  | set (S : Int → Bool) (n : Nat)
  | ins (C dx : Addr) (fs : List (Str × V))
  | own (x : Addr)
  | xd (fs : List (Str × V))
  | met (f x : Addr)
  | rng (lo hi : Int)
  | frz (o : Obj) (u : HO)
  | tbl (ps : Array Value)
  | ext (φ : Heap → Prop)
noncomputable abbrev Hp := Addr → Option HO
noncomputable def upd (H : Hp) (a : Addr) (o : HO) : Hp := fun b => if b = a then some o else H b
theorem upd_same {H : Hp} {a : Addr} {o : HO} : upd H a o a = some o := by unfold upd; rw [if_pos rfl]
theorem upd_ne {H : Hp} {a b : Addr} {o : HO} (h : b ≠ a) : upd H a o b = H b := by unfold upd; rw [if_neg h]
theorem upd_upd {H : Hp} {a : Addr} {o u : HO} : upd (upd H a o) a u = upd H a u := by
 funext b; unfold upd; split <;> rfl
theorem ne_of {H : Hp} {a b : Addr} {o u : HO} (h : H a = some o) (h' : H b = some u) (d : o ≠ u) : a ≠ b := by
 intro e; subst e; rw [h] at h'; exact d (Option.some.inj h')
theorem ne_of_none {H : Hp} {a b : Addr} {o : HO} (h : H a = some o) (h' : H b = none) : a ≠ b := by
 intro e; subst e; rw [h] at h'; cases h'
section
variable (P : Program) (w : World)
noncomputable def ObjOk (H : Hp) (h : Heap) (a : Addr) : HO → Prop
 | .lst xs => xs.length ≤ sizeLine ∧ ∃ (its : List Value) (n : Nat), Vals xs its ∧ h.get? a = some { cls := .type "list", data := .seq its.toArray n }
 | .tup xs => xs.length ≤ sizeLine ∧ ∃ its : List Value, Vals xs its ∧ IsTup h a its.toArray
 | .dK kvs => kvs.length ≤ sizeLine ∧ (a == sysModules) = false ∧ ∃ vs, KV kvs vs ∧ h.DictOf (mixKind P w) a vs
 | .dT kvs => kvs.length ≤ sizeLine ∧ (a == sysModules) = false ∧ ∃ xs : List (List Key × Addr × Value),
   Paired (fun (p : List Key × V) (q : List Key × Addr × Value) => p.1 = q.1 ∧ H q.2.1 = some (.tup (p.1.map kV)) ∧ RelV p.2 q.2.2) kvs xs ∧
   ∃ o es ep, h.get? a = some o ∧ o.ExactDict ∧ o.data = .dict es ep ∧ es.toList = xs.map (entryOfKey (tupleKind (mixKind P w))) ∧ (xs.map (·.1)).Nodup
 | .set S n => h.SetOf (intKind P w) a S n
 | .ins C dx fs => H dx = some (.own a) ∧ fs.length ≤ 1000 ∧ dx ≠ a ∧ h.get? a = some (PySem.W.instObj C dx) ∧
   ∃ mA, h.Ns1 dx mA ∧ (∀ f, RelO (fs.lookup f) (mA f)) ∧ PySem.Within mA (fs.map (·.1))
 | .own _ => ∃ o, h.get? a = some o
 | .xd fs => ∃ mA, h.Ns1 a mA ∧ ∀ f, RelO (fs.lookup f) (mA f)
 | .rng lo hi => ∃ t u v, h.get? a = some { cls := .type "range", data := .fields #[.int lo t, .int hi u, .int 1 v] }
 | .frz o u => h.get? a = some o ∧ ObjOk H h a u
 | .tbl ps => h.get? a = some { cls := .none, data := .fields ps }
 | .met f x => h.get? a = some (PySem.W.methodObj (.ref f) (.ref x))
 | .ext φ => φ h ∧ (∃ o, h.get? a = some o) ∧ ∀ h1 h2 : Heap, φ h1 → (∀ o, h1.get? a = some o → h2.get? a = some o) → φ h2
noncomputable def HOk (H : Hp) (h : Heap) : Prop := ∀ a o, H a = some o → ObjOk P w H h a o
end
section
variable {P : Program} {w : World} {H H' : Hp} {h h' : Heap} {a : Addr} {o : HO}
theorem ObjOk.lt (x : ObjOk P w H h a o) : a < h.objs.size := by
 cases o with
 | lst xs => obtain ⟨_, _, _, _, e⟩ := x; exact Heap.lt_size e
 | tup xs => obtain ⟨_, _, _, p⟩ := x; exact p.lt
 | dK kvs => obtain ⟨_, _, _, _, o, _, _, e, _⟩ := x; exact Heap.lt_size e
 | dT kvs => obtain ⟨_, _, _, _, o, _, _, e, _⟩ := x; exact Heap.lt_size e
 | set S n => obtain ⟨o, _, _, _, e, _⟩ := x; exact Heap.lt_size e
 | ins C dx fs => obtain ⟨_, _, _, e, _⟩ := x; exact Heap.lt_size e
 | own y => obtain ⟨_, e⟩ := x; exact Heap.lt_size e
 | xd fs => obtain ⟨_, ⟨_, _, _, e, _⟩, _⟩ := x; exact Heap.lt_size e
 | rng lo hi => obtain ⟨_, _, _, e⟩ := x; exact Heap.lt_size e
 | frz ob u => obtain ⟨e, _⟩ := x; exact Heap.lt_size e
 | tbl ps => exact Heap.lt_size (show h.get? a = some _ from x)
 | met f y => exact Heap.lt_size (show h.get? a = some _ from x)
 | ext φ => obtain ⟨_, ⟨_, e⟩, _⟩ := x; exact Heap.lt_size e
theorem Paired.mapP {α β : Type} {F G : α → β → Prop} : ∀ {l₁ : List α} {l₂ : List β}, Paired F l₁ l₂ → (∀ a b, F a b → G a b) → Paired G l₁ l₂
 | _, _, .nil, _ => .nil
 | _, _, .cons r t, f => .cons (f _ _ r) (Paired.mapP t f)
theorem Paired.imp' {α β : Type} {F G : α → β → Prop} (f : ∀ a b, F a b → G a b) {l₁ : List α} {l₂ : List β} (r : Paired F l₁ l₂) : Paired G l₁ l₂ := Paired.mapP r f
theorem ObjOk.stay (x : ObjOk P w H h a o) (k : ∀ b u, (b = a ∨ H b = some (.own a)) → h.get? b = some u → h'.get? b = some u)
  (ho : ∀ b, H b = some (.own a) → H' b = some (.own a)) (ht : ∀ b xs, H b = some (.tup xs) → H' b = some (.tup xs)) : ObjOk P w H' h' a o := by
 induction o with
 | lst xs => obtain ⟨z, its, n, r, e⟩ := x; exact ⟨z, its, n, r, k _ _ (.inl rfl) e⟩
 | tup xs => obtain ⟨z, its, r, ob, e, c⟩ := x; exact ⟨z, its, r, ob, k _ _ (.inl rfl) e, c⟩
 | dK kvs => obtain ⟨z, y, vs, r, ob, es, ep, e, c⟩ := x; exact ⟨z, y, vs, r, ob, es, ep, k _ _ (.inl rfl) e, c⟩
 | dT kvs =>
  obtain ⟨z, y, xs, r, ob, es, ep, e, c⟩ := x
  exact ⟨z, y, xs, Paired.mapP r fun p q z => ⟨z.1, ht _ _ z.2.1, z.2.2⟩, ob, es, ep, k _ _ (.inl rfl) e, c⟩
 | set S n => obtain ⟨ob, es, ep, t, e, c⟩ := x; exact ⟨ob, es, ep, t, k _ _ (.inl rfl) e, c⟩
 | ins C dx fs =>
  obtain ⟨d, z, ne, e, mA, ⟨od, es, ep, e2, c⟩, r⟩ := x
  exact ⟨ho _ d, z, ne, k _ _ (.inl rfl) e, mA, ⟨od, es, ep, k _ _ (.inr d) e2, c⟩, r⟩
 | own y => obtain ⟨ob, e⟩ := x; exact ⟨ob, k _ _ (.inl rfl) e⟩
 | xd fs => obtain ⟨mA, ⟨od, es, ep, e, c⟩, r⟩ := x; exact ⟨mA, ⟨od, es, ep, k _ _ (.inl rfl) e, c⟩, r⟩
 | rng lo hi => obtain ⟨t, u, v, e⟩ := x; exact ⟨t, u, v, k _ _ (.inl rfl) e⟩
 | frz ob u ih => obtain ⟨e, q⟩ := x; exact ⟨k _ _ (.inl rfl) e, ih q⟩
 | tbl ps =>
  have e : h.get? a = some { cls := .none, data := .fields ps } := x
  show h'.get? a = some { cls := .none, data := .fields ps }
  exact k a _ (.inl rfl) e
 | met f y =>
  have e : h.get? a = some (PySem.W.methodObj (.ref f) (.ref y)) := x
  show h'.get? a = some (PySem.W.methodObj (.ref f) (.ref y))
  exact k a _ (.inl rfl) e
 | ext φ => obtain ⟨p, ⟨o, e⟩, st⟩ := x; exact ⟨st _ _ p fun o q => k _ _ (.inl rfl) q, ⟨o, k _ _ (.inl rfl) e⟩, st⟩
theorem HOk.lt (x : HOk P w H h) (e : H a = some o) : a < h.objs.size := (x a o e).lt
theorem HOk.fresh (x : HOk P w H h) (e : h.objs.size ≤ a) : H a = none := by
 cases q : H a with
 | none => rfl
 | some u => exact absurd (Nat.lt_of_lt_of_le (x.lt q) e) (Nat.lt_irrefl _)
theorem HOk.kept (x : HOk P w H h) (k : ∀ b u, h.get? b = some u → h'.get? b = some u) : HOk P w H h' := fun a o e =>
 (x a o e).stay (fun b u _ q => k b u q) (fun _ q => q) fun _ _ q => q
theorem HOk.laid (x : HOk P w H h) (k : ∀ b u, h.get? b = some u → h'.get? b = some u) (hp : h.objs.size ≤ a) (new : ObjOk P w (upd H a o) h' a o) : HOk P w (upd H a o) h' := fun b u e => by
 have hn := x.fresh hp
 by_cases hb : b = a
 ·subst hb; rw [upd_same] at e; cases e; exact new
 ·rw [upd_ne hb] at e
  exact (x b u e).stay (fun c v _ q => k c v q) (fun c q => by rw [upd_ne (ne_of_none q hn)]; exact q) fun c xs q => by rw [upd_ne (ne_of_none q hn)]; exact q
end
noncomputable def Rd (H : Hp) (a : Addr) (u : HO) : Prop := H a = some u ∨ ∃ o, H a = some (.frz o u)
theorem Rd.ok {P : Program} {w : World} {H : Hp} {h : Heap} {a : Addr} {u : HO} (r : Rd H a u) (x : HOk P w H h) : ObjOk P w H h a u := by
 rcases r with r | ⟨o, r⟩
 ·exact x a u r
 ·obtain ⟨_, q⟩ := x a _ r
  exact q
noncomputable def Mut : Option HO → Prop
 | some (.lst _) => True
 | some (.dK _) => True
 | some (.dT _) => True
 | some (.set _ _) => True
 | some (.ins _ _ _) => True
 | some (.ext _) => True
 | _ => False
section
variable {P : Program} {w : World} {H : Hp} {h h' : Heap} {x e : Addr} {o' : HO}
theorem HOk.write (ok : HOk P w H h) (mu : Mut (H x)) (he : e = x ∨ H e = some (.own x)) (k : ∀ b u, b ≠ e → h.get? b = some u → h'.get? b = some u) (heo : ∃ u, h'.get? e = some u)
  (new : ObjOk P w (upd H x o') h' x o') : HOk P w (upd H x o') h' := fun b u q => by
 have nown : ∀ c y, H c = some (.own y) → c ≠ x := fun c y r z => by subst z; rw [r] at mu; exact mu
 have ntup : ∀ c xs, H c = some (.tup xs) → c ≠ x := fun c xs r z => by subst z; rw [r] at mu; exact mu
 by_cases hb : b = x
 ·subst hb; rw [upd_same] at q; cases q; exact new
 ·rw [upd_ne hb] at q
  by_cases hbe : b = e
  ·have q' : H b = some (.own x) := by
    rcases he with z | z
    ·exact absurd (hbe.trans z) hb
    ·rw [hbe]; exact z
   rw [q] at q'; cases q'
   obtain ⟨v, hv⟩ := heo
   exact ⟨v, by rw [hbe]; exact hv⟩
  ·refine (ok b u q).stay (fun c v hc r => k c v ?_ r) (fun c r => by rw [upd_ne (nown c b r)]; exact r) fun c xs r => by rw [upd_ne (ntup c xs r)]; exact r
   rcases hc with rfl | hc
   ·exact hbe
   ·rintro rfl
    rcases he with z | z
    ·exact nown c b hc z
    ·rw [hc] at z; cases z; exact hb rfl
end
structure Un (fs ex : List Addr) (H H' : Hp) (h h' : Heap) : Prop where
 keep : ∀ b o, h.get? b = some o → H b = none → b ∉ fs → b ∉ ex → h'.get? b = some o
 slot : ∀ b o, h.get? b = some o → H b = none → b ∈ fs → b ∉ ex → ∃ sl, h'.get? b = some { o with slots := sl }
 free : ∀ b o, h.get? b = some o → H b = none → b ∉ ex → H' b = none
 there : ∀ b o, h.get? b = some o → b ∉ ex → ∃ o', h'.get? b = some o'
 tups : ∀ b xs, H b = some (.tup xs) → H' b = some (.tup xs)
 frzs : ∀ b o u, H b = some (.frz o u) → H' b = some (.frz o u)
 tbls : ∀ b ps, H b = some (.tbl ps) → ∃ more, H' b = some (.tbl (ps ++ more))
section
variable {fs fs' ex ex' : List Addr} {H H1 H2 : Hp} {h h1 h2 h' : Heap} {a x e : Addr} {o : HO}
theorem Un.any (u : Un fs ex H H1 h h1) {b : Addr} {ob : Obj} (q : h.get? b = some ob) (n : H b = none) (hx : b ∉ ex) : ∃ sl, h1.get? b = some { ob with slots := sl } := by
 by_cases hb : b ∈ fs
 ·exact u.slot b ob q n hb hx
 ·exact ⟨ob.slots, u.keep b ob q n hb hx⟩
theorem Un.kept (k : ∀ b u, h.get? b = some u → h'.get? b = some u) : Un fs ex H H h h' :=
 ⟨fun b ob q _ _ _ => k b ob q, fun b ob q _ _ _ => ⟨ob.slots, k b ob q⟩, fun _ _ _ n _ => n, fun b ob q _ => ⟨ob, k b ob q⟩, fun _ _ q => q, fun _ _ _ q => q, fun _ ps q => ⟨#[], by rw [q]; simp⟩⟩
theorem Un.refl : Un fs ex H H h h := Un.kept fun _ _ q => q
theorem Un.laid (k : ∀ b u, h.get? b = some u → h'.get? b = some u) (hp : h.objs.size ≤ a) (hn : H a = none) : Un fs ex H (upd H a o) h h' where
 keep := fun b u q _ _ _ => k b u q
 slot := fun b u q _ _ _ => ⟨u.slots, k b u q⟩
 free := fun b u q n _ => by rw [upd_ne (Nat.ne_of_lt (Nat.lt_of_lt_of_le (Heap.lt_size q) hp))]; exact n
 there := fun b u q _ => ⟨u, k b u q⟩
 tups := fun b xs q => by rw [upd_ne (ne_of_none q hn)]; exact q
 frzs := fun b u xs q => by rw [upd_ne (ne_of_none q hn)]; exact q
 tbls := fun b ps q => ⟨#[], by rw [upd_ne (ne_of_none q hn), q]; simp⟩
theorem Un.write (mu : Mut (H x)) (he : e = x ∨ H e = some (.own x)) (k : ∀ b u, b ≠ e → h.get? b = some u → h'.get? b = some u) (heo : ∃ u, h'.get? e = some u) : Un fs ex H (upd H x o) h h' := by
 have hx : ∀ b, H b = none → b ≠ x := fun b n z => by subst z; rw [n] at mu; exact mu
 have hb : ∀ b, H b = none → b ≠ e := fun b n z => by
  subst z
  rcases he with r | r
  ·exact hx b n r
  ·rw [n] at r; cases r
 have hm : ∀ b u, H b = some u → ¬ Mut (some u) → b ≠ x := fun b u q nm z => by subst z; rw [q] at mu; exact nm mu
 refine ⟨fun b u q n _ _ => k b u (hb b n) q, fun b u q n _ _ => ⟨u.slots, k b u (hb b n) q⟩, fun b u q n _ => by rw [upd_ne (hx b n)]; exact n, fun b u q _ => ?_,
  fun b xs q => by rw [upd_ne (hm b _ q fun z => z)]; exact q, fun b u xs q => by rw [upd_ne (hm b _ q fun z => z)]; exact q, fun b ps q => ⟨#[], by rw [upd_ne (hm b _ q fun z => z), q]; simp⟩⟩
 by_cases hbe : b = e
 ·subst hbe; exact heo
 ·exact ⟨u, k b u hbe q⟩
end
noncomputable def trk (h : Heap) (H : Hp) : List Addr := (List.range h.objs.size).filter fun a => (H a).isSome
noncomputable def hidT (h : Heap) (H : Hp) : Heap := PySem.W.hideAll h (trk h H)
theorem hidT_size (h : Heap) (H : Hp) : (hidT h H).objs.size = h.objs.size := PySem.W.hideAll_size _ _
theorem hidT_get {h : Heap} {H : Hp} {b : Addr} {o : Obj} (e : h.get? b = some o) (n : H b = none) : (hidT h H).get? b = some o :=
 PySem.W.hideAll_get _ e fun hm => by
  have q : (H b).isSome = true := (List.mem_filter.mp hm).2
  rw [n] at q; simp at q
theorem of_hidT {h : Heap} {H : Hp} {b : Addr} {o : Obj} (e : (hidT h H).get? b = some o) : h.get? b = some o ∧ H b = none := by
 have e' : h.get? b = some o := PySem.W.of_hideAll (trk h H) e
 refine ⟨e', ?_⟩
 cases q : H b with
 | none => rfl
 | some x =>
  have hm : b ∈ trk h H := List.mem_filter.mpr ⟨List.mem_range.mpr (Heap.lt_size e'), by simp [q]⟩
  have z : (hidT h H).get? b = none := PySem.W.hideAll_none (trk h H) hm
  rw [z] at e; cases e
end L2
namespace L2
open PySem PySem.Spec PyProof.Rows
structure Mod (K : PySem.W.Frag) (mg : Str → Option Value) (base : Heap) : Prop where
 kin : K.In base
 glob : base.Ns mainGlobals mg
 blt : ∃ mb, base.Ns builtinsNs mb ∧ ∀ x : Str, x ≠ "__name__" → mb x = bootBuiltins x
 nolimit : base.NoLimit
structure Cx where
 prog : Program
 w : World
 K : PySem.W.Frag
 mg : Str → Option Value
 base : Heap
 A : Around
 N : List Str
 s₀ : Shared
 H₀ : Hp
 env : Env
 outer : List Env
 stack : List Env
 ex : List Addr
 fn : Str → Bool
 calm : Bool
 pn : List (Addr × Obj)
 xe : Value → Shared → Prop
noncomputable def frs (l : List Env) : List Addr := l.filterMap (·.frame)
noncomputable abbrev Cx.fs (X : Cx) : List Addr := frs X.outer
noncomputable def Vis (sc : Scope) (x : Str) : Prop := sc.names.lookup x = some .local ∨ sc.names.lookup x = some .cell ∨ sc.names.lookup x = some .free
noncomputable def Loc (sc : Scope) (x : Str) : Prop := sc.names.lookup x = some .local ∨ sc.names.lookup x = some .cell
noncomputable def Look (env : Env) (h : Heap) (m : Str → Option Value) (x : Str) (u : Value) : Prop :=
 (env.kindOf x = some .local ∧ m x = some u) ∨ ((env.kindOf x = some .cell ∨ env.kindOf x = some .free) ∧ ∃ c, env.cells.lookup x = some c ∧ h.IsCell c (some u))
structure Cx.Ok (X : Cx) : Prop where
 mod : Mod X.K X.mg X.base
 kind : X.env.scope.kind = .function
 glob : X.env.globals = mainGlobals
 blt : X.env.builtins = builtinsNs
 above : X.s₀.heap.objs.size ≤ X.env.locals
 inj : ∀ x y c, X.env.cells.lookup x = some c → X.env.cells.lookup y = some c → x = y
 has : ∀ x, (X.env.kindOf x = some .cell ∨ X.env.kindOf x = some .free) → ∃ c, X.env.cells.lookup x = some c
 cab : ∀ x c, X.fn x = true → X.env.cells.lookup x = some c → X.s₀.heap.objs.size ≤ c
 hd : X.calm = true → X.A.handled = none
 frames : X.A.frames = some X.stack
 stk : X.stack = X.outer ∨ (X.stack = X.env :: X.outer ∧ X.env.frame = some X.env.locals)
 exf : ∀ b ∈ X.ex, b ≠ X.env.locals ∧ ∀ x c, X.env.cells.lookup x = some c → c ≠ b
 bs : ∀ b o, X.base.get? b = some o → X.s₀.heap.get? b = some o ∧ X.H₀ b = none
 bsz : X.base.objs.size ≤ X.s₀.heap.objs.size
 noex : ∀ b o, X.base.get? b = some o → b ∉ X.ex
 exfs : ∀ b ∈ X.ex, b ∉ X.fs
 funs : X.s₀.heap.FunFrames X.base X.outer
 frf : ∀ b ∈ X.fs, X.H₀ b = none
structure Inv (X : Cx) (pins : List (Addr × Obj)) (σ : List (Option V)) (H : Hp) (s : Shared) : Prop where
 ok : X.Ok
 os : s.os = X.s₀.os
 bare : AllBare s.gens
 base : Un X.fs X.ex X.H₀ H X.s₀.heap s.heap
 loc : ∃ m, s.heap.Ns X.env.locals m ∧ ∀ (i : Nat) (x : Str) (v : V), X.N[i]? = some x → σ[i]? = some (some v) → Vis X.env.scope x → ∃ u, RelV v u ∧ Look X.env s.heap m x u
 cell : ∀ x c, X.env.cells.lookup x = some c → ∃ v, s.heap.IsCell c v
 free : H X.env.locals = none
 freeC : ∀ x c, X.env.cells.lookup x = some c → H c = none
 pin : ∀ p ∈ X.pn ++ pins, s.heap.get? p.1 = some p.2 ∧ H p.1 = none ∧ p.1 ≠ X.env.locals ∧ p.1 ∉ X.fs ∧ ∀ v, p.2.data ≠ .cell v
 hok : HOk X.prog X.w H s.heap
 len : σ.length = X.N.length
section
variable {X : Cx} {pins : List (Addr × Obj)} {σ : List (Option V)} {H H' : Hp} {s : Shared} {h' : Heap}
theorem Cx.Ok.nofr (ok : X.Ok) {b : Addr} {o : Obj} (e : X.base.get? b = some o) : b ∉ X.fs := fun hb => by
 have := (ok.funs.mem hb).1
 rw [e] at this; cases this
theorem Inv.bs (I : Inv X pins σ H s) : ∀ b o, X.base.get? b = some o → s.heap.get? b = some o ∧ H b = none := fun b o e =>
 ⟨I.base.keep b o (I.ok.bs b o e).1 (I.ok.bs b o e).2 (I.ok.nofr e) (I.ok.noex b o e), I.base.free b o (I.ok.bs b o e).1 (I.ok.bs b o e).2 (I.ok.noex b o e)⟩
theorem Inv.bk (I : Inv X pins σ H s) : ∀ b o, X.base.get? b = some o → s.heap.get? b = some o := fun b o e => (I.bs b o e).1
theorem Inv.mod (I : Inv X pins σ H s) : Mod X.K X.mg X.base := I.ok.mod
theorem Inv.kIn (I : Inv X pins σ H s) : X.K.In s.heap := I.ok.mod.kin.keeps I.bk
theorem Inv.nolimit (I : Inv X pins σ H s) : s.heap.NoLimit := I.ok.mod.nolimit.keeps I.bk
theorem Inv.lt (I : Inv X pins σ H s) : X.env.locals < s.heap.objs.size := let ⟨_, hn, _⟩ := I.loc; hn.lt
theorem Inv.sz (I : Inv X pins σ H s) : X.s₀.heap.objs.size ≤ s.heap.objs.size := Nat.le_trans I.ok.above (Nat.le_of_lt I.lt)
theorem Inv.nofs (I : Inv X pins σ H s) {a : Addr} (h : s.heap.objs.size ≤ a) : a ∉ X.fs := fun hb => by
 obtain ⟨_, o, ho, _⟩ := I.ok.funs.mem hb
 exact absurd (Nat.lt_of_lt_of_le (Heap.lt_size ho) (Nat.le_trans I.sz h)) (Nat.lt_irrefl _)
theorem Inv.cne (I : Inv X pins σ H s) : ∀ x c, X.env.cells.lookup x = some c → c ≠ X.env.locals := fun x c e z => by
 obtain ⟨v, o, ho, hd⟩ := I.cell x c e
 obtain ⟨m, ⟨o', es, ep, ho', hd', _⟩, _⟩ := I.loc
 rw [z, ho'] at ho; cases ho; rw [hd'] at hd; cases hd
theorem Inv.funs (I : Inv X pins σ H s) : s.heap.FunFrames X.base X.outer := by
 have all : ∀ (l : List Env), (∀ b ∈ frs l, b ∈ X.fs) → X.s₀.heap.FunFrames X.base l → s.heap.FunFrames X.base l := by
  intro l
  induction l with
  | nil => intro _ _; trivial
  | cons env r ih =>
   intro hs hl
   obtain ⟨hk, ⟨L, o, hf, hn, ho, hd⟩, hr⟩ := hl
   have hL : L ∈ X.fs := hs L (by unfold frs; rw [List.filterMap_cons, hf]; exact List.mem_cons_self)
   obtain ⟨sl, e⟩ := I.base.slot L o ho (I.ok.frf L hL) hL fun z => I.ok.exfs L z hL
   exact ⟨hk, ⟨L, _, hf, hn, e, hd⟩, ih (fun b hb => hs b (by unfold frs; rw [List.filterMap_cons, hf]; exact List.mem_cons_of_mem _ hb)) hr⟩
 exact all X.outer (fun _ hb => hb) I.ok.funs
theorem Inv.stack (I : Inv X pins σ H s) : s.heap.FunFrames X.base X.stack := by
 rcases I.ok.stk with e | ⟨e, hf⟩
 ·rw [e]; exact I.funs
 ·rw [e]
  obtain ⟨m, hn, _⟩ := I.loc
  refine .cons (by rw [I.ok.kind]; decide) hf hn ?_ I.funs
  exact Heap.get?_none_of_le (Nat.le_trans I.ok.bsz I.ok.above)
theorem Inv.stkSub (I : Inv X pins σ H s) : ∀ b ∈ frs X.stack, b ∈ X.env.locals :: X.fs := fun b hb => by
 rcases I.ok.stk with e | ⟨e, hf⟩
 ·rw [e] at hb; exact List.mem_cons_of_mem _ hb
 ·rw [e] at hb
  unfold frs at hb
  rw [List.filterMap_cons, hf] at hb
  exact hb
theorem Inv.stkFree (I : Inv X pins σ H s) : ∀ b ∈ frs X.stack, H b = none := fun b hb => by
 rcases List.mem_cons.mp (I.stkSub b hb) with e | hb
 ·rw [e]; exact I.free
 ·obtain ⟨_, o, ho, _⟩ := I.ok.funs.mem hb
  exact I.base.free b o ho (I.ok.frf b hb) fun z => I.ok.exfs b z hb
theorem Inv.step {g' : Array GenState} {t' : Nat} {d' : Drawn} {ch : List Addr} (I : Inv X pins σ H s)
  (hch : ∀ b ∈ ch, (b ∈ X.ex ∨ X.s₀.heap.objs.size ≤ b) ∧ b ≠ X.env.locals ∧ (∀ x c, X.env.cells.lookup x = some c → c ≠ b) ∧ ∀ p ∈ X.pn ++ pins, p.1 ≠ b)
  (keep : ∀ b o, b ≠ X.env.locals → b ∉ X.fs → b ∉ ch → s.heap.get? b = some o → H b = none → h'.get? b = some o)
  (slot : ∀ b o, b ≠ X.env.locals → b ∈ X.fs → b ∉ ch → s.heap.get? b = some o → H b = none → ∃ sl, h'.get? b = some { o with slots := sl }) (free : ∀ b o, b ∉ ch → s.heap.get? b = some o → H b = none → H' b = none)
  (there : ∀ b o, b ∉ ch → s.heap.get? b = some o → ∃ o', h'.get? b = some o')
  (tups : ∀ b xs, H b = some (.tup xs) → H' b = some (.tup xs)) (frzs : ∀ b o u, H b = some (.frz o u) → H' b = some (.frz o u)) (tbls : ∀ b ps, H b = some (.tbl ps) → ∃ more, H' b = some (.tbl (ps ++ more)))
  (ns : ∀ m, s.heap.Ns X.env.locals m → h'.Ns X.env.locals m) (hok : HOk X.prog X.w H' h') (hg : AllBare g') :
  Inv X pins σ H' { s with heap := h', gens := g', drawn := d', toks := t' } := by
 have neL : ∀ b o, X.s₀.heap.get? b = some o → b ≠ X.env.locals := fun b o e => Nat.ne_of_lt (Nat.lt_of_lt_of_le (Heap.lt_size e) I.ok.above)
 have neC : ∀ b o, X.s₀.heap.get? b = some o → b ∉ X.ex → b ∉ ch := fun b o e hx hb => by
  rcases (hch b hb).1 with z | z
  ·exact hx z
  ·exact absurd (Nat.lt_of_lt_of_le (Heap.lt_size e) z) (Nat.lt_irrefl _)
 have cellK : ∀ x c, X.env.cells.lookup x = some c → ∀ v, s.heap.IsCell c v → h'.IsCell c v := fun x c e v ⟨o, ho, hd⟩ => by
  have nch : c ∉ ch := fun z => (hch c z).2.2.1 x c e rfl
  by_cases hc : c ∈ X.fs
  ·obtain ⟨sl, q⟩ := slot c o (I.cne x c e) hc nch ho (I.freeC x c e)
   exact ⟨_, q, hd⟩
  ·exact ⟨o, keep c o (I.cne x c e) hc nch ho (I.freeC x c e), hd⟩
 refine ⟨I.ok, I.os, hg, ⟨fun b o e n hb hx => ?_, fun b o e n hb hx => ?_, fun b o e n hx => ?_, fun b o e hx => ?_, fun b xs e => tups b xs (I.base.tups b xs e), fun b o xs e => frzs b o xs (I.base.frzs b o xs e), fun b ps e => ?_⟩, ?_, fun x c e => ?_, ?_, fun x c e => ?_, fun p hp => ?_, hok, I.len⟩
 ·exact keep b o (neL b o e) hb (neC b o e hx) (I.base.keep b o e n hb hx) (I.base.free b o e n hx)
 ·obtain ⟨sl, e1⟩ := I.base.slot b o e n hb hx
  obtain ⟨sl', e2⟩ := slot b _ (neL b o e) hb (neC b o e hx) e1 (I.base.free b o e n hx)
  exact ⟨sl', e2⟩
 ·obtain ⟨o', e1⟩ := I.base.there b o e hx
  exact free b o' (neC b o e hx) e1 (I.base.free b o e n hx)
 ·obtain ⟨o', e1⟩ := I.base.there b o e hx
  exact there b o' (neC b o e hx) e1
 ·obtain ⟨m1, e1⟩ := I.base.tbls b ps e
  obtain ⟨m2, e2⟩ := tbls b _ e1
  exact ⟨m1 ++ m2, by rw [e2, Array.append_assoc]⟩
 ·obtain ⟨m, hn, hl⟩ := I.loc
  refine ⟨m, ns m hn, fun i x v e1 e2 e3 => ?_⟩
  obtain ⟨u, r, l⟩ := hl i x v e1 e2 e3
  refine ⟨u, r, ?_⟩
  rcases l with l | ⟨k, c, e, z⟩
  ·exact .inl l
  ·exact .inr ⟨k, c, e, cellK x c e _ z⟩
 ·obtain ⟨v, z⟩ := I.cell x c e
  exact ⟨v, cellK x c e v z⟩
 ·obtain ⟨m, ⟨o, _, _, ho, _⟩, _⟩ := I.loc
  exact free _ o (fun z => (hch _ z).2.1 rfl) ho I.free
 ·obtain ⟨v, o, ho, hd⟩ := I.cell x c e
  exact free c o (fun z => (hch c z).2.2.1 x c e rfl) ho (I.freeC x c e)
 ·obtain ⟨e, n, ne, nf, d⟩ := I.pin p hp
  have nch : p.1 ∉ ch := fun z => (hch p.1 z).2.2.2 p hp rfl
  exact ⟨keep p.1 p.2 ne nf nch e n, free p.1 p.2 nch e n, ne, nf, d⟩
theorem Inv.un {t' : Nat} (I : Inv X pins σ H s) (u : Un X.fs [] H H' s.heap h') (hok : HOk X.prog X.w H' h') : Inv X pins σ H' { s with heap := h', toks := t' } := by
 obtain ⟨m, ⟨o, es, ep, ho, r⟩, _⟩ := id I.loc
 obtain ⟨sl, hL⟩ := u.any ho I.free (by simp)
 exact I.step (g' := s.gens) (d' := s.drawn) (ch := []) (fun _ z => nomatch z) (fun b o _ hb _ e n => u.keep b o e n hb (by simp)) (fun b o _ hb _ e n => u.slot b o e n hb (by simp)) (fun b o _ e n => u.free b o e n (by simp)) (fun b o _ e => u.there b o e (by simp)) u.tups u.frzs u.tbls (fun m' hm => by
  obtain ⟨o', es', ep', ho', r'⟩ := hm
  rw [ho] at ho'; cases ho'
  exact ⟨_, es', ep', hL, r'⟩) hok I.bare
theorem Inv.call {g' : Array GenState} {t' : Nat} {d' : Drawn} {ch : List Addr} (I : Inv X pins σ H s) (u : Un (frs X.stack) ch H H' s.heap h') (hok : HOk X.prog X.w H' h') (hg : AllBare g')
  (hch : ∀ b ∈ ch, (b ∈ X.ex ∨ X.s₀.heap.objs.size ≤ b) ∧ b ≠ X.env.locals ∧ (∀ x c, X.env.cells.lookup x = some c → c ≠ b) ∧ ∀ p ∈ X.pn ++ pins, p.1 ≠ b) :
  Inv X pins σ H' { s with heap := h', gens := g', drawn := d', toks := t' } := by
 obtain ⟨m, ⟨o, es, ep, ho, r⟩, _⟩ := id I.loc
 obtain ⟨sl, hL⟩ := u.any ho I.free fun z => (hch _ z).2.1 rfl
 exact I.step (ch := ch) hch (fun b o hL hb hc e n => u.keep b o e n (fun z => (List.mem_cons.mp (I.stkSub b z)).elim hL hb) hc) (fun b o _ _ hc e n => u.any e n hc) (fun b o hc e n => u.free b o e n hc) (fun b o hc e => u.there b o e hc) u.tups u.frzs u.tbls (fun m' hm => by
  obtain ⟨o', es', ep', ho', r'⟩ := hm
  rw [ho] at ho'; cases ho'
  exact ⟨_, es', ep', hL, r'⟩) hok hg
theorem Inv.turned {t' : Nat} {it : Addr} (I : Inv X pins σ H s) (k : ∀ b o, b ≠ it → s.heap.get? b = some o → h'.get? b = some o) (hn : H it = none) (hL : it ≠ X.env.locals)
  (h1 : it ∈ X.ex ∨ X.s₀.heap.objs.size ≤ it) (h2 : ∀ x c, X.env.cells.lookup x = some c → c ≠ it) (h3 : ∀ p ∈ X.pn ++ pins, p.1 ≠ it) : Inv X pins σ H { s with heap := h', toks := t' } := by
 have nit : ∀ b u, H b = some u → b ≠ it := fun b u e z => by rw [z, hn] at e; cases e
 refine I.step (g' := s.gens) (d' := s.drawn) (ch := [it]) (fun b hb => ?_) (fun b o _ _ hc e _ => k b o (fun z => hc (by simp [z])) e) (fun b o _ _ hc e _ => ⟨o.slots, k b o (fun z => hc (by simp [z])) e⟩) (fun _ _ _ _ n => n)
  (fun b o hc e => ⟨o, k b o (fun z => hc (by simp [z])) e⟩) (fun _ _ e => e) (fun _ _ _ e => e) (fun b ps e => ⟨#[], by rw [e]; simp⟩) (fun m hm => ?_) (fun b u e => ?_) I.bare
 ·have e : b = it := by simpa using hb
  subst e
  exact ⟨h1, hL, h2, h3⟩
 ·obtain ⟨o, es, ep, ho, r⟩ := hm
  exact ⟨o, es, ep, k _ o (Ne.symm hL) ho, r⟩
 ·refine (I.hok b u e).stay (fun c v hc q => k c v ?_ q) (fun _ q => q) fun _ _ q => q
  rcases hc with z | z
  ·rw [z]; exact nit b u e
  ·exact nit c _ z
theorem Inv.tok (I : Inv X pins σ H s) (t : Nat) : Inv X pins σ H { s with toks := t } := I.un (h' := s.heap) (t' := t) Un.refl I.hok
theorem Inv.kept {t' : Nat} (I : Inv X pins σ H s) (k : ∀ b u, s.heap.get? b = some u → h'.get? b = some u) : Inv X pins σ H { s with heap := h', toks := t' } := I.un (Un.kept k) (I.hok.kept k)
theorem Inv.laid {a : Addr} {o : HO} {t' : Nat} (I : Inv X pins σ H s) (k : ∀ b u, s.heap.get? b = some u → h'.get? b = some u) (hp : s.heap.objs.size ≤ a) (new : ObjOk X.prog X.w (upd H a o) h' a o) :
  Inv X pins σ (upd H a o) { s with heap := h', toks := t' } := I.un (Un.laid k hp (I.hok.fresh hp)) (I.hok.laid k hp new)
theorem Inv.write {x e : Addr} {o : HO} {t' : Nat} (I : Inv X pins σ H s) (mu : Mut (H x)) (he : e = x ∨ H e = some (.own x)) (k : ∀ b u, b ≠ e → s.heap.get? b = some u → h'.get? b = some u) (heo : ∃ u, h'.get? e = some u)
  (new : ObjOk X.prog X.w (upd H x o) h' x o) : Inv X pins σ (upd H x o) { s with heap := h', toks := t' } := I.un (Un.write mu he k heo) (I.hok.write mu he k heo new)
theorem Inv.weak {σ' : List (Option V)} (I : Inv X pins σ H s) (hl : σ'.length = σ.length) (w : ∀ (i : Nat) v, σ'[i]? = some (some v) → σ[i]? = some (some v)) : Inv X pins σ' H s :=
 ⟨I.ok, I.os, I.bare, I.base, let ⟨m, hn, hl'⟩ := I.loc; ⟨m, hn, fun i x v e1 e2 e3 => hl' i x v e1 (w i v e2) e3⟩, I.cell, I.free, I.freeC, I.pin, I.hok, hl.trans I.len⟩
theorem Inv.pins_of {pins' : List (Addr × Obj)} (I : Inv X pins σ H s) (h : ∀ p ∈ pins', s.heap.get? p.1 = some p.2 ∧ H p.1 = none ∧ p.1 ≠ X.env.locals ∧ p.1 ∉ X.fs ∧ ∀ v, p.2.data ≠ .cell v) : Inv X pins' σ H s :=
 ⟨I.ok, I.os, I.bare, I.base, I.loc, I.cell, I.free, I.freeC, fun p hp => (List.mem_append.mp hp).elim (fun z => I.pin p (List.mem_append_left _ z)) (h p), I.hok, I.len⟩
theorem nodup_ix {N : List Str} (hN : N.Nodup) {i j : Nat} {x : Str} (a : N[i]? = some x) (b : N[j]? = some x) : i = j := by
 obtain ⟨h1, e1⟩ := List.getElem?_eq_some_iff.mp a
 obtain ⟨h2, e2⟩ := List.getElem?_eq_some_iff.mp b
 exact (List.getElem_inj hN).mp (e1.trans e2.symm)
theorem store_ok2 {M : Model} {A : Around} {E : Value → Shared → Prop} {i : Nat} {x : Str} {v : V} {u : Value} {Q : Unit → Shared → Prop} (I : Inv X pins σ H s) (hN : X.N.Nodup) (hi : X.N[i]? = some x) (hx : Loc X.env.scope x) (r : RelV v u)
  (h : ∀ s', Inv X pins (σ.set i (some v)) H s' → (∃ a, Heap.SameBut a s.heap s'.heap ∧ (a = X.env.locals ∨ X.env.cells.lookup x = some a)) → Q () s') (hf : X.fn x = true ∨ X.env.scope.names.lookup x = some .local := by first | exact .inl rfl | exact .inr rfl | assumption) : wpAny M A (storeName X.env x u) Q E s := by
 obtain ⟨m, hn, hl⟩ := id I.loc
 have hcls : (X.env.scope.kind == .class || (X.env.scope.kind == .module && X.env.locals != X.env.globals)) = false := by rw [I.ok.kind]; rfl
 have hiσ : i < σ.length := by rw [I.len]; exact (List.getElem?_eq_some_iff.mp hi).1
 have cne := I.cne
 have tracked : ∀ {a : Addr} {h' : Heap}, (∃ o, s.heap.get? a = some o ∧ H a = none) → Heap.SameBut a s.heap h' → HOk X.prog X.w H h' := fun {a h'} ha hs b ob e => by
  obtain ⟨_, _, hfree⟩ := ha
  refine (I.hok b ob e).stay (fun c w' hc q => (hs.2 c ?_).trans q) (fun _ q => q) fun _ _ q => q
  rintro rfl
  rcases hc with rfl | hc
  ·rw [hfree] at e; cases e
  ·rw [hfree] at hc; cases hc
 rcases hx with hk | hk
 ·refine wpAny_storeName_local hk hn (fun h' hn' hs => ?_) hcls
  obtain ⟨oL, _, _, hoL, _⟩ := id hn
  refine h _ ⟨I.ok, I.os, I.bare, ⟨fun b o e n hb hx => ?_, fun b o e n hb hx => ?_, I.base.free, fun b o e hx => ?_, I.base.tups, I.base.frzs, I.base.tbls⟩, ⟨_, hn', fun j y v' e1 e2 e3 => ?_⟩, fun y c e => ?_, I.free, I.freeC, fun p hp => ?_, tracked ⟨oL, hoL, I.free⟩ hs, by simpa using I.len⟩ ⟨_, hs, .inl rfl⟩
  ·exact (hs.2 b (Nat.ne_of_lt (Nat.lt_of_lt_of_le (Heap.lt_size e) I.ok.above))).trans (I.base.keep b o e n hb hx)
  ·obtain ⟨sl, e1⟩ := I.base.slot b o e n hb hx
   exact ⟨sl, (hs.2 b (Nat.ne_of_lt (Nat.lt_of_lt_of_le (Heap.lt_size e) I.ok.above))).trans e1⟩
  ·obtain ⟨o', e1⟩ := I.base.there b o e hx
   exact ⟨o', (hs.2 b (Nat.ne_of_lt (Nat.lt_of_lt_of_le (Heap.lt_size e) I.ok.above))).trans e1⟩
  ·by_cases hj : j = i
   ·subst hj
    rw [hi] at e1; cases e1
    rw [List.getElem?_set_self hiσ] at e2
    cases e2
    exact ⟨u, r, .inl ⟨hk, by simp⟩⟩
   ·rw [List.getElem?_set_ne (Ne.symm hj)] at e2
    obtain ⟨u', r', q⟩ := hl j y v' e1 e2 e3
    refine ⟨u', r', ?_⟩
    rcases q with ⟨k, e⟩ | ⟨k, c, e, z⟩
    ·refine .inl ⟨k, ?_⟩
     have : y ≠ x := fun e => hj (nodup_ix hN e1 (e ▸ hi))
     simp [this, e]
    ·exact .inr ⟨k, c, e, z.sameBut hs (cne y c e)⟩
  ·obtain ⟨w', z⟩ := I.cell y c e
   exact ⟨w', z.sameBut hs (cne y c e)⟩
  ·obtain ⟨e, n, ne, nf, d⟩ := I.pin p hp
   exact ⟨(hs.2 p.1 ne).trans e, n, ne, nf, d⟩
 ·have hfn : X.fn x = true := by
   rcases hf with z | z
   ·exact z
   ·rw [z] at hk; cases hk
  obtain ⟨c, hc⟩ := I.ok.has x (.inl hk)
  obtain ⟨w', z⟩ := I.cell x c hc
  refine wpAny_storeName_cell I.ok.kind hk hc z (fun h' hc' hs => ?_)
  obtain ⟨oc, hoc, hocd⟩ := id z
  refine h { s with heap := h' } ⟨I.ok, I.os, I.bare, ⟨fun b o e n hb hx => ?_, fun b o e n hb hx => ?_, I.base.free, fun b o e hx => ?_, I.base.tups, I.base.frzs, I.base.tbls⟩, ⟨m, hn.sameBut hs (Ne.symm (cne x c hc)), fun j y v' e1 e2 e3 => ?_⟩, fun y c' e => ?_, I.free, I.freeC, fun p hp => ?_, tracked ⟨oc, hoc, I.freeC x c hc⟩ hs, by simpa using I.len⟩ ⟨c, hs, .inr hc⟩
  ·exact (hs.2 b (Nat.ne_of_lt (Nat.lt_of_lt_of_le (Heap.lt_size e) (I.ok.cab x c hfn hc)))).trans (I.base.keep b o e n hb hx)
  ·obtain ⟨sl, e1⟩ := I.base.slot b o e n hb hx
   exact ⟨sl, (hs.2 b (Nat.ne_of_lt (Nat.lt_of_lt_of_le (Heap.lt_size e) (I.ok.cab x c hfn hc)))).trans e1⟩
  ·obtain ⟨o', e1⟩ := I.base.there b o e hx
   exact ⟨o', (hs.2 b (Nat.ne_of_lt (Nat.lt_of_lt_of_le (Heap.lt_size e) (I.ok.cab x c hfn hc)))).trans e1⟩
  ·by_cases hj : j = i
   ·subst hj
    rw [hi] at e1; cases e1
    rw [List.getElem?_set_self hiσ] at e2
    cases e2
    exact ⟨u, r, .inr ⟨.inl hk, c, hc, hc'⟩⟩
   ·rw [List.getElem?_set_ne (Ne.symm hj)] at e2
    obtain ⟨u', r', q⟩ := hl j y v' e1 e2 e3
    refine ⟨u', r', ?_⟩
    rcases q with q | ⟨k, c', e, z'⟩
    ·exact .inl q
    ·refine .inr ⟨k, c', e, z'.sameBut hs ?_⟩
     rintro rfl
     exact hj (nodup_ix hN e1 (I.ok.inj _ _ _ e hc ▸ hi))
  ·by_cases hcc : c' = c
   ·subst hcc; exact ⟨_, hc'⟩
   ·obtain ⟨w2, z2⟩ := I.cell y c' e
    exact ⟨w2, z2.sameBut hs hcc⟩
  ·obtain ⟨e, n, ne, nf, d⟩ := I.pin p hp
   refine ⟨(hs.2 p.1 ?_).trans e, n, ne, nf, d⟩
   intro q
   rw [q, hoc] at e
   have q' : oc = p.2 := Option.some.inj e
   exact d w' (by rw [← q']; exact hocd)
theorem store_ok {M : Model} {A : Around} {E : Value → Shared → Prop} {i : Nat} {x : Str} {v : V} {u : Value} {Q : Unit → Shared → Prop} (I : Inv X pins σ H s) (hN : X.N.Nodup) (hi : X.N[i]? = some x) (hx : Loc X.env.scope x) (r : RelV v u)
  (h : ∀ s', Inv X pins (σ.set i (some v)) H s' → Q () s') (hf : X.fn x = true ∨ X.env.scope.names.lookup x = some .local := by first | exact .inl rfl | exact .inr rfl | assumption) : wpAny M A (storeName X.env x u) Q E s :=
 store_ok2 I hN hi hx r (fun s' I' _ => h s' I') hf
theorem Inv.call' {s' : Shared} {ch : List Addr} (I : Inv X pins σ H s) (ho : s'.os = s.os) (u : Un (frs X.stack) ch H H' s.heap s'.heap) (hok : HOk X.prog X.w H' s'.heap) (hg : AllBare s'.gens)
  (hch : ∀ b ∈ ch, (b ∈ X.ex ∨ X.s₀.heap.objs.size ≤ b) ∧ b ≠ X.env.locals ∧ (∀ x c, X.env.cells.lookup x = some c → c ≠ b) ∧ ∀ p ∈ X.pn ++ pins, p.1 ≠ b) : Inv X pins σ H' s' := by
 obtain ⟨h', g', d', t', o'⟩ := s'
 have e : o' = s.os := ho
 subst e
 exact I.call (g' := g') (t' := t') (d' := d') u hok hg hch
end
noncomputable abbrev XK := Value → Option Addr → Hp → Prop
noncomputable abbrev St := List (Option V)
noncomputable abbrev VK := V → Hp → Prop
noncomputable abbrev TE := St → Hp → VK → Prop
noncomputable abbrev TT := St → Hp → (Bool → Hp → Prop) → Prop
noncomputable abbrev TA := St → Hp → (List V → Hp → Prop) → Prop
structure Ends where
 nx : St → Hp → Prop
 rt : VK
 bk : St → Hp → Prop := fun _ _ => False
 ct : St → Hp → Prop := fun _ _ => False
noncomputable abbrev TS := Ends → St → Hp → Prop
inductive EP (X : Cx) (pins : List (Addr × Obj)) (σ : St) (Q : VK) (u : Value) (s' : Shared) : Prop
 | mk (v : _) (H' : _) : (Inv X pins σ H' s') → (RelV v u) → (Q v H') → EP X pins σ Q u s'
noncomputable def TP (X : Cx) (pins : List (Addr × Obj)) (σ : St) (Q : Bool → Hp → Prop) (b : Bool) (s' : Shared) : Prop := ∃ H', Inv X pins σ H' s' ∧ Q b H'
inductive AP (X : Cx) (pins : List (Addr × Obj)) (σ : St) (Q : List V → Hp → Prop) (us : List Value) (s' : Shared) : Prop
 | mk (vs : _) (H' : _) : (Inv X pins σ H' s') → (Vals vs us) → (Q vs H') → AP X pins σ Q us s'
noncomputable def SP (X : Cx) (pins : List (Addr × Obj)) (D : Ends) (f : Flow) (s' : Shared) : Prop :=
 match f with
 | .next => ∃ σ' H', Inv X pins σ' H' s' ∧ D.nx σ' H'
 | .brk => ∃ σ' H', Inv X pins σ' H' s' ∧ D.bk σ' H'
 | .cont => ∃ σ' H', Inv X pins σ' H' s' ∧ D.ct σ' H'
 | .ret u => ∃ v σ' H', Inv X pins σ' H' s' ∧ RelV v u ∧ D.rt v H'
noncomputable def PE (X : Cx) (e : Expr) (t : TE) : Prop :=
 ∀ (pins : List (Addr × Obj)) (s : Shared) (σ : St) (H : Hp) (Q : VK), Inv X pins σ H s → t σ H Q → wpAny (model X.prog X.w) X.A (eval e X.env) (EP X pins σ Q) X.xe s
noncomputable def PT (X : Cx) (e : Expr) (t : TT) : Prop :=
 ∀ (pins : List (Addr × Obj)) (s : Shared) (σ : St) (H : Hp) (Q : Bool → Hp → Prop), Inv X pins σ H s → t σ H Q → wpAny (model X.prog X.w) X.A (isTrue e X.env (eval e X.env)) (TP X pins σ Q) X.xe s
noncomputable def PW (X : Cx) (e : Expr) (t : TT) : Prop :=
 ∀ (whole : Sem Value) (pins : List (Addr × Obj)) (s : Shared) (σ : St) (H : Hp) (Q : Bool → Hp → Prop), Inv X pins σ H s → t σ H Q → wpAny (model X.prog X.w) X.A (isTrue e X.env whole) (TP X pins σ Q) X.xe s
theorem PW.pt {X : Cx} {e : Expr} {t : TT} (h : PW X e t) : PT X e t := h _
noncomputable def PA (X : Cx) (es : List Expr) (t : TA) : Prop :=
 ∀ (pos : Pos) (pins : List (Addr × Obj)) (s : Shared) (σ : St) (H : Hp) (Q : List V → Hp → Prop), Inv X pins σ H s → t σ H Q → wpAny (model X.prog X.w) X.A (spliced (backTo pos (starEach es X.env))) (AP X pins σ Q) X.xe s
noncomputable def PS (X : Cx) (st : Stmt) (t : TS) : Prop :=
 ∀ (pins : List (Addr × Obj)) (s : Shared) (σ : St) (H : Hp) (D : Ends), Inv X pins σ H s → t D σ H → wpAny (model X.prog X.w) X.A (exec st X.env) (SP X pins D) X.xe s
noncomputable def PSs (X : Cx) (st : List Stmt) (t : TS) : Prop :=
 ∀ (pins : List (Addr × Obj)) (s : Shared) (σ : St) (H : Hp) (D : Ends), Inv X pins σ H s → t D σ H → wpAny (model X.prog X.w) X.A (execs st X.env) (SP X pins D) X.xe s
theorem thn {α : Type} {t : Sem α} {Q Q' : α → Shared → Prop} {M : Model} {A : Around} {E : Value → Shared → Prop} {s : Shared} (h : wpAny M A t Q E s) (hQ : ∀ a s, Q a s → Q' a s) : wpAny M A t Q' E s := wpAny_mono h hQ fun _ _ x => x
end L2
namespace L2
open PySem PySem.Spec PyProof.Rows
section
variable {X : Cx}
inductive tVarI (i : Nat) (σ : St) (H : Hp) (Q : VK) : Prop
 | mk (v : _) : (σ[i]? = some (some v)) → (Q v H) → tVarI i σ H Q
noncomputable def tVar (i : Nat) : TE := fun σ H Q => tVarI i σ H Q
noncomputable def tC (v : V) : TE := fun _ H Q => Q v H
theorem pe_var {i : Nat} {x : Str} {pos : Pos} (hN : X.N[i]? = some x) (hv : Vis X.env.scope x) (hd : (x == ("__debug__" : Str)) = false := by decide) (hcd : (x == ("__classdict__" : Str)) = false := by decide) : PE X (.Name x pos) (tVar i) := by
 intro pins s σ H Q I h
 obtain ⟨v, e, h⟩ := h
 obtain ⟨m, hn, hl⟩ := I.loc
 obtain ⟨u, r, l⟩ := hl i x v hN e hv
 have fin : EP X pins σ Q u s := ⟨v, H, I, r, h⟩
 rcases l with ⟨hk, hm⟩ | ⟨hk, c, hc, hcell⟩
 ·exact wpAny_Name (wpAny_loadName_local I.ok.kind hk hn hm fin) hd
 ·rcases hk with hk | hk
  ·exact wpAny_Name (wpAny_loadName_cell I.ok.kind hk hc hcell fin) hd
  ·exact wpAny_Name (wpAny_loadName_free I.ok.kind hk hc hcell fin hcd) hd
theorem pe_int {i j pos} : PE X (.Constant (.int i) j pos) (tC (.int i)) := fun _ _ _ H _ I h => wpAny_Constant_int ⟨.int i, H, I.tok _, ⟨_, rfl⟩, h⟩
theorem pe_bl {b j pos} : PE X (.Constant (.bool b) j pos) (tC (.bl b)) := fun _ _ _ H _ I h => Constant_bool ⟨.bl b, H, I, rfl, h⟩
theorem pe_non {j pos} : PE X (.Constant .none j pos) (tC .non) := fun _ _ _ H _ I h => Constant_none ⟨.non, H, I, rfl, h⟩
theorem pe_str {x j pos} : PE X (.Constant (.str x) j pos) (tC (.str x)) := fun _ _ _ H _ I h => Calls.Constant_str ⟨.str x, H, I.tok _, ⟨_, rfl⟩, h⟩
noncomputable def Gl (X : Cx) (x : Str) : Prop := X.env.kindOf x = some .globalImplicit
theorem ld_glob {E : Value → Shared → Prop} {pins : List (Addr × Obj)} {s : Shared} {σ : St} {H : Hp} {x : Str} {u : Value} {pos : Pos} {Q : Value → Shared → Prop} (I : Inv X pins σ H s) (hg : Gl X x) (hm : X.mg x = some u) (h : Q u s)
  (hd : (x == ("__debug__" : Str)) = false := by decide) : wpAny (model X.prog X.w) X.A (eval (.Name x pos) X.env) Q E s :=
 Calls.Name_function_global I.ok.kind hg (Calls.loadGlobal_global (by rw [I.ok.glob]; exact I.mod.glob.keeps I.bk) hm h) hd
theorem ld_blt {E : Value → Shared → Prop} {pins : List (Addr × Obj)} {s : Shared} {σ : St} {H : Hp} {x : Str} {u : Value} {pos : Pos} {Q : Value → Shared → Prop} (I : Inv X pins σ H s) (hg : Gl X x) (hm : X.mg x = none) (hv : bootBuiltins x = some u) (h : Q u s)
  (hn : x ≠ "__name__" := by decide) (hd : (x == ("__debug__" : Str)) = false := by decide) : wpAny (model X.prog X.w) X.A (eval (.Name x pos) X.env) Q E s := by
 obtain ⟨mb, h1, h2⟩ := I.mod.blt
 exact Calls.Name_function_global I.ok.kind hg (Calls.loadGlobal_builtin (by rw [I.ok.glob]; exact I.mod.glob.keeps I.bk) hm (by rw [I.ok.blt]; exact h1.keeps I.bk) ((h2 x hn).trans hv) h) hd
theorem pe_glob {x : Str} {v : V} {u : Value} {pos : Pos} (hg : Gl X x) (hm : X.mg x = some u) (r : RelV v u) (hd : (x == ("__debug__" : Str)) = false := by decide) : PE X (.Name x pos) (tC v) :=
 fun _ _ _ H _ I h => ld_glob I hg hm ⟨v, H, I, r, h⟩ hd
theorem pe_bltn {x : Str} {v : V} {u : Value} {pos : Pos} (hg : Gl X x) (hm : X.mg x = none) (hv : bootBuiltins x = some u) (r : RelV v u) (hn : x ≠ "__name__" := by decide) (hd : (x == ("__debug__" : Str)) = false := by decide) : PE X (.Name x pos) (tC v) :=
 fun _ _ _ H _ I h => ld_blt I hg hm hv ⟨v, H, I, r, h⟩ hn hd
variable {a b : Expr} {ta tb : TE} {pos : Pos}
inductive tBI (Q : Bool → Hp → Prop) (x : V) (H1 : Hp) : Prop
 | mk (c : _) : (x = .bl c) → (Q c H1) → tBI Q x H1
noncomputable def tB (t : TE) : TT := fun σ H Q => t σ H fun x H1 => tBI Q x H1
theorem pt_val {e : Expr} {t : TE} (h : PE X e t) (he : ∀ whole, isTrue e X.env whole = (do let v ← whole; standAt e.pos; holding [v] (truthy v)) := by intro _; rfl) : PT X e (tB t) := by
 intro pins s σ H Q I hw
 refine isTrue_plain (thn (h pins s σ H _ I hw) fun v s1 ⟨x, H1, I1, r1, q1⟩ => ?_) (he _)
 obtain ⟨d, rfl, q⟩ := q1
 cases r1
 exact wpAny_truthy_bool ⟨H1, I1, q⟩
variable {tA tB' : TT} {rest : List Expr}
noncomputable def tAnd (t u : TT) : TT := fun σ H Q => t σ H fun c H1 => if c = true then u σ H1 Q else Q false H1
noncomputable def tOr (t u : TT) : TT := fun σ H Q => t σ H fun c H1 => if c = true then Q true H1 else u σ H1 Q
noncomputable def tNot (t : TT) : TT := fun σ H Q => t σ H fun c H1 => Q (!c) H1
theorem pw_and1 (ha : PT X a tA) : PW X (.BoolOp .And [a] pos) tA := by
 intro wh pins s σ H Q I h
 refine isTrue_and (thn (ha pins s σ H Q I h) fun c s1 e => ?_)
 cases c with
 | true => exact isTrue_and_nil e
 | false => exact e
theorem pw_or1 (ha : PT X a tA) : PW X (.BoolOp .Or [a] pos) tA := by
 intro wh pins s σ H Q I h
 refine isTrue_or (thn (ha pins s σ H Q I h) fun c s1 e => ?_)
 cases c with
 | false => exact isTrue_or_nil e
 | true => exact e
theorem pw_and (ha : PT X a tA) (hb : PW X (.BoolOp .And (b :: rest) pos) tB') : PW X (.BoolOp .And (a :: b :: rest) pos) (tAnd tA tB') := by
 intro wh pins s σ H Q I h
 refine isTrue_and (thn (ha pins s σ H _ I h) fun c s1 ⟨H1, I1, q1⟩ => ?_)
 cases c with
 | true => exact hb wh pins s1 σ H1 Q I1 q1
 | false => exact ⟨H1, I1, q1⟩
theorem pw_or (ha : PT X a tA) (hb : PW X (.BoolOp .Or (b :: rest) pos) tB') : PW X (.BoolOp .Or (a :: b :: rest) pos) (tOr tA tB') := by
 intro wh pins s σ H Q I h
 refine isTrue_or (thn (ha pins s σ H _ I h) fun c s1 ⟨H1, I1, q1⟩ => ?_)
 cases c with
 | true => exact ⟨H1, I1, q1⟩
 | false => exact hb wh pins s1 σ H1 Q I1 q1
theorem pt_not (ha : PT X a tA) : PT X (.UnaryOp .Not a pos) (tNot tA) := by
 intro pins s σ H Q I h
 exact isTrue_not (ha pins s σ H (fun c H1 => Q (!c) H1) I h)
inductive tAndVI (tb : TE) (σ : St) (Q : VK) (x : V) (H1 : Hp) : Prop
 | mk (c : _) : (x = .bl c) → (if c = true then tb σ H1 Q else Q (.bl false) H1) → tAndVI tb σ Q x H1
noncomputable def tAndV (ta tb : TE) : TE := fun σ H Q => ta σ H fun x H1 => tAndVI tb σ Q x H1
inductive tOrVI (tb : TE) (σ : St) (Q : VK) (x : V) (H1 : Hp) : Prop
 | mk (c : _) : (x = .bl c) → (if c = true then Q (.bl true) H1 else tb σ H1 Q) → tOrVI tb σ Q x H1
noncomputable def tOrV (ta tb : TE) : TE := fun σ H Q => ta σ H fun x H1 => tOrVI tb σ Q x H1
inductive tNotVI (Q : VK) (x : V) (H1 : Hp) : Prop
 | mk (c : _) : (x = .bl c) → (Q (.bl (!c)) H1) → tNotVI Q x H1
noncomputable def tNotV (ta : TE) : TE := fun σ H Q => ta σ H fun x H1 => tNotVI Q x H1
theorem pe_one {op} {t : TE} (h : PE X a t) : PE X (.BoolOp op [a] pos) t := fun pins s σ H Q I hw => BoolOp_one (h pins s σ H Q I hw)
theorem pe_and (ha : PE X a ta) (hb : PE X (.BoolOp .And (b :: rest) pos) tb) : PE X (.BoolOp .And (a :: b :: rest) pos) (tAndV ta tb) := by
 intro pins s σ H Q I h
 refine BoolOp_and (thn (ha pins s σ H _ I h) fun v s1 ⟨x, H1, I1, r1, q1⟩ => ?_)
 obtain ⟨c, rfl, q1⟩ := q1
 cases r1
 refine wpAny_truthy_bool ?_
 cases c with
 | true => exact hb pins s1 σ H1 Q I1 q1
 | false => exact ⟨.bl false, H1, I1, rfl, q1⟩
theorem pe_or (ha : PE X a ta) (hb : PE X (.BoolOp .Or (b :: rest) pos) tb) : PE X (.BoolOp .Or (a :: b :: rest) pos) (tOrV ta tb) := by
 intro pins s σ H Q I h
 refine BoolOp_or (thn (ha pins s σ H _ I h) fun v s1 ⟨x, H1, I1, r1, q1⟩ => ?_)
 obtain ⟨c, rfl, q1⟩ := q1
 cases r1
 refine wpAny_truthy_bool ?_
 cases c with
 | false => exact hb pins s1 σ H1 Q I1 q1
 | true => exact ⟨.bl true, H1, I1, rfl, q1⟩
theorem pe_not (ha : PE X a ta) : PE X (.UnaryOp .Not a pos) (tNotV ta) := by
 intro pins s σ H Q I h
 refine UnaryOp_ (thn (ha pins s σ H _ I h) fun v s1 ⟨x, H1, I1, r1, q1⟩ => ?_)
 obtain ⟨c, rfl, q1⟩ := q1
 cases r1
 exact not_of (wpAny_truthy_bool ⟨.bl (!c), H1, I1, rfl, q1⟩)
end
end L2
namespace L2
open PySem PySem.Spec PyProof.Rows
noncomputable def SqL (K : PySem.W.Frag) (H : Hp) (a : Addr) (xs : List V) : Prop :=
 Rd H a (.lst xs) ∨
  ∃ (o : Obj) (its : Array Value) (n : Nat), K.lookup a = some o ∧ o.cls = .type "list" ∧ o.dict = none ∧ o.data = .seq its n ∧ its.size ≤ sizeLine ∧ Vals xs its.toList
noncomputable def SqT (K : PySem.W.Frag) (H : Hp) (a : Addr) (xs : List V) : Prop :=
 Rd H a (.tup xs) ∨
  ∃ (o : Obj) (its : Array Value) (n : Nat), K.lookup a = some o ∧ o.cls = .type "tuple" ∧ o.data = .seq its n ∧ its.size ≤ sizeLine ∧ Vals xs its.toList
noncomputable def absV : Value → Option V
 | .none => some .non
 | .bool b => some (.bl b)
 | .int i _ => some (.int i)
 | .str x _ => some (.str x)
 | .bytes b _ => some (.byt b)
 | .float b _ => some (.flt b)
 | .ref a => some (.ref a)
 | .type n => some (.ty n)
 | _ => none
theorem RelV.abs {x : V} {u : Value} (r : RelV x u) : absV u = some x := by
 cases x with
 | non => cases r; rfl
 | bl _ => cases r; rfl
 | int _ => obtain ⟨t, rfl⟩ := r; rfl
 | str _ => obtain ⟨t, rfl⟩ := r; rfl
 | byt _ => obtain ⟨t, rfl⟩ := r; rfl
 | flt _ => obtain ⟨t, rfl⟩ := r; rfl
 | ref _ => cases r; rfl
 | ty _ => cases r; rfl
theorem RelV.inj {x y : V} {u : Value} (r : RelV x u) (q : RelV y u) : x = y := Option.some.inj (r.abs.symm.trans q.abs)
theorem Vals.inj : ∀ {xs ys : List V} {us : List Value}, Vals xs us → Vals ys us → xs = ys
 | _, _, _, .nil, .nil => rfl
 | _, _, _, .cons r t, .cons r' t' => by rw [r.inj r', Vals.inj t t']
section
variable {X : Cx} {pins : List (Addr × Obj)} {σ : St} {H : Hp} {s : Shared} {a : Addr} {xs ys : List V}
theorem SqL.of {K : PySem.W.Frag} (h : H a = some (.lst xs)) : SqL K H a xs := .inl (.inl h)
theorem SqT.of {K : PySem.W.Frag} (h : H a = some (.tup xs)) : SqT K H a xs := .inl (.inl h)
theorem Inv.list (I : Inv X pins σ H s) (h : SqL X.K H a xs) : ∃ its : List Value, Vals xs its ∧ PlainL s.heap a its.toArray ∧ xs.length ≤ sizeLine := by
 rcases h with h | ⟨o, its, n, hk, hc, hd, hs, hz, r⟩
 ·obtain ⟨z, its, n, r, e⟩ := h.ok I.hok
  exact ⟨its, r, ⟨_, n, e, rfl, rfl, rfl⟩, z⟩
 ·refine ⟨its.toList, r, ⟨o, n, I.kIn a o hk, hc, hd, by simpa using hs⟩, ?_⟩
  have e := r.length
  simp only [Array.length_toList] at e
  lia
theorem Inv.tuple (I : Inv X pins σ H s) (h : SqT X.K H a xs) : ∃ its : List Value, Vals xs its ∧ IsTup s.heap a its.toArray ∧ xs.length ≤ sizeLine := by
 rcases h with h | ⟨o, its, n, hk, hc, hs, hz, r⟩
 ·obtain ⟨z, its, r, p⟩ := h.ok I.hok
  exact ⟨its, r, p, z⟩
 ·refine ⟨its.toList, r, ⟨o, I.kIn a o hk, hc, n, by simpa using hs⟩, ?_⟩
  have e := r.length
  simp only [Array.length_toList] at e
  lia
theorem Inv.list_inj (I : Inv X pins σ H s) (h : SqL X.K H a xs) (h' : SqL X.K H a ys) : xs = ys := by
 obtain ⟨its, r, ⟨o, n, e, _, _, d⟩, _⟩ := I.list h
 obtain ⟨its', r', ⟨o', n', e', _, _, d'⟩, _⟩ := I.list h'
 rw [e] at e'; cases e'
 rw [d] at d'
 injection d' with d1 _
 have : its = its' := by simpa using congrArg Array.toList d1
 subst this
 exact r.inj r'
theorem Inv.tuple_inj (I : Inv X pins σ H s) (h : SqT X.K H a xs) (h' : SqT X.K H a ys) : xs = ys := by
 obtain ⟨its, r, ⟨o, e, _, n, d⟩, _⟩ := I.tuple h
 obtain ⟨its', r', ⟨o', e', _, n', d'⟩, _⟩ := I.tuple h'
 rw [e] at e'; cases e'
 rw [d] at d'
 injection d' with d1 _
 have : its = its' := by simpa using congrArg Array.toList d1
 subst this
 exact r.inj r'
end
noncomputable abbrev Cx.wish (X : Cx) (E : Value → Shared → Prop) : Cx := { X with xe := E }
noncomputable abbrev Cx.nox (X : Cx) : Cx := X.wish fun _ _ => False
theorem Cx.Ok.wish {X : Cx} (ok : X.Ok) (E : Value → Shared → Prop) : (X.wish E).Ok :=
 ⟨ok.mod, ok.kind, ok.glob, ok.blt, ok.above, ok.inj, ok.has, ok.cab, ok.hd, ok.frames, ok.stk, ok.exf, ok.bs, ok.bsz, ok.noex, ok.exfs, ok.funs, ok.frf⟩
theorem Cx.Ok.unwish {X : Cx} {E : Value → Shared → Prop} (ok : (X.wish E).Ok) : X.Ok :=
 ⟨ok.mod, ok.kind, ok.glob, ok.blt, ok.above, ok.inj, ok.has, ok.cab, ok.hd, ok.frames, ok.stk, ok.exf, ok.bs, ok.bsz, ok.noex, ok.exfs, ok.funs, ok.frf⟩
section
variable {X : Cx} {pins : List (Addr × Obj)} {σ : St} {H : Hp} {s : Shared} {E : Value → Shared → Prop}
theorem Inv.wish (I : Inv X pins σ H s) (E : Value → Shared → Prop) : Inv (X.wish E) pins σ H s := ⟨I.ok.wish E, I.os, I.bare, I.base, I.loc, I.cell, I.free, I.freeC, I.pin, I.hok, I.len⟩
theorem Inv.unwish (I : Inv (X.wish E) pins σ H s) : Inv X pins σ H s := ⟨I.ok.unwish, I.os, I.bare, I.base, I.loc, I.cell, I.free, I.freeC, I.pin, I.hok, I.len⟩
theorem SP.unwish {D : Ends} {f : Flow} {s' : Shared} (h : SP (X.wish E) pins D f s') : SP X pins D f s' := by
 cases f with
 | next => obtain ⟨σ', H', I, q⟩ := h; exact ⟨σ', H', I.unwish, q⟩
 | brk => obtain ⟨σ', H', I, q⟩ := h; exact ⟨σ', H', I.unwish, q⟩
 | cont => obtain ⟨σ', H', I, q⟩ := h; exact ⟨σ', H', I.unwish, q⟩
 | ret u => obtain ⟨v, σ', H', I, r, q⟩ := h; exact ⟨v, σ', H', I.unwish, r, q⟩
theorem PSs.nox {st : List Stmt} {t : TS} (h : PSs X.nox st t) : PSs X st t := fun pins s σ H D I hw =>
 wpAny_mono (h pins s σ H D (I.wish _) hw) (fun _ _ q => q.unwish) fun _ _ z => False.elim z
end
section
variable {X : Cx} {st : Stmt} {rest : List Stmt} {t u : TS} {e : Expr} {te : TE} {pos : Pos}
noncomputable def tNext : TS := fun D σ H => D.nx σ H
noncomputable def tSeq (t u : TS) : TS := fun D σ H => t { D with nx := u D } σ H
theorem pss_nil : PSs X [] tNext := fun _ _ σ H _ I h => wpAny_execs_nil ⟨σ, H, I, h⟩
theorem pss_cons (h1 : PS X st t) (h2 : PSs X rest u) : PSs X (st :: rest) (tSeq t u) := by
 intro pins s σ H D I h
 refine wpAny_execs_cons (thn (h1 pins s σ H { D with nx := u D } I h) fun f s1 q => ?_)
 cases f with
 | next =>
  obtain ⟨σ', H', I', q⟩ := q
  exact h2 pins s1 σ' H' D I' q
 | ret v => exact q
 | brk => exact q
 | cont => exact q
theorem pss_one (h1 : PS X st t) : PSs X [st] t := by
 intro pins s σ H D I h
 refine wpAny_execs_cons (thn (h1 pins s σ H D I h) fun f s1 q => ?_)
 cases f with
 | next => exact wpAny_execs_nil q
 | ret v => exact q
 | brk => exact q
 | cont => exact q
theorem Inv.quiet {pins : List (Addr × Obj)} {σ : St} {H : Hp} {s : Shared} (I : Inv X pins σ H s) : interactive X.env = false := by simp [interactive, I.ok.kind]
noncomputable def tDrop (te : TE) : TS := fun D σ H => te σ H fun _ H1 => D.nx σ H1
theorem ps_expr (he : PE X e te) (hs : swapsWith e none pos.line X.env = pure false := by rfl) : PS X (.Expr e pos) (tDrop te) := by
 intro pins s σ H D I h
 exact wpAny_Expr_any (thn (he pins s σ H _ I h) fun v s1 ⟨x, H1, I1, r1, q1⟩ => ⟨σ, H1, I1, q1⟩) I.quiet hs
noncomputable def tRet (te : TE) : TS := fun D σ H => te σ H D.rt
theorem ps_ret (he : PE X e te) : PS X (.Return (some e) pos) (tRet te) := by
 intro pins s σ H D I h
 exact wpAny_Return_some (thn (he pins s σ H _ I h) fun v s1 ⟨x, H1, I1, r1, q1⟩ => ⟨x, σ, H1, I1, r1, q1⟩)
noncomputable def tIfS (c : TT) (t u : TS) : TS := fun D σ H => c σ H fun b H1 => if b = true then t D σ H1 else u D σ H1
theorem ps_if {c : Expr} {a b : List Stmt} {tc : TT} (hc : PT X c tc) (ha : PSs X a t) (hb : PSs X b u) : PS X (.If c a b pos) (tIfS tc t u) := by
 intro pins s σ H D I h
 refine wpAny_If (thn (hc pins s σ H _ I h) fun d s1 ⟨H1, I1, q1⟩ => ?_)
 cases d with
 | true => exact ha pins s1 σ H1 D I1 q1
 | false => exact hb pins s1 σ H1 D I1 q1
noncomputable def tNever : TS := fun _ _ _ => False
theorem ps_never : PS X st tNever := fun _ _ _ _ _ _ h => h.elim
end
noncomputable abbrev TG := V → St → Hp → (St → Hp → Prop) → Prop
noncomputable abbrev TGs := List V → St → Hp → (St → Hp → Prop) → Prop
noncomputable def PG (X : Cx) (target : Expr) (t : TG) : Prop :=
 ∀ (pins : List (Addr × Obj)) (s : Shared) (σ : St) (H : Hp) (v : V) (u : Value) (Q : St → Hp → Prop), Inv X pins σ H s → RelV v u → t v σ H Q →
  wpAny (model X.prog X.w) X.A (assign target X.env u) (fun _ s' => ∃ σ' H', Inv X pins σ' H' s' ∧ Q σ' H') X.xe s
noncomputable def PGs (X : Cx) (ts : List Expr) (t : TGs) : Prop :=
 ∀ (pins : List (Addr × Obj)) (s : Shared) (σ : St) (H : Hp) (vs : List V) (us : List Value) (Q : St → Hp → Prop), Inv X pins σ H s → Vals vs us → t vs σ H Q →
  wpAny (model X.prog X.w) X.A (assignInOrder ((assignEach ts X.env).map (·.2)) us) (fun _ s' => ∃ σ' H', Inv X pins σ' H' s' ∧ Q σ' H') X.xe s
section
variable {X : Cx} {pos : Pos}
noncomputable def gName (i : Nat) : TG := fun v σ H Q => Q (σ.set i (some v)) H
theorem pg_name {i : Nat} {x : Str} (hN : X.N.Nodup) (hi : X.N[i]? = some x) (hx : Loc X.env.scope x) (hf : X.fn x = true ∨ X.env.scope.names.lookup x = some .local := by first | exact .inl rfl | exact .inr rfl | assumption) : PG X (.Name x pos) (gName i) := by
 intro pins s σ H v u Q I r h
 exact wpAny_assign_Name (store_ok I hN hi hx r (fun s' I' => ⟨_, H, I', h⟩) hf)
noncomputable def gNil : TGs := fun vs σ H Q => vs = [] ∧ Q σ H
inductive gConsI (t : TG) (u : TGs) (vs : List V) (σ : St) (H : Hp) (Q : St → Hp → Prop) : Prop
 | mk (v : _) (r : _) : (vs = v :: r) → (t v σ H fun σ' H' => u r σ' H' Q) → gConsI t u vs σ H Q
noncomputable def gCons (t : TG) (u : TGs) : TGs := fun vs σ H Q => gConsI t u vs σ H Q
theorem pgs_nil : PGs X [] gNil := by
 intro pins s σ H vs us Q I r h
 obtain ⟨e, h⟩ := h
 subst e
 cases r
 exact assignInOrder_nil ⟨σ, H, I, h⟩
theorem pgs_cons {e : Expr} {es : List Expr} {t : TG} {u : TGs} (h1 : PG X e t) (h2 : PGs X es u)
  (hs : (assignEach (e :: es) X.env).map (·.2) = assign e X.env :: (assignEach es X.env).map (·.2) := by rfl) : PGs X (e :: es) (gCons t u) := by
 intro pins s σ H vs us Q I r h
 obtain ⟨v, vr, e1, h⟩ := h
 subst e1
 cases r with
 | cons r rr =>
  rw [hs]
  refine assignInOrder_cons (thn (h1 pins s σ H _ _ _ I r h) fun _ s1 ⟨σ1, H1, I1, q1⟩ => ?_)
  exact h2 pins s1 σ1 H1 _ _ Q I1 rr q1
inductive gTupI (K : PySem.W.Frag) (n : Nat) (t : TGs) (v : V) (σ : St) (H : Hp) (Q : St → Hp → Prop) : Prop
 | mk (a : _) (xs : _) : (v = .ref a) → (SqT K H a xs) → (xs.length = n) → (t xs σ H Q) → gTupI K n t v σ H Q
noncomputable def gTup (K : PySem.W.Frag) (n : Nat) (t : TGs) : TG := fun v σ H Q => gTupI K n t v σ H Q
theorem pg_tup {es : List Expr} {k : Nat} {t : TGs} {n : Nat} (hc : X.calm = true) (h : PGs X es t)
  (hn : (assignEach es X.env).length = n := by rfl) (hst : (assignEach es X.env).findIdx? (·.1) = none := by rfl) : PG X (.Tuple es k pos) (gTup X.K n t) := by
 intro pins s σ H v u Q I r hw
 obtain ⟨a, xs, e1, hq, hl, hw⟩ := hw
 subst e1
 cases r
 obtain ⟨its, rv, ht, hz⟩ := I.tuple hq
 refine assign_Tuple_tuple (I.ok.hd hc) ht (by simp [hn, ← hl, rv.length]) hst fun h' hx => ?_
 have I1 : Inv X pins σ H { s with heap := h' } := I.kept (t' := s.toks) fun b o e => hx b o (Nat.ne_of_lt (Heap.lt_size e)) e
 exact h pins _ σ H xs _ Q I1 (by simpa using rv) hw
noncomputable def tAsg (te : TE) (g : TG) : TS := fun D σ H => te σ H fun x H1 => g x σ H1 D.nx
theorem ps_asg {tg e : Expr} {te : TE} {g : TG} (he : PE X e te) (hg : PG X tg g) (hs : swapsWithSole [tg] e pos.line X.env = pure false := by rfl) (hw : swappedStores [tg] e X.env = pure none := by rfl)
  (h1 : (assignEach [tg] X.env).map (·.2) = [assign tg X.env] := by rfl) : PS X (.Assign [tg] e pos) (tAsg te g) := by
 intro pins s σ H D I h
 refine wpAny_Assign_stores (thn (he pins s σ H _ I h) fun v s1 ⟨x, H1, I1, r1, q1⟩ => ?_) hs hw
 rw [h1]
 exact thn (hg pins s1 σ H1 x v _ I1 r1 q1) fun _ s2 q => q
theorem ps_set {i : Nat} {x : Str} {e : Expr} {te : TE} {pos' : Pos} (hN : X.N.Nodup) (hi : X.N[i]? = some x) (hx : Loc X.env.scope x) (he : PE X e te) (hs : swapsWith e (some (.Name x pos')) pos.line X.env = pure false := by rfl) (hf : X.fn x = true ∨ X.env.scope.names.lookup x = some .local := by first | exact .inl rfl | exact .inr rfl | assumption) :
  PS X (.Assign [.Name x pos'] e pos) (tAsg te (gName i)) := by
 intro pins s σ H D I h
 refine wpAny_Assign_Name (thn (he pins s σ H _ I h) fun v s1 ⟨y, H1, I1, r1, q1⟩ => ?_) hs
 exact store_ok I1 hN hi hx r1 (fun s2 I2 => ⟨_, H1, I2, q1⟩) hf
end
section
variable {X : Cx} {pos : Pos}
end
structure It where
 go : Nat → Hp → Prop
 yld : Nat → Hp → V → Hp → Prop
 stop : Nat → Hp → Prop
noncomputable def FpOk (X : Cx) (pins : List (Addr × Obj)) (H : Hp) (b : Addr) : Prop :=
 H b = none ∧ b ≠ X.env.locals ∧ b ∉ X.fs ∧ (b ∈ X.ex ∨ X.s₀.heap.objs.size ≤ b) ∧ (∀ x c, X.env.cells.lookup x = some c → c ≠ b) ∧ ∀ p ∈ X.pn ++ pins, p.1 ≠ b
theorem Inv.fpOk {X : Cx} {pins : List (Addr × Obj)} {σ : St} {H H' : Hp} {s : Shared} {b : Addr} (I : Inv X pins σ H s) (hb : s.heap.objs.size ≤ b) (hn : H' b = none) : FpOk X pins H' b := by
 refine ⟨hn, Nat.ne_of_gt (Nat.lt_of_lt_of_le I.lt hb), I.nofs hb, .inr (Nat.le_trans I.sz hb), fun x c e z => ?_, fun p hp z => ?_⟩
 ·obtain ⟨v, q⟩ := I.cell x c e
  exact absurd (Nat.lt_of_lt_of_le q.lt (by rw [z]; exact hb)) (Nat.lt_irrefl _)
 ·exact absurd (Nat.lt_of_lt_of_le (Heap.lt_size (I.pin p hp).1) (by rw [z]; exact hb)) (Nat.lt_irrefl _)
structure Turn (P : Program) (w : World) (K : PySem.W.Frag) (tg : Expr) (J : It) (fp : List Addr) (it : Addr) (tn : Nat → Heap → Prop) : Prop where
 mem : it ∈ fp
 obj : ∀ i h, tn i h → ∀ b ∈ fp, ∃ o, h.get? b = some o ∧ ∀ v, o.data ≠ .cell v
 keep : ∀ i h h', tn i h → (∀ b ∈ fp, ∀ o, h.get? b = some o → h'.get? b = some o) → tn i h'
 item : ∀ (X : Cx), X.prog = P → X.w = w → X.K = K → X.calm = true → ∀ (i : Nat) (pins : List (Addr × Obj)) (s : Shared) (σ : St) (H : Hp) (E : Value → Shared → Prop), Inv X pins σ H s → (∀ b ∈ fp, FpOk X pins H b) → tn i s.heap → J.go i H →
  wpAny (model P w) X.A (pyNext (.ref it)) (fun r s1 => ∃ u, r = some u ∧
   wpAny (model P w) X.A (letOwnedTupleGo tg (.ref it) u) (fun _ s2 => ∃ x H', Inv X pins σ H' s2 ∧ RelV x u ∧ J.yld i H x H' ∧ tn (i + 1) s2.heap ∧ ∀ b ∈ fp, H' b = none) E s1) E s
 done : ∀ (X : Cx), X.prog = P → X.w = w → X.K = K → X.calm = true → ∀ (i : Nat) (pins : List (Addr × Obj)) (s : Shared) (σ : St) (H : Hp) (E : Value → Shared → Prop), Inv X pins σ H s → (∀ b ∈ fp, FpOk X pins H b) → tn i s.heap → J.stop i H →
  wpAny (model P w) X.A (pyNext (.ref it)) (fun r s1 => r = none ∧ Inv X pins σ H s1) E s
 self : ∀ (A : Around) (i : Nat) (s : Shared) (Q : Value → Shared → Prop) (E : Value → Shared → Prop), tn i s.heap → Q (.ref it) s → wpAny (model P w) A (pyIter (.ref it)) Q E s
noncomputable abbrev TI := St → Hp → (It → Hp → Prop) → Prop
inductive PIE (X : Cx) (pins : List (Addr × Obj)) (σ : St) (tg : Expr) (R : It → Hp → Prop) (itv : Value) (s2 : Shared) : Prop
 | mk (it : Addr) (fp : List Addr) (tn : Nat → Heap → Prop) (J : It) (H' : Hp) : (itv = .ref it) → (Inv X pins σ H' s2) → (Turn X.prog X.w X.K tg J fp it tn) → (tn 0 s2.heap) → ((∀ b ∈ fp, FpOk X pins H' b)) → (R J H') → PIE X pins σ tg R itv s2
noncomputable def PI (X : Cx) (tg iter : Expr) (wi : TI) : Prop :=
 ∀ (pins : List (Addr × Obj)) (s : Shared) (σ : St) (H : Hp) (R : It → Hp → Prop), Inv X pins σ H s → wi σ H R →
  wpAny (model X.prog X.w) X.A (eval iter X.env) (fun v s1 => wpAny (model X.prog X.w) X.A (pyIter v) (PIE X pins σ tg R) X.xe s1) X.xe s
theorem go_of {M : Model} {A : Around} {E : Value → Shared → Prop} {s : Shared} {tg : Expr} {it : Addr} {u : Value} {o : Obj} {n : String} {vs : Array Value} {Q : Unit → Shared → Prop} (ho : s.heap.get? it = some o) (hc : o.cls = .type n) (hd : o.data = .fields vs)
    (hn : ["enumerate", "zip", "dict_itemiterator", "dict_reverseitemiterator", "odict_iterator", "itertools.zip_longest", "itertools.pairwise"].contains n = false) (hQ : Q () s) : wpAny M A (letOwnedTupleGo tg (.ref it) u) Q E s := by
  unfold letOwnedTupleGo
  cases tg <;> first
    | exact wpAny_pure hQ
    | (cases u <;> first
        | exact wpAny_pure hQ
        | (refine wpAny_bind (wpAny_load ho ?_)
           rw [hc, hd]
           show wpAny M A (if (["enumerate", "zip", "dict_itemiterator", "dict_reverseitemiterator", "odict_iterator", "itertools.zip_longest", "itertools.pairwise"].contains n && vs[0]? == some (rawInt _)) = true then _ else _) Q E s
           rw [if_neg (by intro h; rw [hn, Bool.false_and] at h; cases h)]
           exact wpAny_pure hQ))
noncomputable def Itl (K : PySem.W.Frag) (a : Addr) : It :=
 ⟨fun i H => ∃ xs x, SqL K H a xs ∧ xs[i]? = some x, fun i H x H' => H' = H ∧ ∀ xs, SqL K H a xs → xs[i]? = some x, fun i H => ∃ xs, SqL K H a xs ∧ xs.length ≤ i⟩
noncomputable def Itt (K : PySem.W.Frag) (a : Addr) : It :=
 ⟨fun i H => ∃ xs x, SqT K H a xs ∧ xs[i]? = some x, fun i H x H' => H' = H ∧ ∀ xs, SqT K H a xs → xs[i]? = some x, fun i H => ∃ xs, SqT K H a xs ∧ xs.length ≤ i⟩
noncomputable def Itr (lo : Int) (n : Nat) : It := ⟨fun i _ => i < n, fun i H x H' => H' = H ∧ x = .int (lo + i), fun i _ => n ≤ i⟩
theorem turn_list {P : Program} {w : World} {K : PySem.W.Frag} {tg : Expr} (a it : Addr) : Turn P w K tg (Itl K a) [it] it (fun i h => h.IsListIter it a i) where
 mem := by simp
 obj := fun i h st b hb => by
  have e : b = it := by simpa using hb
  subst e
  obtain ⟨o, e, c, d⟩ := st
  exact ⟨o, e, fun v z => by rw [d] at z; cases z⟩
 keep := fun i h h' st k => st.at fun o e => k it (by simp) o e
 item := by
  intro X hP hw hK hc i pins s σ H E I hf st hg
  subst hP hw hK
  obtain ⟨xs, x, hq, hx⟩ := hg
  obtain ⟨its, rv, p, hz⟩ := I.list hq
  obtain ⟨u, hu, ru⟩ := rv.get hx
  obtain ⟨f0, f1, f2, f3, f4, f5⟩ := hf it (by simp)
  refine wpAny_pyNext_list_item st p.isList (x := u) (by simpa using hu) fun h' st' sb => ?_
  have I1 : Inv X pins σ H { s with heap := h' } := I.turned (t' := s.toks) (fun b o hb e => (sb.2 b hb).trans e) f0 f1 f3 f4 f5
  obtain ⟨o, e, c, d⟩ := id st'
  exact ⟨u, rfl, go_of (s := { s with heap := h' }) e c d (by decide) ⟨x, H, I1, ru, ⟨rfl, fun ys hy => by rw [I.list_inj hy hq]; exact hx⟩, st', fun b hb => (hf b hb).1⟩⟩
 done := by
  intro X hP hw hK hc i pins s σ H E I hf st hg
  subst hP hw hK
  obtain ⟨xs, hq, hx⟩ := hg
  obtain ⟨its, rv, p, hz⟩ := I.list hq
  obtain ⟨f0, f1, f2, f3, f4, f5⟩ := hf it (by simp)
  have hl := rv.length
  exact wpAny_pyNext_list_end (I.ok.hd hc) st p.isList (by simp; lia) fun h' eb => ⟨rfl, I.turned (t' := s.toks) (fun b o hb e => eb b o hb e) f0 f1 f3 f4 f5⟩
 self := fun _ _ _ _ _ st h => wpAny_pyIter_listiter st h
theorem turn_tuple {P : Program} {w : World} {K : PySem.W.Frag} {tg : Expr} (a it : Addr) : Turn P w K tg (Itt K a) [it] it (fun i h => h.IsTupleIter it a i) where
 mem := by simp
 obj := fun i h st b hb => by
  have e : b = it := by simpa using hb
  subst e
  obtain ⟨o, e, c, d⟩ := st
  exact ⟨o, e, fun v z => by rw [d] at z; cases z⟩
 keep := fun i h h' st k => st.at fun o e => k it (by simp) o e
 item := by
  intro X hP hw hK hc i pins s σ H E I hf st hg
  subst hP hw hK
  obtain ⟨xs, x, hq, hx⟩ := hg
  obtain ⟨its, rv, p, hz⟩ := I.tuple hq
  obtain ⟨u, hu, ru⟩ := rv.get hx
  obtain ⟨f0, f1, f2, f3, f4, f5⟩ := hf it (by simp)
  refine wpAny_pyNext_tuple_item st (show s.heap.IsTuple a its.toArray from p) (x := u) (by simpa using hu) fun h' st' sb => ?_
  have I1 : Inv X pins σ H { s with heap := h' } := I.turned (t' := s.toks) (fun b o hb e => (sb.2 b hb).trans e) f0 f1 f3 f4 f5
  obtain ⟨o, e, c, d⟩ := id st'
  exact ⟨u, rfl, go_of (s := { s with heap := h' }) e c d (by decide) ⟨x, H, I1, ru, ⟨rfl, fun ys hy => by rw [I.tuple_inj hy hq]; exact hx⟩, st', fun b hb => (hf b hb).1⟩⟩
 done := by
  intro X hP hw hK hc i pins s σ H E I hf st hg
  subst hP hw hK
  obtain ⟨xs, hq, hx⟩ := hg
  obtain ⟨its, rv, p, hz⟩ := I.tuple hq
  obtain ⟨f0, f1, f2, f3, f4, f5⟩ := hf it (by simp)
  have hl := rv.length
  exact wpAny_pyNext_tuple_end (I.ok.hd hc) st (show s.heap.IsTuple a its.toArray from p) (by simp; lia) fun h' eb => ⟨rfl, I.turned (t' := s.toks) (fun b o hb e => eb b o hb e) f0 f1 f3 f4 f5⟩
 self := fun _ _ _ _ _ st h => wpAny_pyIter_tupleiter st h
theorem turn_range {P : Program} {w : World} {K : PySem.W.Frag} {tg : Expr} (it : Addr) (lo : Int) (n : Nat) : Turn P w K tg (Itr lo n) [it] it (fun i h => IsRangeIter h it (lo + (i : Nat) * 1) ((n : Int) - (i : Nat)) 1) where
 mem := by simp
 obj := fun i h st b hb => by
  have e : b = it := by simpa using hb
  subst e
  exact ⟨_, st, fun v z => by
   have z' : Data.fields _ = Data.cell v := z
   cases z'⟩
 keep := fun i h h' st k => k it (by simp) _ st
 item := by
  intro X hP hw hK hc i pins s σ H E I hf st hg
  subst hP hw hK
  obtain ⟨f0, f1, f2, f3, f4, f5⟩ := hf it (by simp)
  have W := Walks.range (prog := X.prog) (w := X.w) (I.ok.hd hc) it lo 1 n
  refine W.item i s _ _ hg st fun v h' tk hv st' kk => ?_
  obtain ⟨t, rfl⟩ := hv
  have I1 : Inv X pins σ H { s with heap := h', toks := tk } := I.turned (fun b o hb e => kk b o (by simpa using hb) e) f0 f1 f3 f4 f5
  refine ⟨_, rfl, go_of (s := { s with heap := h', toks := tk }) (n := "range_iterator") st' rfl rfl (by decide) ⟨.int (lo + i), H, I1, ⟨t, ?_⟩, ⟨rfl, rfl⟩, st', fun b hb => (hf b hb).1⟩⟩
  rw [Int.mul_one]
 done := by
  intro X hP hw hK hc i pins s σ H E I hf st hg
  subst hP hw hK
  obtain ⟨f0, f1, f2, f3, f4, f5⟩ := hf it (by simp)
  exact wpAny_pyNext_range_end (I.ok.hd hc) st (by have : n ≤ i := hg; lia) fun h' eb => ⟨rfl, I.turned (t' := s.toks) (fun b o hb e => eb b o hb e) f0 f1 f3 f4 f5⟩
 self := fun _ _ _ _ _ st h => wpAny_pyIter_rangeiter st h
end L2
namespace L2
open PySem PySem.Spec PyProof.Rows
section
variable {X : Cx} {tg : Expr}
inductive iListI (K : PySem.W.Frag) (R : It → Hp → Prop) (x : V) (H1 : Hp) : Prop
 | mk (a : _) : (x = .ref a) → ((∃ xs, SqL K H1 a xs)) → (R (Itl K a) H1) → iListI K R x H1
noncomputable def iList (K : PySem.W.Frag) (tl : TE) : TI := fun σ H R => tl σ H fun x H1 => iListI K R x H1
inductive iTupI (K : PySem.W.Frag) (R : It → Hp → Prop) (x : V) (H1 : Hp) : Prop
 | mk (a : _) : (x = .ref a) → ((∃ xs, SqT K H1 a xs)) → (R (Itt K a) H1) → iTupI K R x H1
noncomputable def iTup (K : PySem.W.Frag) (tl : TE) : TI := fun σ H R => tl σ H fun x H1 => iTupI K R x H1
theorem pi_list {l : Expr} {tl : TE} (hl : PE X l tl) : PI X tg l (iList X.K tl) := by
 intro pins s σ H R I h
 refine thn (hl pins s σ H _ I h) fun v s1 ⟨x, H1, I1, r1, q1⟩ => ?_
 obtain ⟨a, e, ⟨xs, hq⟩, q⟩ := q1
 subst e
 cases r1
 obtain ⟨its, rv, p, hz⟩ := I1.list hq
 refine wpAny_pyIter_list p.isList ?_
 refine ⟨s1.heap.objs.size, [s1.heap.objs.size], _, _, H1, rfl, I1.kept (t' := s1.toks) fun b o e => Heap.get?_push_of_some _ e, turn_list a _, ⟨_, Heap.get?_push_size _ rfl, rfl, rfl⟩, fun b hb => ?_, q⟩
 have e : b = s1.heap.objs.size := by simpa using hb
 subst e
 exact I1.fpOk (Nat.le_refl _) (I1.hok.fresh (Nat.le_refl _))
theorem pi_tup {l : Expr} {tl : TE} (hl : PE X l tl) : PI X tg l (iTup X.K tl) := by
 intro pins s σ H R I h
 refine thn (hl pins s σ H _ I h) fun v s1 ⟨x, H1, I1, r1, q1⟩ => ?_
 obtain ⟨a, e, ⟨xs, hq⟩, q⟩ := q1
 subst e
 cases r1
 obtain ⟨its, rv, p, hz⟩ := I1.tuple hq
 refine wpAny_pyIter_tuple (show s1.heap.IsTuple a its.toArray from p) ?_
 refine ⟨s1.heap.objs.size, [s1.heap.objs.size], _, _, H1, rfl, I1.kept (t' := s1.toks) fun b o e => Heap.get?_push_of_some _ e, turn_tuple a _, ⟨_, Heap.get?_push_size _ rfl, rfl, rfl⟩, fun b hb => ?_, q⟩
 have e : b = s1.heap.objs.size := by simpa using hb
 subst e
 exact I1.fpOk (Nat.le_refl _) (I1.hok.fresh (Nat.le_refl _))
theorem range_it {pins : List (Addr × Obj)} {σ : St} {H : Hp} {s : Shared} {R : It → Hp → Prop} {E : Value → Shared → Prop} {lo hi : Int} {t u v : Tok} {tk : Nat} (I : Inv X pins σ H s) (h1 : -(2 ^ 62) ≤ lo) (h2 : lo < 2 ^ 62) (h3 : -(2 ^ 62) ≤ hi) (h4 : hi < 2 ^ 62)
  (q : R (Itr lo (hi - lo).toNat) H) : wpAny (model X.prog X.w) X.A (pyIter (.ref s.heap.objs.size)) (PIE X pins σ tg R) E { s with heap := s.heap.push { cls := .type "range", data := .fields #[.int lo t, .int hi u, .int 1 v] }, toks := tk } := by
 refine wpAny_pyIter_range (IsRange.new ..) (small_one h1 h2 h3 h4) ?_
 have I1 : Inv X pins σ H { s with heap := s.heap.push { cls := .type "range", data := .fields #[.int lo t, .int hi u, .int 1 v] }, toks := tk } := I.kept fun b o e => Heap.get?_push_of_some _ e
 refine ⟨(s.heap.push { cls := .type "range", data := .fields #[.int lo t, .int hi u, .int 1 v] }).objs.size, [(s.heap.push { cls := .type "range", data := .fields #[.int lo t, .int hi u, .int 1 v] }).objs.size], _, _, H, rfl,
  I1.kept (t' := tk) fun b o e => Heap.get?_push_of_some _ e, turn_range _ lo (hi - lo).toNat, ?_, fun b hb => ?_, q⟩
 ·have e1 : lo + ((0 : Nat) : Int) * 1 = lo := by simp
  have e2 : (((hi - lo).toNat : Nat) : Int) - ((0 : Nat) : Int) = Builtin.Range.rangeSize lo hi 1 := by rw [rangeSize_one]; split <;> lia
  show IsRangeIter _ _ (lo + ((0 : Nat) : Int) * 1) ((((hi - lo).toNat : Nat) : Int) - ((0 : Nat) : Int)) 1
  rw [e1, e2]
  exact Heap.get?_push_size _ rfl
 ·have e : b = (s.heap.push { cls := .type "range", data := .fields #[.int lo t, .int hi u, .int 1 v] }).objs.size := by simpa using hb
  subst e
  exact I1.fpOk (Nat.le_refl _) (I1.hok.fresh (Nat.le_refl _))
inductive iRng1I (R : It → Hp → Prop) (vs : List V) (H1 : Hp) : Prop
 | mk (j : Int) : (vs = [.int j]) → (-(2 ^ 62) ≤ j) → (j < 2 ^ 62) → (R (Itr 0 j.toNat) H1) → iRng1I R vs H1
noncomputable def iRng1 (ta : TA) : TI := fun σ H R => ta σ H fun vs H1 => iRng1I R vs H1
theorem pi_range1 {a : Expr} {ta : TA} {p pos : Pos} (hg : Gl X "range") (hm : X.mg "range" = none) (ha : PA X [a] ta) (hs : starEach [a] X.env = [(false, eval a X.env)] := by rfl) : PI X tg (.Call (.Name "range" p) [a] [] pos) (iRng1 ta) := by
 intro pins s σ H R I h
 refine Call_ (ld_blt I hg hm boot_range (PyProof.Rows.callWith_type1 (thn (ha pos pins s σ H _ I h) fun us s1 ⟨vs, H1, I1, r1, q1⟩ => ?_) hs rfl))
 obtain ⟨j, e, q1, q2, q⟩ := q1
 subst e
 cases r1 with
 | cons r rr =>
  cases rr
  obtain ⟨t, rfl⟩ := r
  exact call_range_1 (range_it I1 (by lia) (by lia) q1 q2 (by simpa using q))
noncomputable def tFor (wi : TI) (g : TG) (tb : TS) : TS := fun D σ H => wi σ H fun J H1 => ∃ W : Nat → Nat → St → Hp → Prop, (∃ m, W 0 m σ H1) ∧ ∀ i m σ H, W i m σ H →
 (J.stop i H ∧ D.nx σ H) ∨ (J.go i H ∧ ∃ N : St → Hp → Prop, (∀ σ' H', N σ' H' → ∃ m', m' < m ∧ W (i + 1) m' σ' H') ∧ ∀ x H', J.yld i H x H' → g x σ H' fun σ2 H2 => tb { D with nx := N, ct := N, bk := D.nx } σ2 H2)
noncomputable def pinsAt (fp : List Addr) (h : Heap) : List (Addr × Obj) := fp.filterMap fun b => (h.get? b).map fun o => (b, o)
theorem mem_pinsAt {fp : List Addr} {h : Heap} {b : Addr} {o : Obj} (hb : b ∈ fp) (e : h.get? b = some o) : (b, o) ∈ pinsAt fp h := List.mem_filterMap.mpr ⟨b, hb, by rw [e]; rfl⟩
theorem of_pinsAt {fp : List Addr} {h : Heap} {p : Addr × Obj} (hp : p ∈ pinsAt fp h) : p.1 ∈ fp ∧ h.get? p.1 = some p.2 := by
 obtain ⟨b, hb, e⟩ := List.mem_filterMap.mp hp
 cases q : h.get? b with
 | none => rw [q] at e; cases e
 | some o =>
  rw [q] at e
  have e' : (b, o) = p := Option.some.inj e
  subst e'
  exact ⟨hb, q⟩
theorem Inv.pinned {pins : List (Addr × Obj)} {σ : St} {H : Hp} {s : Shared} {fp : List Addr} (I : Inv X pins σ H s) (hf : ∀ b ∈ fp, FpOk X pins H b) (ho : ∀ b ∈ fp, ∃ o, s.heap.get? b = some o ∧ ∀ v, o.data ≠ .cell v) : Inv X (pins ++ pinsAt fp s.heap) σ H s :=
 I.pins_of fun p hp => (List.mem_append.mp hp).elim (fun z => I.pin p (List.mem_append_right _ z)) fun z => by
  obtain ⟨hb, e⟩ := of_pinsAt z
  obtain ⟨f0, f1, f2, _⟩ := hf p.1 hb
  obtain ⟨o, e', d⟩ := ho p.1 hb
  rw [e] at e'; cases e'
  exact ⟨e, f0, f1, f2, d⟩
theorem Inv.unpinned {pins pl : List (Addr × Obj)} {σ : St} {H : Hp} {s : Shared} (I : Inv X (pins ++ pl) σ H s) : Inv X pins σ H s := I.pins_of fun p hp => I.pin p (List.mem_append_right _ (List.mem_append_left _ hp))
theorem ps_for {iter : Expr} {body : List Stmt} {wi : TI} {g : TG} {tb : TS} {pos : Pos} (hp : PassesOwn (model X.prog X.w) X.A X.env X.xe) (hc : X.calm = true) (hi : PI X tg iter wi) (hg : PG X tg g) (hb : PSs X body tb)
  (hs : ∀ x, foldedSetIterable iter X.env x = pure x := by intro _; rfl) : PS X (.For tg iter body [] pos) (tFor wi g tb) := by
 intro pins s σ H D I h
 refine wpAny_For (thn (hi pins s σ H _ I h) fun v s1 h1 => thn h1 fun itv s2 h2 => ?_) hs
 obtain ⟨it, fp, tn, J, H2, e, I2, T, st2, f2, W, ⟨m0, w0⟩, turn⟩ := h2
 subst e
 have stat : ∀ {H' : Hp}, (∀ b ∈ fp, H' b = none) → ∀ b ∈ fp, FpOk X pins H' b := fun hn b hb => ⟨hn b hb, (f2 b hb).2⟩
 refine codeAny_forLoop_any (fun n s' => ∃ i σ' H', Inv X pins σ' H' s' ∧ tn i s'.heap ∧ (∀ b ∈ fp, H' b = none) ∧ W i n σ' H') ?_ m0 ⟨0, σ, H2, I2, st2, fun b hb => (f2 b hb).1, w0⟩
 rintro n s3 ⟨i, σ3, H3, I3, st3, fr3, w3⟩
 rcases turn i n σ3 H3 w3 with ⟨stop, qn⟩ | ⟨go, N, hN, step⟩
 ·refine wpAny_passesOwn hp (thn (T.done X rfl rfl rfl hc i pins s3 σ3 H3 X.xe I3 (stat fr3) st3 stop) fun r s4 ⟨hr, I4⟩ => ?_)
  subst hr
  exact wpAny_execs_nil ⟨σ3, H3, I4, qn⟩
 ·refine wpAny_passesOwn hp (thn (T.item X rfl rfl rfl hc i pins s3 σ3 H3 X.xe I3 (stat fr3) st3 go) fun r s4 ⟨u, hr, h4⟩ => ?_)
  subst hr
  refine wpAny_passesOwn hp (thn h4 fun _ s5 ⟨x, H5, I5, r5, y5, st5, fr5⟩ => ?_)
  have I5' := I5.pinned (stat fr5) (T.obj _ _ st5)
  refine wpAny_passesOwn hp (thn (hg _ s5 σ3 H5 x u _ I5' r5 (step x H5 y5)) fun _ s6 ⟨σ6, H6, I6, q6⟩ => ?_)
  refine wpAny_passesOwn hp (thn (hb _ s6 σ6 H6 _ I6 q6) fun f s7 q7 => ?_)
  have again : ∀ {σ7 : St} {H7 : Hp}, Inv X (pins ++ pinsAt fp s5.heap) σ7 H7 s7 → N σ7 H7 → ∃ m, m < n ∧ ∃ i σ' H', Inv X pins σ' H' s7 ∧ tn i s7.heap ∧ (∀ b ∈ fp, H' b = none) ∧ W i m σ' H' := fun {σ7 H7} I7 n7 => by
   obtain ⟨m', hm, w7⟩ := hN σ7 H7 n7
   refine ⟨m', hm, i + 1, σ7, H7, I7.unpinned, T.keep _ _ _ st5 fun b hb o e => (I7.pin (b, o) (List.mem_append_right _ (List.mem_append_right _ (mem_pinsAt hb e)))).1, fun b hb => ?_, w7⟩
   obtain ⟨o, e, d⟩ := T.obj _ _ st5 b hb
   exact (I7.pin (b, o) (List.mem_append_right _ (List.mem_append_right _ (mem_pinsAt hb e)))).2.1
  cases f with
  | next => obtain ⟨σ7, H7, I7, n7⟩ := q7; exact again I7 n7
  | cont => obtain ⟨σ7, H7, I7, n7⟩ := q7; exact again I7 n7
  | brk => obtain ⟨σ7, H7, I7, q7⟩ := q7; exact ⟨σ7, H7, I7.unpinned, q7⟩
  | ret v => obtain ⟨x7, σ7, H7, I7, r7, q7⟩ := q7; exact ⟨x7, σ7, H7, I7.unpinned, r7, q7⟩
end
theorem for_list {K : PySem.W.Frag} {a : Addr} {xs : List V} {g : TG} {tb : TS} {D : Ends} {σ : St} {H : Hp} (Pv : Nat → St → Hp → Prop) (h0 : Pv 0 σ H) (hl : ∀ i σ H, i ≤ xs.length → Pv i σ H → SqL K H a xs)
  (hs : ∀ i x σ H, xs[i]? = some x → Pv i σ H → g x σ H fun σ2 H2 => tb { D with nx := Pv (i + 1), ct := Pv (i + 1), bk := D.nx } σ2 H2) (hd : ∀ σ H, Pv xs.length σ H → D.nx σ H) :
  ∃ W : Nat → Nat → St → Hp → Prop, (∃ m, W 0 m σ H) ∧ ∀ i m σ H, W i m σ H →
   ((Itl K a).stop i H ∧ D.nx σ H) ∨ ((Itl K a).go i H ∧ ∃ N : St → Hp → Prop, (∀ σ' H', N σ' H' → ∃ m', m' < m ∧ W (i + 1) m' σ' H') ∧ ∀ x H', (Itl K a).yld i H x H' → g x σ H' fun σ2 H2 => tb { D with nx := N, ct := N, bk := D.nx } σ2 H2) := by
 refine ⟨fun i m σ H => m = xs.length - i ∧ i ≤ xs.length ∧ Pv i σ H, ⟨xs.length, by simp, Nat.zero_le _, h0⟩, ?_⟩
 rintro i m σ H ⟨rfl, hi, p⟩
 have q := hl i σ H hi p
 by_cases hlt : i < xs.length
 ·refine .inr ⟨⟨xs, xs[i], q, by simp [hlt]⟩, Pv (i + 1), fun σ' H' p' => ⟨xs.length - (i + 1), by lia, rfl, hlt, p'⟩, fun x H' y => ?_⟩
  obtain ⟨e, y⟩ := y
  subst e
  exact hs i x σ _ (y xs q) p
 ·have e : i = xs.length := by lia
  subst e
  exact .inl ⟨⟨xs, q, Nat.le_refl _⟩, hd σ H p⟩
theorem for_tup {K : PySem.W.Frag} {a : Addr} {xs : List V} {g : TG} {tb : TS} {D : Ends} {σ : St} {H : Hp} (Pv : Nat → St → Hp → Prop) (h0 : Pv 0 σ H) (hl : ∀ i σ H, i ≤ xs.length → Pv i σ H → SqT K H a xs)
  (hs : ∀ i x σ H, xs[i]? = some x → Pv i σ H → g x σ H fun σ2 H2 => tb { D with nx := Pv (i + 1), ct := Pv (i + 1), bk := D.nx } σ2 H2) (hd : ∀ σ H, Pv xs.length σ H → D.nx σ H) :
  ∃ W : Nat → Nat → St → Hp → Prop, (∃ m, W 0 m σ H) ∧ ∀ i m σ H, W i m σ H →
   ((Itt K a).stop i H ∧ D.nx σ H) ∨ ((Itt K a).go i H ∧ ∃ N : St → Hp → Prop, (∀ σ' H', N σ' H' → ∃ m', m' < m ∧ W (i + 1) m' σ' H') ∧ ∀ x H', (Itt K a).yld i H x H' → g x σ H' fun σ2 H2 => tb { D with nx := N, ct := N, bk := D.nx } σ2 H2) := by
 refine ⟨fun i m σ H => m = xs.length - i ∧ i ≤ xs.length ∧ Pv i σ H, ⟨xs.length, by simp, Nat.zero_le _, h0⟩, ?_⟩
 rintro i m σ H ⟨rfl, hi, p⟩
 have q := hl i σ H hi p
 by_cases hlt : i < xs.length
 ·refine .inr ⟨⟨xs, xs[i], q, by simp [hlt]⟩, Pv (i + 1), fun σ' H' p' => ⟨xs.length - (i + 1), by lia, rfl, hlt, p'⟩, fun x H' y => ?_⟩
  obtain ⟨e, y⟩ := y
  subst e
  exact hs i x σ _ (y xs q) p
 ·have e : i = xs.length := by lia
  subst e
  exact .inl ⟨⟨xs, q, Nat.le_refl _⟩, hd σ H p⟩
theorem for_range {lo : Int} {n : Nat} {g : TG} {tb : TS} {D : Ends} {σ : St} {H : Hp} (Pv : Nat → St → Hp → Prop) (h0 : Pv 0 σ H)
  (hs : ∀ i σ H, i < n → Pv i σ H → g (.int (lo + i)) σ H fun σ2 H2 => tb { D with nx := Pv (i + 1), ct := Pv (i + 1), bk := D.nx } σ2 H2) (hd : ∀ σ H, Pv n σ H → D.nx σ H) :
  ∃ W : Nat → Nat → St → Hp → Prop, (∃ m, W 0 m σ H) ∧ ∀ i m σ H, W i m σ H →
   ((Itr lo n).stop i H ∧ D.nx σ H) ∨ ((Itr lo n).go i H ∧ ∃ N : St → Hp → Prop, (∀ σ' H', N σ' H' → ∃ m', m' < m ∧ W (i + 1) m' σ' H') ∧ ∀ x H', (Itr lo n).yld i H x H' → g x σ H' fun σ2 H2 => tb { D with nx := N, ct := N, bk := D.nx } σ2 H2) := by
 refine ⟨fun i m σ H => m = n - i ∧ i ≤ n ∧ Pv i σ H, ⟨n, by simp, Nat.zero_le _, h0⟩, ?_⟩
 rintro i m σ H ⟨rfl, hi, p⟩
 by_cases hlt : i < n
 ·refine .inr ⟨hlt, Pv (i + 1), fun σ' H' p' => ⟨n - (i + 1), by lia, rfl, hlt, p'⟩, fun x H' y => ?_⟩
  obtain ⟨e, y⟩ := y
  subst e y
  exact hs i σ _ hlt p
 ·have e : i = n := by lia
  subst e
  exact .inl ⟨Nat.le_refl _, hd σ H p⟩
end L2
namespace L2
open PySem PySem.Spec PyProof.Rows
noncomputable abbrev R2 := V → V → Hp → VK → Prop
noncomputable def OpR (X : Cx) (f : Value → Value → Sem Value) (r : R2) : Prop :=
 ∀ (pins : List (Addr × Obj)) (s : Shared) (σ : St) (H : Hp) (x y : V) (v u : Value) (Q : VK), Inv X pins σ H s → RelV x v → RelV y u → r x y H Q →
  wpAny (model X.prog X.w) X.A (f v u) (EP X pins σ Q) X.xe s
noncomputable def UnR (X : Cx) (f : Value → Sem Value) (r : V → Hp → VK → Prop) : Prop :=
 ∀ (pins : List (Addr × Obj)) (s : Shared) (σ : St) (H : Hp) (x : V) (v : Value) (Q : VK), Inv X pins σ H s → RelV x v → r x H Q →
  wpAny (model X.prog X.w) X.A (f v) (EP X pins σ Q) X.xe s
noncomputable def CallR (X : Cx) (f : Value) (r : List V → Hp → VK → Prop) : Prop :=
 ∀ (pins : List (Addr × Obj)) (s : Shared) (σ : St) (H : Hp) (xs : List V) (us : List Value) (Q : VK), Inv X pins σ H s → Vals xs us → r xs H Q →
  wpAny (model X.prog X.w) X.A (call f us) (EP X pins σ Q) X.xe s
noncomputable def tOp (r : R2) (ta tb : TE) : TE := fun σ H Q => ta σ H fun x H1 => tb σ H1 fun y H2 => r x y H2 Q
noncomputable def tUn (r : V → Hp → VK → Prop) (ta : TE) : TE := fun σ H Q => ta σ H fun x H1 => r x H1 Q
inductive rII (C : Int → Int → Prop) (g : Int → Int → V) (x : V) (y : V) (H : Hp) (Q : VK) : Prop
 | mk (i : _) (j : _) : (x = .int i) → (y = .int j) → (C i j) → (Q (g i j) H) → rII C g x y H Q
noncomputable def rI (C : Int → Int → Prop) (g : Int → Int → V) : R2 := fun x y H Q => rII C g x y H Q
inductive rI0I (g : Int → Int → V) (x : V) (y : V) (H : Hp) (Q : VK) : Prop
 | mk (i : _) (j : _) : (x = .int i) → (y = .int j) → (Q (g i j) H) → rI0I g x y H Q
noncomputable def rI0 (g : Int → Int → V) : R2 := fun x y H Q => rI0I g x y H Q
inductive rUI (g : Int → V) (x : V) (H : Hp) (Q : VK) : Prop
 | mk (i : _) : (x = .int i) → (Q (g i) H) → rUI g x H Q
noncomputable def rU (g : Int → V) : V → Hp → VK → Prop := fun x H Q => rUI g x H Q
section
variable {X : Cx} {a b c : Expr} {ta tb tc : TE} {pos : Pos}
theorem binT (ha : PE X a ta) (hb : PE X b tb) {pins : List (Addr × Obj)} {s : Shared} {σ : St} {H : Hp} {R : V → V → Hp → Prop} (I : Inv X pins σ H s)
  (h : ta σ H fun x H1 => tb σ H1 fun y H2 => R x y H2) {Q : Value → Shared → Prop} {f : Value → Value → Sem Value}
  (hf : ∀ v u s2 x y H2, Inv X pins σ H2 s2 → RelV x v → RelV y u → R x y H2 → wpAny (model X.prog X.w) X.A (f v u) Q X.xe s2) :
  wpAny (model X.prog X.w) X.A (eval a X.env) (fun v s₁ => wpAny (model X.prog X.w) X.A (eval b X.env) (fun u s₂ => wpAny (model X.prog X.w) X.A (f v u) Q X.xe s₂) X.xe s₁) X.xe s := by
 refine thn (ha pins s σ H _ I h) fun v s1 ⟨x, H1, I1, r1, q1⟩ => ?_
 refine thn (hb pins s1 σ H1 _ I1 q1) fun u s2 ⟨y, H2, I2, r2, q2⟩ => ?_
 exact hf v u s2 x y H2 I2 r1 r2 q2
theorem pe_op {op : Operator} {r : R2} (ho : OpR X (binaryOp op) r) (ha : PE X a ta) (hb : PE X b tb) : PE X (.BinOp a op b pos) (tOp r ta tb) := by
 intro pins s σ H Q I h
 exact wpAny_BinOp (binT ha hb I h fun v u s2 x y H2 I2 rx ry q => ho pins s2 σ H2 x y v u Q I2 rx ry q)
theorem pe_un {op : UnaryOp} {r : V → Hp → VK → Prop} (ho : UnR X (unaryOp op) r) (ha : PE X a ta) : PE X (.UnaryOp op a pos) (tUn r ta) := by
 intro pins s σ H Q I h
 exact UnaryOp_ (thn (ha pins s σ H _ I h) fun v s1 ⟨x, H1, I1, r1, q1⟩ => ho pins s1 σ H1 x v Q I1 r1 q1)
theorem opI {f : Value → Value → Sem Value} {C : Int → Int → Prop} {g : Int → Int → Int}
  (rule : ∀ (i j : Int) (t u : Tok) (s : Shared) (Q : Value → Shared → Prop) (E : Value → Shared → Prop), C i j → Q (.int (g i j) s.toks) { s with toks := s.toks + 1 } → wpAny (model X.prog X.w) X.A (f (.int i t) (.int j u)) Q E s) :
  OpR X f (rI C fun i j => .int (g i j)) := by
 intro pins s σ H x y v u Q I rx ry h
 obtain ⟨i, j, rfl, rfl, hc, q⟩ := h
 obtain ⟨t, rfl⟩ := rx
 obtain ⟨t', rfl⟩ := ry
 exact rule i j t t' s _ _ hc ⟨.int (g i j), H, I.tok _, ⟨_, rfl⟩, q⟩
theorem opI0 {f : Value → Value → Sem Value} {g : Int → Int → Int}
  (rule : ∀ (i j : Int) (t u : Tok) (s : Shared) (Q : Value → Shared → Prop) (E : Value → Shared → Prop), Q (.int (g i j) s.toks) { s with toks := s.toks + 1 } → wpAny (model X.prog X.w) X.A (f (.int i t) (.int j u)) Q E s) :
  OpR X f (rI0 fun i j => .int (g i j)) := by
 intro pins s σ H x y v u Q I rx ry h
 obtain ⟨i, j, rfl, rfl, q⟩ := h
 obtain ⟨t, rfl⟩ := rx
 obtain ⟨t', rfl⟩ := ry
 exact rule i j t t' s _ _ ⟨.int (g i j), H, I.tok _, ⟨_, rfl⟩, q⟩
theorem opB0 {f : Value → Value → Sem Value} {g : Int → Int → Bool}
  (rule : ∀ (i j : Int) (t u : Tok) (s : Shared) (Q : Value → Shared → Prop) (E : Value → Shared → Prop), Q (.bool (g i j)) s → wpAny (model X.prog X.w) X.A (f (.int i t) (.int j u)) Q E s) :
  OpR X f (rI0 fun i j => .bl (g i j)) := by
 intro pins s σ H x y v u Q I rx ry h
 obtain ⟨i, j, rfl, rfl, q⟩ := h
 obtain ⟨t, rfl⟩ := rx
 obtain ⟨t', rfl⟩ := ry
 exact rule i j t t' s _ _ ⟨.bl (g i j), H, I, rfl, q⟩
noncomputable def CMul (i j : Int) : Prop := (-(2 ^ 64) < i ∧ i < 2 ^ 64) ∨ (-(2 ^ 64) < j ∧ j < 2 ^ 64)
theorem CMul.ok {i j : Int} (h : CMul i j) : IntMulOk i j := by
 rcases h with ⟨h1, h2⟩ | ⟨h1, h2⟩
 ·exact .of_left (intBits_le_64 h1 h2)
 ·exact .of_right (intBits_le_64 h1 h2)
theorem op_add : OpR X (binaryOp .Add) (rI0 fun i j => .int (i + j)) := opI0 fun _ _ _ _ _ _ _ q => add_int q
theorem op_sub : OpR X (binaryOp .Sub) (rI0 fun i j => .int (i - j)) := opI0 fun _ _ _ _ _ _ _ q => sub_int q
theorem op_mul : OpR X (binaryOp .Mult) (rI CMul fun i j => .int (i * j)) := opI fun _ _ _ _ _ _ _ hc q => mul_int q hc.ok
theorem op_mod : OpR X (binaryOp .Mod) (rI (fun _ j => 0 < j) fun i j => .int (i % j)) := opI fun i j _ _ _ _ _ hc q => by
 have h1 : (0 : Int) < j := hc
 exact mod_int' (by lia) (by rw [Int.fmod_eq_emod_of_nonneg i (by lia)]; exact q)
theorem unI {f : Value → Sem Value} {g : Int → Int}
  (rule : ∀ (i : Int) (t : Tok) (s : Shared) (Q : Value → Shared → Prop) (E : Value → Shared → Prop), Q (.int (g i) s.toks) { s with toks := s.toks + 1 } → wpAny (model X.prog X.w) X.A (f (.int i t)) Q E s) :
  UnR X f (rU fun i => .int (g i)) := by
 intro pins s σ H x v Q I rx h
 obtain ⟨i, rfl, q⟩ := h
 obtain ⟨t, rfl⟩ := rx
 exact rule i t s _ _ ⟨.int (g i), H, I.tok _, ⟨_, rfl⟩, q⟩
theorem un_neg : UnR X (unaryOp .USub) (rU fun i => .int (-i)) := unI fun _ _ _ _ _ q => neg_int q
end
noncomputable def scal : V → V → Bool
 | .non, .non => true | .non, .int _ => true | .int _, .non => true | .non, .bl _ => true | .bl _, .non => true | .non, .str _ => true | .str _, .non => true
 | .int _, .int _ => true | .bl _, .bl _ => true | .str _, .str _ => true | .byt _, .byt _ => true
 | .int _, .str _ => true | .str _, .int _ => true | .bl _, .str _ => true | .str _, .bl _ => true
 | _, _ => false
noncomputable def rEq : R2 := fun x y H Q => scal x y = true ∧ Q (.bl (decide (x = y))) H
noncomputable def rNe : R2 := fun x y H Q => scal x y = true ∧ Q (.bl (!decide (x = y))) H
theorem dec_int {i j : Int} : decide (V.int i = V.int j) = (i == j) := by
 rw [Bool.eq_iff_iff]
 simp
theorem dec_bl {i j : Bool} : decide (V.bl i = V.bl j) = (i == j) := by
 rw [Bool.eq_iff_iff]
 simp
theorem dec_str {i j : Str} : decide (V.str i = V.str j) = (i == j) := by
 rw [Bool.eq_iff_iff]
 simp
theorem dec_byt {i j : Array UInt8} : decide (V.byt i = V.byt j) = (i.toList == j.toList) := by
 rw [Bool.eq_iff_iff]
 cases i
 cases j
 simp
section
variable {X : Cx} {a b c : Expr} {ta tb tc : TE} {pos : Pos}
theorem fin_bl {pins : List (Addr × Obj)} {σ : St} {H : Hp} {s : Shared} {Q : VK} {k k' : Bool} (I : Inv X pins σ H s) (q : Q (.bl k) H) (e : k = k') : EP X pins σ Q (.bool k') s := by
 subst e
 exact ⟨.bl k, H, I, rfl, q⟩
theorem op_eq : OpR X (compareOp .Eq) rEq := by
 intro pins s σ H x y v u Q I rx ry h
 obtain ⟨hs, q⟩ := h
 cases x with
 | non =>
  cases rx
  cases y with
  | non => cases ry; exact PySem.EqNone.eq_none_none (fin_bl I q (by simp))
  | bl j => cases ry; exact PySem.EqNone.eq_none_bool (fin_bl I q (by simp))
  | int j => obtain ⟨t', rfl⟩ := ry; exact PySem.EqNone.eq_none_int (fin_bl I q (by simp))
  | str j => obtain ⟨t', rfl⟩ := ry; exact PySem.EqNone.eq_none_str (fin_bl I q (by simp))
  | _ => exact absurd (show false = true from hs) Bool.false_ne_true
 | bl i =>
  cases rx
  cases y with
  | non => cases ry; exact PySem.EqNone.eq_bool_none (fin_bl I q (by simp))
  | bl j => cases ry; exact eq_bool (fin_bl I q dec_bl)
  | str j => obtain ⟨t', rfl⟩ := ry; exact PySem.EqMixed.eq_bool_str (fin_bl I q (by simp))
  | _ => exact absurd (show false = true from hs) Bool.false_ne_true
 | int i =>
  obtain ⟨t, rfl⟩ := rx
  cases y with
  | non => cases ry; exact PySem.EqNone.eq_int_none (fin_bl I q (by simp))
  | int j => obtain ⟨t', rfl⟩ := ry; exact eq_int (fin_bl I q dec_int)
  | str j => obtain ⟨t', rfl⟩ := ry; exact PySem.EqMixed.eq_int_str (fin_bl I q (by simp))
  | _ => exact absurd (show false = true from hs) Bool.false_ne_true
 | str i =>
  obtain ⟨t, rfl⟩ := rx
  cases y with
  | non => cases ry; exact PySem.EqNone.eq_str_none (fin_bl I q (by simp))
  | bl j => cases ry; exact PySem.EqMixed.eq_str_bool (fin_bl I q (by simp))
  | int j => obtain ⟨t', rfl⟩ := ry; exact PySem.EqMixed.eq_str_int (fin_bl I q (by simp))
  | str j => obtain ⟨t', rfl⟩ := ry; exact eq_str (fin_bl I q dec_str)
  | _ => exact absurd (show false = true from hs) Bool.false_ne_true
 | byt i =>
  obtain ⟨t, rfl⟩ := rx
  cases y with
  | byt j => obtain ⟨t', rfl⟩ := ry; exact PySem.W.eq_bytes (fin_bl I q dec_byt)
  | _ => exact absurd (show false = true from hs) Bool.false_ne_true
 | _ => cases y <;> exact absurd (show false = true from hs) Bool.false_ne_true
theorem op_ne : OpR X (compareOp .NotEq) rNe := by
 intro pins s σ H x y v u Q I rx ry h
 obtain ⟨hs, q⟩ := h
 cases x with
 | non =>
  cases rx
  cases y with
  | non => cases ry; exact PySem.EqNone.ne_none_none (fin_bl I q (by simp))
  | bl j => cases ry; exact PySem.EqNone.ne_none_bool (fin_bl I q (by simp))
  | int j => obtain ⟨t', rfl⟩ := ry; exact PySem.EqNone.ne_none_int (fin_bl I q (by simp))
  | str j => obtain ⟨t', rfl⟩ := ry; exact PySem.EqNone.ne_none_str (fin_bl I q (by simp))
  | _ => exact absurd (show false = true from hs) Bool.false_ne_true
 | bl i =>
  cases rx
  cases y with
  | non => cases ry; exact PySem.EqNone.ne_bool_none (fin_bl I q (by simp))
  | bl j => cases ry; exact ne_bool (fin_bl I q (congrArg not dec_bl))
  | str j => obtain ⟨t', rfl⟩ := ry; exact PySem.EqMixed.ne_bool_str (fin_bl I q (by simp))
  | _ => exact absurd (show false = true from hs) Bool.false_ne_true
 | int i =>
  obtain ⟨t, rfl⟩ := rx
  cases y with
  | non => cases ry; exact PySem.EqNone.ne_int_none (fin_bl I q (by simp))
  | int j => obtain ⟨t', rfl⟩ := ry; exact ne_int (fin_bl I q (congrArg not dec_int))
  | str j => obtain ⟨t', rfl⟩ := ry; exact PySem.EqMixed.ne_int_str (fin_bl I q (by simp))
  | _ => exact absurd (show false = true from hs) Bool.false_ne_true
 | str i =>
  obtain ⟨t, rfl⟩ := rx
  cases y with
  | non => cases ry; exact PySem.EqNone.ne_str_none (fin_bl I q (by simp))
  | bl j => cases ry; exact PySem.EqMixed.ne_str_bool (fin_bl I q (by simp))
  | int j => obtain ⟨t', rfl⟩ := ry; exact PySem.EqMixed.ne_str_int (fin_bl I q (by simp))
  | str j => obtain ⟨t', rfl⟩ := ry; exact ne_str (fin_bl I q (congrArg not dec_str))
  | _ => exact absurd (show false = true from hs) Bool.false_ne_true
 | byt i =>
  obtain ⟨t, rfl⟩ := rx
  cases y with
  | byt j => obtain ⟨t', rfl⟩ := ry; exact PySem.W.ne_bytes (fin_bl I q (congrArg not dec_byt))
  | _ => exact absurd (show false = true from hs) Bool.false_ne_true
 | _ => cases y <;> exact absurd (show false = true from hs) Bool.false_ne_true
theorem op_lt : OpR X (compareOp .Lt) (rI0 fun i j => .bl (decide (i < j))) := opB0 fun _ _ _ _ _ _ _ q => lt_int q
theorem op_le : OpR X (compareOp .LtE) (rI0 fun i j => .bl (decide (i ≤ j))) := opB0 fun _ _ _ _ _ _ _ q => le_int q
theorem op_gt : OpR X (compareOp .Gt) (rI0 fun i j => .bl (decide (j < i))) := opB0 fun _ _ _ _ _ _ _ q => gt_int q
theorem op_ge : OpR X (compareOp .GtE) (rI0 fun i j => .bl (decide (j ≤ i))) := opB0 fun _ _ _ _ _ _ _ q => ge_int q
theorem op_isN : OpR X (compareOp .Is) (fun x y H Q => y = .non ∧ Q (.bl (decide (x = .non))) H) := by
 intro pins s σ H x y v u Q I rx ry h
 obtain ⟨rfl, q⟩ := h
 cases ry
 refine is_none_gen (fin_bl I q ?_)
 cases x <;> first
  | (cases rx; rfl)
  | (obtain ⟨t, rfl⟩ := rx; rfl)
theorem op_notN : OpR X (compareOp .IsNot) (fun x y H Q => y = .non ∧ Q (.bl (!decide (x = .non))) H) := by
 intro pins s σ H x y v u Q I rx ry h
 obtain ⟨rfl, q⟩ := h
 cases ry
 refine isnot_none_gen (fin_bl I q ?_)
 cases x <;> first
  | (cases rx; rfl)
  | (obtain ⟨t, rfl⟩ := rx; rfl)
theorem nomark (b : Expr) {op : CmpOp} (h : op ≠ .In := by decide) (h2 : op ≠ .NotIn := by decide) : behindInMarks op b = false := by
 have e1 : (op == CmpOp.In) = false := by cases op <;> first | rfl | exact absurd rfl h
 have e2 : (op == CmpOp.NotIn) = false := by cases op <;> first | rfl | exact absurd rfl h2
 cases b <;> simp [behindInMarks, e1, e2]
theorem pe_cmpR {op : CmpOp} {r : R2} (ho : OpR X (compareOp op) r) (ha : PE X a ta) (hb : PE X b tb) (hm : behindInMarks op b = false) : PE X (.Compare a [op] [b] pos) (tOp r ta tb) := by
 intro pins s σ H Q I h
 exact wpAny_Compare1 (binT ha hb I h fun v u s2 x y H2 I2 rx ry q => ho pins s2 σ H2 x y v u Q I2 rx ry q) hm
inductive tTestI (Q : Bool → Hp → Prop) (x : V) (H' : Hp) : Prop
 | mk (k : _) : (x = .bl k) → (Q k H') → tTestI Q x H'
noncomputable def tTest (t : TE) : TT := fun σ H Q => t σ H fun x H' => tTestI Q x H'
theorem pt_cmpR {op : CmpOp} {r : R2} (ho : OpR X (compareOp op) r) (ha : PE X a ta) (hb : PE X b tb) (hm : behindInMarks op b = false) : PT X (.Compare a [op] [b] pos) (tTest (tOp r ta tb)) := by
 intro pins s σ H Q I h
 refine wpAny_isTrue_Compare1 (thn (ha pins s σ H _ I h) fun v s1 ⟨x, H1, I1, r1, q1⟩ => thn (hb pins s1 σ H1 _ I1 q1) fun u s2 ⟨y, H2, I2, r2, q2⟩ =>
  thn (ho pins s2 σ H2 x y v u _ I2 r1 r2 q2) fun c s3 ⟨z, H3, I3, r3, k, e, q3⟩ => ?_) hm
 subst e
 cases r3
 exact wpAny_truthy_bool ⟨H3, I3, q3⟩
theorem line63 : (sizeLine : Nat) < 2 ^ 63 := by rw [sizeLine_eq]; decide
theorem op_add_str : OpR X (binaryOp .Add) (fun x y H Q => ∃ i j, x = .str i ∧ y = .str j ∧ i.length + j.length ≤ sizeLine ∧ Q (.str (i ++ j)) H) := by
 intro pins s σ H x y v u Q I rx ry h
 obtain ⟨i, j, rfl, rfl, hz, q⟩ := h
 obtain ⟨t, rfl⟩ := rx
 obtain ⟨t', rfl⟩ := ry
 exact add_str (fun t' tk => ⟨.str (i ++ j), H, I.tok _, ⟨_, rfl⟩, q⟩) hz
theorem vals1 {x : V} {us : List Value} (r : Vals [x] us) : ∃ u, us = [u] ∧ RelV x u := by
 cases r with
 | cons r1 r2 => cases r2; exact ⟨_, rfl, r1⟩
theorem vals2 {x y : V} {us : List Value} (r : Vals [x, y] us) : ∃ u w', us = [u, w'] ∧ RelV x u ∧ RelV y w' := by
 cases r with
 | cons r1 r2 =>
  cases r2 with
  | cons r3 r4 => cases r4; exact ⟨_, _, rfl, r1, r3⟩
end
end L2
namespace L2
open PySem PySem.Spec PyProof.Rows
structure ObjM (h : Heap) (x dx C : Addr) (mA : Str → Option Value) : Prop where
 obj : h.get? x = some (PySem.W.instObj C dx)
 ns : h.Ns1 dx mA
 ne : dx ≠ x
theorem lookIn_ns {h : Heap} {dx : Addr} {mA : Str → Option Value} (n : h.Ns1 dx mA) : ∃ od, h.get? dx = some od ∧ ∀ name, PySem.W.lookIn name od = some (mA name) := by
 obtain ⟨o, es, ep, ho, hd, hk, _, hm⟩ := n
 refine ⟨o, ho, fun name => ?_⟩
 have e := hm name
 unfold nsFind findBy at e
 rw [← Array.find?_toList] at e
 unfold PySem.W.lookIn
 rw [hd]
 dsimp only
 split
 ·rename_i y q
  rw [q] at e
  exact congrArg some e
 ·rename_i q
  rw [q] at e
  have a : es.toList.any (·.refKey) = false := by
   rw [List.any_eq_false]
   intro y hy
   obtain ⟨z, t, hkey⟩ := hk y (Array.mem_toList_iff.mp hy)
   simp [DictEntry.refKey, hkey]
  have a' : ¬ es.toList.any (·.refKey) = true := by rw [a]; exact Bool.false_ne_true
  rw [if_neg a']
  exact congrArg some e
theorem ObjM.look {h : Heap} {x dx C : Addr} {mA : Str → Option Value} (I : ObjM h x dx C mA) : ∃ od, PySem.W.InstAt h x (PySem.W.instObj C dx) C (some od) ∧ ∀ name, PySem.W.lookIn name od = some (mA name) :=
 let ⟨od, ho, hl⟩ := lookIn_ns I.ns
 ⟨od, ⟨I.obj, rfl, rfl, ho⟩, hl⟩
section
variable {prog : Program} {w : World} {A : Around} {E : Value → Shared → Prop} {s : Shared} {K : PySem.W.Frag} {x dx C f : Addr} {mA : Str → Option Value} {name : Str} {v : Value}
theorem get_map {expr : Bool} {Q : Value → Shared → Prop} (X : K.In s.heap) (I : ObjM s.heap x dx C mA) (hg : PySem.W.plainGet K C name = true) (hh : PySem.W.hasDictIn K C = true)
  (ha : PySem.W.findIn K (.ref C) name = some none) (hv : mA name = some v) (hv' : PySem.W.handedIn v = true) (h : Q v { s with toks := s.toks + 1 }) :
  wpAny (model prog w) A (getAttr (.ref x) name expr) Q E s := by
 obtain ⟨od, J, hl⟩ := I.look
 exact PySem.W.get_value X J (PySem.W.plainGet_of hg).1 (PySem.W.findObj_own hh ha rfl (by rw [hl, hv])) hv' h
theorem get_meth {pl : Sem Bool} {Q : Value × List Value → Shared → Prop} (X : K.In s.heap) (I : ObjM s.heap x dx C mA) (hg : PySem.W.plainGet K C name = true)
  (hf : PySem.W.findIn K (.ref C) name = some (some (.ref f))) (ht : PySem.W.isFn K (.ref f) = true) (hv : mA name = none) (h : Q (.ref f, [.ref x]) s) :
  wpAny (model prog w) A (getMethod (.ref x) name pl) Q E s := by
 obtain ⟨od, J, hl⟩ := I.look
 exact PySem.W.method_fn X J (PySem.W.plainGet_of hg).1 (PySem.W.plainGet_of hg).2 hf (beq_iff_eq.mp ht) (by show (PySem.W.lookIn name od).map (·.isSome) = some false; rw [hl, hv]; rfl) h
theorem set_map {ns : List Str} {Q : Unit → Shared → Prop} (X : K.In s.heap) (I : ObjM s.heap x dx C mA)
  (hs : PySem.W.findIn K (.ref C) "__setattr__" = some (some (.builtin "object.__setattr__"))) (hp : PySem.W.plainOver K C = true) (ht : PySem.W.takerIn K C name = some none) (hh : PySem.W.hasDictIn K C = true)
  (hw : PySem.Within mA ns) (hsz : ns.length ≤ sizeLine)
  (h : ∀ h', ObjM h' x dx C (fun y => if y = name then some v else mA y) → Heap.SameBut dx s.heap h' → Q () { s with heap := h', toks := s.toks + 2 }) :
  wpAny (model prog w) A (setAttr (.ref x) name v) Q E s := by
 obtain ⟨od, J, hl⟩ := I.look
 refine PySem.W.set_plain X J hs (PySem.W.osa_open (s := { s with toks := s.toks + 1 }) (r := none) X J hp ht fun b => ?_)
 obtain ⟨cd, hc, hd'⟩ := PySem.W.any_some hh
 have hx : s.heap.get? x = some ⟨.ref C, some dx, .plain, #[]⟩ := I.obj
 refine wpAny_bind (wpAny_pure (wpAny_bind (wpAny_bind (wpAny_loadPart hx (wpAny_bind (PySem.W.Looks.here (s := { s with toks := s.toks + 1 }) (PySem.W.looks_clsIn X hc) ?_))))))
 rw [hd']
 refine wpAny_pure (a := some dx) (wpAny_bind (wpAny_pure (wpAny_bind ?_)))
 refine wpAny_nsSet1 (s := { s with toks := s.toks + 1 }) I.ns fun h' hn2 hs2 => ?_
 obtain ⟨oD, esD, epD, hoD, hdD, hcD⟩ := hn2.count (PySem.Within.cons name v hw)
 refine wpAny_bind (wpAny_lookBehind hoD (by rw [hdD]; exact pastItsLine_dict (Nat.le_trans hcD (by rw [List.length_cons]; lia))) ?_)
 exact wpAny_pure (h _ ⟨(hs2.2 _ (Ne.symm I.ne)).trans I.obj, hn2, I.ne⟩ hs2)
theorem make_map {R : Result → Shared → Prop} {vs : List Value} {kw : List (Str × Value)} (X : K.In s.heap) (hm : PySem.W.makesIn K C = true)
  (hi : PySem.W.findIn K (.ref C) "__init__" = some (some (.ref f))) (hf : PySem.W.typeIn K (.ref f) = some (.type "function"))
  (h : codeAny (model prog w) (A.under (.builtin "type.__call__" ⟨.ref C :: vs, kw⟩)) (.call (.ref f) ⟨.ref (s.heap.objs.size + 1) :: vs, kw⟩) (PySem.W.InitBack (s.heap.objs.size + 1) R)
   { s with heap := (s.heap.push PySem.W.emptyDict).push (PySem.W.instObj C s.heap.objs.size) }) :
  codeAny (model prog w) A (.call (.ref C) ⟨vs, kw⟩) R s := by
 obtain ⟨hh, g, d, t, os⟩ := s
 exact PySem.W.make_core (PySem.W.makes_of X hm) (PySem.W.looks_findIn X hi) (fun self => PySem.W.bind_fn X self hf) (.inl rfl) h
end
noncomputable def putF (f : Str) (v : V) : List (Str × V) → List (Str × V)
 | [] => [(f, v)]
 | (g, x) :: r => if g = f then (g, v) :: r else (g, x) :: putF f v r
theorem lookup_putF (f g : Str) (v : V) : ∀ fs : List (Str × V), (putF f v fs).lookup g = if g = f then some v else fs.lookup g
 | [] => by
  show List.lookup g [(f, v)] = _
  by_cases h : g = f
  ·have hb : (g == f) = true := beq_iff_eq.mpr h
   simp only [List.lookup, hb, if_pos h]
  ·have hb : (g == f) = false := beq_eq_false_iff_ne.mpr h
   simp only [List.lookup, hb, if_neg h]
 | (k, x) :: r => by
  have ih := lookup_putF f g v r
  rw [show putF f v ((k, x) :: r) = (if k = f then (k, v) :: r else (k, x) :: putF f v r) from rfl]
  by_cases hk : k = f
  ·rw [if_pos hk]
   by_cases h : g = k
   ·have hb : (g == k) = true := beq_iff_eq.mpr h
    simp only [List.lookup, hb, if_pos (h.trans hk)]
   ·have hb : (g == k) = false := beq_eq_false_iff_ne.mpr h
    simp only [List.lookup, hb, if_neg (fun e : g = f => h (e.trans hk.symm))]
  ·rw [if_neg hk]
   by_cases h : g = k
   ·have hb : (g == k) = true := beq_iff_eq.mpr h
    simp only [List.lookup, hb, if_neg (fun e : g = f => hk (h.symm.trans e))]
   ·have hb : (g == k) = false := beq_eq_false_iff_ne.mpr h
    simp only [List.lookup, hb]
    exact ih
theorem keys_putF (f : Str) (v : V) : ∀ fs : List (Str × V), f ∈ (putF f v fs).map (·.1) ∧ ∀ g, g ∈ fs.map (·.1) → g ∈ (putF f v fs).map (·.1)
 | [] => ⟨by simp [putF], fun g h => by simp at h⟩
 | (k, x) :: r => by
  obtain ⟨i1, i2⟩ := keys_putF f v r
  rw [show putF f v ((k, x) :: r) = (if k = f then (k, v) :: r else (k, x) :: putF f v r) from rfl]
  by_cases hk : k = f
  ·rw [if_pos hk]
   subst hk
   exact ⟨by simp, fun g h => by simpa using h⟩
  ·rw [if_neg hk]
   refine ⟨?_, fun g h => ?_⟩
   ·rw [List.map_cons]
    exact List.mem_cons_of_mem _ i1
   ·rw [List.map_cons] at h ⊢
    rcases List.mem_cons.mp h with e | e
    ·exact List.mem_cons.mpr (.inl e)
    ·exact List.mem_cons_of_mem _ (i2 g e)
theorem length_putF (f : Str) (v : V) : ∀ fs : List (Str × V), (putF f v fs).length ≤ fs.length + 1
 | [] => by simp [putF]
 | (k, x) :: r => by
  have ih := length_putF f v r
  rw [show putF f v ((k, x) :: r) = (if k = f then (k, v) :: r else (k, x) :: putF f v r) from rfl]
  by_cases hk : k = f
  ·rw [if_pos hk, List.length_cons, List.length_cons]; lia
  ·rw [if_neg hk, List.length_cons, List.length_cons]; lia
theorem RelO.some_of {v : V} {o : Option Value} (r : RelO (some v) o) : ∃ u, o = some u ∧ RelV v u := by
 cases o with
 | none => exact (show False from r).elim
 | some u => exact ⟨u, rfl, r⟩
theorem RelO.none_of {o : Option Value} (r : RelO none o) : o = none := by
 cases o with
 | none => rfl
 | some u => exact (show False from r).elim
theorem handed_of {v : V} {u : Value} (r : RelV v u) : PySem.W.handedIn u = true := by
 cases v with
 | non => cases (show u = Value.none from r); rfl
 | bl b => cases (show u = Value.bool b from r); rfl
 | int i => obtain ⟨t, e⟩ := (show ∃ t, u = Value.int i t from r); cases e; rfl
 | str x => obtain ⟨t, e⟩ := (show ∃ t, u = Value.str x t from r); cases e; rfl
 | byt b => obtain ⟨t, e⟩ := (show ∃ t, u = Value.bytes b t from r); cases e; rfl
 | flt b => obtain ⟨t, e⟩ := (show ∃ t, u = Value.float b t from r); cases e; rfl
 | ref a => cases (show u = Value.ref a from r); rfl
 | ty n => cases (show u = Value.type n from r); rfl
section
variable {P : Program} {w : World} {H H' : Hp} {h h' : Heap} {a C dx : Addr} {fs fs' : List (Str × V)}
theorem ins_get (hok : HOk P w H h) (e : H a = some (.ins C dx fs)) : ∃ mA, ObjM h a dx C mA ∧ (∀ f, RelO (fs.lookup f) (mA f)) ∧ PySem.Within mA (fs.map (·.1)) ∧ fs.length ≤ 1000 ∧ H dx = some (.own a) := by
 obtain ⟨d, z, ne, ob, mA, n, r, q⟩ := (show ObjOk P w H h a (.ins C dx fs) from hok a _ e)
 exact ⟨mA, ⟨ob, n, ne⟩, r, q, z, d⟩
end
structure Cls (K : PySem.W.Frag) (C : Addr) : Prop where
 pg : PySem.W.plainGet K C Str.empty = true
 hd : PySem.W.hasDictIn K C = true
 po : PySem.W.plainOver K C = true
 sa : PySem.W.findIn K (.ref C) "__setattr__" = some (some (.builtin "object.__setattr__"))
theorem Cls.get {K : PySem.W.Frag} {C : Addr} (c : Cls K C) (f : Str) : PySem.W.plainGet K C f = true := c.pg
noncomputable def NoAttr (K : PySem.W.Frag) (C : Addr) (f : Str) : Prop := PySem.W.findIn K (.ref C) f = some none
theorem NoAttr.taker {K : PySem.W.Frag} {C : Addr} {f : Str} (n : NoAttr K C f) : PySem.W.takerIn K C f = some none := by
 unfold PySem.W.takerIn
 rw [show PySem.W.findIn K (.ref C) f = some none from n]
 rfl
structure Meth (K : PySem.W.Frag) (C : Addr) (m : Str) (f : Addr) : Prop where
 at_ : PySem.W.findIn K (.ref C) m = some (some (.ref f))
 fn : PySem.W.isFn K (.ref f) = true
 kp : PySem.W.keepIn K (.ref f) = true
section
variable {X : Cx} {pins : List (Addr × Obj)} {σ : St} {H : Hp} {s : Shared} {a C dx : Addr} {fs : List (Str × V)} {f : Str} {v : V} {A : Around} {E : Value → Shared → Prop}
theorem getattr_ok {b : Bool} {Q : Value → Shared → Prop} (I : Inv X pins σ H s) (e : H a = some (.ins C dx fs)) (c : Cls X.K C) (n : NoAttr X.K C f) (l : fs.lookup f = some v)
  (h : ∀ u s', Inv X pins σ H s' → RelV v u → Q u s') : wpAny (model X.prog X.w) A (getAttr (.ref a) f b) Q E s := by
 obtain ⟨mA, O, r, _, _, _⟩ := ins_get I.hok e
 obtain ⟨u, hu, ru⟩ := RelO.some_of (v := v) (o := mA f) (by rw [← l]; exact r f)
 exact get_map I.kIn O (c.get f) c.hd n hu (handed_of ru) (h u _ (I.tok _) ru)
theorem getmeth_ok {m : Str} {g : Addr} {pl : Sem Bool} {Q : Value × List Value → Shared → Prop} (I : Inv X pins σ H s) (e : H a = some (.ins C dx fs)) (c : Cls X.K C) (k : Meth X.K C m g) (l : fs.lookup m = none)
  (h : Q (.ref g, [.ref a]) s) : wpAny (model X.prog X.w) A (getMethod (.ref a) m pl) Q E s := by
 obtain ⟨mA, O, r, _, _, _⟩ := ins_get I.hok e
 have hn : mA m = none := RelO.none_of (by rw [← l]; exact r m)
 exact get_meth I.kIn O (c.get m) k.at_ k.fn hn h
theorem setattr_ok {y : V} {u : Value} {Q : Unit → Shared → Prop} (I : Inv X pins σ H s) (e : H a = some (.ins C dx fs)) (c : Cls X.K C) (n : NoAttr X.K C f) (hl : fs.length < 1000) (ry : RelV y u)
  (h : ∀ s', Inv X pins σ (upd H a (.ins C dx (putF f y fs))) s' → Q () s') : wpAny (model X.prog X.w) A (setAttr (.ref a) f u) Q E s := by
 obtain ⟨mA, O, r, wi, _, ho⟩ := ins_get I.hok e
 have hz : (fs.map (·.1)).length ≤ sizeLine := by rw [List.length_map, sizeLine_eq]; lia
 refine set_map I.kIn O c.sa c.po n.taker c.hd wi hz fun h' O' sb => h _ ?_
 have hd : ∃ o, h'.get? dx = some o := let ⟨o, _, _, e', _⟩ := O'.ns; ⟨o, e'⟩
 refine I.write (x := a) (e := dx) (by rw [e]; exact True.intro) (.inr ho) (fun b q hb z => (sb.2 b hb).trans z) hd ?_
 refine ⟨by rw [upd_ne O.ne]; exact ho, ?_, O.ne, O'.obj, _, O'.ns, fun g => ?_, fun g hg => ?_⟩
 ·have := length_putF f y fs; lia
 ·show RelO ((putF f y fs).lookup g) (if g = f then some u else mA g)
  rw [lookup_putF]
  by_cases q : g = f
  ·rw [if_pos q, if_pos q]; exact ry
  ·rw [if_neg q, if_neg q]; exact r g
 ·by_cases q : g = f
  ·rw [q]; exact (keys_putF f y fs).1
  ·refine (keys_putF f y fs).2 g (wi g fun z => hg ?_)
   show (if g = f then some u else mA g) = none
   rw [if_neg q]; exact z
theorem Inv.made (I : Inv X pins σ H s) : Inv X pins σ (upd (upd H s.heap.objs.size (.own (s.heap.objs.size + 1))) (s.heap.objs.size + 1) (.ins C s.heap.objs.size []))
  { s with heap := (s.heap.push PySem.W.emptyDict).push (PySem.W.instObj C s.heap.objs.size) } := by
 have e1 : (s.heap.push PySem.W.emptyDict).get? s.heap.objs.size = some PySem.W.emptyDict := Heap.get?_push_size s.heap rfl
 have e2 : ((s.heap.push PySem.W.emptyDict).push (PySem.W.instObj C s.heap.objs.size)).get? (s.heap.objs.size + 1) = some (PySem.W.instObj C s.heap.objs.size) := by
  have := Heap.get?_push_size (s.heap.push PySem.W.emptyDict) (o := PySem.W.instObj C s.heap.objs.size) rfl
  rwa [Heap.size_push] at this
 have e3 : (s.heap.push PySem.W.emptyDict).Ns s.heap.objs.size (fun _ => none) := ⟨PySem.W.emptyDict, #[], _, e1, rfl, (fun e he => absurd he (by simp)), fun _ => rfl⟩
 have I1 := I.laid (a := s.heap.objs.size) (o := .own (s.heap.objs.size + 1)) (h' := s.heap.push PySem.W.emptyDict) (t' := s.toks) (fun b u q => Heap.get?_push_of_some _ q) (Nat.le_refl _) ⟨_, e1⟩
 refine I1.laid (a := s.heap.objs.size + 1) (o := .ins C s.heap.objs.size []) (t' := s.toks) (fun b u q => Heap.get?_push_of_some _ q) (Nat.le_of_eq (Heap.size_push _ _)) ?_
 have ne : s.heap.objs.size ≠ s.heap.objs.size + 1 := Nat.ne_of_lt (Nat.lt_succ_self _)
 refine ⟨by rw [upd_ne ne, upd_same], Nat.zero_le _, ne, e2, fun _ => none, (Heap.Ns1.of_empty e3).at fun o q => Heap.get?_push_of_some _ q, fun _ => True.intro, fun y hy => absurd rfl hy⟩
theorem attr_of {prog : Program} {w : World} {env : Env} {e : Expr} {f : Str} {pos : Pos} {s : Shared} {Q : Value → Shared → Prop} (hb : attributeBase e f env (eval e env) = eval e env)
  (h : wpAny (model prog w) A (eval e env) (fun o s₁ => wpAny (model prog w) A (getAttr o f true) Q E s₁) E s) : wpAny (model prog w) A (eval (.Attribute e f pos) env) Q E s :=
 Attribute_any_ h (by rw [arm_eval_Attribute, hb])
end
inductive tFldI (K : PySem.W.Frag) (f : Str) (Q : VK) (x : V) (H1 : Hp) : Prop
 | mk (a : _) (C : _) (dx : _) (fs : _) (v : _) : (x = .ref a) → (H1 a = some (.ins C dx fs)) → (Cls K C) → (NoAttr K C f) → (fs.lookup f = some v) → (Q v H1) → tFldI K f Q x H1
noncomputable def tFld (K : PySem.W.Frag) (ta : TE) (f : Str) : TE := fun σ H Q => ta σ H fun x H1 => tFldI K f Q x H1
inductive sFldI (K : PySem.W.Frag) (f : Str) (D : Ends) (σ : St) (y : V) (x : V) (H2 : Hp) : Prop
 | mk (a : _) (C : _) (dx : _) (fs : _) : (x = .ref a) → (H2 a = some (.ins C dx fs)) → (Cls K C) → (NoAttr K C f) → (fs.length < 1000) → (D.nx σ (upd H2 a (.ins C dx (putF f y fs)))) → sFldI K f D σ y x H2
noncomputable def sFld (K : PySem.W.Frag) (ta tv : TE) (f : Str) : TS := fun D σ H => tv σ H fun y H1 => ta σ H1 fun x H2 => sFldI K f D σ y x H2
section
variable {X : Cx} {o e value : Expr} {f : Str} {pos pos' tpos : Pos} {ta tv : TE}
theorem pe_fld (he : PE X e ta) (hb : attributeBase e f X.env (eval e X.env) = eval e X.env) : PE X (.Attribute e f pos) (tFld X.K ta f) := by
 intro pins s σ H Q I h
 refine attr_of hb (thn (he pins s σ H _ I h) fun u s1 ⟨x, H1, I1, rx, a, C, dx, fs, v, ex, ea, c, n, l, q⟩ => ?_)
 subst ex
 obtain rfl : u = Value.ref a := rx
 exact getattr_ok I1 ea c n l fun u' s2 I2 ru => ⟨v, H1, I2, ru, q⟩
theorem ps_fld (ha : PE X o ta) (hv : PE X value tv) (hs : swapsWith value (some (.Attribute o f pos')) pos.line X.env = pure false) : PS X (.Assign [.Attribute o f pos'] value pos) (sFld X.K ta tv f) := by
 intro pins s σ H D I h
 refine plainObj_wpAny_Assign_Attribute (thn (hv pins s σ H _ I h) fun u s1 ⟨y, H1, I1, ry, q⟩ => thn (ha pins s1 σ H1 _ I1 q) fun ov s2 ⟨x, H2, I2, rx, a, C, dx, fs, ex, ea, c, n, l, q2⟩ => ?_) hs
 subst ex
 obtain rfl : ov = Value.ref a := rx
 exact setattr_ok I2 ea c n l ry fun s3 I3 => ⟨σ, _, I3, q2⟩
end
section
variable {X : Cx} {pins : List (Addr × Obj)} {σ : St} {H : Hp} {s : Shared} {A : Around} {E : Value → Shared → Prop} {Q : Value → Shared → Prop} {c : Value} {b : Bool}
inductive TyOf (K : PySem.W.Frag) (H : Hp) : V → Value → Prop where
 | non : TyOf K H .non (.type "NoneType")
 | bl (x : Bool) : TyOf K H (.bl x) (.type "bool")
 | int (i : Int) : TyOf K H (.int i) (.type "int")
 | str (x : Str) : TyOf K H (.str x) (.type "str")
 | flt (x : UInt64) : TyOf K H (.flt x) (.type "float")
 | lst {a : Addr} {xs : List V} (e : H a = some (.lst xs)) : TyOf K H (.ref a) (.type "list")
 | frz {a : Addr} {o : Obj} {xs : List V} (e : H a = some (.frz o (.lst xs))) : TyOf K H (.ref a) (.type "list")
 | tup {a : Addr} {xs : List V} (e : H a = some (.tup xs)) : TyOf K H (.ref a) (.type "tuple")
 | dK {a : Addr} {kvs : List (Key × V)} (e : H a = some (.dK kvs)) : TyOf K H (.ref a) (.type "dict")
 | dT {a : Addr} {kvs : List (List Key × V)} (e : H a = some (.dT kvs)) : TyOf K H (.ref a) (.type "dict")
 | ins {a C dx : Addr} {fs : List (Str × V)} (e : H a = some (.ins C dx fs)) (cl : Cls K C) (ha : PySem.W.findIn K (.ref C) "__class__" = some (some (.builtin "object.__class__")))
   (hn : PySem.W.specialIn K (.builtin "object.__class__") "__get__" = some (some (.builtin "getset_descriptor.__get__"))) (htk : PySem.W.takesIn K (.builtin "object.__class__") = some true)
   (hm : PySem.W.mroIn K C (.type "object") = some true) : TyOf K H (.ref a) (.ref C)
theorem isinst_ok {x : V} {u t : Value} (I : Inv X pins σ H s) (rx : RelV x u) (ty : TyOf X.K H x t) (e : PySem.W.kitOne X.K t c = some b) (h : ∀ tk, Q (.bool b) { s with toks := tk }) :
  wpAny (model X.prog X.w) A (call (.builtin "isinstance") [u, c]) Q E s := by
 cases ty with
 | non => cases (show u = Value.none from rx); exact PySem.W.kia_one PySem.W.kitx_none I.kIn True.intro e (fun z => nomatch z) h
 | bl y => cases (show u = Value.bool y from rx); exact PySem.W.kia_one PySem.W.kitx_bool I.kIn True.intro e (fun z => nomatch z) h
 | int i => obtain ⟨t, q⟩ := (show ∃ t, u = Value.int i t from rx); cases q; exact PySem.W.kia_one PySem.W.kitx_int I.kIn True.intro e (fun z => nomatch z) h
 | str y => obtain ⟨t, q⟩ := (show ∃ t, u = Value.str y t from rx); cases q; exact PySem.W.kia_one PySem.W.kitx_str I.kIn True.intro e (fun z => nomatch z) h
 | flt y => obtain ⟨t, q⟩ := (show ∃ t, u = Value.float y t from rx); cases q; exact PySem.W.kia_one PySem.W.kitx_float I.kIn True.intro e (fun z => nomatch z) h
 | @lst a xs ea =>
  cases (show u = Value.ref a from rx)
  obtain ⟨_, _, n, _, h1⟩ := (show ObjOk X.prog X.w H s.heap a (.lst xs) from I.hok a _ ea)
  exact PySem.W.kia_one PySem.W.kitx_list I.kIn ⟨_, h1, rfl⟩ e (fun z => nomatch z) h
 | @frz a ob xs ea =>
  cases (show u = Value.ref a from rx)
  obtain ⟨_, _, _, n, _, h1⟩ := (show ObjOk X.prog X.w H s.heap a (.frz ob (.lst xs)) from I.hok a _ ea)
  exact PySem.W.kia_one PySem.W.kitx_list I.kIn ⟨_, h1, rfl⟩ e (fun z => nomatch z) h
 | @tup a xs ea =>
  cases (show u = Value.ref a from rx)
  obtain ⟨_, _, _, p⟩ := (show ObjOk X.prog X.w H s.heap a (.tup xs) from I.hok a _ ea)
  obtain ⟨o, h1, h2, _⟩ := p
  exact PySem.W.kia_one PySem.W.kitx_tuple I.kIn ⟨o, h1, h2⟩ e (fun z => nomatch z) h
 | @dK a kvs ea =>
  cases (show u = Value.ref a from rx)
  obtain ⟨_, _, vs, _, p⟩ := (show ObjOk X.prog X.w H s.heap a (.dK kvs) from I.hok a _ ea)
  obtain ⟨o, es, ep, h1, h2, _⟩ := p
  exact PySem.W.kia_one PySem.W.kitx_dict I.kIn ⟨o, h1, h2.1⟩ e (fun z => nomatch z) h
 | @dT a kvs ea =>
  cases (show u = Value.ref a from rx)
  obtain ⟨_, _, xs, _, o, es, ep, h1, h2, _⟩ := (show ObjOk X.prog X.w H s.heap a (.dT kvs) from I.hok a _ ea)
  exact PySem.W.kia_one PySem.W.kitx_dict I.kIn ⟨o, h1, h2.1⟩ e (fun z => nomatch z) h
 | @ins a C dx fs ea cl ha hn htk hm =>
  cases (show u = Value.ref a from rx)
  obtain ⟨mA, O, _⟩ := ins_get I.hok ea
  obtain ⟨od, J, _⟩ := O.look
  exact PySem.W.kia_one (PySem.W.kitx_own (cl.get _) cl.hd ha hn htk hm) I.kIn J e (fun z => nomatch z) h
end
end L2
namespace L2
open PySem PySem.Spec PyProof.Rows
structure Room (k : Nat) (A : Around) : Prop where
 hd : A.handled = none
 dp : A.depth + 3 * k + 5 < recursionLimit
 un : A.units + 16 * k + 200 < cLine
theorem Room.mono {j k : Nat} {A : Around} (r : Room k A) (h : j ≤ k) : Room j A := ⟨r.hd, by have := r.dp; lia, by have := r.un; lia⟩
theorem Room.deeper {k : Nat} {A : Around} (r : Room (k + 1) A) (env : Env) : Room k (A.deeper env) :=
 ⟨r.hd, by have := r.dp; show A.depth + 1 + 3 * k + 5 < _; lia, by have := r.un; show A.units + 3 + 16 * k + 200 < _; lia⟩
theorem Room.in1 {k : Nat} {A : Around} (r : Room (k + 1) A) : Room k A.in1 :=
 ⟨r.hd, by have := r.dp; show A.depth + 3 * k + 5 < _; lia, by have := r.un; show A.units + 1 + 16 * k + 200 < _; lia⟩
theorem make_depth {A : Around} {C : Addr} {us : List Value} {kw : List (Str × Value)} : (A.under (.builtin "type.__call__" ⟨.ref C :: us, kw⟩)).depth = A.depth + 1 := by
 first | rfl | simp [Around.under, Code.weight, Code.isCreation, Code.isGuard, Code.isCaller, Code.frames, Code.isFrame, guardIds]
theorem make_units {A : Around} {C : Addr} {us : List Value} {kw : List (Str × Value)} : (A.under (.builtin "type.__call__" ⟨.ref C :: us, kw⟩)).units = A.units + 1 := by
 first | rfl | simp [Around.under, Code.cUnits, Code.frames, Code.isFrame]
theorem Room.make {k : Nat} {A : Around} (r : Room (k + 1) A) (C : Addr) (us : List Value) (kw : List (Str × Value)) : Room k (A.under (.builtin "type.__call__" ⟨.ref C :: us, kw⟩)) :=
 ⟨r.hd, by have := r.dp; rw [make_depth]; lia, by have := r.un; rw [make_units]; lia⟩
theorem Room.depth {k : Nat} {A : Around} (r : Room k A) : A.depth < recursionLimit := by have := r.dp; lia
theorem Room.units {k : Nat} {A : Around} (r : Room k A) : A.units + 64 < cLine := by have := r.un; lia
noncomputable def tNil : TA := fun _ H Q => Q [] H
noncomputable def tCons (ta : TE) (tr : TA) : TA := fun σ H Q => ta σ H fun x H1 => tr σ H1 fun xs H2 => Q (x :: xs) H2
section
variable {X : Cx} {e : Expr} {es : List Expr} {te : TE} {t : TA} {pos : Pos}
theorem pa_nil : PA X [] tNil := fun _ _ _ _ H Q I h => Calls.spliced_nil ⟨[], H, I, .nil, h⟩
theorem pa_cons (ha : PE X e te) (hr : PA X es t) (hs : starEach (e :: es) X.env = (false, eval e X.env) :: starEach es X.env := by rfl) : PA X (e :: es) (tCons te t) := by
 intro pos pins s σ H Q I h
 rw [hs]
 show wpAny _ _ (spliced ((false, eval e X.env) :: backTo pos (starEach es X.env))) _ _ s
 refine Calls.spliced_cons (thn (ha pins s σ H _ I h) fun u s1 ⟨x, H1, I1, r1, q1⟩ => ?_)
 exact thn (hr pos pins s1 σ H1 _ I1 q1) fun us s2 ⟨xs, H2, I2, r2, q2⟩ => ⟨x :: xs, H2, I2, .cons r1 r2, q2⟩
noncomputable def tTup (t : TA) : TE := fun σ H Q => t σ H fun xs H1 => xs.length ≤ sizeLine ∧ ∀ p, H1 p = none → Q (.ref p) (upd H1 p (.tup xs))
noncomputable def tLst (t : TA) : TE := fun σ H Q => t σ H fun xs H1 => xs.length ≤ sizeLine ∧ ∀ p, H1 p = none → Q (.ref p) (upd H1 p (.lst xs))
theorem pe_tup {x1} (h : PA X es t) : PE X (.Tuple es x1 pos) (tTup t) := by
 intro pins s σ H Q I hq
 refine wpAny_Tuple_spliced (thn (h pos pins s σ H _ I hq) fun us s1 ⟨xs, H1, I1, r, z, q⟩ => ⟨by rw [← r.length]; exact z, ?_⟩)
 have hf : H1 s1.heap.objs.size = none := I1.hok.fresh (Nat.le_refl _)
 refine ⟨.ref s1.heap.objs.size, upd H1 s1.heap.objs.size (.tup xs), I1.laid (t' := s1.toks) (fun b u e => Heap.get?_push_of_some _ e) (Nat.le_refl _) ?_, rfl, q _ hf⟩
 exact ⟨z, us, r, ⟨_, Heap.get?_push_size _ rfl, rfl, _, rfl⟩⟩
theorem pe_lst (h : PA X es t) : PE X (.List es pos) (tLst t) := by
 intro pins s σ H Q I hq
 refine wpAny_List_spliced (thn (h pos pins s σ H _ I hq) fun us s1 ⟨xs, H1, I1, r, z, q⟩ => ⟨by rw [← r.length]; exact z, ?_⟩)
 have hf : H1 s1.heap.objs.size = none := I1.hok.fresh (Nat.le_refl _)
 refine ⟨.ref s1.heap.objs.size, upd H1 s1.heap.objs.size (.lst xs), I1.laid (t' := s1.toks) (fun b u e => Heap.get?_push_of_some _ e) (Nat.le_refl _) ?_, rfl, q _ hf⟩
 exact ⟨z, us, 0, r, Heap.get?_push_size _ rfl⟩
end
noncomputable abbrev Sp := List V → Hp → VK → XK → Prop
noncomputable abbrev CXT := List Env → Hp → Shared → XK → Value → Shared → Prop
structure Env0 (P : Program) (w : World) (K : PySem.W.Frag) (mg : Str → Option Value) (base : Heap) (A : Around) (outer : List Env) (s : Shared) (H : Hp) : Prop where
 frames : A.frames = some outer
 mod : Mod K mg base
 bs : ∀ b o, base.get? b = some o → s.heap.get? b = some o ∧ H b = none
 bsz : base.objs.size ≤ s.heap.objs.size
 funs : s.heap.FunFrames base outer
 frf : ∀ b ∈ frs outer, H b = none
 hok : HOk P w H s.heap
 bare : AllBare s.gens
inductive CE (outer : List Env) (P : Program) (w : World) (H : Hp) (s : Shared) (Q : VK) (u : Value) (s' : Shared) : Prop
 | mk (v : _) (H' : _) : (s'.os = s.os) → (AllBare s'.gens) → (Un (frs outer) [] H H' s.heap s'.heap) → (HOk P w H' s'.heap) → (RelV v u) → (Q v H') → CE outer P w H s Q u s'
noncomputable def CR (CX : CXT) (outer : List Env) (P : Program) (w : World) (H : Hp) (s : Shared) (Q : VK) (E : XK) (r : Result) (s' : Shared) : Prop :=
 match r with
 | .ok (.ret u) => CE outer P w H s Q u s'
 | .ok _ => False
 | .error e => CX outer H s E e s'
structure FnOk (P : Program) (w : World) (K : PySem.W.Frag) (mg : Str → Option Value) (base : Heap) (CX : CXT) (k : Nat) (f : Addr) (fd : FuncData) (ps : List Str) (sp : Sp) : Prop where
 len : ∀ vs H Q E, sp vs H Q E → vs.length = ps.length
 run : ∀ (A : Around) (outer : List Env) (s : Shared) (H : Hp) (args : Args) (us : List Value) (vs : List V) (Q : VK) (E : XK), Room k A → Env0 P w K mg base A outer s H → BindsTo s fd args (ps.zip us) → Vals vs us → sp vs H Q E →
  codeAny (model P w) A (.call (.ref f) args) (CR CX outer P w H s Q E) s
theorem Env0.make {P : Program} {w : World} {K : PySem.W.Frag} {mg : Str → Option Value} {base : Heap} {A : Around} {outer : List Env} {s : Shared} {H : Hp} (e : Env0 P w K mg base A outer s H) (C : Addr) (us : List Value) (kw : List (Str × Value)) :
  Env0 P w K mg base (A.under (.builtin "type.__call__" ⟨.ref C :: us, kw⟩)) outer s H := ⟨by first | exact e.frames | (simpa [Around.under, Code.envs, Code.isFrame, pushEnvs] using e.frames), e.mod, e.bs, e.bsz, e.funs, e.frf, e.hok, e.bare⟩
section
variable {X : Cx} {pins : List (Addr × Obj)} {σ : St} {H : Hp} {s s' : Shared}
theorem Inv.env0 (I : Inv X pins σ H s) : Env0 X.prog X.w X.K X.mg X.base X.A X.stack s H :=
 ⟨I.ok.frames, I.ok.mod, I.bs, Nat.le_trans I.ok.bsz I.sz, I.stack, I.stkFree, I.hok, I.bare⟩
theorem Inv.after {Q : VK} {u : Value} (I : Inv X pins σ H s) (h : CE X.stack X.prog X.w H s Q u s') : EP X pins σ Q u s' := by
 obtain ⟨v, H', os, bare, un, hok, r, q⟩ := h
 obtain ⟨hh, g, d, t, os'⟩ := s'
 obtain rfl : os' = s.os := os
 exact ⟨v, H', I.call (h' := hh) (g' := g) (d' := d) (t' := t) (ch := []) un hok bare (fun b z => absurd z (by simp)), r, q⟩
end
noncomputable def tCall (sp : Sp) (dvs : List V) (E : XK) (t : TA) : TE := fun σ H Q => t σ H fun vs H1 => sp (vs ++ dvs) H1 Q E
inductive tMethI (C : Addr) (m : Str) (sp : Sp) (dvs : List V) (E : XK) (t : TA) (σ : St) (Q : VK) (x : V) (H1 : Hp) : Prop
 | mk (a : _) (dx : _) (fs : _) : (x = .ref a) → (H1 a = some (.ins C dx fs)) → (fs.lookup m = none) → (t σ H1 fun vs H2 => sp (x :: (vs ++ dvs)) H2 Q E) → tMethI C m sp dvs E t σ Q x H1
noncomputable def tMeth (C : Addr) (m : Str) (sp : Sp) (dvs : List V) (E : XK) (ta : TE) (t : TA) : TE := fun σ H Q => ta σ H fun x H1 => tMethI C m sp dvs E t σ Q x H1
noncomputable def tMake (C : Addr) (sp : Sp) (dvs : List V) (E : XK) (t : TA) : TE := fun σ H Q => t σ H fun vs H1 => ∀ x dx, H1 x = none → H1 dx = none → dx ≠ x →
 sp (.ref x :: (vs ++ dvs)) (upd (upd H1 dx (.own x)) x (.ins C dx [])) (fun v H2 => v = .non ∧ Q (.ref x) H2) E
noncomputable def Binds (K : PySem.W.Frag) (fd : FuncData) (ps : List Str) (ds : List Value) : Prop :=
 ∀ (s : Shared) (us : List Value), K.In s.heap → (us ++ ds).length = ps.length → BindsTo s fd ⟨us, []⟩ (ps.zip (us ++ ds))
theorem Binds.all {K : PySem.W.Frag} {fd : FuncData} {ps : List Str} (h : ∀ us : List Value, us.length = ps.length → bindArgs fd ⟨us, []⟩ = pure (ps.zip us)) : Binds K fd ps [] := fun s us _ hl => by
 rw [List.append_nil] at hl ⊢
 exact .of_eq (h us hl)
noncomputable def Passes (CX : CXT) (X : Cx) (E : XK) : Prop := ∀ (pins : List (Addr × Obj)) (σ : St) (H : Hp) (s : Shared) (e : Value) (s' : Shared), Inv X pins σ H s → CX X.stack H s E e s' → X.xe e s'
section
variable {X : Cx} {CX : CXT} {k : Nat} {f C : Addr} {fd : FuncData} {ps : List Str} {sp : Sp} {dvs : List V} {ds : List Value} {E : XK} {x m : Str} {p pos apos : Pos} {e o : Expr} {es : List Expr} {ta : TE} {t : TA}
theorem run_fn {pins : List (Addr × Obj)} {σ : St} {H : Hp} {s : Shared} {Q : VK} {us : List Value} {vs : List V} (F : FnOk X.prog X.w X.K X.mg X.base CX k f fd ps sp) (hr : Room k X.A) (hb : Binds X.K fd ps ds) (hd : Vals dvs ds) (hx : Passes CX X E)
  (I : Inv X pins σ H s) (r : Vals vs us) (h : sp (vs ++ dvs) H Q E) : wpAny (model X.prog X.w) X.A (call (.ref f) us) (EP X pins σ Q) X.xe s := by
 have r2 : Vals (vs ++ dvs) (us ++ ds) := r.append hd
 have hl : (us ++ ds).length = ps.length := by rw [← r2.length]; exact F.len _ _ _ _ h
 refine wpAny_call (codeAny_mono (F.run X.A X.stack s H ⟨us, []⟩ (us ++ ds) (vs ++ dvs) Q E hr I.env0 (hb s us I.kIn hl) r2 h) fun r s' hq => ?_)
 cases r with
 | error e => exact hx pins σ H s e s' I hq
 | ok fl =>
  cases fl with
  | ret u => exact I.after hq
  | next => exact False.elim hq
  | brk => exact False.elim hq
  | cont => exact False.elim hq
theorem pe_call (F : FnOk X.prog X.w X.K X.mg X.base CX k f fd ps sp) (hr : Room k X.A) (hg : Gl X x) (hm : X.mg x = some (.ref f)) (hk : PySem.W.keepIn X.K (.ref f) = true) (hb : Binds X.K fd ps ds) (hd : Vals dvs ds) (hx : Passes CX X E)
  (ha : PA X (e :: es) t) (hdb : (x == ("__debug__" : Str)) = false := by decide) (he : starEach (e :: es) X.env = (false, eval e X.env) :: starEach es X.env := by rfl) (hpl : (backTo pos (starEach es X.env)).any (·.1) = false := by rfl) :
  PE X (.Call (.Name x p) (e :: es) [] pos) (tCall sp dvs E t) := by
 intro pins s σ H Q I h
 refine wpAny_Call_Name_kw (ld_glob I hg hm ?_ hdb)
 refine PySem.W.callWith_K (h₀ := X.base) I.ok.mod.kin hk (thn (ha pos pins s σ H _ I h) fun us s1 ⟨vs, H1, I1, r, q⟩ => ⟨I1.kIn, ?_⟩) he hpl
 exact run_fn F hr hb hd hx I1 r q
theorem pe_meth {pl : Sem Bool} (he : PE X o ta) (c : Cls X.K C) (hm : Meth X.K C m f) (F : FnOk X.prog X.w X.K X.mg X.base CX k f fd ps sp) (hr : Room k X.A) (hb : Binds X.K fd ps ds) (hd : Vals dvs ds) (hx : Passes CX X E) (ha : PA X (e :: es) t)
  (hst : starEach (e :: es) X.env = (false, eval e X.env) :: starEach es X.env := by rfl) (hpl : (backTo pos (starEach es X.env)).any (·.1) = false := by rfl)
  (ht : eval (.Call (.Attribute o m apos) (e :: es) [] pos) X.env = (do
   let ov ← eval o X.env
   standAt apos.atName
   let (f, first) ← holding [ov] (getMethod ov m pl)
   callWith pos f first (backTo pos (starEach (e :: es) X.env)) (backToKw pos (keywordEach [] X.env))) := by rfl) :
  PE X (.Call (.Attribute o m apos) (e :: es) [] pos) (tMeth C m sp dvs E ta t) := by
 intro pins s σ H Q I h
 refine PySem.W.methodCall_KW (pl := pl) (thn (he pins s σ H _ I h) fun u s1 ⟨x, H1, I1, rx, a, dx, fs, ex, ea, l, q⟩ => ?_) ht
 subst ex
 obtain rfl : u = Value.ref a := rx
 refine getmeth_ok I1 ea c hm l ?_
 refine PySem.W.callWith_K (first := [.ref a]) (h₀ := X.base) I.ok.mod.kin hm.kp (thn (ha pos pins s1 σ H1 _ I1 q) fun us s2 ⟨vs, H2, I2, r, q2⟩ => ⟨I2.kIn, ?_⟩) hst hpl
 exact run_fn (us := .ref a :: us) (vs := .ref a :: vs) F hr hb hd hx I2 (.cons rfl r) q2
structure Mk (K : PySem.W.Frag) (C f : Addr) : Prop where
 makes : PySem.W.makesIn K C = true
 init : PySem.W.findIn K (.ref C) "__init__" = some (some (.ref f))
 fn : PySem.W.isFn K (.ref f) = true
 kp : PySem.W.keepIn K (.ref C) = true
theorem run_make {pins : List (Addr × Obj)} {σ : St} {H : Hp} {s : Shared} {Q : VK} {us : List Value} {vs : List V} (M : Mk X.K C f) (F : FnOk X.prog X.w X.K X.mg X.base CX k f fd ps sp) (hr : Room (k + 1) X.A) (hb : Binds X.K fd ps ds) (hd : Vals dvs ds)
  (hx : Passes CX X E) (I : Inv X pins σ H s) (r : Vals vs us)
  (h : ∀ x dx, H x = none → H dx = none → dx ≠ x → sp (.ref x :: (vs ++ dvs)) (upd (upd H dx (.own x)) x (.ins C dx [])) (fun v H2 => v = .non ∧ Q (.ref x) H2) E) :
  wpAny (model X.prog X.w) X.A (call (.ref C) us) (EP X pins σ Q) X.xe s := by
 have hq := h (s.heap.objs.size + 1) s.heap.objs.size (I.hok.fresh (Nat.le_succ _)) (I.hok.fresh (Nat.le_refl _)) (Nat.ne_of_lt (Nat.lt_succ_self _))
 have I2 := Inv.made (C := C) I
 have r2 : Vals (V.ref (s.heap.objs.size + 1) :: (vs ++ dvs)) (Value.ref (s.heap.objs.size + 1) :: (us ++ ds)) := .cons rfl (r.append hd)
 have hl : (Value.ref (s.heap.objs.size + 1) :: us ++ ds).length = ps.length := by
  have e := r2.length
  rw [F.len _ _ _ _ hq] at e
  exact e.symm
 refine wpAny_call (make_map (f := f) I.kIn M.makes M.init (beq_iff_eq.mp M.fn) (codeAny_mono (F.run _ X.stack _ _ ⟨Value.ref (s.heap.objs.size + 1) :: us, []⟩ (Value.ref (s.heap.objs.size + 1) :: (us ++ ds)) _ _ E (hr.make C us [])
  (I2.env0.make C us []) (hb _ (Value.ref (s.heap.objs.size + 1) :: us) I2.kIn hl) r2 hq) fun r s' hq' => ?_))
 cases r with
 | error e => exact hx pins σ _ _ e s' I2 hq'
 | ok fl =>
  cases fl with
  | ret u =>
   obtain ⟨v, H', I3, rv, ev, q3⟩ := I2.after hq'
   subst ev
   exact ⟨rv, ⟨V.ref (s.heap.objs.size + 1), H', I3, rfl, q3⟩⟩
  | next => exact False.elim hq'
  | brk => exact False.elim hq'
  | cont => exact False.elim hq'
theorem pe_make (M : Mk X.K C f) (F : FnOk X.prog X.w X.K X.mg X.base CX k f fd ps sp) (hr : Room (k + 1) X.A) (hg : Gl X x) (hm : X.mg x = some (.ref C)) (hb : Binds X.K fd ps ds) (hd : Vals dvs ds) (hx : Passes CX X E)
  (ha : PA X (e :: es) t) (hdb : (x == ("__debug__" : Str)) = false := by decide) (he : starEach (e :: es) X.env = (false, eval e X.env) :: starEach es X.env := by rfl) (hpl : (backTo pos (starEach es X.env)).any (·.1) = false := by rfl) :
  PE X (.Call (.Name x p) (e :: es) [] pos) (tMake C sp dvs E t) := by
 intro pins s σ H Q I h
 refine wpAny_Call_Name_kw (ld_glob I hg hm ?_ hdb)
 refine PySem.W.callWith_K (h₀ := X.base) I.ok.mod.kin M.kp (thn (ha pos pins s σ H _ I h) fun us s1 ⟨vs, H1, I1, r, q⟩ => ⟨I1.kIn, ?_⟩) he hpl
 exact run_make M F hr hb hd hx I1 r q
end
section
variable {X : Cx} {CX : CXT} {k : Nat} {f C : Addr} {fd : FuncData} {ps ks : List Str} {sp : Sp} {E : XK} {x m : Str} {p pos apos kpos : Pos} {e o : Expr} {es : List Expr} {kws : List Keyword} {te ta : TE} {t tk : TA} {nm : Option Str}
variable {g : List Value → List Value → List Value} {gV : List V → List V → List V}
end
structure FnScope (N P : List Str) (sc : Scope) : Prop where
 kind : sc.kind = .function
 co : sc.isCoroutine = false
 gen : sc.isGenerator = false
 nd : N.Nodup
 pre : N.take P.length = P
 par : ∀ x ∈ P, sc.names.lookup x = some .local ∨ sc.names.lookup x = some .cell
 nofree : ∀ y ∈ sc.names, y.2 ≠ .free
theorem bindL_out {kindOf : Str → Option NameKind} {x : Str} : ∀ {binds : List (Str × Value)} {m : Str → Option Value}, (∀ v, (x, v) ∉ binds) → bindL kindOf binds m x = m x
 | [], _, _ => rfl
 | (n, v) :: r, m, h => by
  unfold bindL
  rw [bindL_out fun w hw => h w (List.mem_cons_of_mem _ hw)]
  split
  ·have : x ≠ n := by rintro rfl; exact h v List.mem_cons_self
   simp [this]
  ·rfl
theorem bindC_out {kindOf : Str → Option NameKind} {x : Str} : ∀ {binds : List (Str × Value)} {m : Str → Option Value}, (∀ v, (x, v) ∉ binds) → bindC kindOf binds m x = m x
 | [], _, _ => rfl
 | (n, v) :: r, m, h => by
  unfold bindC
  rw [bindC_out fun w hw => h w (List.mem_cons_of_mem _ hw)]
  split
  ·rfl
  ·have : x ≠ n := by rintro rfl; exact h v List.mem_cons_self
   simp [this]
theorem bindL_get {kindOf : Str → Option NameKind} {x : Str} {v : Value} : ∀ {P : List Str} {vs : List Value} {i : Nat} {m : Str → Option Value}, P.Nodup → P[i]? = some x → vs[i]? = some v → kindOf x = some .local →
  bindL kindOf (P.zip vs) m x = some v
 | [], _, _, _, _, h, _, _ => by simp at h
 | _ :: _, [], _, _, _, _, h, _ => by simp at h
 | p :: P, w :: vs, 0, m, nd, h1, h2, hk => by
  simp at h1 h2; subst h1; subst h2
  show bindL kindOf ((p, w) :: P.zip vs) m p = _
  unfold bindL
  rw [bindL_out fun v hv => (List.nodup_cons.mp nd).1 (List.of_mem_zip hv).1, if_pos hk]
  simp
 | p :: P, w :: vs, i + 1, m, nd, h1, h2, hk => by
  show bindL kindOf ((p, w) :: P.zip vs) m x = _
  unfold bindL
  exact bindL_get (i := i) (List.nodup_cons.mp nd).2 (by simpa using h1) (by simpa using h2) hk
theorem bindC_get {kindOf : Str → Option NameKind} {x : Str} {v : Value} : ∀ {P : List Str} {vs : List Value} {i : Nat} {m : Str → Option Value}, P.Nodup → P[i]? = some x → vs[i]? = some v → kindOf x ≠ some .local →
  bindC kindOf (P.zip vs) m x = some v
 | [], _, _, _, _, h, _, _ => by simp at h
 | _ :: _, [], _, _, _, _, h, _ => by simp at h
 | p :: P, w :: vs, 0, m, nd, h1, h2, hk => by
  simp at h1 h2; subst h1; subst h2
  show bindC kindOf ((p, w) :: P.zip vs) m p = _
  unfold bindC
  rw [bindC_out fun v hv => (List.nodup_cons.mp nd).1 (List.of_mem_zip hv).1, if_neg hk]
  simp
 | p :: P, w :: vs, i + 1, m, nd, h1, h2, hk => by
  show bindC kindOf ((p, w) :: P.zip vs) m x = _
  unfold bindC
  exact bindC_get (i := i) (List.nodup_cons.mp nd).2 (by simpa using h1) (by simpa using h2) hk
noncomputable def start (N : List Str) (vs : List V) : St := vs.map some ++ List.replicate (N.length - vs.length) none
noncomputable def cxOf (CX : CXT) (P : Program) (w : World) (K : PySem.W.Frag) (mg : Str → Option Value) (base : Heap) (N : List Str) (qual : Str) (scope : Scope) (f : Addr) (cd : Value) (A : Around) (outer : List Env) (s : Shared) (H : Hp) (E : XK) : Cx where
 prog := P
 w := w
 K := K
 mg := mg
 base := base
 A := A.deeper (envOfC qual scope s.heap.objs.size f cd)
 N := N
 s₀ := s
 H₀ := H
 env := envOfC qual scope s.heap.objs.size f cd
 outer := outer
 stack := envOfC qual scope s.heap.objs.size f cd :: outer
 ex := []
 calm := true
 fn := fun _ => true
 pn := []
 xe := fun e s' => wpAny (model P w) (A.deeper (envOfC qual scope s.heap.objs.size f cd)) (leaving (envOfC qual scope s.heap.objs.size f cd) e) (fun _ s'' => CX outer H s E e s'') (fun e' s'' => CX outer H s E e' s'') s'
theorem cell_has {sc : Scope} {n : Nat} {x : Str} (h : sc.names.lookup x = some .cell) : ∃ c, (cellsFrom n sc.names []).lookup x = some c := by
 have q := PySem.W.cellsFrom_some sc.names n [] (.inl h)
 exact Option.isSome_iff_exists.mp q
theorem inv_start {CX : CXT} {P : Program} {w : World} {K : PySem.W.Frag} {mg : Str → Option Value} {base : Heap} {N ps : List Str} {qual : Str} {scope : Scope} {f : Addr} {cd : Value} {A : Around} {outer : List Env} {s s1 : Shared} {H : Hp} {E : XK} {us : List Value} {vs : List V}
  (S : FnScope N ps scope) (hd : A.handled = none) (e0 : Env0 P w K mg base A outer s H) (hl : vs.length = ps.length) (r : Vals vs us)
  (x : InCallC s s.heap.objs.size (bindL (envOfC qual scope s.heap.objs.size f cd).kindOf (ps.zip us) fun _ => none) (cellsFrom (s.heap.objs.size + 1) scope.names []) (bindC (envOfC qual scope s.heap.objs.size f cd).kindOf (ps.zip us) fun _ => none) s1) :
  Inv (cxOf CX P w K mg base N qual scope f cd A outer s H E) [] (start N vs) H s1 := by
 have hpl : ps.length ≤ N.length := by have := congrArg List.length S.pre; rw [List.length_take] at this; lia
 obtain ⟨h1, tk, rfl, hk⟩ := x.done
 have noA : ∀ b : Addr, b ∉ (cxOf CX P w K mg base N qual scope f cd A outer s H E).ex := fun b z => absurd (show b ∈ ([] : List Addr) from z) (by simp)
 refine ⟨⟨e0.mod, S.kind, rfl, rfl, Nat.le_refl _, fun y z c h1 h2 => ?_, fun y hy => ?_, fun y c _ h => ?_, fun _ => hd, Around.frames_deeper e0.frames, .inr ⟨rfl, rfl⟩, fun b z => absurd z (noA b), e0.bs, e0.bsz, fun b _ _ => noA b, fun b z => absurd z (noA b), e0.funs, e0.frf⟩,
  rfl, e0.bare, Un.kept hk, ⟨_, x.toInCall.ns, fun i y v h1 h2 h3 => ?_⟩, fun y c h => ⟨_, x.cell y c h⟩, e0.hok.fresh (Nat.le_refl _), fun y c h => ?_, fun p hp => absurd (show p ∈ ([] : List (Addr × Obj)) from hp) (by simp), e0.hok.kept hk, ?_⟩
 ·exact name_of_addr x.apart (PySem.mem_of_lookup h1) (PySem.mem_of_lookup h2)
 ·have hy : scope.names.lookup y = some .cell ∨ scope.names.lookup y = some .free := hy
  rcases hy with hy | hy
  ·exact cell_has hy
  ·exact absurd rfl (S.nofree _ (PySem.mem_of_lookup hy))
 ·exact Nat.le_of_lt (x.above y c (PySem.mem_of_lookup h))
 ·have hi : i < vs.length := by
   unfold start at h2
   by_cases hi : i < vs.length
   ·exact hi
   ·rw [List.getElem?_append_right (by simpa using hi)] at h2
    rw [List.getElem?_replicate] at h2
    split at h2 <;> cases h2
  have ha : vs[i]? = some v := by
   unfold start at h2
   rw [List.getElem?_append_left (by simpa using hi), List.getElem?_map] at h2
   cases e : vs[i]? with
   | none => rw [e] at h2; cases h2
   | some a => rw [e] at h2; cases h2; rfl
  obtain ⟨u, hu, rv⟩ := r.get ha
  have hp : ps[i]? = some y := by
   rw [← S.pre, List.getElem?_take_of_lt (by lia)]; exact h1
  have ndP : ps.Nodup := by rw [← S.pre]; exact S.nd.sublist (List.take_sublist _ _)
  refine ⟨u, rv, ?_⟩
  rcases S.par y (List.mem_of_getElem? hp) with k | k
  ·exact .inl ⟨k, bindL_get ndP hp hu k⟩
  ·obtain ⟨c, e⟩ := cell_has (n := s.heap.objs.size + 1) k
   refine .inr ⟨.inl k, c, e, ?_⟩
   have q := x.cell y c e
   rw [bindC_get ndP hp hu (by show scope.names.lookup y ≠ _; rw [k]; decide)] at q
   exact q
 ·exact e0.hok.fresh (Nat.le_of_lt (x.above y c (PySem.mem_of_lookup h)))
 ·unfold start
  show _ = N.length
  rw [List.length_append, List.length_map, List.length_replicate]
  lia
theorem fn_of {CX : CXT} {P : Program} {w : World} {K : PySem.W.Frag} {mg : Str → Option Value} {base : Heap} {k : Nat} {f : Addr} {name qual : Str} {params : Arguments} {body : List Stmt} {scope : Scope} {dV kV doc pm cdv ct oc : Value} {an od : Option Addr}
  {osl : Array (Option Value)} {N ps : List Str} {sp : Sp} (lk : K.lookup f = some ⟨oc, od, .func (PySem.W.fnOf name qual params body scope dV kV doc pm an cdv ct), osl⟩) (hcd : PySem.W.codeIn K cdv qual = true) (S : FnScope N ps scope)
  (len : ∀ vs H Q E, sp vs H Q E → vs.length = ps.length)
  (hbody : ∀ (A : Around) (outer : List Env) (s : Shared) (H : Hp) (vs : List V) (Q : VK) (E : XK), Room k (A.deeper (envOfC qual scope s.heap.objs.size f cdv)) → sp vs H Q E →
   ∃ t, PSs (cxOf CX P w K mg base N qual scope f cdv A outer s H E) body t ∧ t { nx := fun _ H' => Q .non H', rt := Q } (start N vs) H) :
  FnOk P w K mg base CX (k + 1) f (PySem.W.fnOf name qual params body scope dV kV doc pm an cdv ct) ps sp := by
 refine ⟨len, fun A outer s H args us vs Q E hr e0 hb r hsp => ?_⟩
 have hl := len _ _ _ _ hsp
 have KX : K.In s.heap := e0.mod.kin.keeps fun b o e => (e0.bs b o e).1
 have lim : s.heap.NoLimit := e0.mod.nolimit.keeps fun b o e => (e0.bs b o e).1
 have hkind : ∀ y ∈ ps.zip us, scope.names.lookup y.1 = some .local ∨ (scope.names.lookup y.1 = some .cell ∧ ((cellsFrom (s.heap.objs.size + 1) scope.names []).lookup y.1).isSome = true) := fun ⟨n, v⟩ hy => by
  rcases S.par n (List.of_mem_zip hy).1 with q | q
  ·exact .inl q
  ·exact .inr ⟨q, PySem.W.cellsFrom_some _ _ _ (.inl q)⟩
 refine codeAny_call_function hr.depth (KX _ _ lk) rfl S.co S.gen rfl (PySem.W.codeRec_of KX hcd) (hb _ _ _ _ ?_)
 refine wpAny_newFunctionEnv_cells S.kind hkind fun env he s1 x => ?_
 subst he
 refine ⟨lim.keeps x.toInCall.keep, codeAny_func ?_⟩
 obtain ⟨t, ht, hq⟩ := hbody A outer s H vs Q E (hr.deeper _) hsp
 have I : Inv (cxOf CX P w K mg base N qual scope f cdv A outer s H E) [] (start N vs) H s1 := inv_start S hr.hd e0 hl r x
 refine wpAny_mono (ht [] s1 (start N vs) H _ I hq) (fun fl s' hs => ?_) fun e s' hs => hs
 have fin : ∀ {σ' : St} {H' : Hp} {v : V} {u : Value}, Inv (cxOf CX P w K mg base N qual scope f cdv A outer s H E) [] σ' H' s' → RelV v u → Q v H' → CE outer P w H s Q u s' :=
  fun {σ' H' v u} J rv q => ⟨v, H', J.os, J.bare, J.base, J.hok, rv, q⟩
 cases fl with
 | ret u =>
  obtain ⟨v, σ', H', J, rv, q⟩ := hs
  exact fin J rv q
 | next =>
  obtain ⟨σ', H', J, q⟩ := hs
  exact fin (v := V.non) (u := Value.none) J rfl q
 | brk =>
  obtain ⟨_, _, _, q⟩ := hs
  exact False.elim q
 | cont =>
  obtain ⟨_, _, _, q⟩ := hs
  exact False.elim q
end L2
namespace L2
open PySem PySem.Spec PyProof.Rows
section
variable {X : Cx} {x : Str} {p pos : Pos} {e : Expr} {es : List Expr} {t : TA} {id T : String} {r : List V → Hp → VK → Prop}
noncomputable def tCB (r : List V → Hp → VK → Prop) (t : TA) : TE := fun σ H Q => t σ H fun vs H1 => r vs H1 Q
theorem pe_callB (hc : CallR X (.builtin id) r) (hg : Gl X x) (hm : X.mg x = none) (hv : bootBuiltins x = some (.builtin id)) (ha : PA X (e :: es) t) (hn : x ≠ "__name__" := by decide) (hdb : (x == ("__debug__" : Str)) = false := by decide)
  (he : starEach (e :: es) X.env = (false, eval e X.env) :: starEach es X.env := by rfl) (hpl : (backTo pos (starEach es X.env)).any (·.1) = false := by rfl) : PE X (.Call (.Name x p) (e :: es) [] pos) (tCB r t) := by
 intro pins s σ H Q I h
 refine wpAny_Call_Name_kw (ld_blt I hg hm hv ?_ hn hdb)
 exact PyProof.Rows.callWith_builtin1 (thn (ha pos pins s σ H _ I h) fun us s1 ⟨vs, H1, I1, r1, q1⟩ => hc pins s1 σ H1 vs us Q I1 r1 q1) he hpl
theorem pe_callTy (hc : CallR X (.type T) r) (hg : Gl X x) (hm : X.mg x = none) (hv : bootBuiltins x = some (.type T)) (ha : PA X (e :: es) t) (hn : x ≠ "__name__" := by decide) (hdb : (x == ("__debug__" : Str)) = false := by decide)
  (he : starEach (e :: es) X.env = (false, eval e X.env) :: starEach es X.env := by rfl) (hpl : (backTo pos (starEach es X.env)).any (·.1) = false := by rfl) : PE X (.Call (.Name x p) (e :: es) [] pos) (tCB r t) := by
 intro pins s σ H Q I h
 refine wpAny_Call_Name_kw (ld_blt I hg hm hv ?_ hn hdb)
 exact PyProof.Rows.callWith_type1 (thn (ha pos pins s σ H _ I h) fun us s1 ⟨vs, H1, I1, r1, q1⟩ => hc pins s1 σ H1 vs us Q I1 r1 q1) he hpl
end
end L2
namespace HT
open PySem PyProof.Rows
theorem rcLt_int (A : Around) (s : Shared) (a : Int) (t : Tok) (c : Int) (u : Tok) (prog : Program) (w : World) (E : Value → Shared → Prop) (Q : Value → Shared → Prop) (h : Q (.bool (decide (a < c))) s) :
  wpAny (model prog w) A (richCompare .Lt (.int a t) (.int c u)) Q E s :=
 (PyProof.Rows.lt_int h : wpAny (model prog w) A (compareOp .Lt (.int a t) (.int c u)) Q E s)
section
open PySem.SeqAt
open PySem.AutoSeq1 (wpAny_loadPart')
open PySem.MeetsSeq PySem.MeetsSeq2 PySem.MeetsSeq3
end
section
variable {prog : Program} {w : World} {A : Around} {E : Value → Shared → Prop} {s : Shared}
theorem cat_tup {t b : Addr} {vs ws : List Value} {Q : Value → Shared → Prop} (ht : IsTup s.heap t vs.toArray) (hb : IsTup s.heap b ws.toArray) (hv : vs ≠ [])
  (h1 : ws = [] → Q (.ref t) s) (h2 : ws ≠ [] → Q (.ref s.heap.objs.size) { s with heap := s.heap.push { cls := .type "tuple", data := .seq (vs ++ ws).toArray } })
  (hsz : vs.length + ws.length ≤ sizeLine) : wpAny (model prog w) A (binaryOp .Add (.ref t) (.ref b)) Q E s := by
 obtain ⟨⟨cls, dd, data, sl⟩, ho, hc, n, hd⟩ := id ht
 obtain ⟨⟨cls2, dd2, data2, sl2⟩, ho2, hc2, n2, hd2⟩ := id hb
 simp only at hc hd hc2 hd2
 subst hc hd hc2 hd2
 have e : vs.toArray ++ ws.toArray = (vs ++ ws).toArray := by simp
 by_cases hw : ws = []
 ·exact concat_meets ⟨_, ho, rfl⟩ ⟨_, ho2, rfl⟩ noFill_tuple_add seq_tuple_add PySem.F.slot_tuple_add PySem.F.entry_tuple_add (PySem.F.args_tuple_add_2 _ _)
   (tuple_addW1 t b vs.toArray ws.toArray n n2 dd dd2 sl sl2 (by simpa using hv) (by simp [hw])) ⟨ho, ho2, h1 hw⟩
 ·refine concat_meets ⟨_, ho, rfl⟩ ⟨_, ho2, rfl⟩ noFill_tuple_add seq_tuple_add PySem.F.slot_tuple_add PySem.F.entry_tuple_add (PySem.F.args_tuple_add_2 _ _)
   (tuple_addW2 t b vs.toArray ws.toArray n n2 dd dd2 sl sl2 (by simpa using hv) (by simpa using hw) (by rw [List.size_toArray, List.size_toArray]; exact hsz)) ⟨ho, ho2, ?_⟩
  rw [e]
  exact h2 hw
noncomputable def sIx (n d : Nat) : Option Int → Nat
 | none => d
 | some v => if v < 0 then (v + (n : Int)).toNat else min v.toNat n
theorem sIx_none (n d : Nat) : sIx n d none = d := rfl
theorem sIx_nat (n d k : Nat) : sIx n d (some (k : Int)) = min k n := by
 show (if (k : Int) < 0 then ((k : Int) + (n : Int)).toNat else min (k : Int).toNat n) = min k n
 rw [if_neg (by lia), Int.toNat_natCast]
theorem sIx_le (n d : Nat) (hd : d ≤ n) (o : Option Int) : sIx n d o ≤ n := by
 cases o with
 | none => exact hd
 | some v =>
  show (if v < 0 then (v + (n : Int)).toNat else min v.toNat n) ≤ n
  by_cases hv : v < 0
  ·rw [if_pos hv]; lia
  ·rw [if_neg hv]; exact Nat.min_le_right _ _
theorem clip_eq (v : Int) (n d : Nat) : (if v < 0 then max (v + (n : Int)) 0 else min v (n : Int)) = ((sIx n d (some v) : Nat) : Int) := by
 show (if v < 0 then max (v + (n : Int)) 0 else min v (n : Int)) = (((if v < 0 then (v + (n : Int)).toNat else min v.toNat n) : Nat) : Int)
 by_cases hv : v < 0
 ·simp only [if_pos hv]; lia
 ·simp only [if_neg hv]; lia
theorem adjust_gen (lo hi : Option Int) (n : Nat) : Builtin.Slice.sliceAdjust lo hi 1 (n : Int) = (((sIx n 0 lo : Nat) : Int), ((sIx n n hi : Nat) : Int)) := by
 have h1 : ¬ ((1 : Int) < 0) := by lia
 unfold Builtin.Slice.sliceAdjust
 simp only [h1, if_false]
 refine Prod.ext ?_ ?_
 ·cases lo with
  | none => rfl
  | some v => exact clip_eq v n 0
 ·cases hi with
  | none => rfl
  | some v => exact clip_eq v n n
theorem places_gen (i j : Nat) : Builtin.Slice.slicePlaces (i : Int) (j : Int) 1 = j - i := by
 unfold Builtin.Slice.slicePlaces
 have h1 : (1 : Int) > 0 := by lia
 simp only [h1, if_true, Int.ediv_one]
 split <;> lia
theorem slicePart_ {v : Value} {o : Option Int} {Q : Option Int → Shared → Prop} (p : IsPart v o) (h : Q o s) : wpAny (model prog w) A (Builtin.Slice.slicePartIndex v) Q E s := by
 cases p with
 | none => exact slicePart_none h
 | int i t => exact slicePart_int h
theorem sliceApplied_gen {sl : Addr} {vl vu : Value} {lo hi : Option Int} {n : Nat} {Q : Int × Int × Nat → Shared → Prop} (hs : s.heap.IsSliceOf sl vl vu .none) (pl : IsPart vl lo) (pu : IsPart vu hi)
  (h : Q (((sIx n 0 lo : Nat) : Int), 1, sIx n n hi - sIx n 0 lo) s) : wpAny (model prog w) A (Builtin.Slice.sliceApplied (.ref sl) (pure (n : Int))) Q E s := by
 obtain ⟨os, hos, hcs, hds⟩ := id hs
 unfold Builtin.Slice.sliceApplied Builtin.Slice.sliceFields
 refine wpAny_bind (wpAny_bind (wpAny_field hos hds (x := vl) rfl (wpAny_bind (wpAny_field hos hds (x := vu) rfl (wpAny_bind (wpAny_field hos hds (x := .none) rfl (wpAny_pure ?_)))))))
 refine wpAny_bind (slicePart_none ?_)
 show wpAny _ _ (if ((1 : Int) == 0) = true then _ else _) _ _ s
 rw [if_neg (by decide)]
 refine wpAny_bind (slicePart_ pl (wpAny_bind (slicePart_ pu (wpAny_bind (wpAny_pure ?_)))))
 show wpAny _ _ (match Builtin.Slice.sliceAdjust lo hi 1 (n : Int) with | (lo, hi) => pure (lo, (1 : Int), Builtin.Slice.slicePlaces lo hi 1)) _ _ s
 rw [adjust_gen lo hi n]
 show wpAny _ _ (pure (((sIx n 0 lo : Nat) : Int), (1 : Int), Builtin.Slice.slicePlaces ((sIx n 0 lo : Nat) : Int) ((sIx n n hi : Nat) : Int) 1)) _ _ s
 rw [places_gen]
 exact wpAny_pure h
theorem pick_gen (xs : Array Value) (i k : Nat) : ((List.range k).filterMap fun (m : Nat) => xs[((i : Int) + (m : Int) * 1).toNat]?).toArray = ((xs.toList.drop i).take k).toArray := by
 have e : (fun (m : Nat) => xs[((i : Int) + (m : Int) * 1).toNat]?) = fun m => xs[i + m]? := by
  funext m
  have : ((i : Int) + (m : Int) * 1).toNat = i + m := by lia
  rw [this]
 rw [e]
 have := pick_run xs i k
 rw [List.filterMap_map] at this
 have e2 : ((fun x => xs[x]?) ∘ fun x => i + x) = fun m => xs[i + m]? := rfl
 rw [e2] at this
 rw [this]
theorem getItem_tuple_cut {t sl : Addr} {items : Array Value} {vl vu : Value} {lo hi : Option Int} {Q : Value → Shared → Prop} (ht : IsTup s.heap t items) (hs : s.heap.IsSliceOf sl vl vu .none) (pl : IsPart vl lo) (pu : IsPart vu hi)
  (hw : ¬ (sIx items.size 0 lo = 0 ∧ sIx items.size items.size hi = items.size))
  (h : Q (.ref s.heap.objs.size) { s with heap := s.heap.push { cls := .type "tuple", data := .seq ((items.toList.drop (sIx items.size 0 lo)).take (sIx items.size items.size hi - sIx items.size 0 lo)).toArray } })
  (hsz : items.size ≤ sizeLine) : wpAny (model prog w) A (getItem (.ref t) (.ref sl)) Q E s := by
 have htake : sizeOk (.seq ((items.toList.drop (sIx items.size 0 lo)).take (sIx items.size items.size hi - sIx items.size 0 lo)).toArray) := by
  show ((items.toList.drop (sIx items.size 0 lo)).take (sIx items.size items.size hi - sIx items.size 0 lo)).toArray.size ≤ sizeLine
  rw [List.size_toArray, List.length_take, List.length_drop, Array.length_toList]
  lia
 have hj : sIx items.size items.size hi ≤ items.size := sIx_le _ _ (Nat.le_refl _) hi
 obtain ⟨os, hos, hcs, hds⟩ := id hs
 have hTs : s.TypeIs (.ref sl) "slice" := ⟨os, hos, hcs⟩
 unfold getItem
 try with_reducible refine wpAny_holding ?_
 first | refine wpAny_bind (wpAny_pure ?_) | skip
 refine wpAny_bind (wpAny_sequenceKey ht.typeIs (by decide) ?_)
 refine wpAny_bind (wpAny_callSpecial?_slot (name := Str.ofString "__getitem__") ht.typeIs PyProof.Rows.slot_tuple_getitem
  (wpAny_call_entry PyProof.Rows.slot_tuple_getitem ht.typeIs entry_tuple_getitem ?_ (args_tuple_getitem _ _)))
 show wpAny _ _ (Builtin.Tuple.tupleItemsOf (.ref t) >>= _) _ _ s
 refine wpAny_bind (tupleItemsOf_ ht ?_)
 refine wpAny_bind (wpAny_typeOf hTs ?_)
 rw [if_pos (by decide)]
 refine wpAny_bind (sliceApplied_gen hs pl pu ?_)
 have hno : ¬ ((((sIx items.size 0 lo : Nat) : Int) == 0 && (1 : Int) == 1 && (sIx items.size items.size hi - sIx items.size 0 lo) == items.size) = true) := by
  intro q
  rw [Bool.and_eq_true, Bool.and_eq_true] at q
  have q1 : ((sIx items.size 0 lo : Nat) : Int) = 0 := eq_of_beq q.1.1
  have q2 : sIx items.size items.size hi - sIx items.size 0 lo = items.size := eq_of_beq q.2
  exact hw ⟨by lia, by lia⟩
 show wpAny _ _ (if (((sIx items.size 0 lo : Nat) : Int) == 0 && (1 : Int) == 1 && (sIx items.size items.size hi - sIx items.size 0 lo) == items.size) = true then _ else _) _ _ s
 rw [if_neg hno, pick_gen]
 first
  | exact wpAny_bind (m := Builtin.Tuple.tupleExact _) (wpAny_newObj_type (wpAny_pure ⟨_, rfl, wpAny_pure h⟩) htake)
  | exact wpAny_bind (m := Builtin.Tuple.tupleExact _) (wpAny_newObj_type (wpAny_bind (wpAny_pure (wpAny_pure ⟨_, rfl, wpAny_pure h⟩))) htake)
  | exact wpAny_bind (wpAny_bind (m := Builtin.Tuple.tupleExact _) (wpAny_newObj_type (wpAny_pure (wpAny_pure ⟨_, rfl, wpAny_pure h⟩)) htake))
  | exact wpAny_bind (wpAny_bind (m := Builtin.Tuple.tupleExact _) (wpAny_newObj_type (wpAny_pure ⟨_, rfl, wpAny_pure h⟩) htake))
end
end HT
namespace L2
open PySem PySem.Spec PyProof.Rows
noncomputable abbrev TO := St → Hp → (Option Int → Hp → Prop) → Prop
noncomputable def PO (X : Cx) (e : Option Expr) (t : TO) : Prop :=
 ∀ (pins : List (Addr × Obj)) (s : Shared) (σ : St) (H : Hp) (Q : Option Int → Hp → Prop), Inv X pins σ H s → t σ H Q →
  wpAny (model X.prog X.w) X.A (evalPart e X.env) (fun u s' => ∃ o H', Inv X pins σ H' s' ∧ IsPart u o ∧ Q o H') X.xe s
noncomputable def tNoPart : TO := fun _ H Q => Q none H
inductive tPartI (Q : Option Int → Hp → Prop) (x : V) (H1 : Hp) : Prop
 | mk (i : _) : (x = .int i) → (Q (some i) H1) → tPartI Q x H1
noncomputable def tPart (t : TE) : TO := fun σ H Q => t σ H fun x H1 => tPartI Q x H1
theorem intsAre_of {ns : List Int} : ∀ {us : List Value}, Vals (ns.map V.int) us → IntsAre us ns := by
 induction ns with
 | nil => intro us r; rw [List.map_nil] at r; cases r; exact .nil
 | cons n ns ih =>
  intro us r
  rw [List.map_cons] at r
  cases r with
  | cons r1 r2 =>
   obtain ⟨t, e⟩ := r1
   subst e
   exact .cons n t (ih r2)
section
variable {X : Cx} {e : Expr} {te : TE} {lo hi : Option Expr} {tl th : TO} {pos p2 : Pos}
theorem po_none : PO X none tNoPart := by
 intro pins s σ H Q I h
 rw [evalPart_none]
 exact wpAny_pure ⟨none, H, I, .none, h⟩
theorem po_some (h : PE X e te) : PO X (some e) (tPart te) := by
 intro pins s σ H Q I hw
 rw [evalPart_some]
 refine thn (h pins s σ H _ I hw) fun u s1 ⟨x, H1, I1, r1, q1⟩ => ?_
 obtain ⟨i, rfl, q⟩ := q1
 obtain ⟨t, rfl⟩ := r1
 exact ⟨some i, H1, I1, .int i t, q⟩
noncomputable def SlR (X : Cx) (r : V → Option Int → Option Int → Hp → VK → Prop) : Prop :=
 ∀ (pins : List (Addr × Obj)) (s : Shared) (σ : St) (H : Hp) (x : V) (v vl vu : Value) (lo hi : Option Int) (sl : Addr) (Q : VK), Inv X pins σ H s → RelV x v → s.heap.IsSliceOf sl vl vu .none → IsPart vl lo → IsPart vu hi → r x lo hi H Q →
  ∃ T id, typeLookup (.type T) "__getitem__" = pure (some (.builtin id)) ∧ s.TypeIs v T ∧ wpAny (model X.prog X.w) X.A (getItem v (.ref sl)) (EP X pins σ Q) X.xe s
noncomputable def tSl (r : V → Option Int → Option Int → Hp → VK → Prop) (te : TE) (tl th : TO) : TE := fun σ H Q => te σ H fun x H1 => tl σ H1 fun l H2 => th σ H2 fun u H3 => r x l u H3 Q
theorem pe_slice {r : V → Option Int → Option Int → Hp → VK → Prop} (hr : SlR X r) (he : PE X e te) (hl : PO X lo tl) (hu : PO X hi th) : PE X (.Subscript e (.Slice lo hi none p2) pos) (tSl r te tl th) := by
 intro pins s σ H Q I h
 refine Subscript_ (thn (he pins s σ H _ I h) fun v s1 ⟨x, H1, I1, r1, q1⟩ => ?_)
 refine wpAny_Slice (thn (hl pins s1 σ H1 _ I1 q1) fun vl s2 ⟨l, H2, I2, pl, q2⟩ => thn (hu pins s2 σ H2 _ I2 q2) fun vu s3 ⟨u, H3, I3, pu, q3⟩ => ?_)
 rw [evalPart_none]
 refine wpAny_pure ?_
 have I4 : Inv X pins σ H3 { s3 with heap := s3.heap.push { cls := .type "slice", data := .fields #[vl, vu, .none] } } := I3.kept (t' := s3.toks) fun b ob q => Heap.get?_push_of_some _ q
 obtain ⟨T, id, hT, ht, hg⟩ := hr pins { s3 with heap := s3.heap.push { cls := .type "slice", data := .fields #[vl, vu, .none] } } σ H3 x v vl vu l u s3.heap.objs.size Q I4 r1 (Heap.IsSliceOf.new ..) pl pu q3
 show wpAny (model X.prog X.w) X.A (subscriptTail e (.Slice lo hi none p2) v (.ref s3.heap.objs.size)) (EP X pins σ Q) X.xe { s3 with heap := s3.heap.push { cls := .type "slice", data := .fields #[vl, vu, .none] } }
 exact tail_any (ops := [.ref s3.heap.objs.size, v]) ht hT hg (by with_unfolding_all rfl)
noncomputable def cutV (xs : List V) (lo hi : Option Int) : List V := (xs.drop (HT.sIx xs.length 0 lo)).take (HT.sIx xs.length xs.length hi - HT.sIx xs.length 0 lo)
theorem cutV_length (xs : List V) (lo hi : Option Int) : (cutV xs lo hi).length ≤ xs.length := by
 unfold cutV
 rw [List.length_take, List.length_drop]
 lia
inductive rSlTI (K : PySem.W.Frag) (x : V) (lo : Option Int) (hi : Option Int) (H : Hp) (Q : VK) : Prop
 | mk (a : _) (xs : _) : (x = .ref a) → (SqT K H a xs) → (¬ (HT.sIx xs.length 0 lo = 0 ∧ HT.sIx xs.length xs.length hi = xs.length)) → (∀ p, H p = none → Q (.ref p) (upd H p (.tup (cutV xs lo hi)))) → rSlTI K x lo hi H Q
noncomputable def rSlT (K : PySem.W.Frag) : V → Option Int → Option Int → Hp → VK → Prop := fun x lo hi H Q => rSlTI K x lo hi H Q
theorem sl_tup : SlR X (rSlT X.K) := by
 intro pins s σ H x v vl vu lo hi sl Q I rx hs pl pu h
 obtain ⟨a, xs, rfl, hx, hw, q⟩ := h
 cases rx
 obtain ⟨its, r, ht, hz⟩ := I.tuple hx
 have hlen : its.toArray.size = xs.length := by rw [List.size_toArray]; exact r.length.symm
 refine ⟨"tuple", _, PyProof.Rows.slot_tuple_getitem.lookup, ht.typeIs, ?_⟩
 refine HT.getItem_tuple_cut ht hs pl pu (by rw [hlen]; exact hw) ?_ (by rw [hlen]; exact hz)
 rw [hlen]
 refine ⟨.ref s.heap.objs.size, _, I.laid (t' := s.toks) (o := .tup (cutV xs lo hi)) (fun b ob q => Heap.get?_push_of_some _ q) (Nat.le_refl _) ?_, rfl, q _ (I.hok.fresh (Nat.le_refl _))⟩
 exact ⟨Nat.le_trans (cutV_length xs lo hi) hz, _, (r.drop (HT.sIx xs.length 0 lo)).take (HT.sIx xs.length xs.length hi - HT.sIx xs.length 0 lo), IsTup.new _ _⟩
inductive rCatTI (K : PySem.W.Frag) (x : V) (y : V) (H : Hp) (Q : VK) : Prop
 | mk (a : _) (b : _) (xs : _) (ys : _) : (x = .ref a) → (y = .ref b) → (SqT K H a xs) → (SqT K H b ys) → (xs ≠ []) → (xs.length + ys.length ≤ sizeLine) → ((ys = [] → Q (.ref a) H)) → ((ys ≠ [] → ∀ p, H p = none → Q (.ref p) (upd H p (.tup (xs ++ ys))))) → rCatTI K x y H Q
noncomputable def rCatT (K : PySem.W.Frag) : R2 := fun x y H Q => rCatTI K x y H Q
theorem Vals.nil_iff {xs : List V} {us : List Value} (r : Vals xs us) : us = [] ↔ xs = [] := by
 cases r with
 | nil => simp
 | cons _ _ => simp
theorem op_catT : OpR X (binaryOp .Add) (rCatT X.K) := by
 intro pins s σ H x y v u Q I rx ry h
 obtain ⟨a, b, xs, ys, rfl, rfl, ha, hb, hx, hz, q1, q2⟩ := h
 cases rx
 cases ry
 obtain ⟨its, r1, p1, _⟩ := I.tuple ha
 obtain ⟨its2, r2, p2, _⟩ := I.tuple hb
 refine HT.cat_tup p1 p2 (fun z => hx (r1.nil_iff.mp z)) (fun z => ⟨.ref a, H, I, rfl, q1 (r2.nil_iff.mp z)⟩) (fun z => ?_) (by rw [← r1.length, ← r2.length]; exact hz)
 refine ⟨.ref s.heap.objs.size, _, I.laid (t' := s.toks) (o := .tup (xs ++ ys)) (fun b ob q => Heap.get?_push_of_some _ q) (Nat.le_refl _) ?_, rfl, q2 (fun w => z (r2.nil_iff.mpr w)) _ (I.hok.fresh (Nat.le_refl _))⟩
 exact ⟨by rw [List.length_append]; exact hz, _, r1.append r2, IsTup.new _ _⟩
end
end L2
namespace L2
open PySem PySem.Spec PyProof.Rows
noncomputable def ixN (n : Nat) (i : Int) : Option Nat := if 0 ≤ i then (if i < n then some i.toNat else none) else if -(n : Int) ≤ i then some (i + n).toNat else none
noncomputable def atI {α : Type} (xs : List α) (i : Int) : Option α := (ixN xs.length i).bind fun j => xs[j]?
theorem ixN_seq {n : Nat} {i : Int} {j : Nat} (h : ixN n i = some j) : seqIndex? i n = some j ∧ j < n ∧ -(n : Int) ≤ i ∧ i < n := by
 unfold ixN at h
 by_cases h0 : 0 ≤ i
 ·rw [if_pos h0] at h
  by_cases h1 : i < n
  ·rw [if_pos h1] at h
   have e : i.toNat = j := Option.some.inj h
   exact ⟨by rw [seqIndex_of h0 h1, e], by lia, by lia, h1⟩
  ·rw [if_neg h1] at h; cases h
 ·rw [if_neg h0] at h
  by_cases h1 : -(n : Int) ≤ i
  ·rw [if_pos h1] at h
   have e : (i + n).toNat = j := Option.some.inj h
   exact ⟨by rw [seqIndex_neg (by lia) h1, e], by lia, h1, by lia⟩
  ·rw [if_neg h1] at h; cases h
theorem atI_get {α : Type} {xs : List α} {i : Int} {v : α} (h : atI xs i = some v) : ∃ j, seqIndex? i xs.length = some j ∧ xs[j]? = some v ∧ j < xs.length ∧ -(xs.length : Int) ≤ i ∧ i < xs.length := by
 unfold atI at h
 cases e : ixN xs.length i with
 | none => rw [e] at h; cases h
 | some j =>
  rw [e] at h
  obtain ⟨h1, h2, h3, h4⟩ := ixN_seq e
  exact ⟨j, h1, h, h2, h3, h4⟩
theorem atI_nat {α : Type} {xs : List α} {j : Nat} {v : α} (h : xs[j]? = some v) : atI xs (j : Int) = some v := by
 have hj : j < xs.length := (List.getElem?_eq_some_iff.mp h).1
 have e : ixN xs.length (j : Int) = some j := by
  unfold ixN
  rw [if_pos (by lia), if_pos (by lia)]; simp
 unfold atI; rw [e]; exact h
theorem atI_last {α : Type} (xs : List α) (v : α) : atI (xs ++ [v]) (-1) = some v := by
 have hl : (xs ++ [v]).length = xs.length + 1 := by simp
 have e : ixN (xs ++ [v]).length (-1) = some xs.length := by
  unfold ixN
  rw [hl, if_neg (by decide), if_pos (by lia)]
  congr 1
  lia
 unfold atI
 rw [e]
 show (xs ++ [v])[xs.length]? = some v
 simp
noncomputable def PlainIx (b : Expr) : Prop := ∀ o i, subscripted b false o i = operate [o, i] (getItem o i)
noncomputable def IxR (X : Cx) (r : R2) : Prop :=
 ∀ (value slice : Expr) (pins : List (Addr × Obj)) (s : Shared) (σ : St) (H : Hp) (x y : V) (v u : Value) (Q : VK), Inv X pins σ H s → RelV x v → RelV y u → r x y H Q →
  subscripted slice false v u = operate [v, u] (getItem v u) → wpAny (model X.prog X.w) X.A (subscriptTail value slice v u) (EP X pins σ Q) X.xe s
noncomputable def MtR (X : Cx) (id : String) (r : V → List V → Hp → VK → Prop) : Prop :=
 ∀ (pins : List (Addr × Obj)) (s : Shared) (σ : St) (H : Hp) (x : V) (xs : List V) (v : Value) (us : List Value) (Q : VK), Inv X pins σ H s → RelV x v → Vals xs us → r x xs H Q →
  wpAny (model X.prog X.w) X.A (call (.builtin id) (v :: us)) (EP X pins σ Q) X.xe s
section
variable {X : Cx} {a b : Expr} {ta tb : TE} {pos : Pos}
theorem pe_ix {r : R2} (hr : IxR X r) (ha : PE X a ta) (hb : PE X b tb) (hs : PlainIx b) : PE X (.Subscript a b pos) (tOp r ta tb) := by
 intro pins s σ H Q I h
 exact Subscript_ (binT ha hb I h fun v u s2 x y H2 I2 rx ry q => hr a b pins s2 σ H2 x y v u Q I2 rx ry q (hs _ _))
inductive rIxLI (K : PySem.W.Frag) (x : V) (y : V) (H : Hp) (Q : VK) : Prop
 | mk (p : _) (xs : _) (i : _) (v : _) : (x = .ref p) → (y = .int i) → (SqL K H p xs) → (atI xs i = some v) → (Q v H) → rIxLI K x y H Q
noncomputable def rIxL (K : PySem.W.Frag) : R2 := fun x y H Q => rIxLI K x y H Q
inductive rIxTI (K : PySem.W.Frag) (x : V) (y : V) (H : Hp) (Q : VK) : Prop
 | mk (p : _) (xs : _) (i : _) (v : _) : (x = .ref p) → (y = .int i) → (SqT K H p xs) → (atI xs i = some v) → (Q v H) → rIxTI K x y H Q
noncomputable def rIxT (K : PySem.W.Frag) : R2 := fun x y H Q => rIxTI K x y H Q
theorem ix_list : IxR X (rIxL X.K) := by
 intro value slice pins s σ H x y v u Q I rx ry h hs
 obtain ⟨p, xs, i, z, rfl, rfl, hq, he, q⟩ := h
 cases rx
 obtain ⟨t, rfl⟩ := ry
 obtain ⟨its, r, pl, hz⟩ := I.list hq
 obtain ⟨j, h1, h2, h3, h4, h5⟩ := atI_get he
 obtain ⟨w, ew, rw'⟩ := r.get h2
 have hl := r.length
 have hn := line63
 have fin : EP X pins σ Q w s := ⟨z, H, I, rw', q⟩
 by_cases h0 : 0 ≤ i
 ·have hj : i.toNat = j := by
   rw [seqIndex_of h0 h5] at h1
   exact Option.some.inj h1
  exact item_listR pl.isList h0 (by lia) (by rw [hj]; simpa using ew) fin hs
 ·have hj : (i + (its.toArray.size : Int)).toNat = j := by
   rw [seqIndex_neg (by lia) h4] at h1
   rw [List.size_toArray, ← hl]
   exact Option.some.inj h1
  exact subscriptTail_builtinR (x := w) pl.isList.typeIs slot_list_getitem.lookup
   (wpAny_getItem_list_neg (Q := fun r s' => r = w ∧ EP X pins σ Q r s') pl.isList (by lia) (by rw [List.size_toArray] <;> lia) (by lia) (by rw [hj]; simpa using ew) ⟨rfl, fin⟩) hs
theorem ix_tup : IxR X (rIxT X.K) := by
 intro value slice pins s σ H x y v u Q I rx ry h hs
 obtain ⟨p, xs, i, z, rfl, rfl, hq, he, q⟩ := h
 cases rx
 obtain ⟨t, rfl⟩ := ry
 obtain ⟨its, r, pl, hz⟩ := I.tuple hq
 obtain ⟨j, h1, h2, h3, h4, h5⟩ := atI_get he
 obtain ⟨w, ew, rw'⟩ := r.get h2
 have hl := r.length
 have hn := line63
 have fin : EP X pins σ Q w s := ⟨z, H, I, rw', q⟩
 exact subscriptTail_builtinR (x := w) pl.typeIs slot_tuple_getitem.lookup
  (getItem_tuple (j := j) (Q := fun r s' => r = w ∧ EP X pins σ Q r s') pl (by lia) (by lia) (by rw [List.size_toArray, ← hl]; exact h1) (by simpa using ew) ⟨rfl, fin⟩) hs
theorem slice_bounds (lo hi : Option Int) (n : Nat) : (sliceBounds lo hi none n).1 = ((HT.sIx n 0 lo : Nat) : Int) ∧ (sliceBounds lo hi none n).2.1 = ((HT.sIx n n hi : Nat) : Int) ∧ (sliceBounds lo hi none n).2.2 = 1 := by
 refine ⟨?_, ?_, rfl⟩
 ·cases lo with
  | none => simp [sliceBounds, HT.sIx]
  | some i =>
   simp only [sliceBounds, HT.sIx, Option.getD_none, show (1 : Int) > 0 by decide, if_true]
   by_cases h : i < 0
   ·simp only [h, if_true] <;> lia
   ·simp only [h, if_false] <;> lia
 ·cases hi with
  | none => simp [sliceBounds, HT.sIx]
  | some i =>
   simp only [sliceBounds, HT.sIx, Option.getD_none, show (1 : Int) > 0 by decide, if_true]
   by_cases h : i < 0
   ·simp only [h, if_true] <;> lia
   ·simp only [h, if_false] <;> lia
theorem slicePick_cut (its : List Value) (lo hi : Option Int) : slicePick its.toArray lo hi none = ((its.drop (HT.sIx its.length 0 lo)).take (HT.sIx its.length its.length hi - HT.sIx its.length 0 lo)).toArray := by
 obtain ⟨h1, h2, h3⟩ := slice_bounds lo hi its.toArray.size
 unfold slicePick
 rw [h1, h2, h3]
 simp only [sliceRange_one, pick_run, List.size_toArray] <;> rfl
inductive rSlLI (K : PySem.W.Frag) (x : V) (lo : Option Int) (hi : Option Int) (H : Hp) (Q : VK) : Prop
 | mk (a : _) (xs : _) : (x = .ref a) → (SqL K H a xs) → (∀ p, H p = none → Q (.ref p) (upd H p (.lst (cutV xs lo hi)))) → rSlLI K x lo hi H Q
noncomputable def rSlL (K : PySem.W.Frag) : V → Option Int → Option Int → Hp → VK → Prop := fun x lo hi H Q => rSlLI K x lo hi H Q
theorem sl_list : SlR X (rSlL X.K) := by
 intro pins s σ H x v vl vu lo hi sl Q I rx hs pl pu h
 obtain ⟨a, xs, rfl, hx, q⟩ := h
 cases rx
 obtain ⟨its, r, ht, hz⟩ := I.list hx
 have hlen := r.length
 refine ⟨"list", _, slot_list_getitem.lookup, ht.isList.typeIs, ?_⟩
 refine wpAny_getItem_list_slice ht.isList hs pl pu .none (by simp) ?_ (by rw [List.size_toArray] <;> lia)
 rw [slicePick_cut, ← hlen]
 refine ⟨.ref s.heap.objs.size, _, I.laid (t' := s.toks) (o := .lst (cutV xs lo hi)) (fun b ob q => Heap.get?_push_of_some _ q) (Nat.le_refl _) ?_, rfl, q _ (I.hok.fresh (Nat.le_refl _))⟩
 exact ⟨Nat.le_trans (cutV_length xs lo hi) hz, _, 0, (r.drop (HT.sIx xs.length 0 lo)).take (HT.sIx xs.length xs.length hi - HT.sIx xs.length 0 lo), Heap.get?_push_size _ rfl⟩
theorem call_len_seq : CallR X (.builtin "len") (fun xs H Q => ∃ p ys, xs = [.ref p] ∧ (SqL X.K H p ys ∨ SqT X.K H p ys) ∧ Q (.int ys.length) H) := by
 intro pins s σ H xs us Q I r h
 obtain ⟨p, ys, rfl, hq, q⟩ := h
 obtain ⟨u, rfl, rx⟩ := vals1 r
 cases rx
 have hn := line63
 rcases hq with hq | hq
 ·obtain ⟨its, r', pl, hz⟩ := I.list hq
  have hlen := r'.length
  exact Calls.call_len_list pl.isList (by simp only [List.size_toArray] <;> lia) ⟨.int ys.length, H, I.tok _, ⟨s.toks + 1, by rw [List.size_toArray, hlen]⟩, q⟩
 ·obtain ⟨its, r', pl, hz⟩ := I.tuple hq
  have hlen := r'.length
  exact len_tuple pl (by simp only [List.size_toArray] <;> lia) ⟨.int ys.length, H, I.tok _, ⟨s.toks + 1, by rw [List.size_toArray, hlen]⟩, q⟩
theorem call_list_of : CallR X (.type "list") (fun xs H Q => ∃ p ys, xs = [.ref p] ∧ (SqL X.K H p ys ∨ SqT X.K H p ys) ∧ ∀ l, H l = none → Q (.ref l) (upd H l (.lst ys))) := by
 intro pins s σ H xs us Q I r h
 obtain ⟨p, ys, rfl, hq, q⟩ := h
 obtain ⟨u, rfl, rx⟩ := vals1 r
 cases rx
 have fin : ∀ (its : List Value), Vals ys its → ys.length ≤ sizeLine → ∀ (h' : Heap) (c' : Nat), (∀ b o', s.heap.get? b = some o' → h'.get? b = some o') →
   h'.get? s.heap.objs.size = some { cls := .type "list", dict := none, data := .seq its.toArray c', slots := #[] } → EP X pins σ Q (.ref s.heap.objs.size) { s with heap := h' } := fun its r' hz h' c' kp e =>
  ⟨.ref s.heap.objs.size, _, I.laid (t' := s.toks) kp (Nat.le_refl _) (show ObjOk X.prog X.w _ h' _ (.lst ys) from ⟨hz, its, c', r', e⟩), rfl, q _ (I.hok.fresh (Nat.le_refl _))⟩
 rcases hq with hq | hq
 ·obtain ⟨its, r', pl, hz⟩ := I.list hq
  have hlen := r'.length
  obtain ⟨o, ho, hc, n, hd⟩ := pl.isList
  exact call_list_seq p (.inl rfl) ho hc hd (fun h' c' kp e => fin its r' hz h' c' kp e) (by simp only [List.size_toArray] <;> lia)
 ·obtain ⟨its, r', pl, hz⟩ := I.tuple hq
  have hlen := r'.length
  obtain ⟨o, ho, hc, n, hd⟩ := pl
  exact call_list_seq p (.inr rfl) ho hc hd (fun h' c' kp e => fin its r' hz h' c' kp e) (by simp only [List.size_toArray] <;> lia)
noncomputable def tyV (K : PySem.W.Frag) (T : String) (x : V) (H : Hp) : Prop := match x with
 | .str _ => T = "str"
 | .int _ => T = "int"
 | .ref p => (T = "list" ∧ ∃ xs, SqL K H p xs) ∨ (T = "tuple" ∧ ∃ o, K.lookup p = some o ∧ o.cls = .type "tuple" ∧ o.dict = none) ∨
   (T = "dict" ∧ ((∃ kvs, H p = some (.dK kvs)) ∨ ∃ kvs, H p = some (.dT kvs))) ∨ (T = "set" ∧ ∃ S n, H p = some (.set S n))
 | _ => False
theorem tyV_is {pins : List (Addr × Obj)} {σ : St} {H : Hp} {s : Shared} {T : String} {x : V} {v : Value} (I : Inv X pins σ H s) (r : RelV x v) (ty : tyV X.K T x H) :
  s.TypeIs v T ∧ ∀ a, v = .ref a → ∃ ob, s.heap.get? a = some ob ∧ ob.dict = none := by
 cases x with
 | str z =>
  obtain ⟨t, rfl⟩ := r
  cases (show T = "str" from ty)
  exact ⟨typeIs_str s z t, fun _ e => nomatch e⟩
 | int i =>
  obtain ⟨t, rfl⟩ := r
  cases (show T = "int" from ty)
  exact ⟨typeIs_int s i t, fun _ e => nomatch e⟩
 | ref p =>
  cases r
  rcases ty with ⟨rfl, xs, hq⟩ | ⟨rfl, o, hk, hc, hd⟩ | ⟨rfl, hk⟩ | ⟨rfl, S, n, hk⟩
  ·obtain ⟨its, _, pl, _⟩ := I.list hq
   refine ⟨pl.isList.typeIs, fun a e => ?_⟩
   cases e
   obtain ⟨o, n, e, c, hd, _⟩ := pl
   exact ⟨o, e, hd⟩
  ·refine ⟨⟨o, I.kIn p o hk, hc⟩, fun a e => ?_⟩
   cases e
   exact ⟨o, I.kIn _ o hk, hd⟩
  ·have z : ∃ o, s.heap.get? p = some o ∧ o.ExactDict := by
    rcases hk with ⟨kvs, hk⟩ | ⟨kvs, hk⟩
    ·obtain ⟨_, _, _, _, o, _, _, e, ex, _⟩ := I.hok p _ hk
     exact ⟨o, e, ex⟩
    ·obtain ⟨_, _, _, _, o, _, _, e, ex, _⟩ := I.hok p _ hk
     exact ⟨o, e, ex⟩
   obtain ⟨o, e, ex⟩ := z
   refine ⟨⟨o, e, ex.1⟩, fun a e2 => ?_⟩
   cases e2
   exact ⟨o, e, ex.2.1⟩
  ·obtain ⟨o, _, _, _, e, ex, _⟩ := I.hok p _ hk
   refine ⟨⟨o, e, ex.1⟩, fun a e2 => ?_⟩
   cases e2
   exact ⟨o, e, ex.2.1⟩
 | _ => exact False.elim ty
noncomputable def tBM0 (K : PySem.W.Frag) (T : String) (r : V → List V → Hp → VK → Prop) (to : TE) : TE := fun σ H Q => to σ H fun x H1 => tyV K T x H1 ∧ r x [] H1 Q
noncomputable def tBM (K : PySem.W.Frag) (T : String) (r : V → List V → Hp → VK → Prop) (to : TE) (t : TA) : TE := fun σ H Q => to σ H fun x H1 => tyV K T x H1 ∧ t σ H1 fun xs H2 => r x xs H2 Q
variable {o e : Expr} {es : List Expr} {to : TE} {t : TA} {name : Str} {apos cpos : Pos} {T id : String} {r : V → List V → Hp → VK → Prop}
theorem pe_bm0 (pa : PlainAttrs T) (slot : Slot T name id) (hty : typeOf (.builtin id) = pure (.type "method_descriptor")) (hm : MtR X id r) (ho : PE X o to)
  (hbase : attributeBase o name X.env (eval o X.env) = eval o X.env := by rfl) (hline : (apos.endLine == cpos.line) = true := by rfl) : PE X (.Call (.Attribute o name apos) [] [] cpos) (tBM0 X.K T r to) := by
 intro pins s σ H Q I h
 refine wpAny_Call_method0_late hbase hline (thn (ho pins s σ H _ I h) fun v s1 ⟨x, H1, I1, r1, ty, q1⟩ => ?_)
 obtain ⟨h1, h2⟩ := tyV_is I1 r1 ty
 exact ⟨T, id, pa, slot, hty, h1, h2, Calls.callWith_builtin rfl (PySem.evalArgs_none (hm pins s1 σ H1 x [] v [] Q I1 r1 .nil q1))⟩
theorem pe_bm (pa : PlainAttrs T) (slot : Slot T name id) (hty : typeOf (.builtin id) = pure (.type "method_descriptor")) (hm : MtR X id r) (ho : PE X o to) (ha : PA X (e :: es) t)
  (hbase : attributeBase o name X.env (eval o X.env) = eval o X.env := by rfl)
  (hfew : ((backTo cpos (starEach (e :: es) X.env)).all (fun x => !x.1) && (backToKw cpos (keywordEach [] X.env)).all (fun x => x.1.isSome)
   && decide ((e :: es).length + ([] : List Keyword).length + (if ([] : List Keyword).isEmpty then 0 else 1) < 30)) = true := by rfl)
  (hline : (apos.endLine == cpos.line) = true := by rfl) (hs : starEach (e :: es) X.env = (false, eval e X.env) :: starEach es X.env := by rfl) (hplain : (backTo cpos (starEach es X.env)).any (·.1) = false := by rfl) :
  PE X (.Call (.Attribute o name apos) (e :: es) [] cpos) (tBM X.K T r to t) := by
 intro pins s σ H Q I h
 refine wpAny_Call_method_late hbase hfew hline rfl (thn (ho pins s σ H _ I h) fun v s1 ⟨x, H1, I1, r1, ty, q1⟩ => ?_)
 obtain ⟨h1, h2⟩ := tyV_is I1 r1 ty
 refine ⟨T, id, pa, slot, hty, h1, h2, ?_⟩
 have hA := ha cpos pins s1 σ H1 _ I1 q1
 rw [hs] at hA ⊢
 refine Calls.callWith_builtin (by show (false || (backTo cpos (starEach es X.env)).any (·.1)) = false; rw [hplain] <;> rfl) (Calls.evalArgs_plain ?_)
 exact thn hA fun us s2 ⟨vs, H2, I2, r2, q2⟩ => hm pins s2 σ H2 x vs v us Q I2 r1 r2 q2
/- xs.append(e), list.index on a module's tuple .. are MtR facts of 06m -/
end
end L2
namespace L2
open PySem PySem.Spec PyProof.Rows
noncomputable def MtM (X : Cx) (id : String) (r : V → List V → Hp → VK → Prop) : Prop :=
 ∀ (pins : List (Addr × Obj)) (s : Shared) (σ : St) (H : Hp) (x : V) (xs : List V) (v : Value) (us : List Value) (Q : VK), Inv X pins σ H s → RelV x v → Vals xs us → r x xs H Q →
  wpAny (model X.prog X.w) X.A (call (.builtin id) (v :: us)) (EP X pins σ Q) X.xe s
theorem Vals.one : ∀ {x : V} {us : List Value}, Vals [x] us → ∃ u, us = [u] ∧ RelV x u
 | _, _, .cons r .nil => ⟨_, rfl, r⟩
section
variable {X : Cx} {pins : List (Addr × Obj)} {σ : St} {H : Hp} {s : Shared} {l b : Addr} {xs ys zs : List V}
theorem Inv.lset {its its' : List Value} {n : Nat} {f : Array Value → Array Value} {t' : Nat} (I : Inv X pins σ H s) (hH : H l = some (.lst xs))
  (e : s.heap.get? l = some { cls := .type "list", data := .seq its.toArray n }) (hf : f its.toArray = its'.toArray) (hv : Vals ys its') (hz : ys.length ≤ sizeLine) :
  Inv X pins σ (upd H l (.lst ys)) { s with heap := s.heap.update l (Obj.mapSeq f), toks := t' } := by
 have q := PySem.IsL.update e f
 rw [hf] at q
 refine I.write (x := l) (e := l) (by rw [hH]; exact trivial) (.inl rfl) (fun b' u hb hu => (Heap.get?_update_other s.heap (Obj.mapSeq f) (Ne.symm hb)).trans hu) ⟨_, q⟩ ?_
 exact ⟨hz, its', _, hv, q⟩
theorem Inv.lnew {its : List Value} {t' : Nat} (I : Inv X pins σ H s) (hv : Vals ys its) (hz : ys.length ≤ sizeLine) :
  Inv X pins σ (upd H s.heap.objs.size (.lst ys)) { s with heap := s.heap.push { cls := .type "list", data := .seq its.toArray }, toks := t' } :=
 I.laid (fun _ _ q => Heap.get?_push_of_some _ q) (Nat.le_refl _) ⟨hz, its, 0, hv, Heap.get?_push_size _ rfl⟩
theorem Inv.fresh (I : Inv X pins σ H s) : H s.heap.objs.size = none := I.hok.fresh (Nat.le_refl _)
theorem Inv.lstM (I : Inv X pins σ H s) (hH : H l = some (.lst xs)) : xs.length ≤ sizeLine ∧ ∃ (its : List Value) (n : Nat), Vals xs its ∧ xs.length = its.length ∧ s.heap.get? l = some { cls := .type "list", data := .seq its.toArray n } := by
 obtain ⟨z, its, n, r, e⟩ := I.hok l _ hH
 exact ⟨z, its, n, r, r.length, e⟩
end
section
variable {X : Cx}
inductive rAppendI (x : V) (vs : List V) (H : Hp) (Q : VK) : Prop
 | mk (l : _) (xs : _) (y : _) : (x = .ref l) → (vs = [y]) → (H l = some (.lst xs)) → (xs.length < sizeLine) → (Q .non (upd H l (.lst (xs ++ [y])))) → rAppendI x vs H Q
noncomputable def rAppend : V → List V → Hp → VK → Prop := fun x vs H Q => rAppendI x vs H Q
theorem mt_append : MtM X "list.append" rAppend := by
 intro pins s σ H x vs v us Q I rx rv h
 obtain ⟨l, xs, y, rfl, rfl, hH, hz, q⟩ := h
 cases rx
 obtain ⟨u, rfl, ru⟩ := rv.one
 obtain ⟨z, its, n, r, hl, e⟩ := I.lstM hH
 refine call_meets F.slot_list_append ⟨_, e, rfl⟩ F.entry_list_append (F.args_list_append_2 _ _) (PySem.list_append l its.toArray n u (by rw [List.size_toArray]; lia)) ⟨e, ?_⟩
 refine ⟨.non, _, I.lset (its' := its ++ [u]) hH e (by simp) (r.append (.cons ru .nil)) ?_, rfl, q⟩
 rw [List.length_append, List.length_singleton]
 lia
inductive rCatI (x : V) (y : V) (H : Hp) (Q : VK) : Prop
 | mk (l : _) (b : _) (xs : _) (zs : _) : (x = .ref l) → (y = .ref b) → (H l = some (.lst xs)) → (H b = some (.lst zs)) → (xs.length + zs.length ≤ sizeLine) → (∀ p, H p = none → Q (.ref p) (upd H p (.lst (xs ++ zs)))) → rCatI x y H Q
noncomputable def rCat : R2 := fun x y H Q => rCatI x y H Q
theorem op_cat : OpR X (binaryOp .Add) rCat := by
 intro pins s σ H x y v u Q I rx ry h
 obtain ⟨l, b, xs, zs, rfl, rfl, hH, hB, hz, q⟩ := h
 cases rx
 cases ry
 obtain ⟨z, its, n, r, hl, e⟩ := I.lstM hH
 obtain ⟨z2, its2, n2, r2, hl2, e2⟩ := I.lstM hB
 refine PySem.P.add_list e e2 ?_ (by rw [List.size_toArray, List.size_toArray]; lia)
 have ea : its.toArray ++ its2.toArray = (its ++ its2).toArray := by simp
 rw [ea]
 exact ⟨.ref _, _, I.lnew (t' := s.toks) (r.append r2) (by rw [List.length_append]; lia), rfl, q _ I.fresh⟩
end
section
variable {prog : Program} {w : World} {A : Around} {E : Value → Shared → Prop} {s : Shared}
end
section
variable {X : Cx}
end
end L2
namespace Att
open PySem PySem.W PySem.Calls PyProof.Rows
theorem ints_of_wellAll {P : Params} {h : Heap} : ∀ (ns : List Int) (vs : List Value), WellAll P h vs (ns.map WData.int) → IntsAre vs ns := by
 intro ns
 induction ns with
 | nil =>
  intro vs w
  rw [List.map_nil] at w
  cases w
  exact .nil
 | cons n ns ih =>
  intro vs w
  rw [List.map_cons] at w
  cases w with
  | cons a b =>
   cases a
   exact .cons _ _ (ih _ b)
theorem script_of {l : OpenLaw} {n : Nat} (hn : l.most = some n) {P : Params} {h : Heap} {args : List WData} {vals : List Value}
  (hpre : l.row.toRowW.claim.pre args = true) (hwl : WellAll P h vals args) :
  ∃ a vs ns, vals = [Value.ref a] ∧ args = [WData.list (ns.map WData.int)] ∧ h.get? a = some { cls := .type "list", data := .seq vs.toArray } ∧ IntsAre vs ns ∧ ns.length ≤ n := by
 have hsh : WShape.hasAll [] args [.list .int] = true := (pre_splitW hpre).1
 have hc : l.pre.holds [] { args := args } = true := (pre_splitW hpre).2
 obtain ⟨d, r, rfl, h1, h2⟩ := hasAllW_cons hsh
 obtain rfl := hasAllW_nil h2
 obtain ⟨xs, rfl, h3⟩ := hasW_list h1
 obtain ⟨ns, rfl⟩ := items_int h3
 have hlen : ns.length ≤ n := by
  unfold OpenLaw.pre at hc
  have h4 : (WTm.not (.lt (.lit (.int (n : Int))) (.len (.arg 0)))).holds [] { args := [.list (ns.map .int)] } = true := by
   have h4 := (holds_andW hc).1
   rw [hn] at h4
   exact h4
  have h5 := condW_of h4 (w_not (w_lt w_lit (w_len_list (w_arg rfl))))
  rw [List.length_map] at h5
  refine Nat.le_of_not_lt fun q => ?_
  have q' : (n : Int) < ((ns.length : Nat) : Int) := by lia
  first
   | (rw [decide_eq_true q'] at h5; exact absurd h5 (by decide))
   | (simp at h5; lia)
 cases hwl with
 | cons w1 w2 =>
  cases w2
  cases w1 with
  | list ho hall => exact ⟨_, _, ns, rfl, rfl, ho, ints_of_wellAll ns _ hall, hlen⟩
theorem post_true (l : OpenLaw) (args : List WData) : l.row.toRowW.claim.post args (.bool true) args = true :=
 postW_of (r := l.row.toRowW) (X := (true == true))
  (show WShape.has [] (.bool true) .bool = true by first | rfl | decide | simp [WShape.has, WShape.arms, WShape.armsAll])
  (show (WTm.eq .res (.lit (.bool true))).value [] { args := args, res := some (.bool true), after := args } = some (.bool (true == true)) from w_eq_bool (w_res rfl) w_lit) rfl
theorem attach_call {l : OpenLaw} {n : Nat} {q : Program} {loose : List Str} {XP : (Str → Option Value) → Heap → Prop} {YP : World → Heap → Prop} {d : DefRec}
  (hn : l.most = some n) (hdf : d.params.defaults = [])
  (call : ∀ (w : World) (s₀ s₁ : Shared) (mg mb : Str → Option Value) (fa : Addr) (o : Obj) (pm cd doc : Value) (a : Addr) (vs : List Value) (ns : List Int),
   Ground q loose [] XP w s₀ mg mb s₁.heap → YP w s₁.heap →
   s₁.heap.get? fa = some o → o.data = .func (docDef d.name d.params d.body d.scope pm cd doc) → s₁.heap.CodeRec cd d.name → mg d.name = some (.ref fa) →
   s₁.heap.get? a = some { cls := .type "list", data := .seq vs.toArray } → IntsAre vs ns → ns.length ≤ n → s₁.gens = #[] →
   codeAny (model l.prog w) callerA (.call (.ref fa) ⟨[.ref a], []⟩) (fun r s' => r = .ok (.ret (.bool true)) ∧ OldK s₁.heap s'.heap ∧ s'.os = s₁.os ∧ AllBare s'.gens) s₁) :
  WalkO q loose XP YP l.row.toRowW d [] (fun f vs => PySem.call f vs) := by
 intro w s₀ s₁ mg mb G Y fa o pm cd doc dV kV ho hd hcd hD hmg hg args vals as hpre hlay hrd hwl hlo
 obtain rfl : dV = .none := Dflts.none hD hdf
 obtain rfl : kV = .none := Dflts.noKw hD
 obtain ⟨a, vs, ns, rfl, rfl, hobj, hints, hlen⟩ := script_of hn hpre hwl
 refine enter_call (codeAny_mono (call w s₀ s₁ mg mb fa o pm cd doc a vs ns G Y ho (fd_plain hd) hcd hmg hobj hints hlen hg) fun r s' hq => ?_)
 obtain ⟨rfl, h2, h3, h4⟩ := hq
 exact ⟨.inl ⟨.bool true, .bool true, [], rfl, fun _ => rfl, .bool true, post_true l _, fun _ => ⟨List.Pairwise.nil, fun _ hm => (nomatch hm)⟩⟩, h2, h3, h4⟩
section
variable {prog : Program} {w : World} {A : Around} {E : Value → Shared → Prop} {s : Shared} {K : Frag}
end
end Att
namespace L2
open PySem PySem.Spec PyProof.Rows
theorem vals_ints : ∀ {vs : List Value} {ns : List Int}, IntsAre vs ns → Vals (ns.map V.int) vs
 | _, _, .nil => .nil
 | _, _, .cons n t h => .cons ⟨t, rfl⟩ (vals_ints h)
end L2
namespace L2
open PySem PySem.Spec PyProof.Rows
end L2
namespace L2
open PySem PySem.Spec PyProof.Rows
noncomputable def inClass (s : Stmt) (j : Nat) : Stmt := match s with
 | .ClassDef _ _ _ body _ _ _ _ _ _ _ => body.getD j (.Pass ⟨0, 0, 0, 0⟩)
 | _ => .Pass ⟨0, 0, 0, 0⟩
noncomputable def defArgs (s : Stmt) : Arguments := match s with
 | .FunctionDef _ a _ _ _ _ _ _ _ _ => a
 | _ => { posonlyargs := [], args := [], vararg := none, kwonlyargs := [], kw_defaults := [], kwarg := none, defaults := [] }
noncomputable def defBody (s : Stmt) : List Stmt := match s with
 | .FunctionDef _ _ b _ _ _ _ _ _ _ => b
 | _ => []
noncomputable def defScope (s : Stmt) : Scope := match s with
 | .FunctionDef _ _ _ _ _ _ sc _ _ _ => sc
 | _ => { kind := .function, names := [], isGenerator := false, isCoroutine := false }
noncomputable abbrev CX0 : CXT := fun _ _ _ _ _ _ => False
noncomputable abbrev E0 : XK := fun _ _ _ => False
theorem pass0 {X : Cx} : Passes CX0 X E0 := fun _ _ _ _ _ _ _ h => h.elim
structure Fun (K : PySem.W.Frag) (x qual : Str) (st : Stmt) (f : Addr) (fd : FuncData) : Prop where
 ex : ∃ (oc : Value) (od : Option Addr) (kV doc pm : Value) (an : Option Addr) (cdv ct : Value) (osl : Array (Option Value)),
  fd = PySem.W.fnOf x qual (defArgs st) (defBody st) (defScope st) .none kV doc pm an cdv ct ∧ K.lookup f = some ⟨oc, od, .func fd, osl⟩ ∧ PySem.W.codeIn K cdv qual = true
 kp : PySem.W.keepIn K (.ref f) = true
section
variable {P : Program} {w : World} {K : PySem.W.Frag} {mg : Str → Option Value} {base : Heap}
theorem Fun.ok {x qual : Str} {st : Stmt} {f : Addr} {fd : FuncData} {N ps : List Str} {k : Nat} {sp : Sp} (F : Fun K x qual st f fd) (S : FnScope N ps (defScope st)) (len : ∀ vs H Q E, sp vs H Q E → vs.length = ps.length)
  (hbody : ∀ (cdv : Value) (A : Around) (outer : List Env) (s : Shared) (H : Hp) (vs : List V) (Q : VK) (E : XK), Room k (A.deeper (envOfC qual (defScope st) s.heap.objs.size f cdv)) → sp vs H Q E →
   ∃ t, PSs (cxOf CX0 P w K mg base N qual (defScope st) f cdv A outer s H E).nox (defBody st) t ∧ t { nx := fun _ H' => Q .non H', rt := Q } (start N vs) H) : FnOk P w K mg base CX0 (k + 1) f fd ps sp := by
 obtain ⟨oc, od, kV, doc, pm, an, cdv, ct, osl, rfl, lk, hcd⟩ := F.ex
 refine fn_of lk hcd S len fun A outer s H vs Q E hr hsp => ?_
 obtain ⟨t, h, q⟩ := hbody cdv A outer s H vs Q E hr hsp
 exact ⟨t, h.nox, q⟩
theorem fun_mk {x qual : Str} {st : Stmt} {f : Addr} {oc : Value} {od an : Option Addr} {osl : Array (Option Value)} {kV doc pm cdv ct : Value} (l : K.lookup f = some ⟨oc, od, .func (PySem.W.fnOf x qual (defArgs st) (defBody st) (defScope st) .none kV doc pm an cdv ct), osl⟩)
  (c : PySem.W.codeIn K cdv qual = true) (k : PySem.W.keepIn K (.ref f) = true) : Fun K x qual st f (PySem.W.fnOf x qual (defArgs st) (defBody st) (defScope st) .none kV doc pm an cdv ct) := ⟨⟨oc, od, kV, doc, pm, an, cdv, ct, osl, rfl, l, c⟩, k⟩
end
theorem hu_of {A : Around} {k : Nat} (hr : Room k A) : A.units + 1 < cLine := Nat.lt_of_le_of_lt (Nat.add_le_add_left (by decide : 1 ≤ 64) _) hr.units
theorem small1000 {n : Nat} (h : n ≤ 1000) : n < sizeLine := Nat.lt_of_le_of_lt h (by decide)
section
variable {X : Cx}
theorem pv (i : Nat) {x : Str} {pos : Pos} (hN : X.N[i]? = some x := by rfl) (hv : Vis X.env.scope x := by first | exact Or.inl rfl | exact Or.inr (Or.inl rfl) | exact Or.inr (Or.inr rfl)) (hd : (x == ("__debug__" : Str)) = false := by decide)
  (hcd : (x == ("__classdict__" : Str)) = false := by decide) : PE X (.Name x pos) (tVar i) := pe_var hN hv hd hcd
end
theorem iteF {A B : Prop} (h : B) : if false = true then A else B := by
 rw [if_neg Bool.false_ne_true]
 exact h
theorem iteT {A B : Prop} (h : A) : if true = true then A else B := by
 rw [if_pos rfl]
 exact h
theorem ite2 {c A B : Prop} [Decidable c] (h1 : c → A) (h2 : ¬ c → B) : if c then A else B := by
 by_cases h : c
 ·rw [if_pos h]
  exact h1 h
 ·rw [if_neg h]
  exact h2 h
noncomputable def Same (H H' : Hp) : Prop := ∀ b o, H b = some o → H' b = some o
theorem Same.refl (H : Hp) : Same H H := fun _ _ h => h
theorem Same.trans {H H1 H2 : Hp} (a : Same H H1) (b : Same H1 H2) : Same H H2 := fun c o h => b c o (a c o h)
theorem Same.free {H H' : Hp} (e : Same H H') {l : Addr} (h : H' l = Option.none) : H l = Option.none := by
 cases q : H l with
 | none => rfl
 | some o =>
  rw [e l o q] at h
  cases h
theorem Same.seq {K : PySem.W.Frag} {H H' : Hp} {a : Addr} {xs : List V} (e : Same H H') (h : SqL K H a xs) : SqL K H' a xs := by
 rcases h with (h | ⟨o, h⟩) | h
 ·exact .inl (.inl (e _ _ h))
 ·exact .inl (.inr ⟨o, e _ _ h⟩)
 ·exact .inr h
end L2
namespace L2
open PySem PySem.Spec PyProof.Rows
theorem bt_isinstance : bootBuiltins "isinstance" = some (.builtin "isinstance") := by decide +kernel
theorem bt_len : bootBuiltins "len" = some (.builtin "len") := by decide +kernel
theorem bt_max : bootBuiltins "max" = some (.builtin "max") := by decide +kernel
theorem bt_min : bootBuiltins "min" = some (.builtin "min") := by decide +kernel
theorem bt_sorted : bootBuiltins "sorted" = some (.builtin "sorted") := by decide +kernel
theorem bt_bool : bootBuiltins "bool" = some (.type "bool") := by decide +kernel
theorem bt_int : bootBuiltins "int" = some (.type "int") := by decide +kernel
theorem bt_list : bootBuiltins "list" = some (.type "list") := by decide +kernel
theorem bt_str : bootBuiltins "str" = some (.type "str") := by decide +kernel
theorem bt_tuple : bootBuiltins "tuple" = some (.type "tuple") := by decide +kernel
end L2
namespace L2
open PySem PySem.Spec PyProof.Rows
theorem log2_of {n k : Nat} (hk : 0 < k) (h : n < 2 ^ k) : n.log2 < k := by
 rcases Nat.eq_zero_or_pos n with e | e
 ·subst e
  have : Nat.log2 0 = 0 := by decide
  lia
 ·exact (Nat.log2_lt (Nat.ne_of_gt e)).mpr h
noncomputable def Fig (i : Int) : Prop := -(10 ^ 100) < i ∧ i < 10 ^ 100
set_option exponentiation.threshold 500 in
theorem Fig.nat {i : Int} (h : Fig i) : i.natAbs < 2 ^ 400 := by
 have h1 : -(10 ^ 100 : Int) < i := h.1
 have h2 : i < (10 ^ 100 : Int) := h.2
 have e : (10 : Int) ^ 100 < 2 ^ 400 := by decide
 lia
theorem Fig.bits {i : Int} (h : Fig i) : Builtin.Int.intBits i ≤ 2 ^ 20 := by
 unfold Builtin.Int.intBits
 split
 ·exact Nat.zero_le _
 ·have := log2_of (by decide) h.nat
  lia
theorem Fig.noPy {i j : Int} (h : Fig j) : Builtin.divisionGoesByPylong i j = false :=
 PyProof.noPylong_of_log2 (Nat.lt_trans (log2_of (by decide) h.nat) (by decide))
section
variable {X : Cx}
theorem op_mulB : OpR X (binaryOp .Mult) (rI (fun i j => Fig i ∧ Fig j) fun i j => .int (i * j)) := opI fun _ _ _ _ _ _ _ hc q => mul_int q (.of_bits hc.1.bits hc.2.bits)
theorem op_fdivB : OpR X (binaryOp .FloorDiv) (rI (fun _ j => 0 < j ∧ Fig j) fun i j => .int (i / j)) := opI fun i j _ _ _ _ _ hc q => by
 have h1 : (0 : Int) < j := hc.1
 exact floordiv_int (by lia) (by rw [Int.fdiv_eq_ediv_of_nonneg i (by lia)]; exact q) (.inl hc.2.noPy)
end
noncomputable def Its (lo st : Int) (n : Nat) : It := ⟨fun i _ => i < n, fun i H x H' => H' = H ∧ x = .int (lo + i * st), fun i _ => n ≤ i⟩
theorem turn_rangeS {P : Program} {w : World} {K : PySem.W.Frag} {tg : Expr} (it : Addr) (lo st : Int) (n : Nat) : Turn P w K tg (Its lo st n) [it] it (fun i h => IsRangeIter h it (lo + (i : Nat) * st) ((n : Int) - (i : Nat)) st) where
 mem := by simp
 obj := fun i h st b hb => by
  have e : b = it := by simpa using hb
  subst e
  exact ⟨_, st, fun v z => by
   have z' : Data.fields _ = Data.cell v := z
   cases z'⟩
 keep := fun i h h' st k => k it (by simp) _ st
 item := by
  intro X hP hw hK hc i pins s σ H E I hf st' hg
  subst hP hw hK
  obtain ⟨f0, f1, f2, f3, f4, f5⟩ := hf it (by simp)
  have W := Walks.range (prog := X.prog) (w := X.w) (I.ok.hd hc) it lo st n
  refine W.item i s _ _ hg st' fun v h' tk hv st'' kk => ?_
  obtain ⟨t, rfl⟩ := hv
  have I1 : Inv X pins σ H { s with heap := h', toks := tk } := I.turned (fun b o hb e => kk b o (by simpa using hb) e) f0 f1 f3 f4 f5
  exact ⟨_, rfl, go_of (s := { s with heap := h', toks := tk }) (n := "range_iterator") st'' rfl rfl (by decide) ⟨.int (lo + i * st), H, I1, ⟨t, rfl⟩, ⟨rfl, rfl⟩, st'', fun b hb => (hf b hb).1⟩⟩
 done := by
  intro X hP hw hK hc i pins s σ H E I hf st' hg
  subst hP hw hK
  obtain ⟨f0, f1, f2, f3, f4, f5⟩ := hf it (by simp)
  exact wpAny_pyNext_range_end (I.ok.hd hc) st' (by have : n ≤ i := hg; lia) fun h' eb => ⟨rfl, I.turned (t' := s.toks) (fun b o hb e => eb b o hb e) f0 f1 f3 f4 f5⟩
 self := fun _ _ _ _ _ st' h => wpAny_pyIter_rangeiter st' h
theorem turn_long {P : Program} {w : World} {K : PySem.W.Frag} {tg : Expr} (it : Addr) (lo st : Int) (n : Nat) : Turn P w K tg (Its lo st n) [it] it (fun i h => IsLongIter h it (lo + (i : Nat) * st) ((n : Int) - (i : Nat)) st) where
 mem := by simp
 obj := fun i h st b hb => by
  have e : b = it := by simpa using hb
  subst e
  exact ⟨_, st, fun v z => by
   have z' : Data.fields _ = Data.cell v := z
   cases z'⟩
 keep := fun i h h' st k => k it (by simp) _ st
 item := by
  intro X hP hw hK hc i pins s σ H E I hf st' hg
  subst hP hw hK
  obtain ⟨f0, f1, f2, f3, f4, f5⟩ := hf it (by simp)
  have W := Walks.longrange (prog := X.prog) (w := X.w) (I.ok.hd hc) it lo st n
  refine W.item i s _ _ hg st' fun v h' tk hv st'' kk => ?_
  obtain ⟨t, rfl⟩ := hv
  have I1 : Inv X pins σ H { s with heap := h', toks := tk } := I.turned (fun b o hb e => kk b o (by simpa using hb) e) f0 f1 f3 f4 f5
  exact ⟨_, rfl, go_of (s := { s with heap := h', toks := tk }) (n := "longrange_iterator") st'' rfl rfl (by decide) ⟨.int (lo + i * st), H, I1, ⟨t, rfl⟩, ⟨rfl, rfl⟩, st'', fun b hb => (hf b hb).1⟩⟩
 done := by
  intro X hP hw hK hc i pins s σ H E I hf st' hg
  subst hP hw hK
  obtain ⟨f0, f1, f2, f3, f4, f5⟩ := hf it (by simp)
  exact wpAny_pyNext_long_end (I.ok.hd hc) st' (by have : n ≤ i := hg; lia) fun h' eb => ⟨rfl, I.turned (t' := s.toks) (fun b o hb e => eb b o hb e) f0 f1 f3 f4 f5⟩
 self := fun _ _ _ _ _ st' h => wpAny_pyIter_longiter st' h
theorem rangeSize_nn (a b c : Int) : 0 ≤ Builtin.Range.rangeSize a b c := by
 unfold Builtin.Range.rangeSize
 split <;> split <;> first | lia | (have := Int.ediv_nonneg (a := b - a - 1) (b := c) (by lia) (by lia); lia) | (have := Int.ediv_nonneg (a := a - b - 1) (b := -c) (by lia) (by lia); lia)
noncomputable def rngN (lo hi st : Int) : Nat := (Builtin.Range.rangeSize lo hi st).toNat
section
variable {X : Cx} {tg : Expr}
theorem range_itS {pins : List (Addr × Obj)} {σ : St} {H : Hp} {s : Shared} {R : It → Hp → Prop} {E : Value → Shared → Prop} {lo hi st : Int} {t u v : Tok} {tk : Nat} (I : Inv X pins σ H s)
  (q : R (Its lo st (rngN lo hi st)) H) : wpAny (model X.prog X.w) X.A (pyIter (.ref s.heap.objs.size)) (PIE X pins σ tg R) E { s with heap := s.heap.push { cls := .type "range", data := .fields #[.int lo t, .int hi u, .int st v] }, toks := tk } := by
 have I1 : Inv X pins σ H { s with heap := s.heap.push { cls := .type "range", data := .fields #[.int lo t, .int hi u, .int st v] }, toks := tk } := I.kept fun b o e => Heap.get?_push_of_some _ e
 have e1 : lo + ((0 : Nat) : Int) * st = lo := by simp
 have e2 : ((rngN lo hi st : Nat) : Int) - ((0 : Nat) : Int) = Builtin.Range.rangeSize lo hi st := by
  have := rangeSize_nn lo hi st
  unfold rngN
  lia
 have fpo : ∀ b ∈ [(s.heap.push { cls := .type "range", data := .fields #[.int lo t, .int hi u, .int st v] }).objs.size], FpOk X pins H b := fun b hb => by
  have e : b = (s.heap.push { cls := .type "range", data := .fields #[.int lo t, .int hi u, .int st v] }).objs.size := by simpa using hb
  subst e
  exact I1.fpOk (Nat.le_refl _) (I1.hok.fresh (Nat.le_refl _))
 cases hsm : Builtin.Range.small lo hi st with
 | true =>
  refine wpAny_pyIter_range (IsRange.new ..) hsm ?_
  refine ⟨(s.heap.push { cls := .type "range", data := .fields #[.int lo t, .int hi u, .int st v] }).objs.size, [(s.heap.push { cls := .type "range", data := .fields #[.int lo t, .int hi u, .int st v] }).objs.size], _, _, H, rfl,
   I1.kept (t' := tk) fun b o e => Heap.get?_push_of_some _ e, turn_rangeS _ lo st (rngN lo hi st), ?_, fpo, q⟩
  show IsRangeIter _ _ (lo + ((0 : Nat) : Int) * st) (((rngN lo hi st : Nat) : Int) - ((0 : Nat) : Int)) st
  rw [e1, e2]
  exact Heap.get?_push_size _ rfl
 | false =>
  refine wpAny_pyIter_longrange (IsRange.new ..) hsm ?_
  refine ⟨(s.heap.push { cls := .type "range", data := .fields #[.int lo t, .int hi u, .int st v] }).objs.size, [(s.heap.push { cls := .type "range", data := .fields #[.int lo t, .int hi u, .int st v] }).objs.size], _, _, H, rfl,
   I1.kept (t' := tk) fun b o e => Heap.get?_push_of_some _ e, turn_long _ lo st (rngN lo hi st), ?_, fpo, q⟩
  show IsLongIter _ _ (lo + ((0 : Nat) : Int) * st) (((rngN lo hi st : Nat) : Int) - ((0 : Nat) : Int)) st
  rw [e1, e2]
  exact Heap.get?_push_size _ rfl
inductive iRngB3I (R : It → Hp → Prop) (vs : List V) (H1 : Hp) : Prop
 | mk (i j k : Int) : (vs = [.int i, .int j, .int k]) → ((0 < k ∧ Fig k)) → (R (Its i k (rngN i j k)) H1) → iRngB3I R vs H1
noncomputable def iRngB3 (ta : TA) : TI := fun σ H R => ta σ H fun vs H1 => iRngB3I R vs H1
theorem pi_rangeB3 {a b c : Expr} {ta : TA} {p pos : Pos} (hg : Gl X "range") (hm : X.mg "range" = none) (ha : PA X [a, b, c] ta) (hs : starEach [a, b, c] X.env = (false, eval a X.env) :: starEach [b, c] X.env := by rfl)
  (hs2 : starEach [b, c] X.env = [(false, eval b X.env), (false, eval c X.env)] := by rfl) :
  PI X tg (.Call (.Name "range" p) [a, b, c] [] pos) (iRngB3 ta) := by
 intro pins s σ H R I h
 refine Call_ (ld_blt I hg hm boot_range (PyProof.Rows.callWith_type1 (thn (ha pos pins s σ H _ I h) fun us s1 ⟨vs, H1, I1, r1, q1⟩ => ?_) hs (by rw [hs2]; rfl)))
 obtain ⟨i, j, k, e, ⟨hk, hf⟩, q⟩ := q1
 subst e
 cases r1 with
 | cons r rr =>
  cases rr with
  | cons r' rr =>
   cases rr with
   | cons r'' rr =>
    cases rr
    obtain ⟨t, rfl⟩ := r
    obtain ⟨t', rfl⟩ := r'
    obtain ⟨t'', rfl⟩ := r''
    exact call_range_3 (by lia) (range_itS (tk := s1.toks) I1 q) (.inl hf.noPy)
end
theorem codeAny_compLoop_gen {prog : Program} {w : World} {A : Around} {R : Result → Shared → Prop} {s : Shared} {elt target iter : Expr} {ifs : List Expr} {scope : Scope} {pos : Pos} {it acc : Value} {env : Env} (I : Nat → Shared → Prop)
  (turn : ∀ n s, I n s → wpAny (model prog w) A (pyNext it) (fun r s₁ => match r with
   | none => R (.ok .next) s₁
   | some v => wpAny (model prog w) A (letOwnedTupleGo target it v) (fun _ s₁' => wpAny (model prog w) A (assign target env v) (fun _ s₂ =>
     wpAny (model prog w) A (forIn ifs true fun c r => if r = true then do let ok ← isTrue c env (eval c env); pure (ForInStep.yield ok) else pure (ForInStep.yield r)) (fun ok s₃ =>
      if ok = true then wpAny (model prog w) A (eval elt env) (fun x s₄ =>
       wpAny (model prog w) A (call (.builtin "list.append") [acc, x]) (fun _ s₅ => ∃ m, m < n ∧ I m s₅) (notedBy (model prog w) A env fun e s' => R (.error e) s') s₄) (notedBy (model prog w) A env fun e s' => R (.error e) s') s₃
      else ∃ m, m < n ∧ I m s₃) (notedBy (model prog w) A env fun e s' => R (.error e) s') s₂) (notedBy (model prog w) A env fun e s' => R (.error e) s') s₁') (notedBy (model prog w) A env fun e s' => R (.error e) s') s₁)
   (notedBy (model prog w) A env fun e s' => R (.error e) s') s)
  (n : Nat) (h : I n s) :
  codeAny (model prog w) A (.compLoop (.ListComp elt [⟨target, iter, ifs, 0⟩] scope pos) 0 it acc env) R s := by
 refine codeAny_loop rfl I (fun n s hI => ?_) n h
 show wpAny _ A ((compTurn (.ListComp elt [⟨target, iter, ifs, 0⟩] scope pos) 0 it acc env).onRaise (fun x => do noteFrame x env; theTreesLotGoes x)) _ _ s
 refine wpAny_noted ?_
 rw [compTurn_list]
 refine wpAny_bind (wpAny_standAt (wpAny_bind (wpAny_mono (turn n s hI) (fun r s₁ h₁ => ?_) fun _ _ h' => h')))
 cases r with
 | none => exact wpAny_pure h₁
 | some v =>
  refine wpAny_bind (wpAny_mono h₁ (fun _ s₁' h₁' => ?_) fun _ _ h' => h')
  refine wpAny_bind (wpAny_mono h₁' (fun _ s₂ h₂ => wpAny_bind (wpAny_mono h₂ (fun ok s₃ h₃ => ?_) fun _ _ h' => h')) fun _ _ h' => h')
  cases ok with
  | false => exact wpAny_pure ⟨rfl, h₃⟩
  | true =>
   exact wpAny_bind (wpAny_bind (wpAny_mono h₃ (fun x s₄ h₄ => wpAny_bind (wpAny_mono h₄ (fun _ s₅ h₅ => wpAny_pure (wpAny_pure ⟨rfl, h₅⟩)) fun _ _ h' => h')) fun _ _ h' => h'))
noncomputable def PIfs (X : Cx) (ifs : List Expr) (t : TT) : Prop :=
 ∀ (pins : List (Addr × Obj)) (s : Shared) (σ : St) (H : Hp) (Q : Bool → Hp → Prop), Inv X pins σ H s → t σ H Q →
  wpAny (model X.prog X.w) X.A (forIn ifs true fun c r => if r = true then do let ok ← isTrue c X.env (eval c X.env); pure (ForInStep.yield ok) else pure (ForInStep.yield r)) (TP X pins σ Q) X.xe s
noncomputable def tYes : TT := fun _ H Q => Q true H
theorem pif_nil {X : Cx} : PIfs X [] tYes := fun _ _ _ H _ I h => by
 rw [List.forIn_nil]
 exact wpAny_pure ⟨H, I, h⟩
theorem pif_one {X : Cx} {c : Expr} {t : TT} (h : PT X c t) : PIfs X [c] t := fun pins s σ H Q I hw => wpAny_tests_one (h pins s σ H Q I hw)
noncomputable def subSt (js : List (Option Nat)) (σ : St) : St := js.map fun o => o.bind fun j => (σ[j]?).join
noncomputable def Weak (σ' σ : St) : Prop := σ'.length = σ.length ∧ ∀ (i : Nat) v, σ'[i]? = some (some v) → σ[i]? = some (some v)
noncomputable def tComp (wi : TI) (g : TG) (tc : TT) (te : TE) (js : List (Option Nat)) : TE := fun σ H Q => wi σ H fun J H1 => ∀ D, H1 D = none → ∃ W : Nat → Nat → List V → Hp → Prop, (∃ m, W 0 m [] (upd H1 D (.lst []))) ∧
 ∀ i m xs H, W i m xs H → H D = some (.lst xs) ∧ ((J.stop i H ∧ Q (.ref D) H) ∨ (J.go i H ∧ ∃ N : List V → Hp → Prop, (∀ ys H', N ys H' → ∃ m', m' < m ∧ W (i + 1) m' ys H') ∧ ∀ x H', J.yld i H x H' → g x (subSt js σ) H' fun σ2 H2 => Weak (subSt js σ) σ2 ∧ tc σ2 H2 fun b H3 =>
  if b = true then te σ2 H3 fun v H4 => ∃ ys, H4 D = some (.lst ys) ∧ ys.length < sizeLine ∧ N (ys ++ [v]) (upd H4 D (.lst (ys ++ [v])))
  else ∃ ys, N ys H3))
noncomputable def cxComp (X : Cx) (pins : List (Addr × Obj)) (NY : List Str) (scope : Scope) (cl : List (Str × Addr)) (fp : List Addr) (C : Addr) (s : Shared) (H : Hp) : Cx :=
 { X with N := NY, s₀ := s, H₀ := H, env := compEnvC scope cl C X.env, outer := X.stack, stack := X.stack, ex := fp, fn := fun _ => false, pn := X.pn ++ pins, xe := fun _ _ => False }
noncomputable def ClIn (cells : List (Str × Addr)) : List (Str × Addr) → Prop
 | [] => True
 | p :: r => cells.lookup p.1 = some p.2 ∧ ClIn cells r
theorem ClIn.get {cells : List (Str × Addr)} : ∀ {cl : List (Str × Addr)} {y : Str} {c : Addr}, ClIn cells cl → cl.lookup y = some c → cells.lookup y = some c
 | [], _, _, _, h => by simp at h
 | (n, a) :: r, y, c, ⟨h1, h2⟩, h => by
  rw [List.lookup_cons] at h
  cases e : y == n with
  | true =>
   rw [e] at h
   cases h
   rw [beq_iff_eq] at e
   rw [e]
   exact h1
  | false =>
   rw [e] at h
   exact ClIn.get h2 h
noncomputable def JsOk (X : Cx) (scope : Scope) : List (Option Nat) → List Str → Prop
 | [], [] => True
 | none :: js, _ :: N => JsOk X scope js N
 | some j :: js, x :: N => (X.N[j]? = some x ∧ scope.names.lookup x = some .free ∧ X.env.kindOf x ≠ some .local ∧ (X.env.kindOf x = some .cell ∨ X.env.kindOf x = some .free)) ∧ JsOk X scope js N
 | _, _ => False
theorem JsOk.len {X : Cx} {scope : Scope} : ∀ {js : List (Option Nat)} {N : List Str}, JsOk X scope js N → js.length = N.length
 | [], [], _ => rfl
 | none :: js, _ :: N, h => by
  have h' : JsOk X scope js N := h
  rw [List.length_cons, List.length_cons, h'.len]
 | some j :: js, x :: N, h => by
  have h' : JsOk X scope js N := h.2
  rw [List.length_cons, List.length_cons, h'.len]
 | [], _ :: _, h => h.elim
 | none :: _, [], h => h.elim
 | some _ :: _, [], h => h.elim
theorem JsOk.get {X : Cx} {scope : Scope} : ∀ {js : List (Option Nat)} {N : List Str} {i j : Nat} {x : Str}, JsOk X scope js N → js[i]? = some (some j) → N[i]? = some x →
  X.N[j]? = some x ∧ scope.names.lookup x = some .free ∧ X.env.kindOf x ≠ some .local ∧ (X.env.kindOf x = some .cell ∨ X.env.kindOf x = some .free)
 | [], [], _, _, _, _, e, _ => by simp at e
 | none :: js, y :: N, 0, _, _, _, e, _ => by simp at e
 | none :: js, y :: N, i + 1, _, _, h, e, e' => JsOk.get (js := js) (N := N) (i := i) h (by simpa using e) (by simpa using e')
 | some j' :: js, y :: N, 0, _, _, h, e, e' => by
  simp at e e'
  subst e e'
  exact h.1
 | some j' :: js, y :: N, i + 1, _, _, h, e, e' => JsOk.get (js := js) (N := N) (i := i) h.2 (by simpa using e) (by simpa using e')
 | [], _ :: _, _, _, _, h, _, _ => h.elim
 | none :: _, [], _, _, _, h, _, _ => h.elim
 | some _ :: _, [], _, _, _, h, _, _ => h.elim
theorem lookup_relabel_free {env : Env} : ∀ {names : List (Str × NameKind)} {x : Str}, names.lookup x = some .free →
    ((names.map fun (n, k) => if (k == NameKind.free && env.scope.kind == .function && env.kindOf n == some .cell) then (n, NameKind.cell) else (n, k)).lookup x = some .cell ∨
     (names.map fun (n, k) => if (k == NameKind.free && env.scope.kind == .function && env.kindOf n == some .cell) then (n, NameKind.cell) else (n, k)).lookup x = some .free)
  | [], _, h => by simp at h
  | (n, k) :: r, x, h => by
    have ih := @lookup_relabel_free env r x
    simp only [List.map_cons]
    cases hx : x == n with
    | true =>
      simp only [List.lookup_cons, hx] at h
      cases h
      by_cases hc : (NameKind.free == NameKind.free && env.scope.kind == .function && env.kindOf n == some .cell) = true
      · rw [if_pos hc]; simp only [List.lookup_cons, hx]; simp
      · rw [if_neg hc]; simp only [List.lookup_cons, hx]; simp
    | false =>
      simp only [List.lookup_cons, hx] at h
      by_cases hc : (k == NameKind.free && env.scope.kind == .function && env.kindOf n == some .cell) = true
      · rw [if_pos hc]; simp only [List.lookup_cons, hx]; exact ih h
      · rw [if_neg hc]; simp only [List.lookup_cons, hx]; exact ih h
theorem relabel_mem {env : Env} {scope : Scope} {x : Str} {k : NameKind} (hcell : ∀ y ∈ scope.names, y.2 ≠ .cell) (h : (relabel scope env).names.lookup x = some k) (hk : k = .cell ∨ k = .free) : ∃ y ∈ scope.names, y.1 = x ∧ y.2 = .free := by
 have hm := PySem.mem_of_lookup h
 have hm' : (x, k) ∈ scope.names.map fun (n, k) => if (k == NameKind.free && env.scope.kind == .function && env.kindOf n == some .cell) then (n, NameKind.cell) else (n, k) := hm
 obtain ⟨⟨n, k'⟩, hy, e⟩ := List.mem_map.mp hm'
 by_cases hc : (k' == NameKind.free && env.scope.kind == .function && env.kindOf n == some .cell) = true
 ·have e' : (n, NameKind.cell) = (x, k) := by rw [← e]; exact (if_pos hc).symm
  injection e' with e1 e2
  have hc2 : k' = NameKind.free := by
   rw [Bool.and_eq_true, Bool.and_eq_true] at hc
   simpa using hc.1.1
  exact ⟨(n, k'), hy, e1, hc2⟩
 ·have e' : (n, k') = (x, k) := by rw [← e]; exact (if_neg hc).symm
  injection e' with e1 e2
  rcases hk with hk | hk
  ·exact absurd (e2.trans hk) (hcell _ hy)
  ·exact ⟨(n, k'), hy, e1, e2.trans hk⟩
section
variable {X : Cx}
theorem comp_ok {pins : List (Addr × Obj)} {σ : St} {H : Hp} {s : Shared} {NY : List Str} {scope : Scope} {cl : List (Str × Addr)} {fp : List Addr} (I : Inv X pins σ H s) (hkind : scope.kind = .function)
  (hcell : ∀ y ∈ scope.names, y.2 ≠ .cell) (hcl : ClIn X.env.cells cl) (hfr : ∀ y ∈ scope.names, y.2 = .free → (cl.lookup y.1).isSome = true) (hf : ∀ b ∈ fp, FpOk X pins H b) (ho : ∀ b ∈ fp, ∃ o, s.heap.get? b = some o) :
  (cxComp X pins NY scope cl fp s.heap.objs.size s H).Ok where
 mod := I.ok.mod
 kind := hkind
 glob := I.ok.glob
 blt := I.ok.blt
 above := Nat.le_refl _
 inj := fun x y c h1 h2 => I.ok.inj x y c (hcl.get h1) (hcl.get h2)
 has := fun x hx => by
  have h : ∃ k, (relabel scope X.env).names.lookup x = some k ∧ (k = .cell ∨ k = .free) := by
   rcases hx with hx | hx
   ·exact ⟨_, hx, .inl rfl⟩
   ·exact ⟨_, hx, .inr rfl⟩
  obtain ⟨k, h1, h2⟩ := h
  obtain ⟨y, hy, e1, e2⟩ := relabel_mem hcell h1 h2
  have := hfr y hy e2
  rw [e1] at this
  exact Option.isSome_iff_exists.mp this
 cab := fun x c h => absurd h Bool.false_ne_true
 hd := I.ok.hd
 frames := I.ok.frames
 stk := .inl rfl
 exf := fun b hb => by
  obtain ⟨f0, f1, f2, f3, f4, f5⟩ := hf b hb
  obtain ⟨o, e⟩ := ho b hb
  exact ⟨Nat.ne_of_lt (Heap.lt_size e), fun x c h => f4 x c (hcl.get h)⟩
 bs := I.bs
 bsz := Nat.le_trans I.ok.bsz I.sz
 noex := fun b o e hb => by
  obtain ⟨f0, f1, f2, f3, f4, f5⟩ := hf b hb
  rcases f3 with z | z
  ·exact I.ok.noex b o e z
  ·exact absurd (Nat.lt_of_lt_of_le (Heap.lt_size e) (Nat.le_trans I.ok.bsz z)) (Nat.lt_irrefl _)
 exfs := fun b hb hfs => by
  obtain ⟨f0, f1, f2, f3, f4, f5⟩ := hf b hb
  rcases List.mem_cons.mp (I.stkSub b hfs) with z | z
  ·exact f1 z
  ·exact f2 z
 funs := I.stack
 frf := I.stkFree
theorem subSt_get {js : List (Option Nat)} {σ : St} {i : Nat} {v : V} (h : (subSt js σ)[i]? = some (some v)) : ∃ j, js[i]? = some (some j) ∧ σ[j]? = some (some v) := by
 unfold subSt at h
 rw [List.getElem?_map] at h
 cases e : js[i]? with
 | none => rw [e] at h; cases h
 | some o =>
  rw [e] at h
  have h' : (o.bind fun j => (σ[j]?).join) = some v := Option.some.inj h
  cases o with
  | none => cases h'
  | some j =>
   have h'' : (σ[j]?).join = some v := h'
   refine ⟨j, rfl, ?_⟩
   cases e2 : σ[j]? with
   | none => rw [e2] at h''; cases h''
   | some w =>
    rw [e2] at h''
    cases w with
    | none => cases h''
    | some u =>
     have : u = v := Option.some.inj h''
     rw [this]
theorem comp_inv {pins : List (Addr × Obj)} {σ : St} {H : Hp} {s : Shared} {h' : Heap} {NY : List Str} {js : List (Option Nat)} {scope : Scope} {cl : List (Str × Addr)} {fp : List Addr} {t' : Nat} {m' : Str → Option Value} (I : Inv X pins σ H s) (hkind : scope.kind = .function)
  (hcell : ∀ y ∈ scope.names, y.2 ≠ .cell) (hcl : ClIn X.env.cells cl) (hfr : ∀ y ∈ scope.names, y.2 = .free → (cl.lookup y.1).isSome = true) (hjs : JsOk X scope js NY) (hf : ∀ b ∈ fp, FpOk X pins H b) (ho : ∀ b ∈ fp, ∃ o, s.heap.get? b = some o)
  (hk : ∀ b o, s.heap.get? b = some o → h'.get? b = some o) (hn : h'.Ns s.heap.objs.size m') :
  Inv (cxComp X pins NY scope cl fp s.heap.objs.size s H) [] (subSt js σ) H { s with heap := h', toks := t' } where
 ok := comp_ok I hkind hcell hcl hfr hf ho
 os := rfl
 bare := I.bare
 base := Un.kept hk
 loc := by
  obtain ⟨m, hnX, hl⟩ := I.loc
  refine ⟨m', hn, fun i x v e1 e2 e3 => ?_⟩
  obtain ⟨j, ej, ev⟩ := subSt_get e2
  obtain ⟨a1, a2, a3, a4⟩ := hjs.get ej e1
  have vis : Vis X.env.scope x := by
   rcases a4 with a4 | a4
   ·exact .inr (.inl a4)
   ·exact .inr (.inr a4)
  obtain ⟨u, ru, lk⟩ := hl j x v a1 ev vis
  refine ⟨u, ru, ?_⟩
  rcases lk with ⟨k, _⟩ | ⟨_, c, ec, hc⟩
  ·exact absurd k a3
  ·have h1 : ∃ c', cl.lookup x = some c' := by
    have := hfr (x, .free) (PySem.mem_of_lookup a2) rfl
    exact Option.isSome_iff_exists.mp this
   obtain ⟨c', ec'⟩ := h1
   have e4 := hcl.get ec'
   rw [ec] at e4
   cases e4
   refine .inr ⟨?_, c, ec', ?_⟩
   ·exact lookup_relabel_free a2
   ·obtain ⟨o, h1, h2⟩ := hc
    exact ⟨o, hk _ _ h1, h2⟩
 cell := fun x c e => by
  obtain ⟨v, o, h1, h2⟩ := I.cell x c (hcl.get e)
  exact ⟨v, o, hk _ _ h1, h2⟩
 free := I.hok.fresh (Nat.le_refl _)
 freeC := fun x c e => I.freeC x c (hcl.get e)
 pin := fun p hp => by
  have hp' : p ∈ (X.pn ++ pins) ++ [] := hp
  rw [List.append_nil] at hp'
  obtain ⟨a1, a2, a3, a4, a5⟩ := I.pin p hp'
  refine ⟨hk _ _ a1, a2, Nat.ne_of_lt (Heap.lt_size a1), fun z => ?_, a5⟩
  rcases List.mem_cons.mp (I.stkSub p.1 z) with z | z
  ·exact a3 z
  ·exact a4 z
 hok := I.hok.kept hk
 len := by
  show (js.map _).length = NY.length
  rw [List.length_map]
  exact hjs.len
theorem comp_all {use : Option (Value → Sem Unit)} {R : Value → Shared → Prop} {Q : VK} {pins : List (Addr × Obj)} {s : Shared} {σ : St} {H : Hp} {elt tgt iter : Expr} {ifs : List Expr} {scope : Scope} {cl : List (Str × Addr)} {pos cpos : Pos} {wi : TI} {g : TG} {tc : TT} {te : TE} {NY : List Str} {js : List (Option Nat)} (hc : X.calm = true) (hkind : scope.kind = .function) (hclos : closureFor scope X.env = pure cl) (hcl : ClIn X.env.cells cl) (hjs : JsOk X scope js NY) (hi : PI X tgt iter wi)
  (hb : ∀ pins fp C s H, PG (cxComp X pins NY scope cl fp C s H) tgt g ∧ PIfs (cxComp X pins NY scope cl fp C s H) ifs tc ∧ PE (cxComp X pins NY scope cl fp C s H) elt te)
  (hcell : ∀ y ∈ scope.names, y.2 ≠ .cell) (hnames : ∀ y ∈ scope.names, y.2 = .local → scope.names.lookup y.1 = some .local) (hfr' : (scope.names.all fun y => !(y.2 == .free) || (cl.lookup y.1).isSome) = true) (hs : ∀ x, foldedSetIterable iter X.env x = pure x)
  (fin : ∀ (D C : Addr) (s6 : Shared) (H5 : Hp), Inv X pins σ H5 s6 → FpOk X pins H5 C → (∃ m, s6.heap.Ns C m) → Q (.ref D) H5 → compPost (model X.prog X.w) X.A X.xe use R (.ref D) C (.ok .next) s6)
  (I : Inv X pins σ H s) (h : tComp wi g tc te js σ H Q) : wpAny (model X.prog X.w) X.A (comprehension (.ListComp elt [⟨tgt, iter, ifs, 0⟩] scope pos) scope X.env cpos (newList []) false (eval iter X.env) use) R X.xe s := by
 have hfr : ∀ y ∈ scope.names, y.2 = .free → (cl.lookup y.1).isSome = true := fun y hy e => by
  have z := List.all_eq_true.mp hfr' y hy
  rw [e] at z
  simpa using z
 refine wpAny_comprehension_free (use := use) (g := ⟨tgt, iter, ifs, 0⟩) (gs := []) rfl hs hclos hkind hnames (thn (hi pins s σ H _ I h) fun v s1 h1 => thn h1 fun itv s2 h2 => ?_)
 obtain ⟨it, fp, tn, J, H2, e, I2, T, st2, f2, q2⟩ := h2
 subst e
 refine wpAny_newObj_type ?_ (by show 0 ≤ sizeLine; exact Nat.zero_le _)
 have nD : H2 s2.heap.objs.size = none := I2.hok.fresh (Nat.le_refl _)
 obtain ⟨W, ⟨m0, w0⟩, turn⟩ := q2 s2.heap.objs.size nD
 have I3 : Inv X pins σ (upd H2 s2.heap.objs.size (.lst [])) { s2 with heap := s2.heap.push { cls := .type "list", data := .seq ([] : List Value).toArray } } := I2.lnew (t' := s2.toks) .nil (Nat.zero_le _)
 have kp3 : ∀ b o, s2.heap.get? b = some o → (s2.heap.push { cls := .type "list", data := .seq ([] : List Value).toArray }).get? b = some o := fun b o e => Heap.get?_push_of_some _ e
 have ob2 : ∀ b ∈ fp, ∃ o, s2.heap.get? b = some o := fun b hb => let ⟨o, e, _⟩ := T.obj _ _ st2 b hb; ⟨o, e⟩
 have f3 : ∀ b ∈ fp, FpOk X pins (upd H2 s2.heap.objs.size (.lst [])) b := fun b hb => by
  obtain ⟨f0, fr⟩ := f2 b hb
  obtain ⟨o, e⟩ := ob2 b hb
  exact ⟨by rw [upd_ne (Nat.ne_of_lt (Heap.lt_size e))]; exact f0, fr⟩
 generalize hs3 : ({ s2 with heap := s2.heap.push { cls := .type "list", data := .seq ([] : List Value).toArray } } : Shared) = s3 at I3
 have hs3' : s3.heap = s2.heap.push { cls := .type "list", data := .seq ([] : List Value).toArray } := by rw [← hs3]
 have st3 : tn 0 s3.heap := T.keep _ _ _ st2 fun b hb o e => by rw [hs3']; exact kp3 b o e
 have ob3 : ∀ b ∈ fp, ∃ o, s3.heap.get? b = some o := fun b hb => by
  obtain ⟨o, e⟩ := ob2 b hb
  exact ⟨o, by rw [hs3']; exact kp3 b o e⟩
 refine wpAny_newFunctionEnv hcell (by intro y hy; simp at hy) (fun h1 hns hsb => ?_) hkind
 have kp4 : ∀ b o, s3.heap.get? b = some o → h1.get? b = some o := fun b o e => hsb.extBut b o (Nat.ne_of_lt (Heap.lt_size e)) (Heap.get?_push_of_some _ e)
 have IY := comp_inv (X := X) (NY := NY) (js := js) (scope := scope) (cl := cl) (fp := fp) (t' := s3.toks + ([] : List (Str × Value)).length) I3 hkind hcell hcl hfr hjs f3 ob3 kp4 hns
 have st4 : tn 0 h1 := T.keep _ _ _ st3 fun b _ o e => kp4 b o e
 have stat : ∀ {pl : List (Addr × Obj)} {H' : Hp}, (∀ b ∈ fp, H' b = none) → (∀ p ∈ pl, p.1 ∉ fp) → ∀ b ∈ fp, FpOk (cxComp X pins NY scope cl fp s3.heap.objs.size s3 (upd H2 s2.heap.objs.size (.lst []))) pl H' b := fun {pl H'} hn hp b hb => by
  obtain ⟨g1, g2⟩ := IY.ok.exf b hb
  refine ⟨hn b hb, g1, IY.ok.exfs b hb, .inl hb, g2, fun p hp' => ?_⟩
  rcases List.mem_append.mp hp' with z | z
  ·exact (f3 b hb).2.2.2.2.2 p z
  ·intro e
   exact hp p z (e ▸ hb)
 have loop : ∀ s4 : Shared, s4 = { s3 with heap := h1, toks := s3.toks + ([] : List (Str × Value)).length } →
   codeAny (model X.prog X.w) X.A (.compLoop (.ListComp elt [⟨tgt, iter, ifs, 0⟩] scope pos) 0 (.ref it) (.ref s2.heap.objs.size) (compEnvC scope cl s3.heap.objs.size X.env))
    (compPost (model X.prog X.w) X.A X.xe use R (.ref s2.heap.objs.size) s3.heap.objs.size) s4 := by
  rintro s4 rfl
  refine codeAny_compLoop_gen (fun n s' => ∃ i xs H', Inv (cxComp X pins NY scope cl fp s3.heap.objs.size s3 (upd H2 s2.heap.objs.size (.lst []))) [] (subSt js σ) H' s' ∧ tn i s'.heap ∧ (∀ b ∈ fp, H' b = none) ∧ W i n xs H') ?_ m0
   ⟨0, [], _, IY, st4, fun b hb => (f3 b hb).1, w0⟩
  rintro n s5 ⟨i, xs, H5, I5, st5, fr5, w5⟩
  obtain ⟨hD5, alt⟩ := turn i n xs H5 w5
  obtain ⟨bG, bI, bE⟩ := hb pins fp s3.heap.objs.size s3 (upd H2 s2.heap.objs.size (.lst []))
  rcases alt with ⟨stop, qn⟩ | ⟨go, N, hN, step⟩
  ·refine wpAny_mono (T.done (cxComp X pins NY scope cl fp s3.heap.objs.size s3 (upd H2 s2.heap.objs.size (.lst []))) rfl rfl rfl hc i [] s5 (subSt js σ) H5 (fun _ _ => False) I5 (stat fr5 (by simp)) st5 stop) (fun r s6 hr => ?_) fun _ _ z => z.elim
   obtain ⟨hr, I6⟩ := hr
   subst hr
   have I7 : Inv X pins σ H5 s6 := I3.call' I6.os I6.base I6.hok I6.bare fun b hb => let ⟨_, g1, _, g3, g4, g5⟩ := f3 b hb; ⟨g3, g1, g4, g5⟩
   obtain ⟨m6, hn6, _⟩ := I6.loc
   exact fin _ _ s6 H5 I7 (I3.fpOk (b := s3.heap.objs.size) (Nat.le_refl _) (show H5 s3.heap.objs.size = none from I6.free)) ⟨m6, hn6⟩ qn
  ·refine wpAny_mono (T.item (cxComp X pins NY scope cl fp s3.heap.objs.size s3 (upd H2 s2.heap.objs.size (.lst []))) rfl rfl rfl hc i [] s5 (subSt js σ) H5 (fun _ _ => False) I5 (stat fr5 (by simp)) st5 go) (fun r s6 hr => ?_) fun _ _ z => z.elim
   obtain ⟨u, hr, h6⟩ := hr
   subst hr
   refine wpAny_mono h6 (fun _ s7 h7 => ?_) fun _ _ z => z.elim
   obtain ⟨x, H7, I7, r7, y7, st7, fr7⟩ := h7
   have I7' := I7.pinned (stat fr7 (by simp)) (T.obj _ _ st7)
   have back : ∀ {σ8 : St} {H8 : Hp} {s8 : Shared}, Inv (cxComp X pins NY scope cl fp s3.heap.objs.size s3 (upd H2 s2.heap.objs.size (.lst []))) ([] ++ pinsAt fp s7.heap) σ8 H8 s8 → tn (i + 1) s8.heap ∧ (∀ b ∈ fp, H8 b = none) := fun {σ8 H8 s8} I8 => by
    refine ⟨T.keep _ _ _ st7 fun b hb o e => (I8.pin (b, o) (List.mem_append_right _ (List.mem_append_right _ (mem_pinsAt hb e)))).1, fun b hb => ?_⟩
    obtain ⟨o, e, _⟩ := T.obj _ _ st7 b hb
    exact (I8.pin (b, o) (List.mem_append_right _ (List.mem_append_right _ (mem_pinsAt hb e)))).2.1
   refine wpAny_mono (bG _ s7 (subSt js σ) H7 x u _ I7' r7 (step x H7 y7)) (fun _ s8 h8 => ?_) fun _ _ z => z.elim
   obtain ⟨σ8, H8, I8, wk, q8⟩ := h8
   have forget : ∀ {H8 : Hp} {s8 : Shared}, Inv (cxComp X pins NY scope cl fp s3.heap.objs.size s3 (upd H2 s2.heap.objs.size (.lst []))) ([] ++ pinsAt fp s7.heap) σ8 H8 s8 → Inv (cxComp X pins NY scope cl fp s3.heap.objs.size s3 (upd H2 s2.heap.objs.size (.lst []))) [] (subSt js σ) H8 s8 := fun I8 => I8.unpinned.weak wk.1 wk.2
   refine wpAny_mono (bI _ s8 σ8 H8 _ I8 q8) (fun ok s9 h9 => ?_) fun _ _ z => z.elim
   obtain ⟨H9, I9, q9⟩ := h9
   cases ok with
   | false =>
    rw [if_neg Bool.false_ne_true] at q9 ⊢
    obtain ⟨ys, n9⟩ := q9
    obtain ⟨m', hm, w9⟩ := hN _ _ n9
    exact ⟨m', hm, i + 1, ys, H9, forget I9, (back I9).1, (back I9).2, w9⟩
   | true =>
    rw [if_pos rfl] at q9 ⊢
    refine wpAny_mono (bE _ s9 σ8 H9 _ I9 q9) (fun xv s10 h10 => ?_) fun _ _ z => z.elim
    obtain ⟨v, H10, I10, r10, ys, hD, hz, n10⟩ := h10
    obtain ⟨m', hm, w10⟩ := hN _ _ n10
    refine wpAny_mono (mt_append (X := cxComp X pins NY scope cl fp s3.heap.objs.size s3 (upd H2 s2.heap.objs.size (.lst []))) _ s10 σ8 H10 (.ref s2.heap.objs.size) [v] _ [xv] (fun _ H11 => H11 = upd H10 s2.heap.objs.size (.lst (ys ++ [v]))) I10 rfl (.cons r10 .nil) ⟨_, ys, v, rfl, rfl, hD, hz, rfl⟩) (fun _ s11 h11 => ?_) fun _ _ z => z.elim
    obtain ⟨_, H11, I11, _, e11⟩ := h11
    subst e11
    exact ⟨m', hm, i + 1, _, _, forget I11, (back I11).1, (back I11).2, w10⟩
 exact codeAny_compStart_list (loop _ rfl) (T.self _ 0 _ _ _ st4 (loop _ rfl))
theorem pe_comp {elt tgt iter : Expr} {ifs : List Expr} {scope : Scope} {cl : List (Str × Addr)} {pos : Pos} {wi : TI} {g : TG} {tc : TT} {te : TE} {NY : List Str} {js : List (Option Nat)} (hc : X.calm = true)
  (hkind : scope.kind = .function) (hclos : closureFor scope X.env = pure cl) (hcl : ClIn X.env.cells cl) (hjs : JsOk X scope js NY)
  (hi : PI X tgt iter wi)
  (hb : ∀ pins fp C s H, PG (cxComp X pins NY scope cl fp C s H) tgt g ∧ PIfs (cxComp X pins NY scope cl fp C s H) ifs tc ∧ PE (cxComp X pins NY scope cl fp C s H) elt te)
  (hcell : ∀ y ∈ scope.names, y.2 ≠ .cell := by decide) (hnames : ∀ y ∈ scope.names, y.2 = .local → scope.names.lookup y.1 = some .local := by decide)
  (hfr' : (scope.names.all fun y => !(y.2 == .free) || (cl.lookup y.1).isSome) = true := by first | rfl | with_unfolding_all rfl) (hs : ∀ x, foldedSetIterable iter X.env x = pure x := by intro _; rfl) :
  PE X (.ListComp elt [⟨tgt, iter, ifs, 0⟩] scope pos) (tComp wi g tc te js) := by
 intro pins s σ H Q I h
 rw [eval_ListComp]
 refine comp_all hc hkind hclos hcl hjs hi hb hcell hnames hfr' hs (fun D C s6 H5 I7 fC hn q => ?_) I h
 obtain ⟨m6, hn6⟩ := hn
 obtain ⟨c0, c1, c2, c3, c4, c5⟩ := fC
 exact ⟨m6, hn6, fun h7 sb7 => ⟨.ref D, H5, I7.turned (t' := s6.toks) (fun b o hb e => sb7.extBut b o hb e) c0 c1 c3 c4 c5, rfl, q⟩⟩
end
theorem weak_set {js : List (Option Nat)} {σ : St} {i : Nat} {v : V} (h : js[i]? = some none) : Weak (subSt js σ) ((subSt js σ).set i (some v)) := by
 refine ⟨by rw [List.length_set], fun k u e => ?_⟩
 by_cases hk : k = i
 ·subst hk
  obtain ⟨j, ej, _⟩ := subSt_get e
  rw [h] at ej
  cases ej
 ·rw [List.getElem?_set_ne (Ne.symm hk)]
  exact e
theorem comp_rng {lo st : Int} {n : Nat} {g : TG} {tc : TT} {te : TE} {js : List (Option Nat)} {σ : St} {H1 : Hp} {D : Addr} {Q : VK} (Pv : Nat → List V → Hp → Prop) (h0 : Pv 0 [] (upd H1 D (.lst []))) (hD : ∀ i ys H, Pv i ys H → H D = some (.lst ys))
  (hs : ∀ i ys H, i < n → Pv i ys H → g (.int (lo + i * st)) (subSt js σ) H fun σ2 H2 => Weak (subSt js σ) σ2 ∧ tc σ2 H2 fun b H3 =>
   if b = true then te σ2 H3 fun v H4 => ∃ zs, H4 D = some (.lst zs) ∧ zs.length < sizeLine ∧ Pv (i + 1) (zs ++ [v]) (upd H4 D (.lst (zs ++ [v]))) else ∃ zs, Pv (i + 1) zs H3)
  (hd : ∀ ys H, Pv n ys H → Q (.ref D) H) :
  ∃ W : Nat → Nat → List V → Hp → Prop, (∃ m, W 0 m [] (upd H1 D (.lst []))) ∧
   ∀ i m xs H, W i m xs H → H D = some (.lst xs) ∧ (((Its lo st n).stop i H ∧ Q (.ref D) H) ∨ ((Its lo st n).go i H ∧ ∃ N : List V → Hp → Prop, (∀ ys H', N ys H' → ∃ m', m' < m ∧ W (i + 1) m' ys H') ∧ ∀ x H', (Its lo st n).yld i H x H' → g x (subSt js σ) H' fun σ2 H2 => Weak (subSt js σ) σ2 ∧ tc σ2 H2 fun b H3 =>
    if b = true then te σ2 H3 fun v H4 => ∃ ys, H4 D = some (.lst ys) ∧ ys.length < sizeLine ∧ N (ys ++ [v]) (upd H4 D (.lst (ys ++ [v])))
    else ∃ ys, N ys H3)) := by
 refine ⟨fun i m ys H => m = n - i ∧ i ≤ n ∧ Pv i ys H, ⟨n, by simp, Nat.zero_le _, h0⟩, ?_⟩
 rintro i m ys H ⟨rfl, hi, p⟩
 refine ⟨hD i ys H p, ?_⟩
 by_cases hlt : i < n
 ·refine .inr ⟨hlt, Pv (i + 1), fun zs H' p' => ⟨n - (i + 1), by lia, rfl, hlt, p'⟩, fun x H' y => ?_⟩
  obtain ⟨e, y⟩ := y
  subst e y
  exact hs i ys _ hlt p
 ·have e : i = n := by lia
  subst e
  exact .inl ⟨Nat.le_refl _, hd ys H p⟩
end L2
namespace L2
open PySem PySem.Spec PyProof.Rows
inductive Dv where
 | non | bl (b : Bool) | int (i : Int) | str (x : Str) | tup (l : List Dv) | lst (l : List Dv)
mutual
inductive Dn (K : PySem.W.Frag) (H : Hp) : V → Dv → Prop
 | non : Dn K H .non .non
 | bl (b : Bool) : Dn K H (.bl b) (.bl b)
 | int (i : Int) : Dn K H (.int i) (.int i)
 | str (x : Str) : Dn K H (.str x) (.str x)
 | tup {a : Addr} {xs : List V} {ds : List Dv} : SqT K H a xs → Dns K H xs ds → Dn K H (.ref a) (.tup ds)
 | lst {a : Addr} {xs : List V} {ds : List Dv} : SqL K H a xs → Dns K H xs ds → Dn K H (.ref a) (.lst ds)
inductive Dns (K : PySem.W.Frag) (H : Hp) : List V → List Dv → Prop
 | nil : Dns K H [] []
 | cons {x : V} {xs : List V} {d : Dv} {ds : List Dv} : Dn K H x d → Dns K H xs ds → Dns K H (x :: xs) (d :: ds)
end
mutual
noncomputable def Dv.dep : Dv → Nat
 | .tup l => Dv.deps l + 1
 | .lst l => Dv.deps l + 1
 | _ => 0
noncomputable def Dv.deps : List Dv → Nat
 | [] => 0
 | d :: r => max (Dv.dep d) (Dv.deps r)
end
/- no bool meets an int -/
mutual
noncomputable def nomix : Dv → Dv → Bool
 | .bl _, .int _ => false
 | .int _, .bl _ => false
 | .tup l, .tup r => nomixs l r
 | .lst l, .lst r => nomixs l r
 | _, _ => true
noncomputable def nomixs : List Dv → List Dv → Bool
 | d :: l, e :: r => nomix d e && nomixs l r
 | _, _ => true
end
theorem Paired.app {α β : Type} {F : α → β → Prop} {xs ys : List α} {ks ls : List β} (h : Paired F xs ks) (h' : Paired F ys ls) : Paired F (xs ++ ys) (ks ++ ls) := by
 induction h with
 | nil => exact h'
 | cons r _ ih => exact .cons r ih
theorem Paired.getL {α β : Type} {F : α → β → Prop} {xs : List α} {ks : List β} (h : Paired F xs ks) : ∀ {i : Nat} {x : α}, xs[i]? = some x → ∃ k, ks[i]? = some k ∧ F x k := by
 induction h with
 | nil => intro i x e; simp at e
 | cons r _ ih =>
  intro i x e
  cases i with
  | zero => simp at e; subst e; exact ⟨_, rfl, r⟩
  | succ i => exact ih e
theorem Paired.getR {α β : Type} {F : α → β → Prop} {xs : List α} {ks : List β} (h : Paired F xs ks) : ∀ {i : Nat} {k : β}, ks[i]? = some k → ∃ x, xs[i]? = some x ∧ F x k := by
 induction h with
 | nil => intro i x e; simp at e
 | cons r _ ih =>
  intro i x e
  cases i with
  | zero => simp at e; subst e; exact ⟨_, rfl, r⟩
  | succ i => exact ih e
theorem Dns.pair {K : PySem.W.Frag} {H : Hp} {ds : List Dv} : ∀ {xs : List V}, Dns K H xs ds → Paired (Dn K H) xs ds := by
 induction ds with
 | nil => intro xs h; cases h; exact .nil
 | cons d ds ih => intro xs h; cases h with | cons r t => exact .cons r (ih t)
theorem Dns.of {K : PySem.W.Frag} {H : Hp} {xs : List V} {ds : List Dv} (h : Paired (Dn K H) xs ds) : Dns K H xs ds := by
 induction h with
 | nil => exact .nil
 | cons r _ ih => exact .cons r ih
theorem Dns.length {K : PySem.W.Frag} {H : Hp} {xs : List V} {ds : List Dv} (h : Dns K H xs ds) : xs.length = ds.length := Paired.length h.pair
theorem Dns.get {K : PySem.W.Frag} {H : Hp} {xs : List V} {ds : List Dv} {i : Nat} {d : Dv} (h : Dns K H xs ds) (e : ds[i]? = some d) : ∃ x, xs[i]? = some x ∧ Dn K H x d := Paired.getR h.pair e
theorem Dns.get' {K : PySem.W.Frag} {H : Hp} {xs : List V} {ds : List Dv} {i : Nat} {x : V} (h : Dns K H xs ds) (e : xs[i]? = some x) : ∃ d, ds[i]? = some d ∧ Dn K H x d := Paired.getL h.pair e
theorem Dns.snoc {K : PySem.W.Frag} {H : Hp} {xs : List V} {ds : List Dv} {x : V} {d : Dv} (h : Dns K H xs ds) (r : Dn K H x d) : Dns K H (xs ++ [x]) (ds ++ [d]) := Dns.of (Paired.snoc h.pair r)
structure Stays (K : PySem.W.Frag) (H H' : Hp) : Prop where
 t : ∀ a xs, SqT K H a xs → SqT K H' a xs
 l : ∀ a xs, SqL K H a xs → SqL K H' a xs
mutual
theorem Dn.stay {K : PySem.W.Frag} {H H' : Hp} (e : Stays K H H') : ∀ {v : V} {d : Dv}, Dn K H v d → Dn K H' v d
 | _, _, .non => .non
 | _, _, .bl b => .bl b
 | _, _, .int i => .int i
 | _, _, .str x => .str x
 | _, _, .tup h t => .tup (e.t _ _ h) (Dns.stay e t)
 | _, _, .lst h t => .lst (e.l _ _ h) (Dns.stay e t)
theorem Dns.stay {K : PySem.W.Frag} {H H' : Hp} (e : Stays K H H') : ∀ {vs : List V} {ds : List Dv}, Dns K H vs ds → Dns K H' vs ds
 | _, _, .nil => .nil
 | _, _, .cons r t => .cons (Dn.stay e r) (Dns.stay e t)
end
theorem Same.seqT {K : PySem.W.Frag} {H H' : Hp} {a : Addr} {xs : List V} (e : Same H H') (h : SqT K H a xs) : SqT K H' a xs := by
 rcases h with (h | ⟨o, h⟩) | h
 ·exact .inl (.inl (e _ _ h))
 ·exact .inl (.inr ⟨o, e _ _ h⟩)
 ·exact .inr h
theorem Same.stays {K : PySem.W.Frag} {H H' : Hp} (e : Same H H') : Stays K H H' := ⟨fun _ _ h => e.seqT h, fun _ _ h => e.seq h⟩
theorem Same.new {H : Hp} {a : Addr} {o : HO} (h : H a = none) : Same H (upd H a o) := fun b u e => by
 rw [upd_ne (ne_of_none e h)]
 exact e
theorem in1_units (A : Around) : A.in1.units = A.units + 1 := by
 first | rfl | simp [Around.in1]
section
variable {X : Cx} {pins : List (Addr × Obj)} {σ : St} {H : Hp} {s : Shared}
theorem eq_items {A : Around} {its its2 : List Value} {ds es : List Dv} (he : ∀ (j : Nat) u w d e, its[j]? = some u → its2[j]? = some w → ds[j]? = some d → es[j]? = some e → ∃ b, SeqAt.EqAt A s u w b ∧ (b = true ↔ d = e))
  (l1 : its.length = ds.length) (l2 : its2.length = es.length) :
  ∃ f : Nat → Bool, (∀ j (h1 : j < its.toArray.size) (h2 : j < its2.toArray.size), SeqAt.EqAt A s its.toArray[j] its2.toArray[j] (f j)) ∧
   (((List.range (min its.length its2.length)).all f && its.length == its2.length) = true ↔ ds = es) := by
 have key : ∀ j : Nat, ∃ b : Bool, (∀ (h1 : j < its.length) (h2 : j < its2.length), SeqAt.EqAt A s its[j] its2[j] b ∧ (b = true ↔ ds[j]? = es[j]?)) := fun j => by
  by_cases h1 : j < its.length
  ·by_cases h2 : j < its2.length
   ·obtain ⟨b, hb, hi⟩ := he j its[j] its2[j] (ds[j]'(by lia)) (es[j]'(by lia)) (by simp [h1]) (by simp [h2]) (by simp) (by simp)
    refine ⟨b, fun _ _ => ⟨hb, ?_⟩⟩
    rw [hi]
    simp [show j < ds.length by lia, show j < es.length by lia]
   ·exact ⟨true, fun _ z => absurd z h2⟩
  ·exact ⟨true, fun z => absurd z h1⟩
 refine ⟨fun j => Classical.choose (key j), fun j h1 h2 => ?_, ?_⟩
 ·have h1' : j < its.length := by simpa using h1
  have h2' : j < its2.length := by simpa using h2
  have := (Classical.choose_spec (key j) h1' h2').1
  simpa using this
 ·rw [Bool.and_eq_true, List.all_eq_true, beq_iff_eq]
  constructor
  ·rintro ⟨ha, hl⟩
   apply List.ext_getElem?
   intro j
   by_cases hj : j < its.length
   ·have hj2 : j < its2.length := by lia
    exact ((Classical.choose_spec (key j) hj hj2).2).mp (ha j (List.mem_range.mpr (by lia)))
   ·rw [List.getElem?_eq_none (by lia), List.getElem?_eq_none (by lia)]
  ·rintro rfl
   refine ⟨fun j hj => ?_, by lia⟩
   have hj' := List.mem_range.mp hj
   exact ((Classical.choose_spec (key j) (by lia) (by lia)).2).mpr rfl
theorem nomixs_get : ∀ {ds es : List Dv} {j : Nat} {d e : Dv}, nomixs ds es = true → ds[j]? = some d → es[j]? = some e → nomix d e = true
 | [], _, _, _, _, _, h, _ => by simp at h
 | _ :: _, [], _, _, _, _, _, h => by simp at h
 | a :: l, b :: r, 0, d, e, h, h1, h2 => by
  simp at h1 h2
  subst h1 h2
  simp only [nomixs, Bool.and_eq_true] at h
  exact h.1
 | a :: l, b :: r, j + 1, d, e, h, h1, h2 => by
  simp only [nomixs, Bool.and_eq_true] at h
  exact nomixs_get (j := j) h.2 (by simpa using h1) (by simpa using h2)
theorem deps_get : ∀ {ds : List Dv} {j : Nat} {d : Dv}, ds[j]? = some d → d.dep ≤ Dv.deps ds
 | [], _, _, h => by simp at h
 | a :: l, 0, d, h => by
  simp at h
  subst h
  simp only [Dv.deps]
  exact Nat.le_max_left _ _
 | a :: l, j + 1, d, h => by
  have := deps_get (ds := l) (j := j) (d := d) (by simpa using h)
  simp only [Dv.deps]
  exact Nat.le_trans this (Nat.le_max_right _ _)
theorem rc_tups {A : Around} {a b : Addr} {xs ys : List V} {ds es : List Dv} (I : Inv X pins σ H s) (ha : SqT X.K H a xs) (hb : SqT X.K H b ys) (da : Dns X.K H xs ds) (db : Dns X.K H ys es) (hu : A.units < cLine)
  (he : ∀ (j : Nat) x y u w d e, xs[j]? = some x → ys[j]? = some y → ds[j]? = some d → es[j]? = some e → Dn X.K H x d → Dn X.K H y e → RelV x u → RelV y w → ∃ b, SeqAt.EqAt A.in1 s u w b ∧ (b = true ↔ d = e)) :
  ∃ k, SeqAt.RcAt A s (.ref a) (.ref b) k ∧ SeqAt.RcNeAt A s (.ref a) (.ref b) (!k) ∧ (k = true ↔ ds = es) := by
 obtain ⟨its, r1, p1, _⟩ := I.tuple ha
 obtain ⟨its2, r2, p2, _⟩ := I.tuple hb
 obtain ⟨f, h1, h2⟩ := eq_items (A := A.in1) (s := s) (its := its) (its2 := its2) (ds := ds) (es := es) (fun j u w d e e1 e2 e3 e4 => by
  obtain ⟨x, ex, dx⟩ := da.get e3
  obtain ⟨y, ey, dy⟩ := db.get e4
  obtain ⟨u', eu, ru⟩ := r1.get ex
  obtain ⟨w', ew, rw'⟩ := r2.get ey
  rw [e1] at eu; cases eu
  rw [e2] at ew; cases ew
  exact he j x y u w d e ex ey e3 e4 dx dy ru rw') (by rw [← r1.length]; exact da.length) (by rw [← r2.length]; exact db.length)
 have q1 := SeqAt.RcAt.tuples (A := A) (s := s) (l := a) (b := b) (items := its.toArray) (items2 := its2.toArray) (e := f) p1 p2 hu h1
 have q2 := SeqAt.RcNeAt.tuples (A := A) (s := s) (l := a) (b := b) (items := its.toArray) (items2 := its2.toArray) (e := f) p1 p2 hu h1
 rw [List.size_toArray, List.size_toArray] at q1 q2
 exact ⟨_, q1, q2, h2⟩
theorem rc_lsts {A : Around} {a b : Addr} {xs ys : List V} {ds es : List Dv} (I : Inv X pins σ H s) (ha : SqL X.K H a xs) (hb : SqL X.K H b ys) (da : Dns X.K H xs ds) (db : Dns X.K H ys es) (hu : A.units < cLine)
  (he : ∀ (j : Nat) x y u w d e, xs[j]? = some x → ys[j]? = some y → ds[j]? = some d → es[j]? = some e → Dn X.K H x d → Dn X.K H y e → RelV x u → RelV y w → ∃ b, SeqAt.EqAt A.in1 s u w b ∧ (b = true ↔ d = e)) :
  ∃ k, SeqAt.RcAt A s (.ref a) (.ref b) k ∧ SeqAt.RcNeAt A s (.ref a) (.ref b) (!k) ∧ (k = true ↔ ds = es) := by
 obtain ⟨its, r1, p1, _⟩ := I.list ha
 obtain ⟨its2, r2, p2, _⟩ := I.list hb
 obtain ⟨f, h1, h2⟩ := eq_items (A := A.in1) (s := s) (its := its) (its2 := its2) (ds := ds) (es := es) (fun j u w d e e1 e2 e3 e4 => by
  obtain ⟨x, ex, dx⟩ := da.get e3
  obtain ⟨y, ey, dy⟩ := db.get e4
  obtain ⟨u', eu, ru⟩ := r1.get ex
  obtain ⟨w', ew, rw'⟩ := r2.get ey
  rw [e1] at eu; cases eu
  rw [e2] at ew; cases ew
  exact he j x y u w d e ex ey e3 e4 dx dy ru rw') (by rw [← r1.length]; exact da.length) (by rw [← r2.length]; exact db.length)
 have l1 : its.length = ds.length := by rw [← r1.length]; exact da.length
 have l2 : its2.length = es.length := by rw [← r2.length]; exact db.length
 by_cases hl : its.length = its2.length
 ·have hsz : its.toArray.size = its2.toArray.size := by rw [List.size_toArray, List.size_toArray]; exact hl
  have q1 := SeqAt.RcAt.lists (A := A) (s := s) (l := a) (b := b) (items := its.toArray) (items2 := its2.toArray) (e := f) p1.isList p2.isList hsz hu h1
  have q2 := SeqAt.RcNeAt.lists (A := A) (s := s) (l := a) (b := b) (items := its.toArray) (items2 := its2.toArray) (e := f) p1.isList p2.isList hsz hu h1
  rw [List.size_toArray] at q1 q2
  refine ⟨_, q1, q2, ?_⟩
  rw [← h2, hl, Nat.min_self]
  simp
 ·have hsz : (its.toArray.size != its2.toArray.size) = true := by
   rw [List.size_toArray, List.size_toArray]
   simpa using hl
  refine ⟨false, SeqAt.RcAt.lists_lengths p1.isList p2.isList hsz hu, SeqAt.RcNeAt.lists_lengths p1.isList p2.isList hsz hu, ?_⟩
  constructor
  ·intro z; cases z
  ·rintro rfl
   exact absurd (l1.trans l2.symm) hl
mutual
theorem Dn.inj (I : Inv X pins σ H s) : ∀ {x : V} {d e : Dv}, Dn X.K H x d → Dn X.K H x e → d = e
 | _, _, _, .non, .non => rfl
 | _, _, _, .bl _, .bl _ => rfl
 | _, _, _, .int _, .int _ => rfl
 | _, _, _, .str _, .str _ => rfl
 | _, _, _, .tup (a := a) h t, .tup h' t' => by
  have e := I.tuple_inj h h'
  subst e
  rw [Dns.inj I t t']
 | _, _, _, .lst (a := a) h t, .lst h' t' => by
  have e := I.list_inj h h'
  subst e
  rw [Dns.inj I t t']
 | _, _, _, .tup (a := a) h t, .lst h' t' => by
  obtain ⟨its, _, p1, _⟩ := I.tuple h
  obtain ⟨its2, _, p2, _⟩ := I.list h'
  exact absurd rfl (SeqAt.ne_of_list_tuple p2.isList p1)
 | _, _, _, .lst (a := a) h t, .tup h' t' => by
  obtain ⟨its, _, p1, _⟩ := I.tuple h'
  obtain ⟨its2, _, p2, _⟩ := I.list h
  exact absurd rfl (SeqAt.ne_of_list_tuple p2.isList p1)
theorem Dns.inj (I : Inv X pins σ H s) : ∀ {xs : List V} {ds es : List Dv}, Dns X.K H xs ds → Dns X.K H xs es → ds = es
 | _, _, _, .nil, .nil => rfl
 | _, _, _, .cons r t, .cons r' t' => by rw [Dn.inj I r r', Dns.inj I t t']
end
theorem iff_ff {d e : Dv} (h : d ≠ e) : (false = true ↔ d = e) := ⟨fun z => (nomatch z), fun z => absurd z h⟩
theorem deep_step (I : Inv X pins σ H s) {n : Nat} {A : Around} {d e : Dv} {x y : V} {u w : Value} (hd : d.dep ≤ n) (hu : A.units < cLine) (hm : nomix d e = true) (dx : Dn X.K H x d) (dy : Dn X.K H y e) (rx : RelV x u) (ry : RelV y w)
  (ih : ∀ {d' e' : Dv} {x' y' : V} {u' w' : Value}, d'.dep + 1 ≤ n → nomix d' e' = true → Dn X.K H x' d' → Dn X.K H y' e' → RelV x' u' → RelV y' w' → ∃ b, SeqAt.EqAt A.in1 s u' w' b ∧ (b = true ↔ d' = e')) :
  ∃ b, SeqAt.EqAt A s u w b ∧ (b = true ↔ d = e) := by
 cases dx with
 | non =>
  cases rx
  cases dy with
  | non => cases ry; exact ⟨true, SeqAt.EqAt.same _, by simp⟩
  | bl b => cases ry; exact ⟨false, SeqAt.EqAt.none_bool b, iff_ff (by simp)⟩
  | int i => obtain ⟨t, rfl⟩ := ry; exact ⟨false, SeqAt.EqAt.none_int i t, iff_ff (by simp)⟩
  | str z => obtain ⟨t, rfl⟩ := ry; exact ⟨false, SeqAt.EqAt.none_str z t, iff_ff (by simp)⟩
  | tup h _ => cases ry; obtain ⟨its, _, p, _⟩ := I.tuple h; exact ⟨false, SeqAt.EqAt.none_tuple p hu, iff_ff (by simp)⟩
  | lst h _ => cases ry; obtain ⟨its, _, p, _⟩ := I.list h; exact ⟨false, SeqAt.EqAt.none_list p.isList hu, iff_ff (by simp)⟩
 | bl a =>
  cases rx
  cases dy with
  | non => cases ry; exact ⟨false, SeqAt.EqAt.bool_none a, iff_ff (by simp)⟩
  | bl b => cases ry; exact ⟨_, SeqAt.EqAt.bool_bool a b, by simp⟩
  | int i => exact absurd hm (by simp [nomix])
  | str z => obtain ⟨t, rfl⟩ := ry; exact ⟨false, SeqAt.EqAt.bool_str a z t, iff_ff (by simp)⟩
  | tup h _ => cases ry; obtain ⟨its, _, p, _⟩ := I.tuple h; exact ⟨false, SeqAt.EqAt.bool_tuple a p hu, iff_ff (by simp)⟩
  | lst h _ => cases ry; obtain ⟨its, _, p, _⟩ := I.list h; exact ⟨false, SeqAt.EqAt.bool_list a p.isList hu, iff_ff (by simp)⟩
 | int a =>
  obtain ⟨ta, rfl⟩ := rx
  cases dy with
  | non => cases ry; exact ⟨false, SeqAt.EqAt.int_none a ta, iff_ff (by simp)⟩
  | bl b => exact absurd hm (by simp [nomix])
  | int i => obtain ⟨t, rfl⟩ := ry; exact ⟨_, SeqAt.EqAt.int_int a ta i t, by simp⟩
  | str z => obtain ⟨t, rfl⟩ := ry; exact ⟨false, SeqAt.EqAt.int_str a ta z t, iff_ff (by simp)⟩
  | tup h _ => cases ry; obtain ⟨its, _, p, _⟩ := I.tuple h; exact ⟨false, SeqAt.EqAt.int_tuple a ta p hu, iff_ff (by simp)⟩
  | lst h _ => cases ry; obtain ⟨its, _, p, _⟩ := I.list h; exact ⟨false, SeqAt.EqAt.int_list a ta p.isList hu, iff_ff (by simp)⟩
 | str a =>
  obtain ⟨ta, rfl⟩ := rx
  cases dy with
  | non => cases ry; exact ⟨false, SeqAt.EqAt.str_none a ta, iff_ff (by simp)⟩
  | bl b => cases ry; exact ⟨false, SeqAt.EqAt.str_bool a ta b, iff_ff (by simp)⟩
  | int i => obtain ⟨t, rfl⟩ := ry; exact ⟨false, SeqAt.EqAt.str_int a ta i t, iff_ff (by simp)⟩
  | str z => obtain ⟨t, rfl⟩ := ry; exact ⟨_, SeqAt.EqAt.str_str a ta z t, by simp⟩
  | tup h _ => cases ry; obtain ⟨its, _, p, _⟩ := I.tuple h; exact ⟨false, SeqAt.EqAt.str_tuple a ta p hu, iff_ff (by simp)⟩
  | lst h _ => cases ry; obtain ⟨its, _, p, _⟩ := I.list h; exact ⟨false, SeqAt.EqAt.str_list a ta p.isList hu, iff_ff (by simp)⟩
 | @tup a xs ds ha da =>
  cases rx
  obtain ⟨its, _, p, _⟩ := I.tuple ha
  cases dy with
  | non => cases ry; exact ⟨false, SeqAt.EqAt.tuple_none p hu, iff_ff (by simp)⟩
  | bl b => cases ry; exact ⟨false, SeqAt.EqAt.tuple_bool b p hu, iff_ff (by simp)⟩
  | int i => obtain ⟨t, rfl⟩ := ry; exact ⟨false, SeqAt.EqAt.tuple_int i t p hu, iff_ff (by simp)⟩
  | str z => obtain ⟨t, rfl⟩ := ry; exact ⟨false, SeqAt.EqAt.tuple_str z t p hu, iff_ff (by simp)⟩
  | lst h _ => cases ry; obtain ⟨its2, _, p2, _⟩ := I.list h; exact ⟨false, SeqAt.EqAt.tuple_list p p2.isList hu, iff_ff (by simp)⟩
  | @tup b ys es hb db =>
   cases ry
   by_cases hab : a = b
   ·subst hab
    exact ⟨true, SeqAt.EqAt.same _, by rw [Dn.inj I (.tup ha da) (.tup hb db)]; simp⟩
   ·have hm' : nomixs ds es = true := by simpa only [nomix] using hm
    have hd' : Dv.deps ds + 1 ≤ n := by simpa only [Dv.dep] using hd
    obtain ⟨k, q1, _, q3⟩ := rc_tups I ha hb da db hu (fun j x' y' u' w' d' e' _ _ e3 e4 dx' dy' rx' ry' => ih (by have := deps_get e3; lia) (nomixs_get hm' e3 e4) dx' dy' rx' ry')
    refine ⟨k, SeqAt.EqAt.of_refs hab q1, ?_⟩
    rw [q3]
    simp
 | @lst a xs ds ha da =>
  cases rx
  obtain ⟨its, _, p, _⟩ := I.list ha
  cases dy with
  | non => cases ry; exact ⟨false, SeqAt.EqAt.list_none p.isList hu, iff_ff (by simp)⟩
  | bl b => cases ry; exact ⟨false, SeqAt.EqAt.list_bool b p.isList hu, iff_ff (by simp)⟩
  | int i => obtain ⟨t, rfl⟩ := ry; exact ⟨false, SeqAt.EqAt.list_int i t p.isList hu, iff_ff (by simp)⟩
  | str z => obtain ⟨t, rfl⟩ := ry; exact ⟨false, SeqAt.EqAt.list_str z t p.isList hu, iff_ff (by simp)⟩
  | tup h _ => cases ry; obtain ⟨its2, _, p2, _⟩ := I.tuple h; exact ⟨false, SeqAt.EqAt.list_tuple p.isList p2 hu, iff_ff (by simp)⟩
  | @lst b ys es hb db =>
   cases ry
   by_cases hab : a = b
   ·subst hab
    exact ⟨true, SeqAt.EqAt.same _, by rw [Dn.inj I (.lst ha da) (.lst hb db)]; simp⟩
   ·have hm' : nomixs ds es = true := by simpa only [nomix] using hm
    have hd' : Dv.deps ds + 1 ≤ n := by simpa only [Dv.dep] using hd
    obtain ⟨k, q1, _, q3⟩ := rc_lsts I ha hb da db hu (fun j x' y' u' w' d' e' _ _ e3 e4 dx' dy' rx' ry' => ih (by have := deps_get e3; lia) (nomixs_get hm' e3 e4) dx' dy' rx' ry')
    refine ⟨k, SeqAt.EqAt.of_refs hab q1, ?_⟩
    rw [q3]
    simp
theorem deep_eq (I : Inv X pins σ H s) : ∀ (n : Nat) {A : Around} {d e : Dv} {x y : V} {u w : Value}, d.dep ≤ n → A.units + n < cLine → nomix d e = true → Dn X.K H x d → Dn X.K H y e → RelV x u → RelV y w → ∃ b, SeqAt.EqAt A s u w b ∧ (b = true ↔ d = e)
 | 0, A, d, e, x, y, u, w, hd, hu, hm, dx, dy, rx, ry => deep_step I hd (by lia) hm dx dy rx ry fun h => absurd h (by lia)
 | n + 1, A, d, e, x, y, u, w, hd, hu, hm, dx, dy, rx, ry => deep_step I hd (by lia) hm dx dy rx ry fun h hm' dx' dy' rx' ry' => deep_eq I n (by lia) (by rw [in1_units]; lia) hm' dx' dy' rx' ry'
inductive rEqDI (K : PySem.W.Frag) (x : V) (y : V) (H : Hp) (Q : VK) : Prop
 | mk (d : _) (e : _) : (Dn K H x d) → (Dn K H y e) → (((∃ l r, d = .tup l ∧ e = .tup r) ∨ ∃ l r, d = .lst l ∧ e = .lst r)) → (nomix d e = true) → (d.dep ≤ 30) → (∀ b : Bool, (b = true ↔ d = e) → Q (.bl b) H) → rEqDI K x y H Q
noncomputable def rEqD (K : PySem.W.Frag) : R2 := fun x y H Q => rEqDI K x y H Q
inductive rNeDI (K : PySem.W.Frag) (x : V) (y : V) (H : Hp) (Q : VK) : Prop
 | mk (d : _) (e : _) : (Dn K H x d) → (Dn K H y e) → (((∃ l r, d = .tup l ∧ e = .tup r) ∨ ∃ l r, d = .lst l ∧ e = .lst r)) → (nomix d e = true) → (d.dep ≤ 30) → (∀ b : Bool, (b = true ↔ d = e) → Q (.bl (!b)) H) → rNeDI K x y H Q
noncomputable def rNeD (K : PySem.W.Frag) : R2 := fun x y H Q => rNeDI K x y H Q
theorem rc_deep {A : Around} {d e : Dv} {x y : V} {u w : Value} (I : Inv X pins σ H s) (hu : A.units + 64 < cLine) (dx : Dn X.K H x d) (dy : Dn X.K H y e) (hk : (∃ l r, d = .tup l ∧ e = .tup r) ∨ ∃ l r, d = .lst l ∧ e = .lst r) (hm : nomix d e = true)
  (hd : d.dep ≤ 30) (rx : RelV x u) (ry : RelV y w) : ∃ k, SeqAt.RcAt A s u w k ∧ SeqAt.RcNeAt A s u w (!k) ∧ (k = true ↔ d = e) := by
 rcases hk with ⟨l, r, rfl, rfl⟩ | ⟨l, r, rfl, rfl⟩
 ·cases dx with
  | tup ha da =>
   cases dy with
   | tup hb db =>
    cases rx
    cases ry
    have hm' : nomixs l r = true := by simpa only [nomix] using hm
    have hd' : Dv.deps l + 1 ≤ 30 := by simpa only [Dv.dep] using hd
    obtain ⟨k, q1, q2, q3⟩ := rc_tups I ha hb da db (A := A) (by lia) (fun j x' y' u' w' d' e' _ _ e3 e4 dx' dy' rx' ry' => deep_eq I 30 (by have := deps_get e3; lia) (by rw [in1_units]; lia) (nomixs_get hm' e3 e4) dx' dy' rx' ry')
    exact ⟨k, q1, q2, by rw [q3]; simp⟩
 ·cases dx with
  | lst ha da =>
   cases dy with
   | lst hb db =>
    cases rx
    cases ry
    have hm' : nomixs l r = true := by simpa only [nomix] using hm
    have hd' : Dv.deps l + 1 ≤ 30 := by simpa only [Dv.dep] using hd
    obtain ⟨k, q1, q2, q3⟩ := rc_lsts I ha hb da db (A := A) (by lia) (fun j x' y' u' w' d' e' _ _ e3 e4 dx' dy' rx' ry' => deep_eq I 30 (by have := deps_get e3; lia) (by rw [in1_units]; lia) (nomixs_get hm' e3 e4) dx' dy' rx' ry')
    exact ⟨k, q1, q2, by rw [q3]; simp⟩
end
theorem op_eqD {X : Cx} (hu : X.A.units + 64 < cLine) : OpR X (compareOp .Eq) (rEqD X.K) := by
 intro pins s σ H x y v u Q I rx ry h
 obtain ⟨d, e, dx, dy, hk, hm, hd, q⟩ := h
 obtain ⟨k, q1, _, q3⟩ := rc_deep I hu dx dy hk hm hd rx ry
 exact q1 _ _ _ _ ⟨.bl k, H, I, rfl, q k q3⟩
theorem op_neD {X : Cx} (hu : X.A.units + 64 < cLine) : OpR X (compareOp .NotEq) (rNeD X.K) := by
 intro pins s σ H x y v u Q I rx ry h
 obtain ⟨d, e, dx, dy, hk, hm, hd, q⟩ := h
 obtain ⟨k, _, q2, q3⟩ := rc_deep I hu dx dy hk hm hd rx ry
 exact q2 _ _ _ _ ⟨.bl (!k), H, I, rfl, q k q3⟩
theorem call_isinst {X : Cx} : CallR X (.builtin "isinstance") (fun xs H Q => ∃ x T t b, xs = [x, .ty T] ∧ TyOf X.K H x t ∧ PySem.W.kitOne X.K t (.type T) = some b ∧ Q (.bl b) H) := by
 intro pins s σ H xs us Q I r h
 obtain ⟨x, T, t, b, rfl, ty, e, q⟩ := h
 obtain ⟨u, w', rfl, rx, ry⟩ := vals2 r
 cases ry
 exact isinst_ok I rx ty e fun tk => ⟨.bl b, H, I.tok _, rfl, q⟩
end L2
namespace L2
open PySem PySem.Spec PyProof.Rows
structure DefIn (K : PySem.W.Frag) (x : Str) (st : Stmt) : Prop where
 ex : ∃ (f : Addr) (oc : Value) (od : Option Addr) (kV doc pm : Value) (an : Option Addr) (cdv ct : Value) (osl : Array (Option Value)),
  PySem.W.nsIn K mainGlobals x = some (some (.ref f)) ∧ K.lookup f = some ⟨oc, od, .func (PySem.W.fnOf x x (defArgs st) (defBody st) (defScope st) .none kV doc pm an cdv ct), osl⟩ ∧ PySem.W.codeIn K cdv x = true ∧ PySem.W.keepIn K (.ref f) = true
theorem DefIn.mk' {K : PySem.W.Frag} {x : Str} {st : Stmt} {f : Addr} {oc : Value} {od : Option Addr} {kV doc pm : Value} {an : Option Addr} {cdv ct : Value} {osl : Array (Option Value)}
  (a : PySem.W.nsIn K mainGlobals x = some (some (.ref f))) (l : K.lookup f = some ⟨oc, od, .func (PySem.W.fnOf x x (defArgs st) (defBody st) (defScope st) .none kV doc pm an cdv ct), osl⟩)
  (c : PySem.W.codeIn K cdv x = true) (k : PySem.W.keepIn K (.ref f) = true) : DefIn K x st := ⟨⟨f, oc, od, kV, doc, pm, an, cdv, ct, osl, a, l, c, k⟩⟩
structure MG (K : PySem.W.Frag) (mg : Str → Option Value) : Prop where
 is : ∀ x v, PySem.W.nsIn K mainGlobals x = some (some v) → mg x = some v
 no : ∀ x, PySem.W.nsIn K mainGlobals x = some none → mg x = none
noncomputable def FnB (P : Program) (w : World) (K : PySem.W.Frag) (mg : Str → Option Value) (x : Str) (ps : List Str) (k : Nat) (sp : Sp) : Prop :=
 ∃ (f : Addr) (fd : FuncData), mg x = some (.ref f) ∧ PySem.W.keepIn K (.ref f) = true ∧ (∀ us : List Value, us.length = ps.length → bindArgs fd ⟨us, []⟩ = pure (ps.zip us)) ∧ ∀ base, FnOk P w K mg base CX0 k f fd ps sp
theorem DefIn.fn {P : Program} {w : World} {K : PySem.W.Frag} {mg : Str → Option Value} {x : Str} {st : Stmt} {N ps : List Str} {k : Nat} {sp : Sp} (D : DefIn K x st) (M : MG K mg) (S : FnScope N ps (defScope st))
  (hb : ∀ (kV doc pm : Value) (an : Option Addr) (cdv ct : Value) (us : List Value), us.length = ps.length → bindArgs (PySem.W.fnOf x x (defArgs st) (defBody st) (defScope st) .none kV doc pm an cdv ct) ⟨us, []⟩ = pure (ps.zip us))
  (len : ∀ vs H Q E, sp vs H Q E → vs.length = ps.length)
  (hbody : ∀ (f : Addr) (base : Heap) (cdv : Value) (A : Around) (outer : List Env) (s : Shared) (H : Hp) (vs : List V) (Q : VK) (E : XK), Room k (A.deeper (envOfC x (defScope st) s.heap.objs.size f cdv)) → sp vs H Q E →
   ∃ t, PSs (cxOf CX0 P w K mg base N x (defScope st) f cdv A outer s H E).nox (defBody st) t ∧ t { nx := fun _ H' => Q .non H', rt := Q } (start N vs) H) : FnB P w K mg x ps (k + 1) sp := by
 obtain ⟨f, oc, od, kV, doc, pm, an, cdv, ct, osl, a, l, c, kp⟩ := D.ex
 have F : Fun K x x st f (PySem.W.fnOf x x (defArgs st) (defBody st) (defScope st) .none kV doc pm an cdv ct) := fun_mk l c kp
 exact ⟨f, _, M.is _ _ a, kp, hb kV doc pm an cdv ct, fun base => F.ok S len (hbody f base)⟩
section
variable {X : Cx} {k : Nat} {ps : List Str} {sp : Sp} {x : Str} {p pos : Pos} {e : Expr} {es : List Expr} {t : TA}
theorem pe_callF (F : FnB X.prog X.w X.K X.mg x ps k sp) (hr : Room k X.A) (hg : Gl X x) (ha : PA X (e :: es) t)
  (hdb : (x == ("__debug__" : Str)) = false := by decide) (he : starEach (e :: es) X.env = (false, eval e X.env) :: starEach es X.env := by rfl) (hpl : (backTo pos (starEach es X.env)).any (·.1) = false := by rfl) :
  PE X (.Call (.Name x p) (e :: es) [] pos) (tCall sp [] E0 t) := by
 obtain ⟨f, fd, h1, h2, h3, h4⟩ := F
 exact pe_call (h4 X.base) hr hg h1 h2 (.all h3) .nil pass0 ha hdb he hpl
noncomputable def GlobIs (K : PySem.W.Frag) (x : Str) (v : V) : Prop := ∃ u, PySem.W.nsIn K mainGlobals x = some (some u) ∧ RelV v u
theorem pe_globC {v : V} (G : GlobIs X.K x v) (M : MG X.K X.mg) (hg : Gl X x) (hd : (x == ("__debug__" : Str)) = false := by decide) : PE X (.Name x p) (tC v) := by
 obtain ⟨u, h1, h2⟩ := G
 exact pe_glob hg (M.is _ _ h1) h2 hd
end
end L2
namespace L2
open PySem PySem.Spec PyProof.Rows
inductive tSeqJI (t : TS) (u : TS) (D : Ends) (σ : St) (H : Hp) : Prop
 | mk (G : St → Hp → Prop) : (t { D with nx := G } σ H) → (∀ σ' H', G σ' H' → u D σ' H') → tSeqJI t u D σ H
noncomputable def tSeqJ (t u : TS) : TS := fun D σ H => tSeqJI t u D σ H
theorem pss_consJ {X : Cx} {st : Stmt} {rest : List Stmt} {t u : TS} (h1 : PS X st t) (h2 : PSs X rest u) : PSs X (st :: rest) (tSeqJ t u) := by
 intro pins s σ H D I h
 obtain ⟨G, q1, q2⟩ := h
 refine wpAny_execs_cons (thn (h1 pins s σ H { D with nx := G } I q1) fun f s1 q => ?_)
 cases f with
 | next =>
  obtain ⟨σ', H', I', q⟩ := q
  exact h2 pins s1 σ' H' D I' (q2 σ' H' q)
 | ret v => exact q
 | brk => exact q
 | cont => exact q
theorem JsOk.nil {X : Cx} {scope : Scope} : JsOk X scope [] [] := trivial
theorem JsOk.own {X : Cx} {scope : Scope} {js : List (Option Nat)} {x : Str} {N : List Str} (h : JsOk X scope js N) : JsOk X scope (none :: js) (x :: N) := h
theorem JsOk.out {X : Cx} {scope : Scope} {j : Nat} {js : List (Option Nat)} {x : Str} {N : List Str} (h1 : X.N[j]? = some x) (h2 : scope.names.lookup x = some .free) (h3 : X.env.kindOf x = some .cell ∨ X.env.kindOf x = some .free) (h : JsOk X scope js N) : JsOk X scope (some j :: js) (x :: N) := by
 refine ⟨⟨h1, h2, ?_, h3⟩, h⟩
 rcases h3 with e | e <;> rw [e] <;> intro z <;> cases z
theorem ClIn.nil {cells : List (Str × Addr)} : ClIn cells [] := trivial
theorem ClIn.cons {cells : List (Str × Addr)} {p : Str × Addr} {r : List (Str × Addr)} (h1 : cells.lookup p.1 = some p.2) (h2 : ClIn cells r) : ClIn cells (p :: r) := ⟨h1, h2⟩
end L2
namespace L2
noncomputable abbrev KOfM {K : PySem.W.Frag} {mg : PySem.Str → Option PySem.Value} (_ : MG K mg) : PySem.W.Frag := K
end L2
namespace L2
open PySem PySem.Spec PyProof.Rows
noncomputable def plainE : Expr → Bool
 | .Starred .. => false
 | _ => true
theorem star_plain {e : Expr} {es : List Expr} {env : Env} (h : plainE e = true) : starEach (e :: es) env = (false, eval e env) :: starEach es env := by
 cases e <;> first | rfl | exact absurd h Bool.false_ne_true
noncomputable def plainEs : List Expr → Bool
 | [] => true
 | e :: r => plainE e && plainEs r
theorem back_plain {pos : Pos} {env : Env} : ∀ {es : List Expr}, plainEs es = true → (backTo pos (starEach es env)).any (·.1) = false
 | [], _ => rfl
 | e :: r, h => by
  simp only [plainEs, Bool.and_eq_true] at h
  rw [star_plain h.1]
  show (false || (backTo pos (starEach r env)).any (·.1)) = false
  rw [back_plain h.2]
  rfl
noncomputable def noComp : Expr → Bool
 | .ListComp .. => false
 | .SetComp .. => false
 | .DictComp .. => false
 | _ => true
theorem swaps_plain {e : Expr} {t : Option Expr} {l : Nat} {env : Env} (h : noComp e = true) : swapsWith e t l env = pure false := by
 cases e <;> first | rfl | exact absurd h Bool.false_ne_true
section
variable {X : Cx} {e : Expr} {es : List Expr} {te ta tb : TE} {t : TA} {pos p : Pos} {x : Str} {k : Nat} {ps : List Str} {sp : Sp}
theorem pc (ha : PE X e te) (hr : PA X es t) (h : plainE e = true := by rfl) : PA X (e :: es) (tCons te t) := pa_cons ha hr (star_plain h)
theorem pset {i : Nat} {pos' : Pos} (hN : X.N.Nodup) (hi : X.N[i]? = some x) (hx : Loc X.env.scope x) (he : PE X e te) (h : noComp e = true := by rfl) (hf : X.fn x = true ∨ X.env.scope.names.lookup x = some .local := by first | exact .inl rfl | exact .inr rfl | assumption) :
  PS X (.Assign [.Name x pos'] e pos) (tAsg te (gName i)) := ps_set hN hi hx he (swaps_plain h) hf
theorem pexpr (he : PE X e te) (h : noComp e = true := by rfl) : PS X (.Expr e pos) (tDrop te) := ps_expr he (swaps_plain h)
theorem pcallF (F : FnB X.prog X.w X.K X.mg x ps k sp) (hr : Room k X.A) (hg : Gl X x) (ha : PA X (e :: es) t) (hdb : (x == ("__debug__" : Str)) = false := by decide) (h1 : plainE e = true := by rfl) (h2 : plainEs es = true := by rfl) :
  PE X (.Call (.Name x p) (e :: es) [] pos) (tCall sp [] E0 t) := pe_callF F hr hg ha hdb (star_plain h1) (back_plain h2)
variable {id T : String} {r : List V → Hp → VK → Prop}
theorem pcallB (hc : CallR X (.builtin id) r) (hg : Gl X x) (hm : X.mg x = none) (hv : bootBuiltins x = some (.builtin id)) (ha : PA X (e :: es) t) (hn : x ≠ "__name__" := by decide) (hdb : (x == ("__debug__" : Str)) = false := by decide)
  (h1 : plainE e = true := by rfl) (h2 : plainEs es = true := by rfl) : PE X (.Call (.Name x p) (e :: es) [] pos) (tCB r t) := pe_callB hc hg hm hv ha hn hdb (star_plain h1) (back_plain h2)
theorem pcallTy (hc : CallR X (.type T) r) (hg : Gl X x) (hm : X.mg x = none) (hv : bootBuiltins x = some (.type T)) (ha : PA X (e :: es) t) (hn : x ≠ "__name__" := by decide) (hdb : (x == ("__debug__" : Str)) = false := by decide)
  (h1 : plainE e = true := by rfl) (h2 : plainEs es = true := by rfl) : PE X (.Call (.Name x p) (e :: es) [] pos) (tCB r t) := pe_callTy hc hg hm hv ha hn hdb (star_plain h1) (back_plain h2)
end
end L2
namespace L2
open PySem PySem.Spec PyProof.Rows
inductive zAddI (x : V) (y : V) (H : Hp) (Q : VK) : Prop
 | mk (i : _) (j : _) : (x = .int i) → (y = .int j) → (Q (.int (i + j)) H) → zAddI x y H Q
noncomputable def zAdd : R2 := fun x y H Q => zAddI x y H Q
inductive zSubI (x : V) (y : V) (H : Hp) (Q : VK) : Prop
 | mk (i : _) (j : _) : (x = .int i) → (y = .int j) → (Q (.int (i - j)) H) → zSubI x y H Q
noncomputable def zSub : R2 := fun x y H Q => zSubI x y H Q
inductive zMulI (x : V) (y : V) (H : Hp) (Q : VK) : Prop
 | mk (i : _) (j : _) : (x = .int i) → (y = .int j) → (CMul i j) → (Q (.int (i * j)) H) → zMulI x y H Q
noncomputable def zMul : R2 := fun x y H Q => zMulI x y H Q
inductive zMulBI (x : V) (y : V) (H : Hp) (Q : VK) : Prop
 | mk (i : _) (j : _) : (x = .int i) → (y = .int j) → ((Fig i ∧ Fig j)) → (Q (.int (i * j)) H) → zMulBI x y H Q
noncomputable def zMulB : R2 := fun x y H Q => zMulBI x y H Q
inductive zFdivI (x : V) (y : V) (H : Hp) (Q : VK) : Prop
 | mk (i : _) (j : _) : (x = .int i) → (y = .int j) → ((0 < j ∧ Fig j)) → (Q (.int (i / j)) H) → zFdivI x y H Q
noncomputable def zFdiv : R2 := fun x y H Q => zFdivI x y H Q
inductive zModI (x : V) (y : V) (H : Hp) (Q : VK) : Prop
 | mk (i : _) (j : _) : (x = .int i) → (y = .int j) → (0 < j) → (Q (.int (i % j)) H) → zModI x y H Q
noncomputable def zMod : R2 := fun x y H Q => zModI x y H Q
inductive zLtI (x : V) (y : V) (H : Hp) (Q : VK) : Prop
 | mk (i : _) (j : _) : (x = .int i) → (y = .int j) → (Q (.bl (decide (i < j))) H) → zLtI x y H Q
noncomputable def zLt : R2 := fun x y H Q => zLtI x y H Q
inductive zLeI (x : V) (y : V) (H : Hp) (Q : VK) : Prop
 | mk (i : _) (j : _) : (x = .int i) → (y = .int j) → (Q (.bl (decide (i ≤ j))) H) → zLeI x y H Q
noncomputable def zLe : R2 := fun x y H Q => zLeI x y H Q
inductive zGtI (x : V) (y : V) (H : Hp) (Q : VK) : Prop
 | mk (i : _) (j : _) : (x = .int i) → (y = .int j) → (Q (.bl (decide (j < i))) H) → zGtI x y H Q
noncomputable def zGt : R2 := fun x y H Q => zGtI x y H Q
inductive zGeI (x : V) (y : V) (H : Hp) (Q : VK) : Prop
 | mk (i : _) (j : _) : (x = .int i) → (y = .int j) → (Q (.bl (decide (j ≤ i))) H) → zGeI x y H Q
noncomputable def zGe : R2 := fun x y H Q => zGeI x y H Q
inductive zNegI (x : V) (H : Hp) (Q : VK) : Prop
 | mk (i : _) : (x = .int i) → (Q (.int (-i)) H) → zNegI x H Q
noncomputable def zNeg : V → Hp → VK → Prop := fun x H Q => zNegI x H Q
section
variable {X : Cx}
theorem OpR.of {f : Value → Value → Sem Value} {r r' : R2} (h : OpR X f r) (k : ∀ x y H Q, r' x y H Q → r x y H Q) : OpR X f r' := fun pins s σ H x y v u Q I a b z => h pins s σ H x y v u Q I a b (k x y H Q z)
theorem UnR.of {f : Value → Sem Value} {r r' : V → Hp → VK → Prop} (h : UnR X f r) (k : ∀ x H Q, r' x H Q → r x H Q) : UnR X f r' := fun pins s σ H x v Q I a z => h pins s σ H x v Q I a (k x H Q z)
theorem oAdd : OpR X (binaryOp .Add) zAdd := op_add.of fun _ _ _ _ ⟨i, j, a, b, q⟩ => ⟨i, j, a, b, q⟩
theorem oSub : OpR X (binaryOp .Sub) zSub := op_sub.of fun _ _ _ _ ⟨i, j, a, b, q⟩ => ⟨i, j, a, b, q⟩
theorem oMul : OpR X (binaryOp .Mult) zMul := op_mul.of fun _ _ _ _ ⟨i, j, a, b, c, q⟩ => ⟨i, j, a, b, c, q⟩
theorem oMulB : OpR X (binaryOp .Mult) zMulB := op_mulB.of fun _ _ _ _ ⟨i, j, a, b, c, q⟩ => ⟨i, j, a, b, c, q⟩
theorem oFdiv : OpR X (binaryOp .FloorDiv) zFdiv := op_fdivB.of fun _ _ _ _ ⟨i, j, a, b, c, q⟩ => ⟨i, j, a, b, c, q⟩
theorem oMod : OpR X (binaryOp .Mod) zMod := op_mod.of fun _ _ _ _ ⟨i, j, a, b, c, q⟩ => ⟨i, j, a, b, c, q⟩
theorem oLt : OpR X (compareOp .Lt) zLt := op_lt.of fun _ _ _ _ ⟨i, j, a, b, q⟩ => ⟨i, j, a, b, q⟩
theorem oLe : OpR X (compareOp .LtE) zLe := op_le.of fun _ _ _ _ ⟨i, j, a, b, q⟩ => ⟨i, j, a, b, q⟩
theorem oGt : OpR X (compareOp .Gt) zGt := op_gt.of fun _ _ _ _ ⟨i, j, a, b, q⟩ => ⟨i, j, a, b, q⟩
theorem oGe : OpR X (compareOp .GtE) zGe := op_ge.of fun _ _ _ _ ⟨i, j, a, b, q⟩ => ⟨i, j, a, b, q⟩
theorem uNeg : UnR X (unaryOp .USub) zNeg := un_neg.of fun _ _ _ ⟨i, a, q⟩ => ⟨i, a, q⟩
end
end L2
namespace L2
open PySem PySem.Spec PyProof.Rows
theorem GlobIs.ofStr {K : PySem.W.Frag} {x z : Str} {t : Tok} (a : PySem.W.nsIn K mainGlobals x = some (some (.str z t))) : GlobIs K x (.str z) := ⟨_, a, ⟨t, rfl⟩⟩
theorem GlobIs.ofInt {K : PySem.W.Frag} {x : Str} {i : Int} {t : Tok} (a : PySem.W.nsIn K mainGlobals x = some (some (.int i t))) : GlobIs K x (.int i) := ⟨_, a, ⟨t, rfl⟩⟩
end L2
namespace L2
open PySem PySem.Spec PyProof.Rows
section
variable {κ : Type} [DecidableEq κ]
noncomputable def valV (kvs : List (κ × V)) (k : κ) : Option V := (kvs.find? fun kv => decide (kv.1 = k)).map (·.2)
noncomputable def putK (kvs : List (κ × V)) (k : κ) (v : V) : List (κ × V) :=
 if (kvs.any fun kv => decide (kv.1 = k)) = true then kvs.map (fun kv => if kv.1 = k then (kv.1, v) else kv) else kvs ++ [(k, v)]
noncomputable def dropK (kvs : List (κ × V)) (k : κ) : List (κ × V) := kvs.filter fun kv => decide (kv.1 ≠ k)
theorem valV_pos {p : κ × V} {r : List (κ × V)} {k : κ} (e : p.1 = k) : valV (p :: r) k = some p.2 := by simp [valV, List.find?_cons, e]
theorem valV_neg {p : κ × V} {r : List (κ × V)} {k : κ} (e : ¬ p.1 = k) : valV (p :: r) k = valV r k := by simp [valV, List.find?_cons, e]
theorem valV_any (k : κ) : ∀ kvs : List (κ × V), (kvs.any fun kv => decide (kv.1 = k)) = (valV kvs k).isSome
 | [] => rfl
 | p :: r => by
  rw [List.any_cons]
  by_cases e : p.1 = k
  ·simp only [valV_pos e, decide_eq_true e, Bool.true_or, Option.isSome_some]
  ·rw [valV_neg e, decide_eq_false e, Bool.false_or]; exact valV_any k r
theorem length_putK (kvs : List (κ × V)) (k : κ) (v : V) : (putK kvs k v).length ≤ kvs.length + 1 := by
 unfold putK
 split
 ·rw [List.length_map]; lia
 ·rw [List.length_append, List.length_cons, List.length_nil]; lia
theorem RelO.isSome_eq {o : Option V} {u : Option Value} (r : RelO o u) : o.isSome = u.isSome := by
 cases o with
 | none => cases u with
  | none => rfl
  | some _ => exact (show False from r).elim
 | some _ => cases u with
  | none => exact (show False from r).elim
  | some _ => rfl
theorem RelO.getD {o : Option V} {u : Option Value} {d : V} {d' : Value} (r : RelO o u) (rd : RelV d d') : RelV (o.getD d) (u.getD d') := by
 cases o with
 | none => cases u with
  | none => exact rd
  | some _ => exact (show False from r).elim
 | some _ => cases u with
  | none => exact (show False from r).elim
  | some _ => exact r
theorem KV.val {kvs : List (κ × V)} {vs : List (κ × Value)} (r : KV kvs vs) (k : κ) : RelO (valV kvs k) (valueAt vs k) := by
 unfold KV at r
 induction r with
 | nil => exact True.intro
 | @cons p q ps qs h t ih =>
  obtain ⟨h1, h2⟩ := h
  by_cases e : p.1 = k
  ·have e' : q.1 = k := h1.symm.trans e
   have b : valueAt (q :: qs) k = some q.2 := by simp [valueAt, List.find?_cons, e']
   rw [valV_pos e, b]; exact h2
  ·have e' : ¬ q.1 = k := fun z => e (h1.trans z)
   have b : valueAt (q :: qs) k = valueAt qs k := by simp [valueAt, List.find?_cons, e']
   rw [valV_neg e, b]; exact ih
theorem KV.any {kvs : List (κ × V)} {vs : List (κ × Value)} (r : KV kvs vs) (k : κ) : (kvs.any fun kv => decide (kv.1 = k)) = vs.any fun kv => decide (kv.1 = k) := by
 unfold KV at r
 induction r with
 | nil => rfl
 | cons h t ih => rw [List.any_cons, List.any_cons, ih, h.1]
theorem KV.repl {kvs : List (κ × V)} {vs : List (κ × Value)} (r : KV kvs vs) (k : κ) {y : V} {u : Value} (ry : RelV y u) :
  KV (kvs.map fun kv => if kv.1 = k then (kv.1, y) else kv) (vs.map fun kv => if kv.1 = k then (kv.1, u) else kv) := by
 unfold KV at r ⊢
 induction r with
 | nil => exact .nil
 | @cons p q ps qs h t ih =>
  rw [List.map_cons, List.map_cons]
  refine .cons ?_ ih
  obtain ⟨h1, h2⟩ := h
  by_cases e : p.1 = k
  ·rw [if_pos e, if_pos (h1.symm.trans e)]; exact ⟨h1, ry⟩
  ·rw [if_neg e, if_neg (fun z => e (h1.trans z))]; exact ⟨h1, h2⟩
theorem KV.put {kvs : List (κ × V)} {vs : List (κ × Value)} (r : KV kvs vs) (k : κ) {y : V} {u : Value} (ry : RelV y u) : KV (putK kvs k y) (stored vs k u) := by
 unfold putK stored
 rw [r.any k]
 by_cases e : (vs.any fun kv => decide (kv.1 = k)) = true
 ·rw [if_pos e, if_pos e]; exact r.repl k ry
 ·rw [if_neg e, if_neg e]; exact Paired.snoc r ⟨rfl, ry⟩
theorem KV.length {kvs : List (κ × V)} {vs : List (κ × Value)} (r : KV kvs vs) : kvs.length = vs.length := Paired.length r
theorem dropK_le (kvs : List (κ × V)) (k : κ) : (dropK kvs k).length ≤ kvs.length := List.length_filter_le _ _
end
theorem kV_is {P : Program} {w : World} {k : Key} {u : Value} (r : RelV (kV k) u) : (mixKind P w).is k u = true := by
 cases k with
 | inl i => obtain ⟨t, e⟩ := (show ∃ t, u = Value.int i t from r); subst e; exact mixKind_int P w i t
 | inr x => obtain ⟨t, e⟩ := (show ∃ t, u = Value.str x t from r); subst e; exact mixKind_str P w x t
theorem items_are {P : Program} {w : World} : ∀ {ks : List Key} {us : List Value}, Vals (ks.map kV) us → ItemsAre (mixKind P w) ks us
 | [], _, r => by rw [List.map_nil] at r; cases r; exact .nil
 | k :: ks, _, r => by
  rw [List.map_cons] at r
  cases r with
  | cons h t => exact .cons (kV_is h) (items_are t)
noncomputable abbrev KT (H : Hp) : List (List Key × V) → List (List Key × Addr × Value) → Prop := Paired fun p q => p.1 = q.1 ∧ H q.2.1 = some (.tup (p.1.map kV)) ∧ RelV p.2 q.2.2
theorem KT.val {H : Hp} {kvs : List (List Key × V)} {xs : List (List Key × Addr × Value)} (r : KT H kvs xs) (k : List Key) : RelO (valV kvs k) ((atKey xs k).map (·.2)) := by
 induction r with
 | nil => exact True.intro
 | @cons p q ps qs h t ih =>
  obtain ⟨h1, _, h2⟩ := h
  by_cases e : p.1 = k
  ·have e' : q.1 = k := h1.symm.trans e
   have b : atKey (q :: qs) k = some q.2 := by simp [atKey, List.find?_cons, e']
   rw [valV_pos e, b]; exact h2
  ·have e' : ¬ q.1 = k := fun z => e (h1.trans z)
   have b : atKey (q :: qs) k = atKey qs k := by simp [atKey, List.find?_cons, e']
   rw [valV_neg e, b]; exact ih
theorem KT.repl {H : Hp} {kvs : List (List Key × V)} {xs : List (List Key × Addr × Value)} (r : KT H kvs xs) (k : List Key) {y : V} {u : Value} (ry : RelV y u) :
  KT H (kvs.map fun kv => if kv.1 = k then (kv.1, y) else kv) (xs.map (putAt k u)) := by
 induction r with
 | nil => exact .nil
 | @cons p q ps qs h t ih =>
  rw [List.map_cons, List.map_cons]
  refine .cons ?_ ih
  obtain ⟨h1, h2, h3⟩ := h
  unfold putAt
  by_cases e : p.1 = k
  ·rw [if_pos e, if_pos (h1.symm.trans e)]; exact ⟨h1, h2, ry⟩
  ·rw [if_neg e, if_neg (fun z => e (h1.trans z))]; exact ⟨h1, h2, h3⟩
theorem KT.put {H : Hp} {kvs : List (List Key × V)} {xs : List (List Key × Addr × Value)} (r : KT H kvs xs) (k : List Key) {b : Addr} {y : V} {u : Value} (hb : H b = some (.tup (k.map kV))) (ry : RelV y u) :
  KT H (putK kvs k y) (storedH xs k b u) := by
 have e : (kvs.any fun kv => decide (kv.1 = k)) = (atKey xs k).isSome := by
  rw [valV_any, (r.val k).isSome_eq, Option.isSome_map]
 unfold putK storedH
 rw [e]
 by_cases q : (atKey xs k).isSome = true
 ·rw [if_pos q, if_pos q]; exact r.repl k ry
 ·rw [if_neg q, if_neg q]; exact Paired.snoc r ⟨rfl, hb, ry⟩
theorem KT.keeps {H H' : Hp} {kvs : List (List Key × V)} {xs : List (List Key × Addr × Value)} (r : KT H kvs xs) (ht : ∀ b ys, H b = some (.tup ys) → H' b = some (.tup ys)) : KT H' kvs xs :=
 Paired.mapP r fun _ _ z => ⟨z.1, ht _ _ z.2.1, z.2.2⟩
section
variable {P : Program} {w : World} {H : Hp} {h : Heap} {a : Addr}
theorem rd_of {u : HO} (ok : HOk P w H h) (e : Rd H a u) : ObjOk P w H h a u := e.ok ok
theorem dk_rd {kvs : List (Key × V)} (ok : HOk P w H h) (e : Rd H a (.dK kvs)) : kvs.length ≤ sizeLine ∧ (a == sysModules) = false ∧ ∃ vs, KV kvs vs ∧ h.DictOf (mixKind P w) a vs :=
 show ObjOk P w H h a (.dK kvs) from rd_of ok e
theorem dk_of {kvs : List (Key × V)} (ok : HOk P w H h) (e : H a = some (.dK kvs)) : kvs.length ≤ sizeLine ∧ (a == sysModules) = false ∧ ∃ vs, KV kvs vs ∧ h.DictOf (mixKind P w) a vs := dk_rd ok (.inl e)
theorem key_of {ks : List Key} (ok : HOk P w H h) (e : H a = some (.tup (ks.map kV))) : (tupleKind (mixKind P w)).is h ks a := by
 obtain ⟨_, its, r, o, h1, h2, n, h3⟩ := (show ObjOk P w H h a (.tup (ks.map kV)) from ok a _ e)
 exact ⟨o, its.toArray, n, h1, h2, h3, by simpa using items_are r⟩
theorem dt_rd {kvs : List (List Key × V)} (ok : HOk P w H h) (e : Rd H a (.dT kvs)) : kvs.length ≤ sizeLine ∧ (a == sysModules) = false ∧
  ∃ xs, KT H kvs xs ∧ h.DictOfH (tupleKind (mixKind P w)) a xs := by
 obtain ⟨z, y, xs, r, o, es, ep, h1, h2, h3, h4, h5⟩ := (show ObjOk P w H h a (.dT kvs) from rd_of ok e)
 refine ⟨z, y, xs, r, o, es, ep, h1, h2, h3, h4, fun x hx => ?_, h5⟩
 have all : ∀ {l : List (List Key × V)} {m : List (List Key × Addr × Value)}, KT H l m → ∀ x ∈ m, (tupleKind (mixKind P w)).is h x.1 x.2.1 := by
  intro l m q
  induction q with
  | nil => intro x hx; exact nomatch hx
  | @cons p q ps qs hq t ih =>
   intro x hx
   rcases List.mem_cons.mp hx with e | hx
   ·subst e
    exact key_of ok (by rw [← hq.1]; exact hq.2.1)
   ·exact ih x hx
 exact all r x hx
theorem dt_of {kvs : List (List Key × V)} (ok : HOk P w H h) (e : H a = some (.dT kvs)) : kvs.length ≤ sizeLine ∧ (a == sysModules) = false ∧
  ∃ xs, KT H kvs xs ∧ h.DictOfH (tupleKind (mixKind P w)) a xs := dt_rd ok (.inl e)
end
noncomputable def DGet (H : Hp) (a : Addr) (y : V) (r : Option V) : Prop :=
 (∃ kvs k, Rd H a (.dK kvs) ∧ y = kV k ∧ r = valV kvs k) ∨ ∃ kvs k b, Rd H a (.dT kvs) ∧ y = .ref b ∧ H b = some (.tup (k.map kV)) ∧ r = valV kvs k
noncomputable def DPut (H : Hp) (a : Addr) (y v : V) (H' : Hp) : Prop :=
 (∃ kvs k, H a = some (.dK kvs) ∧ y = kV k ∧ kvs.length < sizeLine ∧ H' = upd H a (.dK (putK kvs k v))) ∨
 ∃ kvs k b, H a = some (.dT kvs) ∧ y = .ref b ∧ H b = some (.tup (k.map kV)) ∧ kvs.length < sizeLine ∧ H' = upd H a (.dT (putK kvs k v))
theorem DGet.t {H : Hp} {a b : Addr} {kvs : List (List Key × V)} {k : List Key} (e : H a = some (.dT kvs)) (eb : H b = some (.tup (k.map kV))) : DGet H a (.ref b) (valV kvs k) := .inr ⟨kvs, k, b, .inl e, rfl, eb, rfl⟩
theorem DPut.t {H : Hp} {a b : Addr} {kvs : List (List Key × V)} {k : List Key} {v : V} (e : H a = some (.dT kvs)) (eb : H b = some (.tup (k.map kV))) (hl : kvs.length < sizeLine) :
  DPut H a (.ref b) v (upd H a (.dT (putK kvs k v))) := .inr ⟨kvs, k, b, e, rfl, eb, hl, rfl⟩
section
variable {X : Cx} {pins : List (Addr × Obj)} {σ : St} {H : Hp} {s : Shared} {a : Addr} {y v : V} {u r : Value} {o : Option V} {A : Around} {E : Value → Shared → Prop}
theorem Inv.big (I : Inv X pins σ H s) : sysModules < s.heap.objs.size := by
 have h : mainGlobals < s.heap.objs.size := (I.mod.glob.keeps I.bk).lt
 exact Nat.lt_trans (by decide) h
theorem d_getItem {Q : Value → Shared → Prop} (hu : A.units + 1 < cLine) (I : Inv X pins σ H s) (g : DGet H a y (some v)) (ry : RelV y u) (h : ∀ w' s', Inv X pins σ H s' → RelV v w' → Q w' s') :
  wpAny (model X.prog X.w) A (getItem (.ref a) u) Q E s := by
 rcases g with ⟨kvs, k, e, ey, l⟩ | ⟨kvs, k, b, e, ey, eb, l⟩
 ·subst ey
  obtain ⟨z, hd, vs, rel, dd⟩ := dk_rd I.hok e
  obtain ⟨w', hw, rw'⟩ := RelO.some_of (v := v) (o := valueAt vs k) (by rw [l]; exact rel.val k)
  exact wpAny_getItem_of (kV_is ry) dd.mapOf hw (h w' _ (I.tok _) rw')
 ·subst ey
  cases (show u = Value.ref b from ry)
  obtain ⟨z, hd, xs, rel, dd⟩ := dt_rd I.hok e
  obtain ⟨w', hw, rw'⟩ := RelO.some_of (v := v) (o := (atKey xs k).map (·.2)) (by rw [l]; exact rel.val k)
  obtain ⟨p, hp, hp2⟩ := Option.map_eq_some_iff.mp hw
  refine wpAny_getItem_heap (tupleKind_room_in1 hu) (key_of I.hok eb) dd hp ?_
  rw [hp2]
  exact h w' _ (I.tok _) rw'
theorem d_in {Q : Value → Shared → Prop} (hu : A.units + 1 < cLine) (I : Inv X pins σ H s) (g : DGet H a y o) (ry : RelV y u) (h : ∀ s', Inv X pins σ H s' → Q (.bool o.isSome) s') :
  wpAny (model X.prog X.w) A (compareOp .In u (.ref a)) Q E s := by
 rcases g with ⟨kvs, k, e, ey, l⟩ | ⟨kvs, k, b, e, ey, eb, l⟩
 ·subst ey
  obtain ⟨z, hd, vs, rel, dd⟩ := dk_rd I.hok e
  refine wpAny_in_of (kV_is ry) hd dd.mapOf ?_
  rw [← (rel.val k).isSome_eq, ← l]
  exact h _ (I.tok _)
 ·subst ey
  cases (show u = Value.ref b from ry)
  obtain ⟨z, hd, xs, rel, dd⟩ := dt_rd I.hok e
  refine wpAny_in_heap (tupleKind_room_in1 hu) (key_of I.hok eb) hd dd ?_
  have q := (rel.val k).isSome_eq
  rw [Option.isSome_map] at q
  rw [← q, ← l]
  exact h _ (I.tok _)
theorem d_notIn {Q : Value → Shared → Prop} (hu : A.units + 1 < cLine) (I : Inv X pins σ H s) (g : DGet H a y o) (ry : RelV y u) (h : ∀ s', Inv X pins σ H s' → Q (.bool (!o.isSome)) s') :
  wpAny (model X.prog X.w) A (compareOp .NotIn u (.ref a)) Q E s := by
 rcases g with ⟨kvs, k, e, ey, l⟩ | ⟨kvs, k, b, e, ey, eb, l⟩
 ·subst ey
  obtain ⟨z, hd, vs, rel, dd⟩ := dk_rd I.hok e
  refine wpAny_notIn_of (kV_is ry) hd dd.mapOf ?_
  rw [← (rel.val k).isSome_eq, ← l]
  exact h _ (I.tok _)
 ·subst ey
  cases (show u = Value.ref b from ry)
  obtain ⟨z, hd, xs, rel, dd⟩ := dt_rd I.hok e
  refine wpAny_notIn_heap (tupleKind_room_in1 hu) (key_of I.hok eb) hd dd ?_
  have q := (rel.val k).isSome_eq
  rw [Option.isSome_map] at q
  rw [← q, ← l]
  exact h _ (I.tok _)
theorem d_write {h' : Heap} {t' : Nat} {ob : HO} (I : Inv X pins σ H s) (mu : Mut (H a)) (hs : Heap.SameBut a s.heap h') (he : ∃ q, h'.get? a = some q) (new : ObjOk X.prog X.w (upd H a ob) h' a ob) :
  Inv X pins σ (upd H a ob) { s with heap := h', toks := t' } :=
 I.write (x := a) (e := a) mu (.inl rfl) (fun b q hb z => (hs.2 b hb).trans z) he new
theorem dk_new {P : Program} {w : World} {H' : Hp} {h' : Heap} {kvs : List (Key × V)} {vs : List (Key × Value)} (z : kvs.length ≤ sizeLine) (hd : (a == sysModules) = false) (rel : KV kvs vs) (dd : h'.DictOf (mixKind P w) a vs) :
  ObjOk P w H' h' a (.dK kvs) := ⟨z, hd, vs, rel, dd⟩
theorem d_setItem {H' : Hp} {Q : Unit → Shared → Prop} (hu : A.units + 1 < cLine) (I : Inv X pins σ H s) (g : DPut H a y v H') (ry : RelV y u) (rv : RelV v r) (h : ∀ s', Inv X pins σ H' s' → Q () s') :
  wpAny (model X.prog X.w) A (setItem (.ref a) u r) Q E s := by
 rcases g with ⟨kvs, k, e, ey, l, eH⟩ | ⟨kvs, k, b, e, ey, eb, l, eH⟩
 ·subst ey eH
  obtain ⟨z, hd, vs, rel, dd⟩ := dk_of I.hok e
  have hz : vs.length ≤ sizeLine := by rw [← rel.length]; exact z
  have hl : (putK kvs k v).length ≤ sizeLine := by have := length_putK kvs k v; lia
  refine wpAny_setItem_pairs (hsz := hz) (kV_is ry) dd fun h' dd' hs => h _ ?_
  have he : ∃ q, h'.get? a = some q := let ⟨q, _, _, hq, _⟩ := dd'; ⟨q, hq⟩
  exact d_write I (by rw [e]; exact True.intro) hs he (dk_new hl hd (rel.put k rv) dd')
 ·subst ey eH
  cases (show u = Value.ref b from ry)
  obtain ⟨z, hd, xs, rel, dd⟩ := dt_of I.hok e
  have hz : xs.length ≤ sizeLine := by rw [← Paired.length rel]; exact z
  have hl : (putK kvs k v).length ≤ sizeLine := by have := length_putK kvs k v; lia
  refine wpAny_setItem_heap (hsz := hz) (tupleKind_room_in1 hu) (key_of I.hok eb) dd fun h' dd' hs => h _ ?_
  obtain ⟨q, es, ep, hq, h2, h3, h4, _, h5⟩ := dd'
  refine d_write I (by rw [e]; exact True.intro) hs ⟨q, hq⟩ ⟨hl, hd, _, (rel.put k eb rv).keeps fun c ys ec => ?_, q, es, ep, hq, h2, h3, h4, h5⟩
  rw [upd_ne (ne_of ec e (fun z => nomatch z))]
  exact ec
end
section
variable {X : Cx} {pins : List (Addr × Obj)} {σ : St} {H : Hp} {s : Shared} {a : Addr} {kvs : List (Key × V)} {k : Key} {u : Value} {A : Around} {E : Value → Shared → Prop}
end
noncomputable def NoSl (i : Expr) : Prop := ∀ ov iv, subscripted i false ov iv = operate [ov, iv] (getItem ov iv)
theorem subD_of {prog : Program} {w : World} {A : Around} {E : Value → Shared → Prop} {s : Shared} {env : Env} {value slice : Expr} {pos : Pos} {T id : String} {Q : Value → Shared → Prop}
  (hl : typeLookup (.type T) "__getitem__" = pure (some (.builtin id))) (hs : NoSl slice)
  (h : wpAny (model prog w) A (eval value env) (fun o s₁ => wpAny (model prog w) A (eval slice env) (fun i s₂ => s₂.TypeIs o T ∧ wpAny (model prog w) A (getItem o i) Q E s₂) E s₁) E s) :
  wpAny (model prog w) A (eval (.Subscript value slice pos) env) Q E s := by
 refine Subscript_ (wpAny_mono h (fun o s₁ h₁ => wpAny_mono h₁ (fun i s₂ h₂ => ?_) fun _ _ x => x) fun _ _ x => x)
 obtain ⟨hT, h₂⟩ := h₂
 unfold subscriptTail
 refine wpAny_bind ?_
 rw [getitemInPython_of_ne hT.not_modules]
 refine wpAny_bind (wpAny_specialOf hT hl ?_)
 have fin : wpAny (model prog w) A (subscripted slice false o i) (fun r s₃ => wpAny (model prog w) A (letTemporaryGo value o r >>= fun _ => pure r) Q E s₃) E s₂ := by
  rw [hs o i]
  exact wpAny_operating (wpAny_mono h₂ (fun r s₃ h₃ => wpAny_bind (wpAny_letTemporaryGo (wpAny_pure h₃))) fun _ _ x => x)
 first
  | exact wpAny_pure (wpAny_bind fin)
  | exact wpAny_bind (wpAny_pure (wpAny_bind fin))
  | exact wpAny_bind fin
theorem dict_typeIs {X : Cx} {pins : List (Addr × Obj)} {σ : St} {H : Hp} {s : Shared} {a : Addr} {y : V} {o : Option V} (I : Inv X pins σ H s) (g : DGet H a y o) : s.TypeIs (.ref a) "dict" := by
 rcases g with ⟨kvs, k, e, _, _⟩ | ⟨kvs, k, b, e, _, _, _⟩
 ·obtain ⟨_, _, vs, _, dd⟩ := dk_rd I.hok e
  exact dd.typeIs
 ·obtain ⟨_, _, xs, _, dd⟩ := dt_rd I.hok e
  exact dd.typeIs
inductive tDGetI (Q : VK) (x : V) (y : V) (H2 : Hp) : Prop
 | mk (a : _) (v : _) : (x = .ref a) → (DGet H2 a y (some v)) → (Q v H2) → tDGetI Q x y H2
noncomputable def tDGet (td ty : TE) : TE := fun σ H Q => td σ H fun x H1 => ty σ H1 fun y H2 => tDGetI Q x y H2
inductive sDPutI (D : Ends) (σ : St) (v : V) (x : V) (y : V) (H3 : Hp) : Prop
 | mk (a : _) (H4 : _) : (x = .ref a) → (DPut H3 a y v H4) → (D.nx σ H4) → sDPutI D σ v x y H3
noncomputable def sDPut (td ty tv : TE) : TS := fun D σ H => tv σ H fun v H1 => td σ H1 fun x H2 => ty σ H2 fun y H3 => sDPutI D σ v x y H3
section
variable {X : Cx} {o i e value : Expr} {pos pos' tpos : Pos} {td ty tv : TE}
theorem pe_dget (hu : X.A.units + 1 < cLine) (ho : PE X o td) (hi : PE X i ty) (hs : NoSl i) : PE X (.Subscript o i pos) (tDGet td ty) := by
 intro pins s σ H Q I h
 refine subD_of PySem.F.slot_dict_getitem.lookup hs (thn (ho pins s σ H _ I h) fun u s1 ⟨x, H1, I1, rx, q1⟩ => thn (hi pins s1 σ H1 _ I1 q1) fun iv s2 ⟨y, H2, I2, ry, a, v, ex, g, q2⟩ => ?_)
 subst ex
 obtain rfl : u = Value.ref a := rx
 exact ⟨dict_typeIs I2 g, d_getItem hu I2 g ry fun w' s3 I3 rw' => ⟨v, H2, I3, rw', q2⟩⟩
theorem ps_dput (hu : X.A.units + 1 < cLine) (ho : PE X o td) (hi : PE X i ty) (hv : PE X value tv) (hs : swapsWith value (some (.Subscript o i pos')) pos.line X.env = pure false) :
  PS X (.Assign [.Subscript o i pos'] value pos) (sDPut td ty tv) := by
 intro pins s σ H D I h
 refine wpAny_Assign_Subscript (thn (hv pins s σ H _ I h) fun r s1 ⟨v, H1, I1, rv, q1⟩ => thn (ho pins s1 σ H1 _ I1 q1) fun u s2 ⟨x, H2, I2, rx, q2⟩ => thn (hi pins s2 σ H2 _ I2 q2) fun iv s3 ⟨y, H3, I3, ry, a, H4, ex, g, q3⟩ => ?_) hs
 subst ex
 obtain rfl : u = Value.ref a := rx
 exact d_setItem hu I3 g ry rv fun s4 I4 => ⟨σ, H4, I4, q3⟩
end
theorem dt_empty {P : Program} {w : World} {H : Hp} (h : Heap) (hb : sysModules < h.objs.size) : ObjOk P w H (h.push { cls := .type "dict", data := .dict #[] }) h.objs.size (.dT []) :=
 ⟨Nat.zero_le _, beq_eq_false_iff_ne.mpr (Ne.symm (Nat.ne_of_lt hb)), [], .nil, _, #[], 0, Heap.get?_push_size _ rfl, ⟨rfl, rfl, rfl⟩, rfl, rfl, List.nodup_nil⟩
noncomputable def tDNewT : TE := fun _ H Q => ∀ p, H p = none → Q (.ref p) (upd H p (.dT []))
section
variable {X : Cx} {pos : Pos}
theorem pe_dnewT : PE X (.Dict [] [] pos) tDNewT := fun pins s σ H Q I h =>
 wpAny_Dict_empty ⟨.ref s.heap.objs.size, _, I.laid (a := s.heap.objs.size) (o := .dT []) (t' := s.toks) (fun _ _ q => Heap.get?_push_of_some _ q) (Nat.le_refl _) (dt_empty s.heap I.big), rfl, h _ (I.hok.fresh (Nat.le_refl _))⟩
end
structure M1 (X : Cx) (o : Expr) (m : Str) (apos : Pos) (e : Expr) (cpos : Pos) : Prop where
 base : attributeBase o m X.env (eval o X.env) = eval o X.env
 few : ((backTo cpos (starEach [e] X.env)).all (fun x => !x.1) && (backToKw cpos (keywordEach [] X.env)).all (fun x => x.1.isSome)
  && decide (([e] : List Expr).length + ([] : List Keyword).length + (if ([] : List Keyword).isEmpty then 0 else 1) < 30)) = true
 line : (apos.endLine == cpos.line) = true
 trees : backTo cpos (starEach [e] X.env) = [(false, eval e X.env)]
structure M2 (X : Cx) (o : Expr) (m : Str) (apos : Pos) (e f : Expr) (cpos : Pos) : Prop where
 base : attributeBase o m X.env (eval o X.env) = eval o X.env
 few : ((backTo cpos (starEach [e, f] X.env)).all (fun x => !x.1) && (backToKw cpos (keywordEach [] X.env)).all (fun x => x.1.isSome)
  && decide (([e, f] : List Expr).length + ([] : List Keyword).length + (if ([] : List Keyword).isEmpty then 0 else 1) < 30)) = true
 line : (apos.endLine == cpos.line) = true
 trees : backTo cpos (starEach [e, f] X.env) = [(false, eval e X.env), (false, eval f X.env)]
noncomputable def IsD (H : Hp) (a : Addr) : Prop := (∃ kvs, Rd H a (.dK kvs)) ∨ ∃ kvs, Rd H a (.dT kvs)
theorem isD_at {X : Cx} {pins : List (Addr × Obj)} {σ : St} {H : Hp} {s : Shared} {a : Addr} (I : Inv X pins σ H s) (d : IsD H a) :
  s.TypeIs (.ref a) "dict" ∧ (∀ b, Value.ref a = .ref b → ∃ ob, s.heap.get? b = some ob ∧ ob.dict = none) ∧ (a == sysModules) = false := by
 rcases d with ⟨kvs, e⟩ | ⟨kvs, e⟩
 ·obtain ⟨_, hd, vs, _, dd⟩ := dk_rd I.hok e
  refine ⟨dd.typeIs, fun b q => ?_, hd⟩
  cases q
  obtain ⟨ob, _, _, h1, h2, _⟩ := dd
  exact ⟨ob, h1, h2.2.1⟩
 ·obtain ⟨_, hd, xs, _, dd⟩ := dt_rd I.hok e
  refine ⟨dd.typeIs, fun b q => ?_, hd⟩
  cases q
  obtain ⟨ob, _, _, h1, h2, _⟩ := dd
  exact ⟨ob, h1, h2.2.1⟩
section
variable {X : Cx} {pins : List (Addr × Obj)} {σ : St} {H : Hp} {s : Shared} {a : Addr} {y d : V} {u r : Value} {o : Option V} {A : Around} {E : Value → Shared → Prop}
theorem d_get2 {Q : Value → Shared → Prop} (hu : A.units + 1 < cLine) (I : Inv X pins σ H s) (g : DGet H a y o) (ry : RelV y u) (rd : RelV d r) (h : ∀ w' s', Inv X pins σ H s' → RelV (o.getD d) w' → Q w' s') :
  wpAny (model X.prog X.w) A (call (.builtin "dict.get") [.ref a, u, r]) Q E s := by
 rcases g with ⟨kvs, k, e, ey, l⟩ | ⟨kvs, k, b, e, ey, eb, l⟩
 ·subst ey
  obtain ⟨z, hd, vs, rel, dd⟩ := dk_rd I.hok e
  refine call_meetsIn PySem.F.slot_dict_get dd.typeIs PySem.F.entry_dict_get (PySem.F.args_dict_get_3 _ _ _) (meets_dict_get_default (mixKind X.prog X.w) a (kV_is ry) hd r) ⟨_, dd.mapOf, h _ _ (I.tok _) ?_⟩
  rw [l]
  exact (rel.val k).getD rd
 ·subst ey
  cases (show u = Value.ref b from ry)
  obtain ⟨z, hd, xs, rel, dd⟩ := dt_rd I.hok e
  refine call_meetsIn PySem.F.slot_dict_get dd.typeIs PySem.F.entry_dict_get (PySem.F.args_dict_get_3 _ _ _) (meetsH_dict_get_default (tupleKind (mixKind X.prog X.w)) a b hd r) ⟨tupleKind_room_in1 hu, k, xs, key_of I.hok eb, dd, h _ _ (I.tok _) ?_⟩
  rw [l]
  exact (rel.val k).getD rd
end
inductive tDGet2I (ty : TE) (tx : TE) (σ : St) (Q : VK) (x : V) (H1 : Hp) : Prop
 | mk (a : _) : (x = .ref a) → (IsD H1 a) → (ty σ H1 fun y H2 => tx σ H2 fun z H3 => ∃ o, DGet H3 a y o ∧ Q (o.getD z) H3) → tDGet2I ty tx σ Q x H1
noncomputable def tDGet2 (td ty tx : TE) : TE := fun σ H Q => td σ H fun x H1 => tDGet2I ty tx σ Q x H1
section
variable {X : Cx} {o e f : Expr} {apos cpos : Pos} {td ty tx : TE}
theorem pe_dget2 (hu : X.A.units + 1 < cLine) (ho : PE X o td) (he : PE X e ty) (hf : PE X f tx) (m : M2 X o "get" apos e f cpos) : PE X (.Call (.Attribute o "get" apos) [e, f] [] cpos) (tDGet2 td ty tx) := by
 intro pins s σ H Q I h
 refine wpAny_Call_method m.base m.few m.line PySem.F.plainAttrs_dict PySem.F.slot_dict_get PySem.F.type_dict_get (thn (ho pins s σ H _ I h) fun u s1 ⟨x, H1, I1, rx, a, ex, d, q1⟩ => ?_)
 subst ex
 obtain rfl : u = Value.ref a := rx
 obtain ⟨t1, t2, _⟩ := isD_at I1 d
 refine ⟨t1, t2, ?_⟩
 rw [m.trees]
 refine Calls.callWith_builtin rfl (Calls.evalArgs_plain (Calls.spliced_cons (thn (he pins s1 σ H1 _ I1 q1) fun iv s2 ⟨y, H2, I2, ry, q2⟩ =>
  Calls.spliced_cons (thn (hf pins s2 σ H2 _ I2 q2) fun fv s3 ⟨z, H3, I3, rz, ov, g, q3⟩ => Calls.spliced_nil ?_))))
 exact d_get2 hu I3 g ry rz fun w' s4 I4 rw' => ⟨_, H3, I4, rw', q3⟩
end
section
variable {X : Cx} {pins : List (Addr × Obj)} {σ : St} {H : Hp} {s : Shared} {a : Addr} {kvs : List (Key × V)} {A : Around} {E : Value → Shared → Prop}
end
section
variable {X : Cx} {pins : List (Addr × Obj)} {σ : St} {H : Hp} {s : Shared} {a : Addr} {y : V} {u : Value} {A : Around} {E : Value → Shared → Prop}
end
end L2
namespace L2
open PySem PySem.Spec PyProof.Rows
section
variable {X : Cx}
end
section
variable {κ : Type} [DecidableEq κ]
end
end L2
namespace TS
open PySem PyProof.Rows
noncomputable abbrev SM := StateT SortSt Sem
noncomputable def gallop' : Bool → Keyed → Array Keyed → Nat → Nat → Nat → SM (Option Nat) := sortPriv% PySem.Builtin.gallop
noncomputable def byd (left : Bool) (key : Keyed) (arr : Array Keyed) (base i : Nat) : SM (Option Bool) := elem' arr (base + i) >>= fun x => if left = true then lt' x key else lt' key x >>= fun r => pure (r.map fun b => !b)
noncomputable def bin (p : Nat → SM (Option Bool)) (n lo hi : Nat) : SM (Option Nat) :=
 (forIn [:n] ((none, lo, hi) : Option (Option Nat) × Nat × Nat) fun _ c =>
  if c.2.1 ≥ c.2.2 then pure (.done (none, c.2.1, c.2.2)) else p (c.2.1 + (c.2.2 - c.2.1) / 2) >>= fun x => match x with
   | some z => if z = true then pure (.yield (none, c.2.1 + (c.2.2 - c.2.1) / 2 + 1, c.2.2)) else pure (.yield (none, c.2.1, c.2.1 + (c.2.2 - c.2.1) / 2))
   | _ => pure (.done (some none, c.2.1, c.2.2))) >>= fun c => match c.1 with
  | some r => pure r
  | none => pure (some c.2.2)
noncomputable def upw (p : Nat → SM (Option Bool)) (n hint m : Nat) : SM (Option (Option Nat) × Nat × Nat) :=
 forIn [:n] ((none, 0, 1) : Option (Option Nat) × Nat × Nat) fun _ c =>
  if c.2.2 ≥ m then pure (.done (none, c.2.1, c.2.2)) else p (hint + c.2.2) >>= fun x => match x with
   | some z => if (!z) = true then pure (.done (none, c.2.1, c.2.2)) else pure (.yield (none, c.2.2, 2 * c.2.2 + 1))
   | _ => pure (.done (some none, c.2.1, c.2.2))
noncomputable def dnw (p : Nat → SM (Option Bool)) (n hint m : Nat) : SM (Option (Option Nat) × Nat × Nat) :=
 forIn [:n] ((none, 0, 1) : Option (Option Nat) × Nat × Nat) fun _ c =>
  if c.2.2 ≥ m then pure (.done (none, c.2.1, c.2.2)) else p (hint - c.2.2) >>= fun x => match x with
   | some z => if z = true then pure (.done (none, c.2.1, c.2.2)) else pure (.yield (none, c.2.2, 2 * c.2.2 + 1))
   | _ => pure (.done (some none, c.2.1, c.2.2))
noncomputable def gal (p : Nat → SM (Option Bool)) (n hint : Nat) : SM (Option Nat) := p hint >>= fun x => match x with
  | some z => if z = true then upw p n hint (n - hint) >>= fun c => (match c.1 with
        | some r => pure r
        | none => bin p n (hint + c.2.1 + 1) (hint + min c.2.2 (n - hint)))
      else dnw p n hint (hint + 1) >>= fun c => (match c.1 with
        | some r => pure r
        | none => bin p n (hint + 1 - min c.2.2 (hint + 1)) (hint - c.2.1))
  | _ => pure none
theorem bnd {α β : Type} (m : SM α) {f g : α → SM β} (h : ∀ x, f x = g x) : (m >>= f) = (m >>= g) := by rw [funext h]
theorem lop {β : Type} (n : Nat) (c : β) {f g : Nat → β → SM (ForInStep β)} (h : ∀ i x, f i x = g i x) : (forIn [:n] c f) = (forIn [:n] c g) := by rw [funext fun i => funext (h i)]
theorem bnd2 {α β : Type} {m m' : SM α} {f g : α → SM β} (h0 : m = m') (h : ∀ x, f x = g x) : (m >>= f) = (m' >>= g) := by rw [h0, funext h]
theorem gallop'_eq (left : Bool) (key : Keyed) (arr : Array Keyed) (base n hint : Nat) : gallop' left key arr base n hint = gal (byd left key arr base) n hint := by
 unfold gallop' gal
 refine bnd _ fun x => ?_
 cases x with
 | none => rfl
 | some z =>
  cases z with
  | true =>
   refine bnd2 (lop _ _ fun i c => ?_) fun c => ?_
   ·obtain ⟨r, l, o⟩ := c
    refine ite_congr rfl (fun _ => rfl) (fun _ => bnd _ fun x => ?_)
    cases x <;> rfl
   ·obtain ⟨r, l, o⟩ := c
    cases r with
    | some r => rfl
    | none =>
     refine bnd2 (lop _ _ fun i c => ?_) fun c => ?_
     ·obtain ⟨r, l, o⟩ := c
      refine ite_congr rfl (fun _ => rfl) (fun _ => bnd _ fun x => ?_)
      cases x <;> rfl
     ·obtain ⟨r, l, o⟩ := c
      cases r <;> rfl
  | false =>
   refine bnd2 (lop _ _ fun i c => ?_) fun c => ?_
   ·obtain ⟨r, l, o⟩ := c
    refine ite_congr rfl (fun _ => rfl) (fun _ => bnd _ fun x => ?_)
    cases x <;> rfl
   ·obtain ⟨r, l, o⟩ := c
    cases r with
    | some r => rfl
    | none =>
     refine bnd2 (lop _ _ fun i c => ?_) fun c => ?_
     ·obtain ⟨r, l, o⟩ := c
      refine ite_congr rfl (fun _ => rfl) (fun _ => bnd _ fun x => ?_)
      cases x <;> rfl
     ·obtain ⟨r, l, o⟩ := c
      cases r <;> rfl
structure Ord (S : Keyed → Prop) (blt : Keyed → Keyed → Bool) : Prop where
 irr : ∀ x, S x → blt x x = false
 asy : ∀ x y, S x → S y → blt x y = true → blt y x = false
 tr : ∀ x y z, S x → S y → S z → blt y x = false → blt z y = false → blt z x = false
noncomputable def Cmp (prog : Program) (w : World) (A : Around) (E : Value → Shared → Prop) (s : Shared) (κ : SortKind) (S : Keyed → Prop) (blt : Keyed → Keyed → Bool) : Prop :=
 ∀ (x y : Keyed) (st : SortSt) (Q : Option Bool → SortSt → Prop), S x → S y → kindOf st = κ → Q (some (blt x y)) st → wpS (model prog w) A E s (lt' x y) Q st
section
variable {prog : Program} {w : World} {A : Around} {E : Value → Shared → Prop} {s : Shared} {κ : SortKind} {S : Keyed → Prop} {blt : Keyed → Keyed → Bool}
theorem w_elem {arr : Array Keyed} {i : Nat} {p : Keyed} {Q : Keyed → SortSt → Prop} {st : SortSt} (h : arr[i]? = some p) (hq : Q p st) : wpS (model prog w) A E s (elem' arr i) Q st := by
 rw [elem'_eq, h]
 exact wpS_pure hq
theorem w_byd (C : Cmp prog w A E s κ S blt) {left : Bool} {key x : Keyed} {arr : Array Keyed} {base i : Nat} {st : SortSt} {Q : Option Bool → SortSt → Prop} (hk : kindOf st = κ) (hx : arr[base + i]? = some x) (sx : S x) (sk : S key)
  (hq : Q (some (if left = true then blt x key else !blt key x)) st) : wpS (model prog w) A E s (byd left key arr base i) Q st := by
 refine wpS_bind (w_elem hx ?_)
 cases left with
 | true => exact C x key st _ sx sk hk hq
 | false => exact wpS_bind (C key x st _ sk sx hk (wpS_pure hq))
noncomputable def Tst (prog : Program) (w : World) (A : Around) (E : Value → Shared → Prop) (s : Shared) (p : Nat → SM (Option Bool)) (P : Nat → Bool) (n : Nat) (st : SortSt) : Prop :=
 ∀ (i : Nat) (Q : Option Bool → SortSt → Prop), i < n → Q (some (P i)) st → wpS (model prog w) A E s (p i) Q st
theorem w_bin {p : Nat → SM (Option Bool)} {P : Nat → Bool} {n lo hi : Nat} {st : SortSt} {Q : Option Nat → SortSt → Prop} (T : Tst prog w A E s p P n st) (mono : ∀ i j, i ≤ j → j < n → P j = true → P i = true) (hlh : lo ≤ hi) (hhn : hi ≤ n)
  (h1 : ∀ i, i < lo → P i = true) (h2 : ∀ i, hi ≤ i → i < n → P i = false) (hq : ∀ k, k ≤ n → (∀ i, i < k → P i = true) → (∀ i, k ≤ i → i < n → P i = false) → Q (some k) st) : wpS (model prog w) A E s (bin p n lo hi) Q st := by
 refine wpS_bind (wpS_forRange (fun i c st' => st' = st ∧ c.1 = none ∧ c.2.1 ≤ c.2.2 ∧ c.2.2 ≤ n ∧ c.2.2 - c.2.1 + i ≤ n ∧ (∀ i, i < c.2.1 → P i = true) ∧ ∀ i, c.2.2 ≤ i → i < n → P i = false) ?_ ?_ ⟨rfl, rfl, hlh, hhn, by simp only; lia, h1, h2⟩)
 ·rintro i ⟨r, l, h⟩ st' _ hi ⟨rfl, rfl, a1, a2, a3, a4, a5⟩
  simp only at a1 a2 a3 a4 a5 ⊢
  by_cases hc : l ≥ h
  ·rw [if_pos hc]
   refine wpS_pure ?_
   have e : l = h := by lia
   subst e
   exact wpS_pure (hq l a2 a4 a5)
  ·rw [if_neg hc]
   have hm : l + (h - l) / 2 < n := by lia
   refine wpS_bind (T _ _ hm ?_)
   cases z : P (l + (h - l) / 2) with
   | true =>
    refine wpS_pure ⟨rfl, rfl, ?_, a2, ?_, fun j hj => ?_, a5⟩
    ·simp only; lia
    ·simp only; lia
    ·simp only at hj
     exact mono j _ (by lia) hm z
   | false =>
    refine wpS_pure ⟨rfl, rfl, ?_, ?_, ?_, a4, fun j hj hjn => ?_⟩
    ·simp only; lia
    ·simp only; lia
    ·simp only; lia
    ·simp only at hj
     cases y : P j with
     | false => rfl
     | true =>
      have := mono _ j hj hjn y
      rw [z] at this
      cases this
 ·rintro ⟨r, l, h⟩ st' ⟨rfl, rfl, a1, a2, a3, a4, a5⟩
  simp only at a1 a2 a3 a4 a5 ⊢
  have e : l = h := by lia
  subst e
  exact wpS_pure (hq l a2 a4 a5)
theorem w_gal {p : Nat → SM (Option Bool)} {P : Nat → Bool} {n hint : Nat} {st : SortSt} {Q : Option Nat → SortSt → Prop} (T : Tst prog w A E s p P n st) (mono : ∀ i j, i ≤ j → j < n → P j = true → P i = true) (hh : hint < n)
  (hq : ∀ k, k ≤ n → (∀ i, i < k → P i = true) → (∀ i, k ≤ i → i < n → P i = false) → Q (some k) st) : wpS (model prog w) A E s (gal p n hint) Q st := by
 have dn : ∀ i j, i ≤ j → j < n → P i = false → P j = false := fun i j hij hj z => by
  cases y : P j with
  | false => rfl
  | true =>
   have := mono i j hij hj y
   rw [z] at this
   cases this
 refine wpS_bind (T _ _ hh ?_)
 cases z : P hint with
 | true =>
  refine wpS_bind (wpS_forRange (fun i c st' => st' = st ∧ c.1 = none ∧ i < c.2.2 ∧ c.2.1 < c.2.2 ∧ hint + c.2.1 < n ∧ P (hint + c.2.1) = true) ?_ ?_ ⟨rfl, rfl, by simp, by simp, by simpa using hh, by simpa using z⟩)
  ·rintro i ⟨r, l, o⟩ st' _ hi ⟨rfl, rfl, a1, a2, a3, a4⟩
   simp only at a1 a2 a3 a4 ⊢
   by_cases hc : o ≥ n - hint
   ·rw [if_pos hc]
    refine wpS_pure ?_
    refine w_bin T mono (by simp only; lia) (by simp only; lia) (fun j hj => mono j _ (by simp only at hj; lia) a3 a4) (fun j hj hjn => ?_) hq
    simp only at hj
    lia
   ·rw [if_neg hc]
    refine wpS_bind (T _ _ (by lia) ?_)
    cases y : P (hint + o) with
    | true => exact wpS_pure ⟨rfl, rfl, by simp only; lia, by simp only; lia, by simp only; lia, y⟩
    | false =>
     refine wpS_pure ?_
     refine w_bin T mono (by simp only; lia) (by simp only; lia) (fun j hj => mono j _ (by simp only at hj; lia) a3 a4) (fun j hj hjn => dn _ j ?_ hjn y) hq
     simp only at hj
     lia
  ·rintro ⟨r, l, o⟩ st' ⟨rfl, rfl, a1, a2, a3, a4⟩
   simp only at a1 a2 a3 a4 ⊢
   refine w_bin T mono (by lia) (by lia) (fun j hj => mono j _ (by lia) a3 a4) (fun j hj hjn => ?_) hq
   lia
 | false =>
  refine wpS_bind (wpS_forRange (fun i c st' => st' = st ∧ c.1 = none ∧ i < c.2.2 ∧ c.2.1 < c.2.2 ∧ c.2.1 ≤ hint ∧ P (hint - c.2.1) = false) ?_ ?_ ⟨rfl, rfl, by simp, by simp, by simp, by simpa using z⟩)
  ·rintro i ⟨r, l, o⟩ st' _ hi ⟨rfl, rfl, a1, a2, a3, a4⟩
   simp only at a1 a2 a3 a4 ⊢
   by_cases hc : o ≥ hint + 1
   ·rw [if_pos hc]
    refine wpS_pure ?_
    refine w_bin T mono (by simp only; lia) (by simp only; lia) (fun j hj => ?_) (fun j hj hjn => dn _ j (by simp only at hj; lia) hjn a4) hq
    simp only at hj
    lia
   ·rw [if_neg hc]
    refine wpS_bind (T _ _ (by lia) ?_)
    cases y : P (hint - o) with
    | false => exact wpS_pure ⟨rfl, rfl, by simp only; lia, by simp only; lia, by simp only; lia, y⟩
    | true =>
     refine wpS_pure ?_
     refine w_bin T mono (by simp only; lia) (by simp only; lia) (fun j hj => mono j _ ?_ (by lia) y) (fun j hj hjn => dn _ j (by simp only at hj; lia) hjn a4) hq
     simp only at hj
     lia
  ·rintro ⟨r, l, o⟩ st' ⟨rfl, rfl, a1, a2, a3, a4⟩
   simp only at a1 a2 a3 a4 ⊢
   refine w_bin T mono (by lia) (by lia) (fun j hj => ?_) (fun j hj hjn => dn _ j (by lia) hjn a4) hq
   lia
theorem w_gallop (O : Ord S blt) (C : Cmp prog w A E s κ S blt) {left : Bool} {key : Keyed} {arr : Array Keyed} {base n hint : Nat} {X : Nat → Keyed} {st : SortSt} {Q : Option Nat → SortSt → Prop} (hk : kindOf st = κ)
  (hX : ∀ i, i < n → arr[base + i]? = some (X i)) (hS : ∀ i, i < n → S (X i)) (sk : S key) (srt : ∀ i j, i ≤ j → j < n → blt (X j) (X i) = false) (hh : hint < n)
  (hq : ∀ k, k ≤ n → (∀ i, i < k → (if left = true then blt (X i) key else !blt key (X i)) = true) → (∀ i, k ≤ i → i < n → (if left = true then blt (X i) key else !blt key (X i)) = false) → Q (some k) st) :
  wpS (model prog w) A E s (gallop' left key arr base n hint) Q st := by
 rw [gallop'_eq]
 refine w_gal (P := fun i => if left = true then blt (X i) key else !blt key (X i)) (fun i Q' hi hQ' => w_byd C hk (hX i hi) (hS i hi) sk hQ') (fun i j hij hj z => ?_) hh hq
 have l1 := srt i j hij hj
 cases left with
 | true =>
  simp only [if_true] at z ⊢
  cases y : blt (X i) key with
  | true => rfl
  | false =>
   have := O.tr key (X i) (X j) sk (hS i (by lia)) (hS j hj) y l1
   rw [z] at this
   cases this
 | false =>
  simp only [Bool.false_eq_true, if_false, Bool.not_eq_true'] at z ⊢
  exact O.tr (X i) (X j) key (hS i (by lia)) (hS j hj) sk l1 z
end
end TS
namespace TS
open PySem PyProof.Rows
noncomputable abbrev Srt (blt : Keyed → Keyed → Bool) (l : List Keyed) : Prop := l.Pairwise fun x y => blt y x = false
structure Lo (blt : Keyed → Keyed → Bool) (T o ra rb : List Keyed) : Prop where
 perm : (o ++ (ra ++ rb)).Perm T
 so : Srt blt o
 sa : Srt blt ra
 sb : Srt blt rb
 low : ∀ x ∈ o, ∀ y ∈ ra ++ rb, blt y x = false
structure Good (blt : Keyed → Keyed → Bool) (T : List Keyed) (r : Array Keyed) : Prop where
 perm : r.toList.Perm T
 srt : Srt blt r.toList
theorem Lo.takeA {blt : Keyed → Keyed → Bool} {T o p ra rb : List Keyed} (h : Lo blt T o (p ++ ra) rb) (hx : ∀ x ∈ p, ∀ y ∈ rb, blt y x = false) : Lo blt T (o ++ p) ra rb := by
 obtain ⟨h1, h2, h3, h4, h5⟩ := h
 have h3' := List.pairwise_append.mp h3
 refine ⟨?_, ?_, h3'.2.1, h4, fun x hx' y hy => ?_⟩
 ·have e : o ++ p ++ (ra ++ rb) = o ++ (p ++ ra ++ rb) := by simp
  rw [e]
  exact h1
 ·exact List.pairwise_append.mpr ⟨h2, h3'.1, fun x hx' y hy => h5 x hx' y (by simp [hy])⟩
 ·rcases List.mem_append.mp hx' with z | z
  ·exact h5 x z y (by rcases List.mem_append.mp hy with q | q <;> simp [q])
  ·rcases List.mem_append.mp hy with q | q
   ·exact h3'.2.2 x z y q
   ·exact hx x z y q
theorem Lo.takeB {blt : Keyed → Keyed → Bool} {T o p ra rb : List Keyed} (h : Lo blt T o ra (p ++ rb)) (hx : ∀ x ∈ p, ∀ y ∈ ra, blt y x = false) : Lo blt T (o ++ p) ra rb := by
 obtain ⟨h1, h2, h3, h4, h5⟩ := h
 have h4' := List.pairwise_append.mp h4
 refine ⟨?_, ?_, h3, h4'.2.1, fun x hx' y hy => ?_⟩
 ·refine List.Perm.trans ?_ h1
  rw [List.append_assoc]
  refine List.Perm.append_left o ?_
  rw [← List.append_assoc, ← List.append_assoc]
  exact List.Perm.append_right rb List.perm_append_comm
 ·exact List.pairwise_append.mpr ⟨h2, h4'.1, fun x hx' y hy => h5 x hx' y (by simp [hy])⟩
 ·rcases List.mem_append.mp hx' with z | z
  ·exact h5 x z y (by rcases List.mem_append.mp hy with q | q <;> simp [q])
  ·rcases List.mem_append.mp hy with q | q
   ·exact hx x z y q
   ·exact h4'.2.2 x z y q
theorem Lo.end {blt : Keyed → Keyed → Bool} {T o : List Keyed} (h : Lo blt T o [] []) : o.Perm T ∧ Srt blt o := ⟨by simpa using h.perm, h.so⟩
theorem Lo.endA {blt : Keyed → Keyed → Bool} {T o ra : List Keyed} (h : Lo blt T o ra []) : (o ++ ra).Perm T ∧ Srt blt (o ++ ra) := by
 have h' : Lo blt T o (ra ++ []) [] := by rw [List.append_nil]; exact h
 exact (h'.takeA fun _ _ _ z => by cases z).end
theorem Lo.endB {blt : Keyed → Keyed → Bool} {T o rb : List Keyed} (h : Lo blt T o [] rb) : (o ++ rb).Perm T ∧ Srt blt (o ++ rb) := by
 have h' : Lo blt T o [] (rb ++ []) := by rw [List.append_nil]; exact h
 exact (h'.takeB fun _ _ _ z => by cases z).end
theorem drop_cons {l : List Keyed} {i : Nat} {x : Keyed} (h : l[i]? = some x) : l.drop i = x :: l.drop (i + 1) := by
 obtain ⟨hi, e⟩ := List.getElem?_eq_some_iff.mp h
 rw [List.drop_eq_getElem_cons hi, e]
theorem drop_split (l : List Keyed) (i k : Nat) : l.drop i = (l.drop i).take k ++ l.drop (i + k) := by
 rw [← List.drop_drop, List.take_append_drop]
theorem toList_get {a : Array Keyed} {i : Nat} {x : Keyed} (h : a[i]? = some x) : a.toList[i]? = some x := by simpa using h
theorem arr_get {a : Array Keyed} {i : Nat} (h : i < a.size) : a[i]? = some a[i] := by simp [h]
theorem ext_toList (a : Array Keyed) (i j : Nat) : (a.extract i j).toList = (a.toList.drop i).take (j - i) := by simp
theorem ext_end (a : Array Keyed) (i : Nat) : (a.extract i a.size).toList = a.toList.drop i := by
 rw [ext_toList]
 exact List.take_of_length_le (by simp)
theorem srt_at {blt : Keyed → Keyed → Bool} {S : Keyed → Prop} (O : Ord S blt) {l : List Keyed} (hs : Srt blt l) (hS : ∀ x ∈ l, S x) {i j : Nat} {x y : Keyed} (hx : l[i]? = some x) (hy : l[j]? = some y) (hij : i ≤ j) : blt y x = false := by
 obtain ⟨hi, rfl⟩ := List.getElem?_eq_some_iff.mp hx
 obtain ⟨hj, rfl⟩ := List.getElem?_eq_some_iff.mp hy
 by_cases e : i = j
 ·subst e
  exact O.irr _ (hS _ (List.getElem_mem hi))
 ·exact List.pairwise_iff_getElem.mp hs i j hi hj (by lia)
theorem srt_rest {blt : Keyed → Keyed → Bool} {S : Keyed → Prop} (O : Ord S blt) {l : List Keyed} (hs : Srt blt l) (hS : ∀ x ∈ l, S x) {i : Nat} {x y : Keyed} (hx : l[i]? = some x) (hy : y ∈ l.drop i) : blt y x = false := by
 obtain ⟨k, hk, rfl⟩ := List.mem_iff_getElem.mp hy
 have hk' : k < l.length - i := by simpa using hk
 have e : l[i + k]? = some (l.drop i)[k] := by
  rw [List.getElem_drop]
  exact List.getElem?_eq_getElem (by lia)
 exact srt_at O hs hS hx e (by lia)
noncomputable abbrev setG (st : SortSt) (g : Nat) : SortSt := SortSt.mk' (kindOf st) (arrOf st) (pendingOf st) g (failedOf st)
theorem setG_self (st : SortSt) : setG st (gallopOf st) = st := rfl
noncomputable def mergeLo' : Array Keyed → Array Keyed → SM (Array Keyed) := sortPriv% PySem.Builtin.mergeLo
section
variable {prog : Program} {w : World} {A : Around} {E : Value → Shared → Prop} {s : Shared} {κ : SortKind} {S : Keyed → Prop} {blt : Keyed → Keyed → Bool}
theorem w_rule {x : String} {Q : Unit → SortSt → Prop} {st : SortSt} (h : Q () st) : wpS (model prog w) A E s (liftM (rule x) : SM Unit) Q st := wpS_lift (wpAny_rule ⟨rfl, h⟩)
theorem el1 {st st' : SortSt} {c1 : Prop} {R : Nat → Prop} {G : SortSt → Prop} (h : ∃ g, st' = setG st g ∧ c1 ∧ ∃ rem, R rem) (k : ∀ g rem, R rem → G (setG st g)) : G st' := let ⟨g, e, _, rem, r⟩ := h; e ▸ k g rem r
theorem el0 {st st' : SortSt} {c1 P : Prop} {G : SortSt → Prop} (h : ∃ g, st' = setG st g ∧ c1 ∧ P) (k : ∀ g, P → G (setG st g)) : G st' := let ⟨g, e, _, r⟩ := h; e ▸ k g r
theorem elS {st st' : SortSt} {P : Prop} {G : SortSt → Prop} (h : st' = st ∧ P) (k : P → G st) : G st' := let ⟨e, r⟩ := h; e ▸ k r
theorem w_spec2 {α β γ : Type} {m : SM γ} {R : γ → SortSt → Prop} {st : SortSt} (jp : α → β → SM γ) (P : α → β → SortSt → Prop) (h1 : ∀ x y st, P x y st → wpS (model prog w) A E s (jp x y) R st)
  (h2 : (∀ x y st, P x y st → wpS (model prog w) A E s (jp x y) R st) → wpS (model prog w) A E s m R st) : wpS (model prog w) A E s m R st := h2 h1
theorem w_spec3 {α β δ γ : Type} {m : SM γ} {R : γ → SortSt → Prop} {st : SortSt} (jp : α → β → δ → SM γ) (P : α → β → δ → SortSt → Prop) (h1 : ∀ x y z st, P x y z st → wpS (model prog w) A E s (jp x y z) R st)
  (h2 : (∀ x y z st, P x y z st → wpS (model prog w) A E s (jp x y z) R st) → wpS (model prog w) A E s m R st) : wpS (model prog w) A E s m R st := h2 h1
theorem w_ite {α : Type} {c : Prop} [Decidable c] {m n : SM α} {Q : α → SortSt → Prop} {st : SortSt} (h1 : c → wpS (model prog w) A E s m Q st) (h2 : ¬ c → wpS (model prog w) A E s n Q st) : wpS (model prog w) A E s (if c then m else n) Q st := by
 by_cases h : c
 ·rw [if_pos h]
  exact h1 h
 ·rw [if_neg h]
  exact h2 h
structure At (blt : Keyed → Keyed → Bool) (a b : Array Keyed) (rem : Nat) (out : Array Keyed) (ia ib : Nat) : Prop where
 lo : Lo blt (a.toList ++ b.toList) out.toList (a.toList.drop ia) (b.toList.drop ib)
 ha : ia + 1 < a.size
 hb : ib < b.size
 hr : (a.size - ia) + (b.size - ib) ≤ rem
theorem w_mergeLo (O : Ord S blt) (C : Cmp prog w A E s κ S blt) {a b : Array Keyed} {st : SortSt} {Q : Array Keyed → SortSt → Prop} (hk : kindOf st = κ) (Sa : ∀ x ∈ a.toList, S x) (Sb : ∀ x ∈ b.toList, S x) (sa : Srt blt a.toList) (sb : Srt blt b.toList)
  {a0 b0 al : Keyed} (ea : a[0]? = some a0) (eb : b[0]? = some b0) (el : a[a.size - 1]? = some al) (h0 : blt b0 a0 = true) (hl : ∀ y ∈ b.toList, blt al y = false)
  (hQ : ∀ m g, Good blt (a.toList ++ b.toList) m → Q m (setG st g)) : wpS (model prog w) A E s (mergeLo' a b) Q st := by
 have na : 0 < a.size := by
  rcases Nat.eq_zero_or_pos a.size with z | z
  ·rw [Array.getElem?_eq_none (by lia)] at ea
   cases ea
  ·exact z
 have nb : 0 < b.size := by
  rcases Nat.eq_zero_or_pos b.size with z | z
  ·rw [Array.getElem?_eq_none (by lia)] at eb
   cases eb
  ·exact z
 have sa0 := Sa a0 (List.mem_of_getElem? (toList_get ea))
 have sb0 := Sb b0 (List.mem_of_getElem? (toList_get eb))
 have SA : ∀ {i x}, a[i]? = some x → S x := fun h => Sa _ (List.mem_of_getElem? (toList_get h))
 have SB : ∀ {i x}, b[i]? = some x → S x := fun h => Sb _ (List.mem_of_getElem? (toList_get h))
 have dropA : ∀ {i y}, y ∈ a.toList.drop i → S y := fun h => Sa _ (List.mem_of_mem_drop h)
 have dropB : ∀ {i y}, y ∈ b.toList.drop i → S y := fun h => Sb _ (List.mem_of_mem_drop h)
 have fin : ∀ (out : Array Keyed) (ia ib : Nat), Lo blt (a.toList ++ b.toList) out.toList (a.toList.drop ia) (b.toList.drop ib) → (ib = b.size ∨ ia = a.size) → Good blt (a.toList ++ b.toList) (out ++ a.extract ia a.size ++ b.extract ib b.size) := by
  intro out ia ib h hz
  have e : (out ++ a.extract ia a.size ++ b.extract ib b.size).toList = out.toList ++ a.toList.drop ia ++ b.toList.drop ib := by
   rw [Array.toList_append, Array.toList_append, ext_end, ext_end]
  rcases hz with z | z
  ·have zb : b.toList.drop ib = [] := List.drop_of_length_le (by simp [z])
   rw [zb] at h
   have := h.endA
   exact ⟨by rw [e, zb, List.append_nil]; exact this.1, by rw [e, zb, List.append_nil]; exact this.2⟩
  ·have za : a.toList.drop ia = [] := List.drop_of_length_le (by simp [z])
   rw [za] at h
   have := h.endB
   exact ⟨by rw [e, za, List.append_nil]; exact this.1, by rw [e, za, List.append_nil]; exact this.2⟩
 have last : ∀ (out : Array Keyed) (ia ib : Nat), Lo blt (a.toList ++ b.toList) out.toList (a.toList.drop ia) (b.toList.drop ib) → ia + 1 = a.size → Good blt (a.toList ++ b.toList) (out ++ b.extract ib b.size ++ a.extract ia a.size) := by
  intro out ia ib h hz
  have e : (out ++ b.extract ib b.size ++ a.extract ia a.size).toList = out.toList ++ b.toList.drop ib ++ a.toList.drop ia := by
   rw [Array.toList_append, Array.toList_append, ext_end, ext_end]
  have ed : a.toList.drop ia = [al] := by
   have e1 : a.toList[ia]? = some al := toList_get (by rw [show ia = a.size - 1 by lia]; exact el)
   rw [drop_cons e1, List.drop_of_length_le (by simp; lia)]
  have h' : Lo blt (a.toList ++ b.toList) out.toList (a.toList.drop ia) (b.toList.drop ib ++ []) := by rw [List.append_nil]; exact h
  have h2 := (h'.takeB fun x hx y hy => by
   rw [ed] at hy
   rw [List.mem_singleton.mp hy]
   exact hl x (List.mem_of_mem_drop hx)).endA
  exact ⟨by rw [e]; exact h2.1, by rw [e]; exact h2.2⟩
 have stepB : ∀ {out ia ib x y}, Lo blt (a.toList ++ b.toList) (out : Array Keyed).toList (a.toList.drop ia) (b.toList.drop ib) → b[ib]? = some x → a[ia]? = some y → blt y x = false → Lo blt (a.toList ++ b.toList) (out.push x).toList (a.toList.drop ia) (b.toList.drop (ib + 1)) := by
  intro out ia ib x y h hx hy hlt
  rw [drop_cons (toList_get hx)] at h
  rw [Array.toList_push]
  refine h.takeB (p := [x]) fun z hz y' hy' => ?_
  rw [List.mem_singleton.mp hz]
  exact O.tr x y y' (SB hx) (SA hy) (dropA hy') hlt (srt_rest O sa Sa (toList_get hy) hy')
 have stepA : ∀ {out ia ib x y}, Lo blt (a.toList ++ b.toList) (out : Array Keyed).toList (a.toList.drop ia) (b.toList.drop ib) → a[ia]? = some x → b[ib]? = some y → blt y x = false → Lo blt (a.toList ++ b.toList) (out.push x).toList (a.toList.drop (ia + 1)) (b.toList.drop ib) := by
  intro out ia ib x y h hx hy hlt
  rw [drop_cons (toList_get hx)] at h
  rw [Array.toList_push]
  refine h.takeA (p := [x]) fun z hz y' hy' => ?_
  rw [List.mem_singleton.mp hz]
  exact O.tr x y y' (SA hx) (SB hy) (dropB hy') hlt (srt_rest O sb Sb (toList_get hy) hy')
 have start : Lo blt (a.toList ++ b.toList) (#[b0] : Array Keyed).toList (a.toList.drop 0) (b.toList.drop 1) := by
  have h : Lo blt (a.toList ++ b.toList) (#[] : Array Keyed).toList (a.toList.drop 0) (b.toList.drop 0) := ⟨by simp, by simp, by simpa using sa, by simpa using sb, by simp⟩
  exact stepB h eb ea (O.asy b0 a0 sb0 sa0 h0)
 refine wpS_bind (w_rule ?_)
 refine wpS_bind (w_elem eb ?_)
 extract_lets -merge -underBinder o1
 refine w_ite (fun c1 => ?_) (fun c1 => ?_)
 ·exact wpS_pure (setG_self st ▸ hQ _ (gallopOf st) (fin _ 0 1 start (.inl (beq_iff_eq.mp c1))))
 refine w_ite (fun c2 => ?_) (fun c2 => ?_)
 ·exact wpS_pure (setG_self st ▸ hQ _ (gallopOf st) (last _ 0 1 start (beq_iff_eq.mp c2)))
 have n1 : 1 < b.size := by
  have : ¬ 1 = b.size := fun z => c1 (beq_iff_eq.mpr z)
  lia
 have n2 : 0 + 1 < a.size := by
  have : ¬ 0 + 1 = a.size := fun z => c2 (beq_iff_eq.mpr z)
  lia
 refine wpS_bind (wpS_get ?_)
 refine wpS_bind (wpS_forRange (fun i c st' => ∃ g, st' = setG st g ∧ c.1 = none ∧ ∃ rem, rem + i < a.size + b.size ∧ At blt a b rem c.2.1 c.2.2.1 c.2.2.2.1) ?_ ?_ ⟨gallopOf st, rfl, rfl, a.size + b.size - 1, by lia, start, n2, n1, by simp only; lia⟩)
 rotate_left
 ·rintro ⟨r, out, ia, ib, mg⟩ st' ⟨g, rfl, rfl, rem, h1, h2⟩
  have h3 := h2.hr
  have h4 := h2.ha
  simp only at h3 h4
  exact absurd h1 (by lia)
 clear_value o1
 intro i c st' _ hi hI
 refine el1 hI fun g rem h => ?_
 clear hI
 extract_lets -merge -underBinder s0 o s1 ja s2 jb mg ac bc
 have h1 := h.1
 have h2 : At blt a b rem o ja jb := h.2
 clear h
 clear_value o ja jb mg ac bc
 clear s2 s1 s0
 refine wpS_bind (wpS_mono (Q := fun (c : Option (Array Keyed) × Array Keyed × Nat × Nat × Nat × Nat) st' => st' = setG st g ∧ ((∃ r, c.1 = some r ∧ Good blt (a.toList ++ b.toList) r) ∨ (c.1 = none ∧ At blt a b rem c.2.1 c.2.2.1 c.2.2.2.1)))
  (wpS_forRange (fun _ (c : Option (Array Keyed) × Array Keyed × Nat × Nat × Nat × Nat) st' => st' = setG st g ∧ c.1 = none ∧ At blt a b rem c.2.1 c.2.2.1 c.2.2.2.1) ?_ (fun c st' h => ⟨h.1, .inr ⟨h.2.1, h.2.2⟩⟩) ⟨rfl, rfl, h2⟩) ?_)
 ·clear h2
  intro j c st' _ hj hI
  refine elS hI fun h => ?_
  clear hI
  extract_lets -merge -underBinder s0 o s1 ja s2 jb s3 ca cb
  have h2 : At blt a b rem o ja jb := h.2
  clear h
  clear_value o ja jb ca cb
  clear s3 s2 s1 s0
  obtain ⟨lo, ha, hb, hr⟩ := h2
  obtain ⟨bk, ex⟩ : ∃ x, b[jb]? = some x := ⟨_, arr_get hb⟩
  obtain ⟨ak, ey⟩ : ∃ x, a[ja]? = some x := ⟨_, arr_get (show ja < a.size by lia)⟩
  refine wpS_bind (w_elem ex (wpS_bind (w_elem ey (wpS_bind (C _ _ _ _ (SB ex) (SA ey) hk ?_)))))
  cases z : blt bk ak with
  | true =>
   dsimp only
   refine w_ite (fun _ => wpS_bind (w_elem ex ?_)) fun z => absurd rfl z
   have lo' := stepB lo ex ey (O.asy _ _ (SB ex) (SA ey) z)
   refine w_ite (fun d1 => ?_) (fun d1 => ?_)
   ·exact wpS_pure ⟨rfl, .inl ⟨_, rfl, fin _ _ _ lo' (.inl (beq_iff_eq.mp d1))⟩⟩
   have d1' : ¬ jb + 1 = b.size := fun z => d1 (beq_iff_eq.mpr z)
   have at' : At blt a b rem (o.push bk) ja (jb + 1) := ⟨lo', ha, by lia, by lia⟩
   exact w_ite (fun _ => wpS_pure ⟨rfl, .inr ⟨rfl, at'⟩⟩) fun _ => wpS_pure ⟨rfl, rfl, at'⟩
  | false =>
   dsimp only
   refine w_ite (fun z => absurd z Bool.false_ne_true) fun _ => wpS_bind (w_elem ey ?_)
   have lo' := stepA lo ey ex z
   refine w_ite (fun d1 => ?_) (fun d1 => ?_)
   ·exact wpS_pure ⟨rfl, .inl ⟨_, rfl, last _ _ _ lo' (beq_iff_eq.mp d1)⟩⟩
   have d1' : ¬ ja + 1 + 1 = a.size := fun z => d1 (beq_iff_eq.mpr z)
   have at' : At blt a b rem (o.push ak) (ja + 1) jb := ⟨lo', by lia, hb, by lia⟩
   exact w_ite (fun _ => wpS_pure ⟨rfl, .inr ⟨rfl, at'⟩⟩) fun _ => wpS_pure ⟨rfl, rfl, at'⟩
 clear h2
 intro c st' hI
 refine elS hI fun h => ?_
 clear hI
 dsimp (zeta := false) only
 extract_lets -merge -underBinder r' s1 o s2 ja s3 jb s4 ca cb
 have h' : (∃ r, r' = some r ∧ Good blt (a.toList ++ b.toList) r) ∨ (r' = none ∧ At blt a b rem o ja jb) := h
 clear h
 clear_value r' o ja jb ca cb
 clear s4 s3 s2 s1
 cases r' with
 | some r =>
  refine wpS_pure (wpS_pure (hQ _ g ?_))
  rcases h' with ⟨r1, e, gd⟩ | ⟨e, _⟩
  ·rw [Option.some.inj e]; exact gd
  ·cases e
 | none =>
 have h : At blt a b rem o ja jb := by
  rcases h' with ⟨r1, e, _⟩ | h
  ·cases e
  ·exact h.2
 clear h'
 refine wpS_bind (w_rule ?_)
 extract_lets -merge -underBinder mg2
 clear_value mg2
 refine wpS_bind (wpS_mono (Q := fun (c : Option (Array Keyed) × Array Keyed × Nat × Nat × Nat × Nat × Nat) st' => ∃ g', st' = setG st g' ∧ ((∃ r, c.1 = some r ∧ Good blt (a.toList ++ b.toList) r) ∨ (c.1 = none ∧ At blt a b (rem - 1) c.2.1 c.2.2.1 c.2.2.2.1)))
  (wpS_forRange (fun j (c : Option (Array Keyed) × Array Keyed × Nat × Nat × Nat × Nat × Nat) st' => ∃ g', st' = setG st g' ∧ c.1 = none ∧ At blt a b (if j = 0 then rem else rem - 1) c.2.1 c.2.2.1 c.2.2.2.1) ?_ (fun c st' ⟨g', h1, h2, h3⟩ => ⟨g', h1, .inr ⟨h2, by rw [if_neg (by lia)] at h3; exact h3⟩⟩) ⟨g, rfl, rfl, by simpa using h⟩) ?_)
 ·clear h
  intro j c st' _ hj hI
  refine el0 hI fun g' h => ?_
  clear hI
  extract_lets -merge -underBinder s0 o s1 ja s2 jb s3 mg1 s4 ac1 bc1 jp1 mgx
  have h2 : At blt a b (if j = 0 then rem else rem - 1) o ja jb := h
  clear h
  clear_value o ja jb mg1 ac1 bc1 mgx
  clear s4 s3 s2 s1 s0
  have lo := h2.lo
  have ha := h2.ha
  have hb := h2.hb
  have hr' : (a.size - ja) + (b.size - jb) ≤ rem := by
   have hr := h2.hr
   split at hr <;> lia
  clear h2
  have ex := arr_get hb
  generalize b[jb] = bk at ex
  have ja0 : ja < a.size := by lia
  refine w_spec2 jp1 (fun _ _ st' => ∃ g, st' = setG st g) ?_ fun J => ?_
  rotate_left
  ·clear_value jp1
   exact w_ite (fun _ => J _ _ _ ⟨_, rfl⟩) fun _ => J _ _ _ ⟨_, rfl⟩
  rintro _ mg3 st' ⟨g3, rfl⟩
  unfold jp1
  clear jp1
  refine wpS_bind (wpS_modify ?_)
  refine wpS_bind (w_elem (p := bk) ex (wpS_bind (w_gallop (left := false) (X := fun i => (a[ja + i]?).getD b0) O C hk (fun i hi => ?_) (fun i hi => ?_) (SB ex) (fun i l hil hl' => ?_) (by lia) fun k hk1 p1 p2 => ?_)))
  ·rw [arr_get (show ja + i < a.size by lia)]; rfl
  ·rw [arr_get (show ja + i < a.size by lia)]; exact SA (arr_get (show ja + i < a.size by lia))
  ·rw [arr_get (show ja + i < a.size by lia), arr_get (show ja + l < a.size by lia)]
   exact srt_at O sa Sa (toList_get (arr_get (show ja + i < a.size by lia))) (toList_get (arr_get (show ja + l < a.size by lia))) (by lia)
  have lt2 : ∀ y, a[ja + k]? = some y → blt bk y = true := fun y e => by
   have hq : ja + k < a.size := (Array.getElem?_eq_some_iff.mp e).1
   have := p2 k (Nat.le_refl _) (by lia)
   rw [e] at this
   simpa using this
  dsimp (zeta := false) only
  extract_lets -merge -underBinder ac2 jp2 out2 ia2
  obtain ⟨eo, en⟩ : out2 = o ++ a.extract ja (ja + k) ∧ ia2 = ja + k := ⟨rfl, rfl⟩
  clear_value ac2 out2 ia2
  refine w_spec3 jp2 (fun _ out2 i2 st' => (∃ g, st' = setG st g) ∧ ja ≤ i2 ∧ i2 + 1 < a.size ∧ Lo blt (a.toList ++ b.toList) out2.toList (a.toList.drop i2) (b.toList.drop jb) ∧ ∀ y, a[i2]? = some y → blt bk y = true) ?_ fun J => ?_
  rotate_left
  ·clear_value jp2
   refine w_ite (fun k0 => ?_) (fun k0 => ?_)
   ·have lo2 : Lo blt (a.toList ++ b.toList) out2.toList (a.toList.drop ia2) (b.toList.drop jb) := by
     rw [eo, en, Array.toList_append, ext_toList]
     rw [drop_split a.toList ja k] at lo
     rw [show ja + k - ja = k by lia]
     refine lo.takeA fun x hx y hy => ?_
     obtain ⟨q, hq, rfl⟩ := List.mem_iff_getElem.mp hx
     have hq2 : q < k := by simp only [List.length_take] at hq; lia
     have e1 := p1 q hq2
     rw [arr_get (show ja + q < a.size by lia)] at e1
     simp only [Bool.false_eq_true, if_false, Option.getD_some, Bool.not_eq_true'] at e1
     have e2 : ((a.toList.drop ja).take k)[q] = a[ja + q]'(by lia) := by simp
     rw [e2]
     have sx := SA (arr_get (show ja + q < a.size by lia))
     exact O.tr _ _ _ sx (SB ex) (dropB hy) e1 (srt_rest O sb Sb (toList_get ex) hy)
    refine w_ite (fun d1 => ?_) (fun d1 => ?_)
    ·exact wpS_pure ⟨_, rfl, .inl ⟨_, rfl, last _ _ _ lo2 (beq_iff_eq.mp d1)⟩⟩
    have d1' : ¬ ia2 + 1 = a.size := fun z => d1 (beq_iff_eq.mpr z)
    refine w_ite (fun d2 => ?_) (fun d2 => ?_)
    ·exact wpS_pure ⟨_, rfl, .inl ⟨_, rfl, fin _ _ _ lo2 (.inr (beq_iff_eq.mp d2))⟩⟩
    have d2' : ¬ ia2 = a.size := fun z => d2 (beq_iff_eq.mpr z)
    exact J _ _ _ _ ⟨⟨_, rfl⟩, by lia, by lia, lo2, fun y e => lt2 y (by rw [← en]; exact e)⟩
   ·exact J _ _ _ _ ⟨⟨_, rfl⟩, Nat.le_refl _, ha, lo, fun y e => lt2 y (by rw [show ja + k = ja by lia]; exact e)⟩
  clear eo en p1 p2 lt2 lo
  rintro _ out2 i2 st' ⟨⟨g4, rfl⟩, i2j, i2a, lo2, lt2⟩
  unfold jp2
  clear jp2
  obtain ⟨ak, ey2⟩ : ∃ x, a[i2]? = some x := ⟨_, arr_get (show i2 < a.size by lia)⟩
  refine wpS_bind (w_elem (p := bk) ex ?_)
  extract_lets -merge -underBinder out3 ib3
  obtain ⟨eo3, eb3⟩ : out2.push bk = out3 ∧ ib3 = jb + 1 := ⟨rfl, rfl⟩
  clear_value out3 ib3
  subst eb3
  have lo3 : Lo blt (a.toList ++ b.toList) out3.toList (a.toList.drop i2) (b.toList.drop (jb + 1)) := eo3 ▸ stepB lo2 ex ey2 (O.asy _ _ (SB ex) (SA ey2) (lt2 _ ey2))
  refine w_ite (fun d3 => ?_) (fun d3 => ?_)
  ·exact wpS_pure ⟨_, rfl, .inl ⟨_, rfl, fin _ _ _ lo3 (.inl (beq_iff_eq.mp d3))⟩⟩
  have d3' : ¬ jb + 1 = b.size := fun z => d3 (beq_iff_eq.mpr z)
  refine wpS_bind (w_elem (p := ak) ey2 (wpS_bind (w_gallop (left := true) (X := fun i => (b[jb + 1 + i]?).getD b0) O C hk (fun i hi => ?_) (fun i hi => ?_) (SA ey2) (fun i l hil hl' => ?_) (by lia) fun k2 hk2 p1 p2 => ?_)))
  ·rw [arr_get (show jb + 1 + i < b.size by lia)]; rfl
  ·rw [arr_get (show jb + 1 + i < b.size by lia)]; exact SB (arr_get (show jb + 1 + i < b.size by lia))
  ·rw [arr_get (show jb + 1 + i < b.size by lia), arr_get (show jb + 1 + l < b.size by lia)]
   exact srt_at O sb Sb (toList_get (arr_get (show jb + 1 + i < b.size by lia))) (toList_get (arr_get (show jb + 1 + l < b.size by lia))) (by lia)
  have le4 : ∀ y, b[jb + 1 + k2]? = some y → blt y ak = false := fun y e => by
   have hq : jb + 1 + k2 < b.size := (Array.getElem?_eq_some_iff.mp e).1
   have := p2 k2 (Nat.le_refl _) (by lia)
   rw [e] at this
   simpa using this
  dsimp (zeta := false) only
  extract_lets -merge -underBinder bc2 jp3 out4 ib4
  obtain ⟨eo, en⟩ : out4 = out3 ++ b.extract (jb + 1) (jb + 1 + k2) ∧ ib4 = jb + 1 + k2 := ⟨rfl, rfl⟩
  clear_value bc2 out4 ib4
  refine w_spec3 jp3 (fun _ out4 i4 st' => (∃ g, st' = setG st g) ∧ jb + 1 ≤ i4 ∧ i4 < b.size ∧ Lo blt (a.toList ++ b.toList) out4.toList (a.toList.drop i2) (b.toList.drop i4) ∧ ∀ y, b[i4]? = some y → blt y ak = false) ?_ fun J => ?_
  rotate_left
  ·clear_value jp3
   refine w_ite (fun k20 => ?_) (fun k20 => ?_)
   ·have lo4 : Lo blt (a.toList ++ b.toList) out4.toList (a.toList.drop i2) (b.toList.drop ib4) := by
     rw [eo, en, Array.toList_append, ext_toList]
     rw [drop_split b.toList (jb + 1) k2] at lo3
     rw [show jb + 1 + k2 - (jb + 1) = k2 by lia]
     refine lo3.takeB fun x hx y hy => ?_
     obtain ⟨q, hq, rfl⟩ := List.mem_iff_getElem.mp hx
     have hq2 : q < k2 := by simp only [List.length_take] at hq; lia
     have e1 := p1 q hq2
     rw [arr_get (show jb + 1 + q < b.size by lia)] at e1
     simp only [if_true, Option.getD_some] at e1
     have e2 : ((b.toList.drop (jb + 1)).take k2)[q] = b[jb + 1 + q]'(by lia) := by simp
     rw [e2]
     have sx := SB (arr_get (show jb + 1 + q < b.size by lia))
     exact O.tr _ _ _ sx (SA ey2) (dropA hy) (O.asy _ _ sx (SA ey2) e1) (srt_rest O sa Sa (toList_get ey2) hy)
    refine w_ite (fun d4 => ?_) (fun d4 => ?_)
    ·exact wpS_pure ⟨_, rfl, .inl ⟨_, rfl, fin _ _ _ lo4 (.inl (beq_iff_eq.mp d4))⟩⟩
    have d4' : ¬ ib4 = b.size := fun z => d4 (beq_iff_eq.mpr z)
    exact J _ _ _ _ ⟨⟨_, rfl⟩, by lia, by lia, lo4, fun y e => le4 y (by rw [← en]; exact e)⟩
   ·exact J _ _ _ _ ⟨⟨_, rfl⟩, Nat.le_refl _, by lia, lo3, fun y e => le4 y (by rw [show jb + 1 + k2 = jb + 1 by lia]; exact e)⟩
  clear eo en p1 p2 le4 lo3 lo2
  rintro _ out4 i4 st' ⟨⟨g5, rfl⟩, i4j, i4b, lo4, le4⟩
  unfold jp3
  clear jp3
  refine wpS_bind (w_elem (p := ak) ey2 ?_)
  extract_lets -merge -underBinder out5 ia5
  obtain ⟨eo5, ea5⟩ : out4.push ak = out5 ∧ ia5 = i2 + 1 := ⟨rfl, rfl⟩
  clear_value out5 ia5
  subst ea5
  have lo5 : Lo blt (a.toList ++ b.toList) out5.toList (a.toList.drop (i2 + 1)) (b.toList.drop i4) := eo5 ▸ stepA lo4 ey2 (arr_get i4b) (le4 _ (arr_get i4b))
  refine w_ite (fun d5 => ?_) (fun d5 => ?_)
  ·exact wpS_pure ⟨_, rfl, .inl ⟨_, rfl, last _ _ _ lo5 (beq_iff_eq.mp d5)⟩⟩
  have d5' : ¬ i2 + 1 + 1 = a.size := fun z => d5 (beq_iff_eq.mpr z)
  have at5 : At blt a b (rem - 1) out5 (i2 + 1) i4 := ⟨lo5, by lia, i4b, by lia⟩
  refine w_ite (fun _ => ?_) (fun _ => ?_)
  ·exact wpS_pure ⟨_, rfl, .inr ⟨rfl, at5⟩⟩
  ·exact wpS_pure ⟨_, rfl, rfl, by rw [if_neg (by lia)]; exact at5⟩
 clear h
 rintro ⟨r, o, ja, jb, mg', ca, cb⟩ st' ⟨g', rfl, h⟩
 rcases h with ⟨r', e, gd⟩ | ⟨e, h⟩
 ·simp only at e
  subst e
  refine wpS_pure ?_
  exact wpS_pure (hQ _ g' gd)
 simp only at e h
 subst e
 dsimp only
 refine wpS_bind (wpS_modify ?_)
 refine wpS_pure ?_
 refine ⟨_, rfl, rfl, rem - 1, ?_, h⟩
 have := h.hr
 have := h.ha
 lia
end
end TS
namespace TS
open PySem PyProof.Rows
structure Hg (blt : Keyed → Keyed → Bool) (T ra rb o : List Keyed) : Prop where
 perm : ((ra ++ rb) ++ o).Perm T
 so : Srt blt o
 sa : Srt blt ra
 sb : Srt blt rb
 hgh : ∀ x ∈ ra ++ rb, ∀ y ∈ o, blt y x = false
theorem Hg.takeB {blt : Keyed → Keyed → Bool} {T o p ra rb : List Keyed} (h : Hg blt T ra (rb ++ p) o) (hx : ∀ x ∈ p, ∀ y ∈ ra, blt x y = false) : Hg blt T ra rb (p ++ o) := by
 obtain ⟨h1, h2, h3, h4, h5⟩ := h
 have h4' := List.pairwise_append.mp h4
 refine ⟨?_, ?_, h3, h4'.1, fun x hx' y hy => ?_⟩
 ·have e : ra ++ rb ++ (p ++ o) = ra ++ (rb ++ p) ++ o := by simp
  rw [e]
  exact h1
 ·exact List.pairwise_append.mpr ⟨h4'.2.1, h2, fun x hx' y hy => h5 x (by simp [hx']) y hy⟩
 ·rcases List.mem_append.mp hy with z | z
  ·rcases List.mem_append.mp hx' with q | q
   ·exact hx y z x q
   ·exact h4'.2.2 x q y z
  ·exact h5 x (by rcases List.mem_append.mp hx' with q | q <;> simp [q]) y z
theorem Hg.takeA {blt : Keyed → Keyed → Bool} {T o p ra rb : List Keyed} (h : Hg blt T (ra ++ p) rb o) (hx : ∀ x ∈ p, ∀ y ∈ rb, blt x y = false) : Hg blt T ra rb (p ++ o) := by
 obtain ⟨h1, h2, h3, h4, h5⟩ := h
 have h3' := List.pairwise_append.mp h3
 refine ⟨?_, ?_, h3'.1, h4, fun x hx' y hy => ?_⟩
 ·refine List.Perm.trans ?_ h1
  rw [← List.append_assoc]
  refine List.Perm.append_right o ?_
  rw [List.append_assoc, List.append_assoc]
  exact List.Perm.append_left ra List.perm_append_comm
 ·exact List.pairwise_append.mpr ⟨h3'.2.1, h2, fun x hx' y hy => h5 x (by simp [hx']) y hy⟩
 ·rcases List.mem_append.mp hy with z | z
  ·rcases List.mem_append.mp hx' with q | q
   ·exact h3'.2.2 x q y z
   ·exact hx y z x q
  ·exact h5 x (by rcases List.mem_append.mp hx' with q | q <;> simp [q]) y z
theorem Hg.end {blt : Keyed → Keyed → Bool} {T o : List Keyed} (h : Hg blt T [] [] o) : o.Perm T ∧ Srt blt o := ⟨by simpa using h.perm, h.so⟩
theorem Hg.endA {blt : Keyed → Keyed → Bool} {T o ra : List Keyed} (h : Hg blt T ra [] o) : (ra ++ o).Perm T ∧ Srt blt (ra ++ o) := by
 have h' : Hg blt T ([] ++ ra) [] o := h
 exact (h'.takeA fun _ _ _ z => by cases z).end
theorem Hg.endB {blt : Keyed → Keyed → Bool} {T o rb : List Keyed} (h : Hg blt T [] rb o) : (rb ++ o).Perm T ∧ Srt blt (rb ++ o) := by
 have h' : Hg blt T [] ([] ++ rb) o := h
 exact (h'.takeB fun _ _ _ z => by cases z).end
theorem take_snoc {l : List Keyed} {i : Nat} {x : Keyed} (h : l[i]? = some x) : l.take (i + 1) = l.take i ++ [x] := by
 obtain ⟨hi, e⟩ := List.getElem?_eq_some_iff.mp h
 rw [List.take_succ, h]
 rfl
theorem take_split (l : List Keyed) {i n : Nat} (h : i ≤ n) : l.take n = l.take i ++ (l.drop i).take (n - i) := by
 rw [← List.take_append_drop i (l.take n), List.take_take, Nat.min_eq_left h, List.drop_take]
theorem ext_start (a : Array Keyed) (n : Nat) : (a.extract 0 n).toList = a.toList.take n := by simp
theorem srt_upto {blt : Keyed → Keyed → Bool} {S : Keyed → Prop} (O : Ord S blt) {l : List Keyed} (hs : Srt blt l) (hS : ∀ x ∈ l, S x) {i : Nat} {x y : Keyed} (hx : l[i]? = some x) (hy : y ∈ l.take (i + 1)) : blt x y = false := by
 obtain ⟨k, hk, rfl⟩ := List.mem_iff_getElem.mp hy
 have hk' : k < i + 1 ∧ k < l.length := by simpa [List.length_take, Nat.lt_min] using hk
 have e : l[k]? = some (l.take (i + 1))[k] := by
  rw [List.getElem_take]
  exact List.getElem?_eq_getElem hk'.2
 exact srt_at O hs hS e hx (by lia)
noncomputable def mergeHi' : Array Keyed → Array Keyed → SM (Array Keyed) := sortPriv% PySem.Builtin.mergeHi
section
variable {prog : Program} {w : World} {A : Around} {E : Value → Shared → Prop} {s : Shared} {κ : SortKind} {S : Keyed → Prop} {blt : Keyed → Keyed → Bool}
structure Ah (blt : Keyed → Keyed → Bool) (a b : Array Keyed) (rem na nb : Nat) (out : Array Keyed) : Prop where
 hg : Hg blt (a.toList ++ b.toList) (a.toList.take na) (b.toList.take nb) out.toList.reverse
 a1 : 1 ≤ na
 a2 : na ≤ a.size
 b1 : 2 ≤ nb
 b2 : nb ≤ b.size
 hr : na + nb ≤ rem
theorem w_mergeHi (O : Ord S blt) (C : Cmp prog w A E s κ S blt) {a b : Array Keyed} {st : SortSt} {Q : Array Keyed → SortSt → Prop} (hk : kindOf st = κ) (Sa : ∀ x ∈ a.toList, S x) (Sb : ∀ x ∈ b.toList, S x) (sa : Srt blt a.toList) (sb : Srt blt b.toList)
  {a0 b0 al : Keyed} (ea : a[0]? = some a0) (eb : b[0]? = some b0) (el : a[a.size - 1]? = some al) (h0 : blt b0 a0 = true) (hl : ∀ y ∈ b.toList, blt al y = false)
  (hQ : ∀ m g, Good blt (a.toList ++ b.toList) m → Q m (setG st g)) : wpS (model prog w) A E s (mergeHi' a b) Q st := by
 have na : 0 < a.size := by
  rcases Nat.eq_zero_or_pos a.size with z | z
  ·rw [Array.getElem?_eq_none (by lia)] at ea
   cases ea
  ·exact z
 have nb : 0 < b.size := by
  rcases Nat.eq_zero_or_pos b.size with z | z
  ·rw [Array.getElem?_eq_none (by lia)] at eb
   cases eb
  ·exact z
 have SA : ∀ {i x}, a[i]? = some x → S x := fun h => Sa _ (List.mem_of_getElem? (toList_get h))
 have SB : ∀ {i x}, b[i]? = some x → S x := fun h => Sb _ (List.mem_of_getElem? (toList_get h))
 have tkA : ∀ {i y}, y ∈ a.toList.take i → S y := fun h => Sa _ (List.mem_of_mem_take h)
 have tkB : ∀ {i y}, y ∈ b.toList.take i → S y := fun h => Sb _ (List.mem_of_mem_take h)
 have fin : ∀ (out : Array Keyed) (i j : Nat), Hg blt (a.toList ++ b.toList) (a.toList.take i) (b.toList.take j) out.toList.reverse → (j = 0 ∨ i = 0) → Good blt (a.toList ++ b.toList) (a.extract 0 i ++ b.extract 0 j ++ out.reverse) := by
  intro out i j h hz
  have e : (a.extract 0 i ++ b.extract 0 j ++ out.reverse).toList = a.toList.take i ++ b.toList.take j ++ out.toList.reverse := by
   rw [Array.toList_append, Array.toList_append, ext_start, ext_start, Array.toList_reverse]
  rcases hz with z | z
  ·subst z
   rw [List.take_zero] at h e
   have := h.endA
   exact ⟨by rw [e, List.append_nil]; exact this.1, by rw [e, List.append_nil]; exact this.2⟩
  ·subst z
   rw [List.take_zero] at h e
   have := h.endB
   exact ⟨by rw [e, List.nil_append]; exact this.1, by rw [e, List.nil_append]; exact this.2⟩
 have frst : ∀ (out : Array Keyed) (i : Nat), Hg blt (a.toList ++ b.toList) (a.toList.take i) (b.toList.take 1) out.toList.reverse → Good blt (a.toList ++ b.toList) (b.extract 0 1 ++ a.extract 0 i ++ out.reverse) := by
  intro out i h
  have e : (b.extract 0 1 ++ a.extract 0 i ++ out.reverse).toList = b.toList.take 1 ++ (a.toList.take i ++ out.toList.reverse) := by
   rw [Array.toList_append, Array.toList_append, ext_start, ext_start, Array.toList_reverse, List.append_assoc]
  have eb1 : b.toList.take 1 = [b0] := by
   have := take_snoc (toList_get eb)
   simpa using this
  have h' : Hg blt (a.toList ++ b.toList) ([] ++ a.toList.take i) (b.toList.take 1) out.toList.reverse := h
  have h2 := (h'.takeA fun x hx y hy => by
   rw [eb1] at hy
   rw [List.mem_singleton.mp hy]
   have sx := tkA hx
   have lx : blt x a0 = false := srt_rest O sa Sa (toList_get ea) (by rw [List.drop_zero]; exact List.mem_of_mem_take hx)
   exact O.tr _ _ _ (SB eb) (SA ea) sx (O.asy _ _ (SB eb) (SA ea) h0) lx).endB
  exact ⟨by rw [e]; exact h2.1, by rw [e]; exact h2.2⟩
 have stepA : ∀ {out i j x y}, Hg blt (a.toList ++ b.toList) (a.toList.take (i + 1)) (b.toList.take (j + 1)) (out : Array Keyed).toList.reverse → a[i]? = some x → b[j]? = some y → blt x y = false → Hg blt (a.toList ++ b.toList) (a.toList.take i) (b.toList.take (j + 1)) (out.push x).toList.reverse := by
  intro out i j x y h hx hy hlt
  rw [take_snoc (toList_get hx)] at h
  rw [Array.toList_push, List.reverse_append]
  refine h.takeA (p := [x]) fun z hz y' hy' => ?_
  rw [List.mem_singleton.mp hz]
  exact O.tr y' y x (tkB hy') (SB hy) (SA hx) (srt_upto O sb Sb (toList_get hy) hy') hlt
 have stepB : ∀ {out i j x y}, Hg blt (a.toList ++ b.toList) (a.toList.take (i + 1)) (b.toList.take (j + 1)) (out : Array Keyed).toList.reverse → b[j]? = some x → a[i]? = some y → blt x y = false → Hg blt (a.toList ++ b.toList) (a.toList.take (i + 1)) (b.toList.take j) (out.push x).toList.reverse := by
  intro out i j x y h hx hy hlt
  rw [take_snoc (toList_get hx)] at h
  rw [Array.toList_push, List.reverse_append]
  refine h.takeB (p := [x]) fun z hz y' hy' => ?_
  rw [List.mem_singleton.mp hz]
  exact O.tr y' y x (tkA hy') (SA hy) (SB hx) (srt_upto O sa Sa (toList_get hy) hy') hlt
 have start : Hg blt (a.toList ++ b.toList) (a.toList.take (a.size - 1)) (b.toList.take b.size) (#[al] : Array Keyed).toList.reverse := by
  have h : Hg blt (a.toList ++ b.toList) (a.toList.take (a.size - 1 + 1)) (b.toList.take b.size) (#[] : Array Keyed).toList.reverse := by
   rw [List.take_of_length_le (by simp; lia), List.take_of_length_le (by simp)]
   exact ⟨by simp, by simp, sa, sb, by simp⟩
  rw [take_snoc (toList_get el)] at h
  refine h.takeA (p := [al]) fun z hz y' hy' => ?_
  rw [List.mem_singleton.mp hz]
  exact hl y' (List.mem_of_mem_take hy')
 refine wpS_bind (w_rule ?_)
 refine wpS_bind (w_elem el ?_)
 extract_lets -merge -underBinder o1
 refine w_ite (fun c1 => ?_) (fun c1 => ?_)
 ·exact wpS_pure (setG_self st ▸ hQ _ (gallopOf st) (fin _ _ _ start (.inr (beq_iff_eq.mp c1))))
 refine w_ite (fun c2 => ?_) (fun c2 => ?_)
 ·have c2' : b.size = 1 := beq_iff_eq.mp c2
  refine wpS_pure (setG_self st ▸ hQ _ (gallopOf st) ?_)
  rw [c2']
  exact frst _ _ (by rw [c2'] at start; exact start)
 have n1 : ¬ a.size - 1 = 0 := fun z => c1 (beq_iff_eq.mpr z)
 have n2 : ¬ b.size = 1 := fun z => c2 (beq_iff_eq.mpr z)
 refine wpS_bind (wpS_get ?_)
 refine wpS_bind (wpS_forRange (fun i c st' => ∃ g, st' = setG st g ∧ c.1 = none ∧ ∃ rem, rem + i < a.size + b.size ∧ Ah blt a b rem c.2.1 c.2.2.1 c.2.2.2.1) ?_ ?_ ⟨gallopOf st, rfl, rfl, a.size + b.size - 1, by lia, start, by simp only; lia, by simp only; lia, by simp only; lia, by simp only; lia, by simp only; lia⟩)
 rotate_left
 ·rintro ⟨r, ja, jb, o, mg⟩ st' ⟨g, rfl, rfl, rem, h1, h2⟩
  have h3 := h2.hr
  have h4 := h2.a1
  simp only at h3 h4
  exact absurd h1 (by lia)
 clear_value o1
 intro i c st' _ hi hI
 refine el1 hI fun g rem h => ?_
 clear hI
 extract_lets -merge -underBinder s0 ja s1 jb s2 o mg ac bc
 have h1 := h.1
 have h2 : Ah blt a b rem ja jb o := h.2
 clear h
 clear_value o ja jb mg ac bc
 clear s2 s1 s0
 refine wpS_bind (wpS_mono (Q := fun (c : Option (Array Keyed) × Nat × Nat × Array Keyed × Nat × Nat) st' => st' = setG st g ∧ ((∃ r, c.1 = some r ∧ Good blt (a.toList ++ b.toList) r) ∨ (c.1 = none ∧ Ah blt a b rem c.2.1 c.2.2.1 c.2.2.2.1)))
  (wpS_forRange (fun _ (c : Option (Array Keyed) × Nat × Nat × Array Keyed × Nat × Nat) st' => st' = setG st g ∧ c.1 = none ∧ Ah blt a b rem c.2.1 c.2.2.1 c.2.2.2.1) ?_ (fun c st' h => ⟨h.1, .inr ⟨h.2.1, h.2.2⟩⟩) ⟨rfl, rfl, h2⟩) ?_)
 ·clear h2
  intro j c st' _ hj hI
  refine elS hI fun h => ?_
  clear hI
  extract_lets -merge -underBinder s0 ka s1 kb s2 o s3 ca cb
  have h2 : Ah blt a b rem ka kb o := h.2
  clear h
  clear_value o ka kb ca cb
  clear s3 s2 s1 s0
  obtain ⟨hg, a1, a2, b1, b2, hr⟩ := h2
  obtain ⟨ka, rfl⟩ : ∃ k, ka = k + 1 := ⟨ka - 1, by lia⟩
  obtain ⟨kb, rfl⟩ : ∃ k, kb = k + 1 := ⟨kb - 1, by lia⟩
  obtain ⟨bk, ex⟩ : ∃ x, b[kb]? = some x := ⟨_, arr_get (show kb < b.size by lia)⟩
  obtain ⟨ak, ey⟩ : ∃ x, a[ka]? = some x := ⟨_, arr_get (show ka < a.size by lia)⟩
  refine wpS_bind (w_elem (p := bk) ex (wpS_bind (w_elem (p := ak) ey (wpS_bind (C _ _ _ _ (SB ex) (SA ey) hk ?_)))))
  dsimp only
  rw [Nat.add_sub_cancel, Nat.add_sub_cancel]
  cases z : blt bk ak with
  | true =>
   refine w_ite (fun _ => wpS_bind (w_elem ey ?_)) fun z => absurd rfl z
   have hg' := stepA hg ey ex (O.asy _ _ (SB ex) (SA ey) z)
   refine w_ite (fun d1 => ?_) (fun d1 => ?_)
   ·exact wpS_pure ⟨rfl, .inl ⟨_, rfl, fin _ _ _ hg' (.inr (beq_iff_eq.mp d1))⟩⟩
   have d1' : ¬ ka = 0 := fun z => d1 (beq_iff_eq.mpr z)
   have at' : Ah blt a b rem ka (kb + 1) (o.push ak) := ⟨hg', by lia, by lia, b1, b2, by lia⟩
   exact w_ite (fun _ => wpS_pure ⟨rfl, .inr ⟨rfl, at'⟩⟩) fun _ => wpS_pure ⟨rfl, rfl, at'⟩
  | false =>
   refine w_ite (fun z => absurd z Bool.false_ne_true) fun _ => wpS_bind (w_elem ex ?_)
   have hg' := stepB hg ex ey z
   refine w_ite (fun d1 => ?_) (fun d1 => ?_)
   ·have d1' : kb = 1 := beq_iff_eq.mp d1
    subst d1'
    exact wpS_pure ⟨rfl, .inl ⟨_, rfl, frst _ _ hg'⟩⟩
   have d1' : ¬ kb = 1 := fun z => d1 (beq_iff_eq.mpr z)
   have at' : Ah blt a b rem (ka + 1) kb (o.push bk) := ⟨hg', by lia, by lia, by lia, by lia, by lia⟩
   exact w_ite (fun _ => wpS_pure ⟨rfl, .inr ⟨rfl, at'⟩⟩) fun _ => wpS_pure ⟨rfl, rfl, at'⟩
 clear h2
 intro c st' hI
 refine elS hI fun h => ?_
 clear hI
 dsimp (zeta := false) only
 extract_lets -merge -underBinder r' s1 ka s2 kb s3 o s4 ca cb
 have h' : (∃ r, r' = some r ∧ Good blt (a.toList ++ b.toList) r) ∨ (r' = none ∧ Ah blt a b rem ka kb o) := h
 clear h
 clear_value r' o ka kb ca cb
 clear s4 s3 s2 s1
 cases r' with
 | some r =>
  refine wpS_pure (wpS_pure (hQ _ g ?_))
  rcases h' with ⟨r1, e, gd⟩ | ⟨e, _⟩
  ·rw [Option.some.inj e]; exact gd
  ·cases e
 | none =>
 have h : Ah blt a b rem ka kb o := by
  rcases h' with ⟨r1, e, _⟩ | h
  ·cases e
  ·exact h.2
 clear h'
 refine wpS_bind (w_rule ?_)
 extract_lets -merge -underBinder mg2
 clear_value mg2
 refine wpS_bind (wpS_mono (Q := fun (c : Option (Array Keyed) × Nat × Nat × Array Keyed × Nat × Nat × Nat) st' => ∃ g', st' = setG st g' ∧ ((∃ r, c.1 = some r ∧ Good blt (a.toList ++ b.toList) r) ∨ (c.1 = none ∧ Ah blt a b (rem - 1) c.2.1 c.2.2.1 c.2.2.2.1)))
  (wpS_forRange (fun j (c : Option (Array Keyed) × Nat × Nat × Array Keyed × Nat × Nat × Nat) st' => ∃ g', st' = setG st g' ∧ c.1 = none ∧ Ah blt a b (if j = 0 then rem else rem - 1) c.2.1 c.2.2.1 c.2.2.2.1) ?_ (fun c st' ⟨g', h1, h2, h3⟩ => ⟨g', h1, .inr ⟨h2, by rw [if_neg (by lia)] at h3; exact h3⟩⟩) ⟨g, rfl, rfl, by simpa using h⟩) ?_)
 ·clear h
  intro j c st' _ hj hI
  refine el0 hI fun g' h => ?_
  clear hI
  extract_lets -merge -underBinder s0 ka s1 kb s2 o s3 mg1 s4 ac1 bc1 jp1 mgx
  have h2 : Ah blt a b (if j = 0 then rem else rem - 1) ka kb o := h
  clear h
  clear_value o ka kb mg1 ac1 bc1 mgx
  clear s4 s3 s2 s1 s0
  have hg := h2.hg
  have a1 := h2.a1
  have a2 := h2.a2
  have b1 := h2.b1
  have b2 := h2.b2
  have hr' : ka + kb ≤ rem := by
   have hr := h2.hr
   split at hr <;> lia
  clear h2
  obtain ⟨kb, rfl⟩ : ∃ k, kb = k + 1 := ⟨kb - 1, by lia⟩
  have ex := arr_get (show kb < b.size by lia)
  generalize b[kb] = bk at ex
  refine w_spec2 jp1 (fun _ _ st' => ∃ g, st' = setG st g) ?_ fun J => ?_
  rotate_left
  ·clear_value jp1
   exact w_ite (fun _ => J _ _ _ ⟨_, rfl⟩) fun _ => J _ _ _ ⟨_, rfl⟩
  rintro _ mg3 st' ⟨g3, rfl⟩
  unfold jp1
  clear jp1
  refine wpS_bind (wpS_modify ?_)
  refine wpS_bind (w_elem (p := bk) ex (wpS_bind (w_gallop (left := false) (X := fun i => (a[0 + i]?).getD b0) O C hk (fun i hi => ?_) (fun i hi => ?_) (SB ex) (fun i l hil hl' => ?_) (by lia) fun k hk1 p1 p2 => ?_)))
  ·rw [arr_get (show 0 + i < a.size by lia)]; rfl
  ·rw [arr_get (show 0 + i < a.size by lia)]; exact SA (arr_get (show 0 + i < a.size by lia))
  ·rw [arr_get (show 0 + i < a.size by lia), arr_get (show 0 + l < a.size by lia)]
   exact srt_at O sa Sa (toList_get (arr_get (show 0 + i < a.size by lia))) (toList_get (arr_get (show 0 + l < a.size by lia))) (by lia)
  have la : ∀ q y, a[q]? = some y → q < k → blt bk y = false := fun q y e hq => by
   have := p1 q hq
   rw [Nat.zero_add, e] at this
   simpa using this
  dsimp (zeta := false) only
  extract_lets -merge -underBinder kk ac2 jp2 out2 na2
  obtain ⟨ekk, eo, en⟩ : kk = ka - k ∧ out2 = o ++ (a.extract k ka).reverse ∧ na2 = k := ⟨rfl, rfl, rfl⟩
  clear_value kk ac2 out2 na2
  refine w_spec3 jp2 (fun _ n2 out2 st' => (∃ g, st' = setG st g) ∧ 1 ≤ n2 ∧ n2 ≤ ka ∧ Hg blt (a.toList ++ b.toList) (a.toList.take n2) (b.toList.take (kb + 1)) out2.toList.reverse ∧ ∀ q y, a[q]? = some y → q < n2 → blt bk y = false) ?_ fun J => ?_
  rotate_left
  ·clear_value jp2
   subst en
   refine w_ite (fun k0 => ?_) (fun k0 => ?_)
   ·have hg2 : Hg blt (a.toList ++ b.toList) (a.toList.take na2) (b.toList.take (kb + 1)) out2.toList.reverse := by
     rw [eo, Array.toList_append, Array.toList_reverse, List.reverse_append, List.reverse_reverse, ext_toList]
     rw [take_split a.toList hk1] at hg
     refine hg.takeA fun x hx y hy => ?_
     obtain ⟨q, hq, rfl⟩ := List.mem_iff_getElem.mp hx
     have hq2 : q < ka - na2 := by simp only [List.length_take] at hq; lia
     have e1 := p2 (na2 + q) (by lia) (by lia)
     rw [Nat.zero_add, arr_get (show na2 + q < a.size by lia)] at e1
     simp only [Bool.false_eq_true, if_false, Option.getD_some, Bool.not_eq_false'] at e1
     have e2 : ((a.toList.drop na2).take (ka - na2))[q] = a[na2 + q]'(by lia) := by simp
     rw [e2]
     have sx := SA (arr_get (show na2 + q < a.size by lia))
     exact O.tr _ _ _ (tkB hy) (SB ex) sx (srt_upto O sb Sb (toList_get ex) hy) (O.asy _ _ (SB ex) sx e1)
    refine w_ite (fun d1 => ?_) (fun d1 => ?_)
    ·exact wpS_pure ⟨_, rfl, .inl ⟨_, rfl, fin _ _ _ hg2 (.inr (beq_iff_eq.mp d1))⟩⟩
    have d1' : ¬ na2 = 0 := fun z => d1 (beq_iff_eq.mpr z)
    exact J _ _ _ _ ⟨⟨_, rfl⟩, by lia, hk1, hg2, la⟩
   ·exact J _ _ _ _ ⟨⟨_, rfl⟩, a1, Nat.le_refl _, hg, fun q y e hq => la q y e (by lia)⟩
  clear eo en p1 p2 la hg
  rintro _ n2 out2 st' ⟨⟨g4, rfl⟩, n21, n2k, hg2, lt2⟩
  unfold jp2
  clear jp2
  obtain ⟨ia2, rfl⟩ : ∃ q, n2 = q + 1 := ⟨n2 - 1, by lia⟩
  obtain ⟨ak, ey2⟩ : ∃ x, a[ia2]? = some x := ⟨_, arr_get (show ia2 < a.size by lia)⟩
  extract_lets -merge -underBinder nb2
  have eb2 : kb = nb2 := rfl
  clear_value nb2
  subst eb2
  refine wpS_bind (w_elem (p := bk) ex ?_)
  extract_lets -merge -underBinder out3
  have eo3 : out2.push bk = out3 := rfl
  clear_value out3
  have hg3 : Hg blt (a.toList ++ b.toList) (a.toList.take (ia2 + 1)) (b.toList.take kb) out3.toList.reverse := eo3 ▸ stepB hg2 ex ey2 (lt2 ia2 ak ey2 (by lia))
  refine w_ite (fun d3 => ?_) (fun d3 => ?_)
  ·have d3' : kb = 1 := beq_iff_eq.mp d3
   subst d3'
   exact wpS_pure ⟨_, rfl, .inl ⟨_, rfl, frst _ _ hg3⟩⟩
  have d3' : ¬ kb = 1 := fun z => d3 (beq_iff_eq.mpr z)
  refine wpS_bind (w_elem (p := ak) ey2 (wpS_bind (w_gallop (left := true) (X := fun i => (b[0 + i]?).getD b0) O C hk (fun i hi => ?_) (fun i hi => ?_) (SA ey2) (fun i l hil hl' => ?_) (by lia) fun k2 hk2 p1 p2 => ?_)))
  ·rw [arr_get (show 0 + i < b.size by lia)]; rfl
  ·rw [arr_get (show 0 + i < b.size by lia)]; exact SB (arr_get (show 0 + i < b.size by lia))
  ·rw [arr_get (show 0 + i < b.size by lia), arr_get (show 0 + l < b.size by lia)]
   exact srt_at O sb Sb (toList_get (arr_get (show 0 + i < b.size by lia))) (toList_get (arr_get (show 0 + l < b.size by lia))) (by lia)
  have lb : ∀ q y, b[q]? = some y → q < k2 → blt ak y = false := fun q y e hq => by
   have := p1 q hq
   rw [Nat.zero_add, e] at this
   exact O.asy _ _ (SB e) (SA ey2) (by simpa using this)
  dsimp (zeta := false) only
  extract_lets -merge -underBinder kk2 bc2 jp3 out4 nb4
  obtain ⟨ekk2, eo, en⟩ : kk2 = kb - k2 ∧ out4 = out3 ++ (b.extract k2 kb).reverse ∧ nb4 = k2 := ⟨rfl, rfl, rfl⟩
  clear_value kk2 bc2 out4 nb4
  refine w_spec3 jp3 (fun _ n4 out4 st' => (∃ g, st' = setG st g) ∧ 2 ≤ n4 ∧ n4 ≤ kb ∧ Hg blt (a.toList ++ b.toList) (a.toList.take (ia2 + 1)) (b.toList.take n4) out4.toList.reverse ∧ ∀ q y, b[q]? = some y → q < n4 → blt ak y = false) ?_ fun J => ?_
  rotate_left
  ·clear_value jp3
   subst en
   refine w_ite (fun k20 => ?_) (fun k20 => ?_)
   ·have hg4 : Hg blt (a.toList ++ b.toList) (a.toList.take (ia2 + 1)) (b.toList.take nb4) out4.toList.reverse := by
     rw [eo, Array.toList_append, Array.toList_reverse, List.reverse_append, List.reverse_reverse, ext_toList]
     rw [take_split b.toList hk2] at hg3
     refine hg3.takeB fun x hx y hy => ?_
     obtain ⟨q, hq, rfl⟩ := List.mem_iff_getElem.mp hx
     have hq2 : q < kb - nb4 := by simp only [List.length_take] at hq; lia
     have e1 := p2 (nb4 + q) (by lia) (by lia)
     rw [Nat.zero_add, arr_get (show nb4 + q < b.size by lia)] at e1
     simp only [if_true, Option.getD_some] at e1
     have e2 : ((b.toList.drop nb4).take (kb - nb4))[q] = b[nb4 + q]'(by lia) := by simp
     rw [e2]
     have sx := SB (arr_get (show nb4 + q < b.size by lia))
     exact O.tr _ _ _ (tkA hy) (SA ey2) sx (srt_upto O sa Sa (toList_get ey2) hy) e1
    refine w_ite (fun d4 => ?_) (fun d4 => ?_)
    ·have d4' : nb4 = 1 := beq_iff_eq.mp d4
     subst d4'
     exact wpS_pure ⟨_, rfl, .inl ⟨_, rfl, frst _ _ hg4⟩⟩
    have d4' : ¬ nb4 = 1 := fun z => d4 (beq_iff_eq.mpr z)
    refine w_ite (fun d6 => ?_) (fun d6 => ?_)
    ·exact wpS_pure ⟨_, rfl, .inl ⟨_, rfl, fin _ _ _ hg4 (.inl (beq_iff_eq.mp d6))⟩⟩
    have d6' : ¬ nb4 = 0 := fun z => d6 (beq_iff_eq.mpr z)
    exact J _ _ _ _ ⟨⟨_, rfl⟩, by lia, hk2, hg4, lb⟩
   ·exact J _ _ _ _ ⟨⟨_, rfl⟩, by lia, Nat.le_refl _, hg3, fun q y e hq => lb q y e (by lia)⟩
  clear eo en p1 p2 lb hg3 hg2
  rintro _ n4 out4 st' ⟨⟨g5, rfl⟩, n42, n4k, hg4, le4⟩
  unfold jp3
  clear jp3
  obtain ⟨ib5, rfl⟩ : ∃ q, n4 = q + 1 := ⟨n4 - 1, by lia⟩
  extract_lets -merge -underBinder na5
  have ea5 : ia2 = na5 := rfl
  clear_value na5
  subst ea5
  refine wpS_bind (w_elem (p := ak) ey2 ?_)
  extract_lets -merge -underBinder out5
  have eo5 : out4.push ak = out5 := rfl
  clear_value out5
  have hg5 : Hg blt (a.toList ++ b.toList) (a.toList.take ia2) (b.toList.take (ib5 + 1)) out5.toList.reverse := eo5 ▸ stepA hg4 ey2 (arr_get (show ib5 < b.size by lia)) (le4 ib5 _ (arr_get (show ib5 < b.size by lia)) (by lia))
  refine w_ite (fun d5 => ?_) (fun d5 => ?_)
  ·exact wpS_pure ⟨_, rfl, .inl ⟨_, rfl, fin _ _ _ hg5 (.inr (beq_iff_eq.mp d5))⟩⟩
  have d5' : ¬ ia2 = 0 := fun z => d5 (beq_iff_eq.mpr z)
  have at5 : Ah blt a b (rem - 1) ia2 (ib5 + 1) out5 := ⟨hg5, by lia, by lia, by lia, by lia, by lia⟩
  refine w_ite (fun _ => ?_) (fun _ => ?_)
  ·exact wpS_pure ⟨_, rfl, .inr ⟨rfl, at5⟩⟩
  ·exact wpS_pure ⟨_, rfl, rfl, by rw [if_neg (by lia)]; exact at5⟩
 clear h
 rintro ⟨r, ka, kb, o, mg', ca, cb⟩ st' ⟨g', rfl, h⟩
 rcases h with ⟨r', e, gd⟩ | ⟨e, h⟩
 ·simp only at e
  subst e
  refine wpS_pure ?_
  exact wpS_pure (hQ _ g' gd)
 simp only at e h
 subst e
 dsimp only
 refine wpS_bind (wpS_modify ?_)
 refine wpS_pure ?_
 refine ⟨_, rfl, rfl, rem - 1, ?_, h⟩
 have := h.hr
 have := h.a1
 lia
end
end TS
namespace TS
open PySem PyProof.Rows
structure Keep (xs ys : Array Keyed) (lo hi : Nat) : Prop where
 perm : ys.Perm xs
 out : ∀ k, (k < lo ∨ hi ≤ k) → ys[k]? = xs[k]?
theorem Keep.size {xs ys : Array Keyed} {lo hi : Nat} (h : Keep xs ys lo hi) : ys.size = xs.size := h.perm.size_eq
theorem Keep.refl (xs : Array Keyed) (lo hi : Nat) : Keep xs xs lo hi := ⟨Array.Perm.refl _, fun _ _ => rfl⟩
theorem Keep.trans {xs ys zs : Array Keyed} {lo hi : Nat} (h : Keep xs ys lo hi) (h' : Keep ys zs lo hi) : Keep xs zs lo hi := ⟨h'.perm.trans h.perm, fun k hk => (h'.out k hk).trans (h.out k hk)⟩
theorem Keep.mono {xs ys : Array Keyed} {lo hi lo' hi' : Nat} (h : Keep xs ys lo hi) (h1 : lo' ≤ lo) (h2 : hi ≤ hi') : Keep xs ys lo' hi' := ⟨h.perm, fun k hk => h.out k (by lia)⟩
theorem keep_mirror {xs : Array Keyed} {i j : Nat} (hj : j ≤ xs.size) : Keep xs (mirror xs i j ((j - i) / 2)) i j := ⟨mirror_perm _ _ _ _, fun k hk => by rw [getElem?_mirror_all hj, if_neg (by lia)]⟩
theorem keep_bubble {xs : Array Keyed} {src d : Nat} (hs : src < xs.size) (hd : d ≤ src) : Keep xs (bubble xs src d) (src - d) (src + 1) := ⟨bubble_perm _ _ _, fun k hk => by rw [getElem?_bubble hs d hd, if_neg (by lia), if_neg (by lia)]⟩
noncomputable def Asc (blt : Keyed → Keyed → Bool) (xs : Array Keyed) (lo n : Nat) : Prop := ∀ i j, i ≤ j → j < n → ∀ x y, xs[lo + i]? = some x → xs[lo + j]? = some y → blt y x = false
noncomputable def Des (blt : Keyed → Keyed → Bool) (xs : Array Keyed) (lo n : Nat) : Prop := ∀ i j, i ≤ j → j < n → ∀ x y, xs[lo + i]? = some x → xs[lo + j]? = some y → blt x y = false
noncomputable abbrev AllS (S : Keyed → Prop) (xs : Array Keyed) : Prop := ∀ x ∈ xs.toList, S x
theorem AllS.at {S : Keyed → Prop} {xs : Array Keyed} (h : AllS S xs) {i : Nat} {x : Keyed} (e : xs[i]? = some x) : S x := h x (List.mem_of_getElem? (toList_get e))
theorem AllS.keep {S : Keyed → Prop} {xs ys : Array Keyed} {lo hi : Nat} (h : AllS S xs) (k : Keep xs ys lo hi) : AllS S ys := fun x hx => h x ((Array.perm_iff_toList_perm.mp k.perm).mem_iff.mp hx)
section
variable {S : Keyed → Prop} {blt : Keyed → Keyed → Bool} (O : Ord S blt)
include O
theorem Asc.one {xs : Array Keyed} {lo : Nat} (hS : AllS S xs) : Asc blt xs lo 1 := fun i j hij hj x y hx hy => by
 have : i = j := by lia
 subst this
 rw [hx] at hy; cases hy
 exact O.irr _ (hS.at hx)
theorem Des.one {xs : Array Keyed} {lo : Nat} (hS : AllS S xs) : Des blt xs lo 1 := fun i j hij hj x y hx hy => by
 have : i = j := by lia
 subst this
 rw [hx] at hy; cases hy
 exact O.irr _ (hS.at hx)
theorem Asc.snoc {xs : Array Keyed} {lo n : Nat} (hS : AllS S xs) (h : Asc blt xs lo n) (hn : 1 ≤ n) {x y : Keyed} (hx : xs[lo + n]? = some x) (hy : xs[lo + n - 1]? = some y) (hlt : blt x y = false) : Asc blt xs lo (n + 1) := fun i j hij hj u v hu hv => by
 by_cases hjn : j < n
 ·exact h i j hij hjn u v hu hv
 ·have e : j = n := by lia
  subst e
  rw [hx] at hv; cases hv
  by_cases hin : i < j
  ·have e2 : lo + j - 1 = lo + (j - 1) := by lia
   rw [e2] at hy
   exact O.tr u y x (hS.at hu) (hS.at hy) (hS.at hx) (h i (j - 1) (by lia) (by lia) u y hu hy) hlt
  ·have : i = j := by lia
   subst this
   rw [hx] at hu; cases hu
   exact O.irr _ (hS.at hx)
theorem Des.snoc {xs : Array Keyed} {lo n : Nat} (hS : AllS S xs) (h : Des blt xs lo n) (hn : 1 ≤ n) {x y : Keyed} (hx : xs[lo + n]? = some x) (hy : xs[lo + n - 1]? = some y) (hlt : blt y x = false) : Des blt xs lo (n + 1) := fun i j hij hj u v hu hv => by
 by_cases hjn : j < n
 ·exact h i j hij hjn u v hu hv
 ·have e : j = n := by lia
  subst e
  rw [hx] at hv; cases hv
  by_cases hin : i < j
  ·have e2 : lo + j - 1 = lo + (j - 1) := by lia
   rw [e2] at hy
   exact O.tr x y u (hS.at hx) (hS.at hy) (hS.at hu) hlt (h i (j - 1) (by lia) (by lia) u y hu hy)
  ·have : i = j := by lia
   subst this
   rw [hx] at hu; cases hu
   exact O.irr _ (hS.at hx)
omit O in
theorem Des.rev {xs : Array Keyed} {lo n : Nat} (h : Des blt xs lo n) (hz : lo + n ≤ xs.size) : Asc blt (mirror xs lo (lo + n) ((lo + n - lo) / 2)) lo n := fun i j hij hj x y hx hy => by
 rw [getElem?_mirror_all hz, if_pos (by lia)] at hx hy
 have e1 : lo + (lo + n) - 1 - (lo + i) = lo + (n - 1 - i) := by lia
 have e2 : lo + (lo + n) - 1 - (lo + j) = lo + (n - 1 - j) := by lia
 rw [e1] at hx
 rw [e2] at hy
 exact h (n - 1 - j) (n - 1 - i) (by lia) (by lia) y x hy hx
noncomputable def Eqs (blt : Keyed → Keyed → Bool) (xs : Array Keyed) (lo n q : Nat) : Prop := q < n ∧ ∀ i j, n - (q + 1) ≤ i → i < n → n - (q + 1) ≤ j → j < n → ∀ x y, xs[lo + i]? = some x → xs[lo + j]? = some y → blt x y = false
omit O in
theorem Des.flip {xs : Array Keyed} {lo n q : Nat} (h : Des blt xs lo n) (e : Eqs blt xs lo n q) (hz : lo + n ≤ xs.size) : Des blt (mirror xs (lo + n - (q + 1)) (lo + n) ((lo + n - (lo + n - (q + 1))) / 2)) lo n := fun i j hij hj x y hx hy => by
 have hq := e.1
 rw [getElem?_mirror_all hz] at hx hy
 by_cases c1 : lo + n - (q + 1) ≤ lo + i ∧ lo + i < lo + n
 ·rw [if_pos c1] at hx
  rw [if_pos (by lia)] at hy
  have e1 : lo + n - (q + 1) + (lo + n) - 1 - (lo + i) = lo + (n - (q + 1) + n - 1 - i) := by lia
  have e2 : lo + n - (q + 1) + (lo + n) - 1 - (lo + j) = lo + (n - (q + 1) + n - 1 - j) := by lia
  rw [e1] at hx
  rw [e2] at hy
  exact e.2 _ _ (by lia) (by lia) (by lia) (by lia) x y hx hy
 ·rw [if_neg c1] at hx
  by_cases c2 : lo + n - (q + 1) ≤ lo + j ∧ lo + j < lo + n
  ·rw [if_pos c2] at hy
   have e2 : lo + n - (q + 1) + (lo + n) - 1 - (lo + j) = lo + (n - (q + 1) + n - 1 - j) := by lia
   rw [e2] at hy
   exact h i _ (by lia) (by lia) x y hx hy
  ·rw [if_neg c2] at hy
   exact h i j hij hj x y hx hy
end
section
variable {prog : Program} {w : World} {A : Around} {E : Value → Shared → Prop} {s : Shared} {κ : SortKind} {S : Keyed → Prop} {blt : Keyed → Keyed → Bool}
theorem w_ltAt (C : Cmp prog w A E s κ S blt) {st : SortSt} {i j : Nat} {x y : Keyed} {Q : Option Bool → SortSt → Prop} (hk : kindOf st = κ) (hS : AllS S (arrOf st)) (hx : (arrOf st)[i]? = some x) (hy : (arrOf st)[j]? = some y) (h : Q (some (blt x y)) st) :
  wpS (model prog w) A E s (ltAt' i j) Q st := by
 rw [ltAt'_eq]
 refine wpS_bind (wpS_get ?_)
 exact wpS_bind (w_elem hx (wpS_bind (w_elem hy (C x y st Q (hS.at hx) (hS.at hy) hk h))))
theorem w_rev {st : SortSt} {i j : Nat} {Q : Unit → SortSt → Prop} (h : Q () (setArr st (mirror (arrOf st) i j ((j - i) / 2)))) : wpS (model prog w) A E s (reverseSlice' i j) Q st := by
 rw [reverseSlice'_eq]
 exact wpS_modify h
theorem w_asc (O : Ord S blt) (C : Cmp prog w A E s κ S blt) {st : SortSt} {lo n₀ nrem : Nat} {f : Nat → Option (Option Nat) × Nat → SM (ForInStep (Option (Option Nat) × Nat))} {Q : Option (Option Nat) × Nat → SortSt → Prop} (hk : kindOf st = κ) (hS : AllS S (arrOf st)) (hz : lo + nrem ≤ (arrOf st).size) (h1 : 1 ≤ n₀) (hn : n₀ ≤ nrem) (ha : Asc blt (arrOf st) lo n₀)
  (hf : ∀ i n, f i (none, n) = ltAt' (lo + n) (lo + n - 1) >>= fun x => match x with
   | some z => if z = true then pure (.done (none, n)) else pure (.yield (none, n + 1))
   | _ => pure (.done (some none, n)))
  (hq : ∀ n, n₀ ≤ n → n ≤ nrem → Asc blt (arrOf st) lo n → (n < nrem → ∀ x y, (arrOf st)[lo + n]? = some x → (arrOf st)[lo + n - 1]? = some y → blt x y = true) → Q (none, n) st) : wpS (model prog w) A E s (forIn [n₀:nrem] (none, n₀) f) Q st := by
 refine wpS_forRange (fun i c st' => st' = st ∧ c = (none, i) ∧ n₀ ≤ i ∧ Asc blt (arrOf st) lo i) ?_ ?_ ⟨rfl, rfl, Nat.le_refl _, ha⟩
 ·rintro i c st' h1' h2' ⟨rfl, rfl, h3, h4⟩
  rw [hf]
  have ex := arr_get (show lo + i < (arrOf st').size by lia)
  have ey := arr_get (show lo + i - 1 < (arrOf st').size by lia)
  refine wpS_bind (w_ltAt C hk hS ex ey ?_)
  cases z : blt (arrOf st')[lo + i] (arrOf st')[lo + i - 1] with
  | true =>
   refine wpS_pure (hq i h3 (by lia) h4 fun _ x y hx hy => ?_)
   rw [ex] at hx; cases hx
   rw [ey] at hy; cases hy
   exact z
  | false => exact wpS_pure ⟨rfl, rfl, by lia, Asc.snoc O hS h4 (by lia) ex ey z⟩
 ·rintro c st' ⟨rfl, rfl, h3, h4⟩
  have e : max n₀ nrem = nrem := by lia
  rw [e] at h4 ⊢
  exact hq nrem hn (Nat.le_refl _) h4 fun z => absurd z (Nat.lt_irrefl _)
theorem setArr_self (st : SortSt) : setArr st (arrOf st) = st := rfl
theorem via {G : Prop} {α : Sort _} {P : α → Prop} (R : α) (h1 : P R → G) (h2 : P R) : G := h1 h2
theorem w_countRun (O : Ord S blt) (C : Cmp prog w A E s κ S blt) {st : SortSt} {lo nrem : Nat} {Q : Option Nat → SortSt → Prop} (hk : kindOf st = κ) (hS : AllS S (arrOf st)) (hz : lo + nrem ≤ (arrOf st).size) (h1 : 1 ≤ nrem)
  (hq : ∀ n ys, 1 ≤ n → n ≤ nrem → Keep (arrOf st) ys lo (lo + nrem) → Asc blt ys lo n → Q (some n) (setArr st ys)) : wpS (model prog w) A E s (countRun' lo nrem) Q st := by
 refine wpS_bind (w_asc O C hk hS hz (Nat.le_refl 1) h1 (Asc.one O hS) (fun i n => bnd _ fun x => by cases x <;> rfl) fun n n1 n2 asc nxt => ?_)
 dsimp only
 refine w_ite (fun c1 => ?_) (fun c1 => ?_)
 ·exact wpS_pure (setArr_self st ▸ hq n _ n1 n2 (Keep.refl _ _ _) asc)
 have hn : n < nrem := by
  have : ¬ n = nrem := fun z => c1 (beq_iff_eq.mpr z)
  lia
 have ex := arr_get (show lo + n < (arrOf st).size by lia)
 have ey := arr_get (show lo + n - 1 < (arrOf st).size by lia)
 have drop := nxt hn _ _ ex ey
 have e0 := arr_get (show lo < (arrOf st).size by lia)
 refine' via (P := fun R : SM (Option Nat) => ∀ xs, Keep (arrOf st) xs lo (lo + nrem) → Des blt xs lo (n + 1) → wpS (model prog w) A E s R Q (setArr st xs)) _ (fun fin => ?main) ?fin
 case main =>
  refine w_ite (fun hn1 => ?_) (fun hn1 => ?_)
  ·refine wpS_bind (w_ltAt C hk hS e0 ey ?_)
   cases z : blt (arrOf st)[lo] (arrOf st)[lo + n - 1] with
   | true => exact wpS_pure (setArr_self st ▸ hq n _ n1 n2 (Keep.refl _ _ _) asc)
   | false =>
    refine wpS_bind (w_rev ?_)
    have kx := (keep_mirror (xs := arrOf st) (i := lo) (j := lo + n) (by lia)).mono (Nat.le_refl _) (show lo + n ≤ lo + nrem by lia)
    have eqv : ∀ i j, i < n → j < n → ∀ x y, (arrOf st)[lo + i]? = some x → (arrOf st)[lo + j]? = some y → blt x y = false := fun i j hi hj x y hx hy => by
     have l1 := asc 0 j (by lia) hj _ y (by rw [Nat.add_zero]; exact e0) hy
     have l2 := asc i (n - 1) (by lia) (by lia) x _ hx (by rw [show lo + (n - 1) = lo + n - 1 by lia]; exact ey)
     exact O.tr y _ x (hS.at hy) (hS.at ey) (hS.at hx) (O.tr y _ _ (hS.at hy) (hS.at ey) (hS.at ey) (asc j (n - 1) (by lia) (by lia) y _ hy (by rw [show lo + (n - 1) = lo + n - 1 by lia]; exact ey)) (O.irr _ (hS.at ey))) (O.tr _ _ x (hS.at ey) (hS.at e0) (hS.at hx) z (asc 0 i (by lia) hi _ x (by rw [Nat.add_zero]; exact e0) hx))
    have des : Des blt (mirror (arrOf st) lo (lo + n) ((lo + n - lo) / 2)) lo (n + 1) := by
     have hSx := hS.keep kx
     have d1 : Des blt (mirror (arrOf st) lo (lo + n) ((lo + n - lo) / 2)) lo n := fun i j hij hj x y hx hy => by
      rw [getElem?_mirror_all (show lo + n ≤ (arrOf st).size by lia), if_pos (by lia)] at hx hy
      rw [show lo + (lo + n) - 1 - (lo + i) = lo + (n - 1 - i) by lia] at hx
      rw [show lo + (lo + n) - 1 - (lo + j) = lo + (n - 1 - j) by lia] at hy
      exact eqv _ _ (by lia) (by lia) x y hx hy
     have e1 : (mirror (arrOf st) lo (lo + n) ((lo + n - lo) / 2))[lo + n]? = some (arrOf st)[lo + n] := by
      rw [getElem?_mirror_all (show lo + n ≤ (arrOf st).size by lia), if_neg (by lia)]
      exact ex
     have e2 : (mirror (arrOf st) lo (lo + n) ((lo + n - lo) / 2))[lo + n - 1]? = some (arrOf st)[lo] := by
      rw [getElem?_mirror_all (show lo + n ≤ (arrOf st).size by lia), if_pos (by lia), show lo + (lo + n) - 1 - (lo + n - 1) = lo by lia]
      exact e0
     exact Des.snoc O hSx d1 (by lia) e1 e2 (O.tr _ _ _ (hS.at ex) (hS.at ey) (hS.at e0) (O.asy _ _ (hS.at ex) (hS.at ey) drop) (eqv 0 (n - 1) (by lia) (by lia) _ _ (by rw [Nat.add_zero]; exact e0) (by rw [show lo + (n - 1) = lo + n - 1 by lia]; exact ey)))
    exact fin _ kx des
  ·have e : n = 1 := by lia
   have kx := Keep.refl (arrOf st) lo (lo + nrem)
   have des : Des blt (arrOf st) lo (n + 1) := by
    subst e
    exact Des.snoc O hS (Des.one O hS) (Nat.le_refl _) ex ey (O.asy _ _ (hS.at ex) (hS.at ey) drop)
   exact fin _ kx des
 case fin =>
  intro xs kx des
  have hSx := hS.keep kx
  refine wpS_bind (w_rule ?_)
  refine wpS_bind (wpS_mono (Q := fun (c : Option (Option Nat) × Nat × Nat) st' => ∃ ys, st' = setArr st ys ∧ c.1 = none ∧ n + 1 ≤ c.2.1 ∧ c.2.1 ≤ nrem ∧ Keep (arrOf st) ys lo (lo + nrem) ∧ Des blt ys lo c.2.1 ∧ Eqs blt ys lo c.2.1 c.2.2)
   (wpS_forRange (fun i (c : Option (Option Nat) × Nat × Nat) st' => ∃ ys, st' = setArr st ys ∧ c.1 = none ∧ c.2.1 = i ∧ n + 1 ≤ i ∧ Keep (arrOf st) ys lo (lo + nrem) ∧ Des blt ys lo c.2.1 ∧ Eqs blt ys lo c.2.1 c.2.2) ?_ ?_ ⟨xs, rfl, rfl, rfl, Nat.le_refl _, kx, des, by simp only; lia, ?_⟩) ?_)
  ·rintro i ⟨r, m, q⟩ st' i1 i2 ⟨ys, rfl, rfl, hi, hm, ky, dy, eq⟩
   simp only at hi
   subst hi
   simp only at ky dy eq
   dsimp only
   have hSy := hS.keep ky
   have zy : lo + nrem ≤ ys.size := by rw [ky.size]; exact hz
   have ex := arr_get (show lo + m < ys.size by lia)
   have ey := arr_get (show lo + m - 1 < ys.size by lia)
   refine wpS_bind (w_ltAt C (st := setArr st ys) hk hSy ex ey ?_)
   have hq1 := eq.1
   cases z : blt ys[lo + m] ys[lo + m - 1] with
   | true =>
    dsimp only
    refine w_ite (fun _ => ?_) (fun z => absurd rfl z)
    have key : ∀ zs, Keep ys zs lo (lo + m) → Des blt zs lo m → (∀ x, zs[lo + m - 1]? = some x → blt x ys[lo + m] = false) → wpS (model prog w) A E s (pure (ForInStep.yield ((none, m + 1, 0) : Option (Option Nat) × Nat × Nat)) : SM _) (fun r st' => match r with
      | .done c => ∃ ys, st' = setArr st ys ∧ c.1 = none ∧ n + 1 ≤ c.2.1 ∧ c.2.1 ≤ nrem ∧ Keep (arrOf st) ys lo (lo + nrem) ∧ Des blt ys lo c.2.1 ∧ Eqs blt ys lo c.2.1 c.2.2
      | .yield c => ∃ ys, st' = setArr st ys ∧ c.1 = none ∧ c.2.1 = m + 1 ∧ n + 1 ≤ m + 1 ∧ Keep (arrOf st) ys lo (lo + nrem) ∧ Des blt ys lo c.2.1 ∧ Eqs blt ys lo c.2.1 c.2.2) (setArr st zs) := by
     intro zs kz dz hlt
     have kz' := ky.trans (kz.mono (Nat.le_refl _) (show lo + m ≤ lo + nrem by lia))
     have hSz := hS.keep kz'
     have e1 : zs[lo + m]? = some ys[lo + m] := by rw [kz.out (lo + m) (.inr (by lia))]; exact ex
     have zz : lo + m - 1 < zs.size := by rw [kz.size]; lia
     refine wpS_pure ⟨zs, rfl, rfl, rfl, by lia, kz', Des.snoc O hSz dz (by lia) e1 (arr_get zz) (hlt _ (arr_get zz)), by simp only; lia, fun a b a1 a2 b1 b2 x y hx hy => ?_⟩
     simp only at a1 a2 b1 b2
     have e3 : a = m := by lia
     have e4 : b = m := by lia
     subst e3 e4
     rw [hx] at hy; cases hy
     exact O.irr _ (hSz.at hx)
    refine w_ite (fun q0 => ?_) (fun q0 => ?_)
    ·refine wpS_bind (w_rev ?_)
     have km := keep_mirror (xs := ys) (i := lo + m - (q + 1)) (j := lo + m) (by lia)
     refine key _ (km.mono (show lo ≤ lo + m - (q + 1) by have := eq.1; lia) (Nat.le_refl _)) (dy.flip eq (by lia)) fun x hx => ?_
     rw [getElem?_mirror_all (show lo + m ≤ ys.size by lia), if_pos (by lia)] at hx
     have e1 : lo + m - (q + 1) + (lo + m) - 1 - (lo + m - 1) = lo + (m - (q + 1)) := by lia
     rw [e1] at hx
     have e2 : ys[lo + (m - 1)]? = some ys[lo + m - 1] := by rw [show lo + (m - 1) = lo + m - 1 by lia]; exact ey
     have le1 := dy (m - (q + 1)) (m - 1) (by lia) (by lia) x _ hx e2
     exact O.tr _ _ _ (hSy.at ex) (hSy.at ey) (hSy.at hx) (O.asy _ _ (hSy.at ex) (hSy.at ey) z) le1
    ·refine key ys (Keep.refl _ _ _) dy fun x hx => ?_
     rw [ey] at hx; cases hx
     exact O.asy _ _ (hSy.at ex) (hSy.at ey) z
   | false =>
    dsimp only
    refine w_ite (fun z => absurd z Bool.false_ne_true) (fun _ => ?_)
    refine wpS_bind (w_ltAt C (st := setArr st ys) hk hSy ey ex ?_)
    cases z2 : blt ys[lo + m - 1] ys[lo + m] with
    | true =>
     dsimp only
     refine w_ite (fun _ => ?_) (fun z => absurd rfl z)
     exact wpS_pure ⟨ys, rfl, rfl, hm, by simp only; lia, ky, dy, eq⟩
    | false =>
     dsimp only
     refine w_ite (fun z => absurd z Bool.false_ne_true) (fun _ => ?_)
     refine wpS_pure ⟨ys, rfl, rfl, rfl, by lia, ky, Des.snoc O hSy dy (by lia) ex ey z2, by simp only; lia, fun a b a1 a2 b1 b2 x y hx hy => ?_⟩
     simp only at a1 a2 b1 b2
     have e2 : ys[lo + (m - 1)]? = some ys[lo + m - 1] := by rw [show lo + (m - 1) = lo + m - 1 by lia]; exact ey
     by_cases ha : a = m
     ·subst ha
      rw [ex] at hx; cases hx
      by_cases hb : b = a
      ·subst hb
       rw [ex] at hy; cases hy
       exact O.irr _ (hSy.at ex)
      ·exact O.tr y ys[lo + a - 1] _ (hSy.at hy) (hSy.at ey) (hSy.at ex) (eq.2 (a - 1) b (by lia) (by lia) (by lia) (by lia) _ y e2 hy) z
     ·by_cases hb : b = m
      ·subst hb
       rw [ex] at hy; cases hy
       exact O.tr _ ys[lo + b - 1] x (hSy.at ex) (hSy.at ey) (hSy.at hx) z2 (eq.2 a (b - 1) (by lia) (by lia) (by lia) (by lia) x _ hx e2)
      ·exact eq.2 a b (by lia) (by lia) (by lia) (by lia) x y hx hy
  ·rintro ⟨r, m, q⟩ st' ⟨ys, rfl, rfl, hi, hm, ky, dy, eq⟩
   simp only at hi
   subst hi
   simp only at ky dy eq
   exact ⟨ys, rfl, rfl, by simp only; lia, by simp only; lia, ky, dy, eq⟩
  ·intro a b a1 a2 b1 b2 x y hx hy
   simp only at a1 a2 b1 b2
   have e3 : a = n := by lia
   have e4 : b = n := by lia
   subst e3 e4
   rw [hx] at hy; cases hy
   exact O.irr _ (hSx.at hx)
  ·rintro ⟨r, m, q⟩ st' ⟨ys, rfl, rfl, m1, m2, ky, dy, eq⟩
   simp only at ky dy eq m1 m2
   dsimp only
   have zy : lo + nrem ≤ ys.size := by rw [ky.size]; exact hz
   refine' via (P := fun R : SM (Option Nat) => ∀ zs, Keep ys zs lo (lo + m) → Des blt zs lo m → wpS (model prog w) A E s R Q (setArr st zs)) _ (fun fin2 => w_ite (fun q0 => ?m1) (fun q0 => ?m2)) ?f2
   case m2 => exact fin2 _ (Keep.refl ys lo (lo + m)) dy
   case m1 => exact wpS_bind (w_rev (fin2 _ ((keep_mirror (xs := ys) (i := lo + m - (q + 1)) (j := lo + m) (by lia)).mono (show lo ≤ lo + m - (q + 1) by have := eq.1; lia) (Nat.le_refl _)) (dy.flip eq (by lia))))
   intro zs kz dz
   have kz' := ky.trans (kz.mono (Nat.le_refl _) (show lo + m ≤ lo + nrem by lia))
   have zz : lo + nrem ≤ zs.size := by rw [kz'.size]; exact hz
   refine wpS_bind (w_rev ?_)
   have km := keep_mirror (xs := zs) (i := lo) (j := lo + m) (by lia)
   have k3 := kz'.trans (km.mono (Nat.le_refl _) (show lo + m ≤ lo + nrem by lia))
   refine wpS_bind (w_asc O C (st := setArr st (mirror zs lo (lo + m) ((lo + m - lo) / 2))) hk (hS.keep k3) (by rw [show arrOf (setArr st (mirror zs lo (lo + m) ((lo + m - lo) / 2))) = mirror zs lo (lo + m) ((lo + m - lo) / 2) from rfl, mirror_size]; exact zz) (by lia) m2 (dz.rev (by lia)) (fun i n => bnd _ fun x => by cases x <;> rfl) fun n' n1' n2' asc' _ => ?_)
   exact wpS_pure (hq n' _ (by lia) n2' k3 asc')
end
end TS
namespace TS
open PySem PyProof.Rows
section
variable {prog : Program} {w : World} {A : Around} {E : Value → Shared → Prop} {s : Shared} {κ : SortKind} {S : Keyed → Prop} {blt : Keyed → Keyed → Bool}
theorem w_down {st : SortSt} {i j : Nat} {Q : Unit → SortSt → Prop} (h : Q () (setArr st (bubble (arrOf st) i (i - j)))) : wpS (model prog w) A E s (moveDown' i j) Q st := by
 rw [moveDown'_eq]
 exact wpS_modify h
theorem Asc.put (O : Ord S blt) {xs : Array Keyed} {lo k l : Nat} (hS : AllS S xs) (h : Asc blt xs lo k) (hl : l ≤ k) (hz : lo + k < xs.size) {x : Keyed} (hx : xs[lo + k]? = some x) (h1 : ∀ i, i < l → ∀ y, xs[lo + i]? = some y → blt x y = false) (h2 : ∀ i, l ≤ i → i < k → ∀ y, xs[lo + i]? = some y → blt x y = true) :
  Asc blt (bubble xs (lo + k) (lo + k - (lo + l))) lo (k + 1) := fun i j hij hj u v hu hv => by
 have e : ∀ m, m ≤ k → (bubble xs (lo + k) (lo + k - (lo + l)))[lo + m]? = if m = l then xs[lo + k]? else if l < m then xs[lo + (m - 1)]? else xs[lo + m]? := fun m hm => by
  rw [getElem?_bubble hz _ (by lia)]
  by_cases c1 : m = l
  ·rw [if_pos (by lia), if_pos c1]
  ·rw [if_neg (by lia), if_neg c1]
   by_cases c2 : l < m
   ·rw [if_pos (by lia), if_pos c2, show lo + m - 1 = lo + (m - 1) by lia]
   ·rw [if_neg (by lia), if_neg c2]
 rw [e i (by lia)] at hu
 rw [e j (by lia)] at hv
 by_cases c1 : i = l
 ·rw [if_pos c1, hx] at hu
  cases hu
  by_cases c2 : j = l
  ·rw [if_pos c2, hx] at hv
   cases hv
   exact O.irr _ (hS.at hx)
  ·rw [if_neg c2, if_pos (by lia)] at hv
   exact O.asy _ _ (hS.at hx) (hS.at hv) (h2 (j - 1) (by lia) (by lia) v hv)
 ·rw [if_neg c1] at hu
  by_cases c3 : l < i
  ·rw [if_pos c3] at hu
   rw [if_neg (by lia), if_pos (by lia)] at hv
   exact h (i - 1) (j - 1) (by lia) (by lia) u v hu hv
  ·rw [if_neg c3] at hu
   by_cases c2 : j = l
   ·rw [if_pos c2, hx] at hv
    cases hv
    exact h1 i (by lia) u hu
   ·rw [if_neg c2] at hv
    by_cases c4 : l < j
    ·rw [if_pos c4] at hv
     exact h i (j - 1) (by lia) (by lia) u v hu hv
    ·rw [if_neg c4] at hv
     exact h i j hij (by lia) u v hu hv
theorem w_binary (O : Ord S blt) (C : Cmp prog w A E s κ S blt) {st : SortSt} {lo n ok : Nat} {Q : Bool → SortSt → Prop} (hk : kindOf st = κ) (hS : AllS S (arrOf st)) (hz : lo + n ≤ (arrOf st).size) (h1 : 1 ≤ ok) (hn : ok ≤ n) (ha : Asc blt (arrOf st) lo ok)
  (hq : ∀ ys, Keep (arrOf st) ys lo (lo + n) → Asc blt ys lo n → Q true (setArr st ys)) : wpS (model prog w) A E s (binarySort' lo n ok) Q st := by
 have em : max ok 1 = ok := by lia
 refine wpS_bind (wpS_mono (Q := fun (c : Option Bool × Unit) st' => ∃ ys, st' = setArr st ys ∧ c.1 = none ∧ Keep (arrOf st) ys lo (lo + n) ∧ Asc blt ys lo n)
  (wpS_forRange (fun k (c : Option Bool × Unit) st' => ∃ ys, st' = setArr st ys ∧ c.1 = none ∧ Keep (arrOf st) ys lo (lo + n) ∧ Asc blt ys lo k) ?_ ?_ ⟨arrOf st, rfl, rfl, Keep.refl _ _ _, by rw [em]; exact ha⟩) ?_)
 ·rintro k ⟨r, u⟩ st' k1 k2 ⟨ys, rfl, rfl, ky, ay⟩
  rw [em] at k1
  have hSy := hS.keep ky
  have zy : lo + n ≤ ys.size := by rw [ky.size]; exact hz
  have ex := arr_get (show lo + k < ys.size by lia)
  refine wpS_bind (wpS_mono (Q := fun (c : Option Bool × Nat × Nat) st' => st' = setArr st ys ∧ c.1 = none ∧ c.2.1 ≤ k ∧ (∀ i, i < c.2.1 → ∀ y, ys[lo + i]? = some y → blt ys[lo + k] y = false) ∧ ∀ i, c.2.1 ≤ i → i < k → ∀ y, ys[lo + i]? = some y → blt ys[lo + k] y = true)
   (wpS_forRange (fun i (c : Option Bool × Nat × Nat) st' => st' = setArr st ys ∧ c.1 = none ∧ c.2.1 ≤ c.2.2 ∧ c.2.2 ≤ k ∧ c.2.2 - c.2.1 + i ≤ k ∧ (∀ i, i < c.2.1 → ∀ y, ys[lo + i]? = some y → blt ys[lo + k] y = false) ∧ ∀ i, c.2.2 ≤ i → i < k → ∀ y, ys[lo + i]? = some y → blt ys[lo + k] y = true) ?_ ?_
    ⟨rfl, rfl, by simp only; lia, by simp only; lia, by simp only; lia, fun i hi => absurd hi (Nat.not_lt_zero _), fun i hi hi' => by simp only at hi; lia⟩) ?_)
  ·rintro i ⟨r, l, h⟩ st' _ hi ⟨rfl, rfl, a1, a2, a3, a4, a5⟩
   simp only at a1 a2 a3 a4 a5
   dsimp only
   refine w_ite (fun c1 => ?_) (fun c1 => ?_)
   ·have e : l = h := by lia
    subst e
    exact wpS_pure ⟨rfl, rfl, a2, a4, a5⟩
   have em2 := arr_get (show lo + (l + h) / 2 < ys.size by lia)
   refine wpS_bind (w_ltAt C (st := setArr st ys) hk hSy ex em2 ?_)
   cases z : blt ys[lo + k] ys[lo + (l + h) / 2] with
   | true =>
    refine wpS_pure ⟨rfl, rfl, by simp only; lia, by simp only; lia, by simp only; lia, a4, fun q hq1 hq2 y hy => ?_⟩
    simp only at hq1
    have le := ay ((l + h) / 2) q hq1 hq2 _ y em2 hy
    cases z2 : blt ys[lo + k] y with
    | true => rfl
    | false =>
     have := O.tr _ _ _ (hSy.at em2) (hSy.at hy) (hSy.at ex) le z2
     rw [z] at this
     cases this
   | false =>
    refine wpS_pure ⟨rfl, rfl, by simp only; lia, by simp only; lia, by simp only; lia, fun q hq1 y hy => ?_, a5⟩
    simp only at hq1
    have le := ay q ((l + h) / 2) (by lia) (by lia) y _ hy em2
    exact O.tr _ _ _ (hSy.at hy) (hSy.at em2) (hSy.at ex) le z
  ·rintro ⟨r, l, h⟩ st' ⟨rfl, rfl, a1, a2, a3, a4, a5⟩
   simp only at a1 a2 a3 a4 a5
   have e : l = h := by lia
   subst e
   exact ⟨rfl, rfl, a2, a4, a5⟩
  ·rintro ⟨r, l, h⟩ st' ⟨rfl, e, a2, a4, a5⟩
   simp only at e a2 a4 a5
   subst e
   refine wpS_bind (w_down ?_)
   refine wpS_pure ⟨_, rfl, rfl, ky.trans ((keep_bubble (xs := ys) (src := lo + k) (d := lo + k - (lo + l)) (by lia) (by lia)).mono (show lo ≤ lo + k - (lo + k - (lo + l)) by lia) (show lo + k + 1 ≤ lo + n by lia)), Asc.put O hSy ay a2 (show lo + k < ys.size by lia) ex a4 a5⟩
 ·rintro ⟨r, u⟩ st' ⟨ys, rfl, rfl, ky, ay⟩
  rw [show max (max ok 1) n = n by lia] at ay
  exact ⟨ys, rfl, rfl, ky, ay⟩
 ·rintro ⟨r, u⟩ st' ⟨ys, rfl, e, ky, ay⟩
  simp only at e
  subst e
  exact wpS_pure (hq ys ky ay)
theorem wb_get (o : Nat) : ∀ (l : List Keyed) (t : Nat) (xs : Array Keyed), o + t + l.length ≤ xs.size → ∀ k,
  ((l.zipIdx t).foldl (fun (a : Array Keyed) (x : Keyed × Nat) => match x with | (p, j) => a.setIfInBounds (o + j) p) xs)[k]? = if o + t ≤ k ∧ k < o + t + l.length then l[k - (o + t)]? else xs[k]?
 | [], t, xs, _, k => by
  rw [if_neg (by simp)]
  rfl
 | x :: r, t, xs, h, k => by
  rw [List.length_cons] at h
  have ih := wb_get o r (t + 1) (xs.setIfInBounds (o + t) x) (by rw [Array.size_setIfInBounds]; lia) k
  rw [List.zipIdx_cons, List.foldl_cons]
  show (List.foldl _ (xs.setIfInBounds (o + t) x) (r.zipIdx (t + 1)))[k]? = _
  rw [ih, List.length_cons]
  by_cases c1 : o + (t + 1) ≤ k ∧ k < o + (t + 1) + r.length
  ·rw [if_pos c1, if_pos (by lia), show k - (o + t) = k - (o + (t + 1)) + 1 by lia, List.getElem?_cons_succ]
  ·rw [if_neg c1]
   by_cases c2 : k = o + t
   ·subst c2
    rw [if_pos (by lia), Nat.sub_self]
    simp [show o + t < xs.size by lia]
   ·rw [if_neg (by lia)]
    rw [Array.getElem?_setIfInBounds_ne (by lia)]
noncomputable def wb (xs m : Array Keyed) (o : Nat) : Array Keyed := (m.toList.zipIdx).foldl (fun (a : Array Keyed) (x : Keyed × Nat) => match x with | (p, j) => a.setIfInBounds (o + j) p) xs
theorem wb_at {xs m : Array Keyed} {o : Nat} (h : o + m.size ≤ xs.size) (k : Nat) : (wb xs m o)[k]? = if o ≤ k ∧ k < o + m.size then m[k - o]? else xs[k]? := by
 have := wb_get o m.toList 0 xs (by simpa using h) k
 unfold wb
 rw [this]
 simp
theorem wb_keep {xs m : Array Keyed} {o : Nat} (h : o + m.size ≤ xs.size) (hp : m.toList.Perm (xs.extract o (o + m.size)).toList) : Keep xs (wb xs m o) o (o + m.size) := by
 refine ⟨?_, fun k hk => by rw [wb_at h, if_neg (by lia)]⟩
 rw [Array.perm_iff_toList_perm]
 have e1 : (wb xs m o).toList = xs.toList.take o ++ m.toList ++ xs.toList.drop (o + m.size) := by
  apply List.ext_getElem?
  intro k
  have e : (wb xs m o).toList[k]? = (wb xs m o)[k]? := by simp
  rw [e, wb_at h]
  have lt : (xs.toList.take o).length = o := by simp; lia
  by_cases c1 : k < o
  ·rw [if_neg (by lia), List.append_assoc, List.getElem?_append_left (by lia), List.getElem?_take_of_lt c1]
   simp
  ·by_cases c2 : k < o + m.size
   ·rw [if_pos (by lia), List.append_assoc, List.getElem?_append_right (by lia), lt, List.getElem?_append_left (by simp; lia)]
    simp
   ·rw [if_neg (by lia), List.getElem?_append_right (by rw [List.length_append, lt]; simp; lia), List.getElem?_drop, List.length_append, lt]
    rw [show o + m.size + (k - (o + m.toList.length)) = k by simp; lia]
    simp
 have e2 : xs.toList = xs.toList.take o ++ (xs.extract o (o + m.size)).toList ++ xs.toList.drop (o + m.size) := by
  rw [ext_toList, Nat.add_sub_cancel_left]
  have := take_split xs.toList (i := o) (n := o + m.size) (by lia)
  rw [Nat.add_sub_cancel_left] at this
  rw [← this, List.take_append_drop]
 rw [e1]
 refine List.Perm.trans ?_ (List.Perm.of_eq e2.symm)
 exact List.Perm.append_right _ (List.Perm.append_left _ hp)
theorem ext_get {xs : Array Keyed} {i j k : Nat} (hj : j ≤ xs.size) (h : k < j - i) : (xs.extract i j)[k]? = xs[i + k]? := by
 rw [Array.getElem?_extract]
 rw [if_pos (by lia)]
theorem ext_size {xs : Array Keyed} {i j : Nat} (hj : j ≤ xs.size) : (xs.extract i j).size = j - i := by
 rw [Array.size_extract]
 lia
theorem Asc.srt {xs : Array Keyed} {lo n i j : Nat} (h : Asc blt xs lo n) (h1 : lo ≤ i) (h2 : j ≤ lo + n) (hz : j ≤ xs.size) : Srt blt (xs.extract i j).toList := by
 refine List.pairwise_iff_getElem.mpr fun p q hp hq hpq => ?_
 have hp' : p < j - i := by
  have z := hp
  rw [Array.length_toList, ext_size hz] at z
  exact z
 have hq' : q < j - i := by
  have z := hq
  rw [Array.length_toList, ext_size hz] at z
  exact z
 have e1 : xs[lo + (i - lo + p)]? = some (xs.extract i j).toList[p] := by
  rw [show lo + (i - lo + p) = i + p by lia, ← ext_get hz hp']
  simp [ext_size hz, hp']
 have e2 : xs[lo + (i - lo + q)]? = some (xs.extract i j).toList[q] := by
  rw [show lo + (i - lo + q) = i + q by lia, ← ext_get hz hq']
  simp [ext_size hz, hq']
 exact h _ _ (by lia) (by lia) _ _ e1 e2
theorem mem_ext {xs : Array Keyed} {i j : Nat} {y : Keyed} (hz : j ≤ xs.size) (h : y ∈ (xs.extract i j).toList) : ∃ q, q < j - i ∧ xs[i + q]? = some y := by
 obtain ⟨q, hq, rfl⟩ := List.mem_iff_getElem.mp h
 have hq' : q < j - i := by
  have z := hq
  rw [Array.length_toList, ext_size hz] at z
  exact z
 refine ⟨q, hq', ?_⟩
 rw [← ext_get hz hq']
 simp [ext_size hz, hq']
noncomputable abbrev setP (st : SortSt) (xs : Array Keyed) (p : Array (Nat × Nat × Nat)) (g : Nat) : SortSt := SortSt.mk' (kindOf st) xs p g (failedOf st)
theorem w_mergeAt (O : Ord S blt) (C : Cmp prog w A E s κ S blt) {st : SortSt} {i sa na pw nb pw2 : Nat} {Q : Bool → SortSt → Prop} (hk : kindOf st = κ) (hf : failedOf st = none) (hS : AllS S (arrOf st)) (e1 : (pendingOf st)[i]? = some (sa, na, pw)) (e2 : (pendingOf st)[i + 1]? = some (sa + na, nb, pw2))
  (na1 : 1 ≤ na) (nb1 : 1 ≤ nb) (hz : sa + na + nb ≤ (arrOf st).size) (aa : Asc blt (arrOf st) sa na) (ab : Asc blt (arrOf st) (sa + na) nb)
  (hq : ∀ ys g, Keep (arrOf st) ys sa (sa + na + nb) → Asc blt ys sa (na + nb) → Q true (setP st ys (((pendingOf st).setIfInBounds i (sa, na + nb, pw)).eraseIdxIfInBounds (i + 1)) g)) : wpS (model prog w) A E s (mergeAt' i) Q st := by
 refine wpS_bind (wpS_get ?_)
 rw [e1, e2]
 dsimp only
 refine wpS_bind (wpS_modify (f := fun _ => setP st (arrOf st) (((pendingOf st).setIfInBounds i (sa, na + nb, pw)).eraseIdxIfInBounds (i + 1)) (gallopOf st)) ?_)
 generalize ((pendingOf st).setIfInBounds i (sa, na + nb, pw)).eraseIdxIfInBounds (i + 1) = P at *
 have eb := arr_get (show sa + na < (arrOf st).size by lia)
 refine wpS_bind (w_elem eb (wpS_bind (w_gallop (left := false) (X := fun q => ((arrOf st)[sa + q]?).getD (arrOf st)[sa + na]) O C hk (fun q hq => ?_) (fun q hq => ?_) (hS.at eb) (fun p q hpq hq => ?_) (by lia) fun k k1 p1 p2 => ?_)))
 ·rw [arr_get (show sa + q < (arrOf st).size by lia)]; rfl
 ·rw [arr_get (show sa + q < (arrOf st).size by lia)]; exact hS.at (arr_get (show sa + q < (arrOf st).size by lia))
 ·rw [arr_get (show sa + p < (arrOf st).size by lia), arr_get (show sa + q < (arrOf st).size by lia)]
  exact aa p q hpq hq _ _ (arr_get (show sa + p < (arrOf st).size by lia)) (arr_get (show sa + q < (arrOf st).size by lia))
 have below : ∀ q, q < k → ∀ y, (arrOf st)[sa + q]? = some y → blt (arrOf st)[sa + na] y = false := fun q hq y hy => by
  have := p1 q hq
  rw [hy] at this
  simpa using this
 have above : ∀ q, k ≤ q → q < na → ∀ y, (arrOf st)[sa + q]? = some y → blt (arrOf st)[sa + na] y = true := fun q hq hq2 y hy => by
  have := p2 q hq hq2
  rw [hy] at this
  simpa using this
 have joined : (∀ q, q < na → ∀ y, (arrOf st)[sa + q]? = some y → ∀ r, r < nb → ∀ z, (arrOf st)[sa + na + r]? = some z → blt z y = false) → Asc blt (arrOf st) sa (na + nb) := fun h p q hpq hq x y hx hy => by
  by_cases c1 : q < na
  ·exact aa p q hpq c1 x y hx hy
  ·by_cases c2 : p < na
   ·exact h p c2 x hx (q - na) (by lia) y (by rw [show sa + na + (q - na) = sa + q by lia]; exact hy)
   ·exact ab (p - na) (q - na) (by lia) (by lia) x y (by rw [show sa + na + (p - na) = sa + p by lia]; exact hx) (by rw [show sa + na + (q - na) = sa + q by lia]; exact hy)
 have first_le : ∀ r, r < nb → ∀ z, (arrOf st)[sa + na + r]? = some z → blt z (arrOf st)[sa + na] = false := fun r hr z hz' => ab 0 r (Nat.zero_le _) hr _ z (by rw [Nat.add_zero]; exact eb) hz'
 dsimp only
 refine w_ite (fun c1 => ?_) (fun c1 => ?_)
 ·have c1' : k = na := by
   have := beq_iff_eq.mp c1
   lia
  refine wpS_pure (hq _ _ (Keep.refl _ _ _) (joined fun q hq y hy r hr z hz' => ?_))
  exact O.tr _ _ _ (hS.at hy) (hS.at eb) (hS.at hz') (below q (by lia) y hy) (first_le r hr z hz')
 have kn : k < na := by
  have : ¬ na - k = 0 := fun z => c1 (beq_iff_eq.mpr z)
  lia
 have el := arr_get (show sa + k + (na - k) - 1 < (arrOf st).size by lia)
 have last_ge : ∀ q, q < na → ∀ y, (arrOf st)[sa + q]? = some y → blt (arrOf st)[sa + k + (na - k) - 1] y = false := fun q hq y hy => aa q (na - 1) (by lia) (by lia) y _ hy (by rw [show sa + (na - 1) = sa + k + (na - k) - 1 by lia]; exact el)
 refine wpS_bind (w_elem el (wpS_bind (w_gallop (left := true) (X := fun q => ((arrOf st)[sa + na + q]?).getD (arrOf st)[sa + na]) O C hk (fun q hq => ?_) (fun q hq => ?_) (hS.at el) (fun p q hpq hq => ?_) (by lia) fun k2 k21 q1 q2 => ?_)))
 ·rw [arr_get (show sa + na + q < (arrOf st).size by lia)]; rfl
 ·rw [arr_get (show sa + na + q < (arrOf st).size by lia)]; exact hS.at (arr_get (show sa + na + q < (arrOf st).size by lia))
 ·rw [arr_get (show sa + na + p < (arrOf st).size by lia), arr_get (show sa + na + q < (arrOf st).size by lia)]
  exact ab p q hpq hq _ _ (arr_get (show sa + na + p < (arrOf st).size by lia)) (arr_get (show sa + na + q < (arrOf st).size by lia))
 have under : ∀ r, r < k2 → ∀ z, (arrOf st)[sa + na + r]? = some z → blt z (arrOf st)[sa + k + (na - k) - 1] = true := fun r hr z hz' => by
  have := q1 r hr
  rw [hz'] at this
  simpa using this
 have over : ∀ r, k2 ≤ r → r < nb → ∀ z, (arrOf st)[sa + na + r]? = some z → blt z (arrOf st)[sa + k + (na - k) - 1] = false := fun r hr hr2 z hz' => by
  have := q2 r hr hr2
  rw [hz'] at this
  simpa using this
 dsimp only
 refine w_ite (fun c2 => ?_) (fun c2 => ?_)
 ·have c2' : k2 = 0 := beq_iff_eq.mp c2
  refine wpS_pure (hq _ _ (Keep.refl _ _ _) (joined fun q hq y hy r hr z hz' => ?_))
  exact O.tr _ _ _ (hS.at hy) (hS.at el) (hS.at hz') (last_ge q hq y hy) (over r (by lia) hr z hz')
 have k2n : 1 ≤ k2 := by
  have : ¬ k2 = 0 := fun z => c2 (beq_iff_eq.mpr z)
  lia
 have zx : sa + na ≤ (arrOf st).size := by lia
 have zy : sa + na + k2 ≤ (arrOf st).size := by lia
 have sx : (((arrOf st).extract (sa + k) (sa + na))).size = na - k := by rw [ext_size zx]; lia
 have sy : (((arrOf st).extract (sa + na) (sa + na + k2))).size = k2 := by rw [ext_size zy]; lia
 have Sx : ∀ x ∈ ((arrOf st).extract (sa + k) (sa + na)).toList, S x := fun x hx => let ⟨q, _, e⟩ := mem_ext zx hx; hS.at e
 have Sy : ∀ x ∈ ((arrOf st).extract (sa + na) (sa + na + k2)).toList, S x := fun x hx => let ⟨q, _, e⟩ := mem_ext zy hx; hS.at e
 have srx : Srt blt ((arrOf st).extract (sa + k) (sa + na)).toList := aa.srt (by lia) (by lia) zx
 have sry : Srt blt ((arrOf st).extract (sa + na) (sa + na + k2)).toList := ab.srt (by lia) (by lia) zy
 have ea0 : ((arrOf st).extract (sa + k) (sa + na))[0]? = some (arrOf st)[sa + k] := by rw [ext_get zx (by lia), Nat.add_zero]; exact arr_get _
 have eb0 : ((arrOf st).extract (sa + na) (sa + na + k2))[0]? = some (arrOf st)[sa + na] := by rw [ext_get zy (by lia), Nat.add_zero]; exact eb
 have eal : ((arrOf st).extract (sa + k) (sa + na))[((arrOf st).extract (sa + k) (sa + na)).size - 1]? = some (arrOf st)[sa + k + (na - k) - 1] := by rw [sx, ext_get zx (by lia), show sa + k + (na - k - 1) = sa + k + (na - k) - 1 by lia]; exact el
 have h0 : blt (arrOf st)[sa + na] (arrOf st)[sa + k] = true := above k (Nat.le_refl _) kn _ (arr_get _)
 have hl : ∀ y ∈ ((arrOf st).extract (sa + na) (sa + na + k2)).toList, blt (arrOf st)[sa + k + (na - k) - 1] y = false := fun y hy => by
  obtain ⟨q, hq1, e⟩ := mem_ext zy hy
  exact O.asy _ _ (hS.at e) (hS.at el) (under q (by lia) y e)
 have done : ∀ m g, Good blt (((arrOf st).extract (sa + k) (sa + na)).toList ++ ((arrOf st).extract (sa + na) (sa + na + k2)).toList) m → Q true (setP st (wb (arrOf st) m (sa + k)) P g) := by
  intro m g gd
  have ms : m.size = na - k + k2 := by
   have := gd.perm.length_eq
   rw [List.length_append, Array.length_toList, Array.length_toList, Array.length_toList, sx, sy] at this
   exact this
  have hzm : sa + k + m.size ≤ (arrOf st).size := by lia
  have ej : ((arrOf st).extract (sa + k) (sa + k + m.size)).toList = ((arrOf st).extract (sa + k) (sa + na)).toList ++ ((arrOf st).extract (sa + na) (sa + na + k2)).toList := by
   rw [ext_toList, ext_toList, ext_toList, ms]
   rw [show sa + k + (na - k + k2) - (sa + k) = na - k + k2 by lia, show sa + na - (sa + k) = na - k by lia, Nat.add_sub_cancel_left]
   have := take_split ((arrOf st).toList.drop (sa + k)) (i := na - k) (n := na - k + k2) (by lia)
   rw [this, List.drop_drop, Nat.add_sub_cancel_left, show sa + k + (na - k) = sa + na by lia]
  have kp := wb_keep (xs := arrOf st) (m := m) (o := sa + k) hzm (by rw [ej]; exact gd.perm)
  refine hq _ g (kp.mono (show sa ≤ sa + k by lia) (show sa + k + m.size ≤ sa + na + nb by lia)) fun p q hpq hq' x y hx hy => ?_
  have mm : ∀ t u, m[t]? = some u → (∃ r, k ≤ r ∧ r < na ∧ (arrOf st)[sa + r]? = some u) ∨ ∃ r, r < k2 ∧ (arrOf st)[sa + na + r]? = some u := fun t u hu => by
   have h1 := gd.perm.mem_iff.mp (List.mem_of_getElem? (toList_get hu))
   rcases List.mem_append.mp h1 with h1 | h1
   ·obtain ⟨r, hr, e⟩ := mem_ext zx h1
    exact .inl ⟨k + r, by lia, by lia, by rw [show sa + (k + r) = sa + k + r by lia]; exact e⟩
   ·obtain ⟨r, hr, e⟩ := mem_ext zy h1
    exact .inr ⟨r, by lia, e⟩
  rw [wb_at hzm] at hx hy
  by_cases c3 : sa + k ≤ sa + p ∧ sa + p < sa + k + m.size
  ·rw [if_pos c3] at hx
   by_cases c4 : sa + k ≤ sa + q ∧ sa + q < sa + k + m.size
   ·rw [if_pos c4] at hy
    have sm : ∀ z ∈ m.toList, S z := fun z hz' => by
     have := gd.perm.mem_iff.mp hz'
     rcases List.mem_append.mp this with h1 | h1
     ·exact Sx z h1
     ·exact Sy z h1
    exact srt_at O gd.srt sm (toList_get hx) (toList_get hy) (by lia)
   ·rw [if_neg c4] at hy
    have hyy : (arrOf st)[sa + na + (q - na)]? = some y := by rw [show sa + na + (q - na) = sa + q by lia]; exact hy
    rcases mm _ x hx with ⟨r, r1, r2, er⟩ | ⟨r, r1, er⟩
    ·exact O.tr _ _ _ (hS.at er) (hS.at el) (hS.at hy) (last_ge r r2 x er) (over (q - na) (by lia) (by lia) y hyy)
    ·exact ab r (q - na) (by lia) (by lia) x y er hyy
  ·rw [if_neg c3] at hx
   by_cases c4 : sa + k ≤ sa + q ∧ sa + q < sa + k + m.size
   ·rw [if_pos c4] at hy
    rcases mm _ y hy with ⟨r, r1, r2, er⟩ | ⟨r, r1, er⟩
    ·exact aa p r (by lia) r2 x y hx er
    ·exact O.tr _ _ _ (hS.at hx) (hS.at eb) (hS.at er) (below p (by lia) x hx) (first_le r (by lia) y er)
   ·rw [if_neg c4] at hy
    by_cases c5 : q < k
    ·exact aa p q hpq (by lia) x y hx hy
    ·have hyy : (arrOf st)[sa + na + (q - na)]? = some y := by rw [show sa + na + (q - na) = sa + q by lia]; exact hy
     by_cases c6 : p < k
     ·exact O.tr _ _ _ (hS.at hx) (hS.at eb) (hS.at hy) (below p c6 x hx) (first_le (q - na) (by lia) y hyy)
     ·exact ab (p - na) (q - na) (by lia) (by lia) x y (by rw [show sa + na + (p - na) = sa + p by lia]; exact hx) hyy
 have isn : (failedOf st).isNone = true := by rw [hf]; rfl
 refine w_ite (fun _ => ?_) (fun _ => ?_)
 ·refine wpS_bind (w_mergeLo O C (st := setP st (arrOf st) P (gallopOf st)) hk Sx Sy srx sry ea0 eb0 eal h0 hl fun m g gd => ?_)
  refine wpS_bind (wpS_modify (wpS_bind (wpS_get (wpS_pure ?_))))
  show Q (failedOf st).isNone _
  rw [isn]
  exact done m g gd
 ·refine wpS_bind (w_mergeHi O C (st := setP st (arrOf st) P (gallopOf st)) hk Sx Sy srx sry ea0 eb0 eal h0 hl fun m g gd => ?_)
  refine wpS_bind (wpS_modify (wpS_bind (wpS_get (wpS_pure ?_))))
  show Q (failedOf st).isNone _
  rw [isn]
  exact done m g gd
end
end TS
namespace TS
open PySem PyProof.Rows
noncomputable def Cov (blt : Keyed → Keyed → Bool) (xs : Array Keyed) : Nat → List (Nat × Nat) → Nat → Prop
 | k, [], lo => k = lo
 | k, e :: r, lo => e.1 = k ∧ 1 ≤ e.2 ∧ Asc blt xs k e.2 ∧ Cov blt xs (k + e.2) r lo
noncomputable def prj (e : Nat × Nat × Nat) : Nat × Nat := (e.1, e.2.1)
theorem Asc.keepOut {blt : Keyed → Keyed → Bool} {xs ys : Array Keyed} {lo hi k n : Nat} (h : Asc blt xs k n) (kp : Keep xs ys lo hi) (ho : k + n ≤ lo ∨ hi ≤ k) : Asc blt ys k n := fun i j hij hj x y hx hy => by
 rw [kp.out (k + i) (by lia)] at hx
 rw [kp.out (k + j) (by lia)] at hy
 exact h i j hij hj x y hx hy
theorem Cov.len {blt : Keyed → Keyed → Bool} {xs : Array Keyed} : ∀ {l : List (Nat × Nat)} {k lo : Nat}, Cov blt xs k l lo → k + l.length ≤ lo
 | [], k, lo, h => by
  have : k = lo := h
  simp [this]
 | e :: r, k, lo, ⟨_, h2, _, h4⟩ => by
  have := Cov.len h4
  rw [List.length_cons]
  lia
theorem Cov.snoc {blt : Keyed → Keyed → Bool} {xs : Array Keyed} {n : Nat} (hn : 1 ≤ n) : ∀ {l : List (Nat × Nat)} {k lo : Nat}, Cov blt xs k l lo → Asc blt xs lo n → Cov blt xs k (l ++ [(lo, n)]) (lo + n)
 | [], k, lo, h, a => by
  have e : k = lo := h
  subst e
  exact ⟨rfl, hn, a, rfl⟩
 | e :: r, k, lo, ⟨h1, h2, h3, h4⟩, a => ⟨h1, h2, h3, Cov.snoc hn h4 a⟩
theorem Cov.beyond {blt : Keyed → Keyed → Bool} {xs ys : Array Keyed} {a b : Nat} (kp : Keep xs ys a b) : ∀ {l : List (Nat × Nat)} {k lo : Nat}, Cov blt xs k l lo → lo ≤ a → Cov blt ys k l lo
 | [], k, lo, h, _ => h
 | e :: r, k, lo, ⟨h1, h2, h3, h4⟩, ha => by
  have := Cov.len h4
  exact ⟨h1, h2, h3.keepOut kp (.inl (by lia)), Cov.beyond kp h4 ha⟩
theorem Cov.behind {blt : Keyed → Keyed → Bool} {xs ys : Array Keyed} {a b : Nat} (kp : Keep xs ys a b) : ∀ {l : List (Nat × Nat)} {k lo : Nat}, Cov blt xs k l lo → b ≤ k → Cov blt ys k l lo
 | [], k, lo, h, _ => h
 | e :: r, k, lo, ⟨h1, h2, h3, h4⟩, ha => ⟨h1, h2, h3.keepOut kp (.inr ha), Cov.behind kp h4 (by lia)⟩
theorem Cov.two {blt : Keyed → Keyed → Bool} {xs : Array Keyed} {a b : Nat × Nat} {l2 : List (Nat × Nat)} : ∀ {l1 : List (Nat × Nat)} {k lo : Nat}, Cov blt xs k (l1 ++ a :: b :: l2) lo →
  b.1 = a.1 + a.2 ∧ 1 ≤ a.2 ∧ 1 ≤ b.2 ∧ Asc blt xs a.1 a.2 ∧ Asc blt xs b.1 b.2 ∧ a.1 + a.2 + b.2 ≤ lo ∧
  ∀ ys, Keep xs ys a.1 (a.1 + a.2 + b.2) → Asc blt ys a.1 (a.2 + b.2) → Cov blt ys k (l1 ++ (a.1, a.2 + b.2) :: l2) lo
 | [], k, lo, ⟨h1, h2, h3, h4, h5, h6, h7⟩ => by
  have hl := Cov.len h7
  subst h1
  refine ⟨h4, h2, h5, h3, by rw [h4]; exact h6, by lia, fun ys kp as => ⟨rfl, by simp only; lia, as, ?_⟩⟩
  have e : a.1 + (a.2 + b.2) = a.1 + a.2 + b.2 := by lia
  show Cov blt ys (a.1 + (a.2 + b.2)) l2 lo
  rw [e]
  exact h7.behind kp (Nat.le_refl _)
 | e :: r, k, lo, ⟨h1, h2, h3, h4⟩ => by
  obtain ⟨g1, g2, g3, g4, g5, g6, g7⟩ := Cov.two (l1 := r) h4
  refine ⟨g1, g2, g3, g4, g5, g6, fun ys kp as => ⟨h1, h2, h3.keepOut kp (.inl ?_), g7 ys kp as⟩⟩
  have : ∀ {r : List (Nat × Nat)} {k lo : Nat}, Cov blt xs k (r ++ a :: b :: l2) lo → k ≤ a.1 := by
   intro r
   induction r with
   | nil => intro k lo h; exact Nat.le_of_eq h.1.symm
   | cons x r ih => intro k lo h; have := ih h.2.2.2; lia
  exact this h4
theorem arr_two {p : Array (Nat × Nat × Nat)} {i : Nat} (h : i + 1 < p.size) : ∃ l1 a b l2, p.toList = l1 ++ a :: b :: l2 ∧ l1.length = i ∧ p[i]? = some a ∧ p[i + 1]? = some b := by
 refine ⟨p.toList.take i, p[i], p[i + 1], p.toList.drop (i + 2), ?_, by rw [List.length_take, Array.length_toList]; lia, by rw [Array.getElem?_eq_getElem], by rw [Array.getElem?_eq_getElem]⟩
 have e1 : p.toList.drop i = p[i] :: p.toList.drop (i + 1) := by
  rw [List.drop_eq_getElem_cons (by simp; lia)]
  simp
 have e2 : p.toList.drop (i + 1) = p[i + 1] :: p.toList.drop (i + 2) := by
  rw [List.drop_eq_getElem_cons (by simp; lia)]
  simp
 rw [← e2, ← e1, List.take_append_drop]
theorem arr_joined {p : Array (Nat × Nat × Nat)} {i : Nat} {l1 l2 : List (Nat × Nat × Nat)} {a b e : Nat × Nat × Nat} (h : p.toList = l1 ++ a :: b :: l2) (hl : l1.length = i) : ((p.setIfInBounds i e).eraseIdxIfInBounds (i + 1)).toList = l1 ++ e :: l2 := by
 obtain ⟨p⟩ := p
 have h' : p = l1 ++ a :: b :: l2 := h
 subst h' hl
 simp [List.eraseIdx_append_of_length_le]
theorem arr_modify {p : Array (Nat × Nat × Nat)} {i : Nat} {f : Nat × Nat × Nat → Nat × Nat × Nat} (hf : ∀ x, prj (f x) = prj x) : (p.modify i f).toList.map prj = p.toList.map prj := by
 apply List.ext_getElem?
 intro k
 rw [List.getElem?_map, List.getElem?_map]
 have e : (p.modify i f).toList[k]? = (p.modify i f)[k]? := Array.getElem?_toList
 have e2 : p.toList[k]? = p[k]? := Array.getElem?_toList
 rw [e, e2, Array.getElem?_modify]
 split
 ·cases p[k]? with
  | none => rfl
  | some x => simp [hf]
 ·rfl
section
variable {prog : Program} {w : World} {A : Around} {E : Value → Shared → Prop} {s : Shared} {κ : SortKind} {S : Keyed → Prop} {blt : Keyed → Keyed → Bool}
theorem w_join (O : Ord S blt) (C : Cmp prog w A E s κ S blt) {st : SortSt} {i lo : Nat} {Q : Bool → SortSt → Prop} (hk : kindOf st = κ) (hf : failedOf st = none) (hS : AllS S (arrOf st)) (hi : i + 1 < (pendingOf st).size) (hz : lo ≤ (arrOf st).size) (cv : Cov blt (arrOf st) 0 ((pendingOf st).toList.map prj) lo)
  (hq : ∀ ys P g, Keep (arrOf st) ys 0 lo → Cov blt ys 0 (P.toList.map prj) lo → P.size + 1 = (pendingOf st).size → Q true (setP st ys P g)) : wpS (model prog w) A E s (mergeAt' i) Q st := by
 obtain ⟨l1, a, b, l2, e, hl, ea, eb⟩ := arr_two hi
 rw [e, List.map_append, List.map_cons, List.map_cons] at cv
 obtain ⟨g1, g2, g3, g4, g5, g6, g7⟩ := cv.two
 obtain ⟨sa, na, pw⟩ := a
 obtain ⟨sb, nb, pw2⟩ := b
 simp only [prj] at g1 g2 g3 g4 g5 g6 g7
 subst g1
 refine w_mergeAt O C hk hf hS ea eb g2 g3 (by lia) g4 g5 fun ys g kp as => ?_
 refine hq ys _ g (kp.mono (Nat.zero_le _) (by lia)) ?_ ?_
 ·rw [arr_joined e hl, List.map_append, List.map_cons]
  exact g7 ys kp as
 ·have h1 := congrArg List.length (arr_joined (e := (sa, na + nb, pw)) e hl)
  have h2 := congrArg List.length e
  simp only [List.length_append, List.length_cons, Array.length_toList] at h1 h2
  lia
theorem w_sortRuns (O : Ord S blt) (C : Cmp prog w A E s κ S blt) {st : SortSt} {Q : Unit → SortSt → Prop} (hk : kindOf st = κ) (hf : failedOf st = none) (hp : pendingOf st = #[]) (hS : AllS S (arrOf st))
  (hq : ∀ ys P g, Keep (arrOf st) ys 0 (arrOf st).size → Asc blt ys 0 (arrOf st).size → Q () (setP st ys P g)) : wpS (model prog w) A E s sortRuns' Q st := by
 refine wpS_bind (wpS_get ?_)
 refine wpS_bind (wpS_mono (Q := fun (c : Option Unit × Nat) st' => ∃ ys P g, st' = setP st ys P g ∧ c.1 = none ∧ Keep (arrOf st) ys 0 (arrOf st).size ∧ Cov blt ys 0 (P.toList.map prj) (arrOf st).size)
  (wpS_forRange (fun i (c : Option Unit × Nat) st' => ∃ ys P g, st' = setP st ys P g ∧ c.1 = none ∧ i ≤ c.2 ∧ c.2 ≤ (arrOf st).size ∧ Keep (arrOf st) ys 0 (arrOf st).size ∧ Cov blt ys 0 (P.toList.map prj) c.2) ?_ ?_ ⟨arrOf st, pendingOf st, gallopOf st, rfl, rfl, Nat.le_refl _, Nat.zero_le _, Keep.refl _ _ _, by rw [hp]; rfl⟩) ?_)
 ·rintro i ⟨r, lo⟩ st' _ hi ⟨ys, P, g, rfl, rfl, h1, h2, ky, cv⟩
  simp only at h1 h2 cv
  have hi : i < (arrOf st).size := hi
  refine w_ite (fun c1 => ?_) (fun c1 => ?_)
  ·have e : lo = (arrOf st).size := by
    have : lo ≥ (arrOf st).size := c1
    lia
   subst e
   exact wpS_pure ⟨ys, P, g, rfl, rfl, ky, cv⟩
  have hlo : lo < (arrOf st).size := Nat.lt_of_not_le c1
  have sy := ky.size
  refine wpS_bind (w_countRun O C (st := setP st ys P g) hk (hS.keep ky) (show lo + ((arrOf st).size - lo) ≤ ys.size by lia) (by lia) fun n ys2 n1 n2 ky2 as => ?_)
  have n2 : n ≤ (arrOf st).size - lo := n2
  have el : lo + ((arrOf st).size - lo) = (arrOf st).size := by lia
  change Keep ys ys2 lo (lo + ((arrOf st).size - lo)) at ky2
  rw [el] at ky2
  have cv2 := cv.beyond ky2 (Nat.le_refl _)
  have ky3 := ky.trans (ky2.mono (Nat.zero_le _) (Nat.le_refl _))
  have sy2 := ky3.size
  refine w_ite (fun c2 => ?_) (fun c2 => ?_)
  ·refine wpS_bind (w_rule ?_)
   have hmin : n ≤ min ((arrOf st).size - lo) (minRun' (arrOf st).size (arrOf st).size 0) := by
    have : n < minRun' (arrOf st).size (arrOf st).size 0 := c2
    lia
   refine wpS_bind (w_binary O C (st := setP st ys2 P g) (n := min ((arrOf st).size - lo) (minRun' (arrOf st).size (arrOf st).size 0)) hk (hS.keep ky3) (show lo + min ((arrOf st).size - lo) (minRun' (arrOf st).size (arrOf st).size 0) ≤ ys2.size by lia) n1 hmin as fun xs3 kx3 as4 => ?_)
   change Keep ys2 xs3 lo _ at kx3
   have ky4 := ky3.trans (kx3.mono (Nat.zero_le _) (show lo + min ((arrOf st).size - lo) (minRun' (arrOf st).size (arrOf st).size 0) ≤ (arrOf st).size by lia))
   have cv4 := cv2.beyond kx3 (Nat.le_refl _)
   refine w_ite (fun z => by cases z) (fun _ => ?_)
   have n31 : 1 ≤ min ((arrOf st).size - lo) (minRun' (arrOf st).size (arrOf st).size 0) := by lia
   show wpS _ _ _ _ _ _ (setP st xs3 P g)
   refine wpS_bind (wpS_get ?_)
   split
   ·rename_i s1 n1 pw1 _
    dsimp only
    refine wpS_bind (wpS_mono (Q := fun (c : Option Unit × Unit) st' => ∃ zs P2 g2, st' = setP st zs P2 g2 ∧ c.1 = none ∧ Keep (arrOf st) zs 0 (arrOf st).size ∧ Cov blt zs 0 (P2.toList.map prj) lo ∧ Asc blt zs lo (min ((arrOf st).size - lo) (minRun' (arrOf st).size (arrOf st).size 0)))
     (wpS_forRange (fun _ (c : Option Unit × Unit) st' => ∃ zs P2 g2, st' = setP st zs P2 g2 ∧ c.1 = none ∧ Keep (arrOf st) zs 0 (arrOf st).size ∧ Cov blt zs 0 (P2.toList.map prj) lo ∧ Asc blt zs lo (min ((arrOf st).size - lo) (minRun' (arrOf st).size (arrOf st).size 0))) ?_ (fun c st' h => h) ⟨xs3, P, g, rfl, rfl, ky4, cv4, as4⟩) ?_)
    ·rintro j ⟨r, u⟩ st' _ hj ⟨zs, P2, g2, rfl, rfl, kz, cz, az⟩
     refine wpS_bind (wpS_get ?_)
     dsimp only
     by_cases c2 : P2.size > 1
     ·rw [if_pos c2]
      obtain ⟨⟨y1, y2, older⟩, ey⟩ : ∃ y, P2[P2.size - 2]? = some y := ⟨P2[P2.size - 2], by rw [Array.getElem?_eq_getElem]⟩
      rw [ey]
      dsimp only
      refine w_ite (fun _ => ?_) (fun _ => ?_)
      ·exact wpS_pure ⟨zs, P2, g2, rfl, rfl, kz, cz, az⟩
      refine wpS_bind (w_join O C (st := setP st zs P2 g2) (lo := lo) hk hf (hS.keep kz) (show P2.size - 2 + 1 < P2.size by lia) (show lo ≤ zs.size by rw [kz.size]; lia) cz fun us P3 g3 ku cu su => ?_)
      refine w_ite (fun z => by cases z) (fun _ => ?_)
      exact wpS_pure ⟨us, P3, g3, rfl, rfl, kz.trans (ku.mono (Nat.le_refl _) (show lo ≤ (arrOf st).size by lia)), cu, az.keepOut ku (.inr (Nat.le_refl _))⟩
     ·rw [if_neg c2]
      exact wpS_pure ⟨zs, P2, g2, rfl, rfl, kz, cz, az⟩
    rintro ⟨r, u⟩ st' ⟨zs, P2, g2, rfl, e, kz, cz, az⟩
    simp only at e
    subst e
    dsimp only
    refine wpS_bind (wpS_modify ?_)
    have cz' : ∀ f : Nat × Nat × Nat → Nat × Nat × Nat, (∀ x, prj (f x) = prj x) → Cov blt zs 0 ((P2.modify (P2.size - 1) f).toList.map prj) lo := fun f hf => by
     rw [arr_modify hf]
     exact cz
    refine wpS_bind (wpS_modify ?_)
    refine wpS_pure ⟨zs, _, g2, rfl, rfl, (show i + 1 ≤ lo + (min ((arrOf st).size - lo) (minRun' (arrOf st).size (arrOf st).size 0)) by lia), (show lo + (min ((arrOf st).size - lo) (minRun' (arrOf st).size (arrOf st).size 0)) ≤ (arrOf st).size by lia), kz, ?_⟩
    rw [Array.toList_push, List.map_append]
    refine Cov.snoc n31 (cz' _ ?_) az
    exact fun _ => rfl
   ·refine wpS_bind (wpS_modify ?_)
    refine wpS_pure ⟨xs3, _, g, rfl, rfl, (show i + 1 ≤ lo + (min ((arrOf st).size - lo) (minRun' (arrOf st).size (arrOf st).size 0)) by lia), (show lo + (min ((arrOf st).size - lo) (minRun' (arrOf st).size (arrOf st).size 0)) ≤ (arrOf st).size by lia), ky4, ?_⟩
    rw [Array.toList_push, List.map_append]
    exact cv4.snoc n31 as4
  ·skip
   obtain ⟨xs3, hxs⟩ : ∃ xs3, xs3 = ys2 := ⟨_, rfl⟩
   obtain ⟨n3, hn3⟩ : ∃ n3, n3 = n := ⟨_, rfl⟩
   have ky4 : Keep (arrOf st) xs3 0 (arrOf st).size := by rw [hxs]; exact ky3
   have cv4 : Cov blt xs3 0 (P.toList.map prj) lo := by rw [hxs]; exact cv2
   have as4 : Asc blt xs3 lo n3 := by rw [hxs, hn3]; exact as
   have n31 : 1 ≤ n3 := by lia
   have n32 : lo + n3 ≤ (arrOf st).size := by lia
   show wpS _ _ _ _ _ _ (setP st ys2 P g)
   rw [← hxs, ← hn3]
   refine wpS_bind (wpS_get ?_)
   split
   ·rename_i s1 n1 pw1 _
    dsimp only
    refine wpS_bind (wpS_mono (Q := fun (c : Option Unit × Unit) st' => ∃ zs P2 g2, st' = setP st zs P2 g2 ∧ c.1 = none ∧ Keep (arrOf st) zs 0 (arrOf st).size ∧ Cov blt zs 0 (P2.toList.map prj) lo ∧ Asc blt zs lo n3)
     (wpS_forRange (fun _ (c : Option Unit × Unit) st' => ∃ zs P2 g2, st' = setP st zs P2 g2 ∧ c.1 = none ∧ Keep (arrOf st) zs 0 (arrOf st).size ∧ Cov blt zs 0 (P2.toList.map prj) lo ∧ Asc blt zs lo n3) ?_ (fun c st' h => h) ⟨xs3, P, g, rfl, rfl, ky4, cv4, as4⟩) ?_)
    ·rintro j ⟨r, u⟩ st' _ hj ⟨zs, P2, g2, rfl, rfl, kz, cz, az⟩
     refine wpS_bind (wpS_get ?_)
     dsimp only
     by_cases c2 : P2.size > 1
     ·rw [if_pos c2]
      obtain ⟨⟨y1, y2, older⟩, ey⟩ : ∃ y, P2[P2.size - 2]? = some y := ⟨P2[P2.size - 2], by rw [Array.getElem?_eq_getElem]⟩
      rw [ey]
      dsimp only
      refine w_ite (fun _ => ?_) (fun _ => ?_)
      ·exact wpS_pure ⟨zs, P2, g2, rfl, rfl, kz, cz, az⟩
      refine wpS_bind (w_join O C (st := setP st zs P2 g2) (lo := lo) hk hf (hS.keep kz) (show P2.size - 2 + 1 < P2.size by lia) (show lo ≤ zs.size by rw [kz.size]; lia) cz fun us P3 g3 ku cu su => ?_)
      refine w_ite (fun z => by cases z) (fun _ => ?_)
      exact wpS_pure ⟨us, P3, g3, rfl, rfl, kz.trans (ku.mono (Nat.le_refl _) (show lo ≤ (arrOf st).size by lia)), cu, az.keepOut ku (.inr (Nat.le_refl _))⟩
     ·rw [if_neg c2]
      exact wpS_pure ⟨zs, P2, g2, rfl, rfl, kz, cz, az⟩
    rintro ⟨r, u⟩ st' ⟨zs, P2, g2, rfl, e, kz, cz, az⟩
    simp only at e
    subst e
    dsimp only
    refine wpS_bind (wpS_modify ?_)
    have cz' : ∀ f : Nat × Nat × Nat → Nat × Nat × Nat, (∀ x, prj (f x) = prj x) → Cov blt zs 0 ((P2.modify (P2.size - 1) f).toList.map prj) lo := fun f hf => by
     rw [arr_modify hf]
     exact cz
    refine wpS_bind (wpS_modify ?_)
    refine wpS_pure ⟨zs, _, g2, rfl, rfl, (show i + 1 ≤ lo + n3 by lia), (show lo + n3 ≤ (arrOf st).size by lia), kz, ?_⟩
    rw [Array.toList_push, List.map_append]
    refine Cov.snoc n31 (cz' _ ?_) az
    exact fun _ => rfl
   ·refine wpS_bind (wpS_modify ?_)
    refine wpS_pure ⟨xs3, _, g, rfl, rfl, (show i + 1 ≤ lo + n3 by lia), (show lo + n3 ≤ (arrOf st).size by lia), ky4, ?_⟩
    rw [Array.toList_push, List.map_append]
    exact cv4.snoc n31 as4
 ·rintro ⟨r, lo⟩ st' ⟨ys, P, g, rfl, rfl, h1, h2, ky, cv⟩
  simp only at h2 cv
  have h1 : max 0 (arrOf st).size ≤ lo := h1
  have e : lo = (arrOf st).size := by lia
  subst e
  exact ⟨ys, P, g, rfl, rfl, ky, cv⟩
 ·rintro ⟨r, lo⟩ st' ⟨ys, P, g, rfl, e, ky, cv⟩
  simp only at e
  subst e
  have hlen := cv.len
  rw [List.length_map, Array.length_toList] at hlen
  refine wpS_bind (wpS_mono (Q := fun (c : Option Unit × Unit) st' => ∃ ys P g, st' = setP st ys P g ∧ c.1 = none ∧ Keep (arrOf st) ys 0 (arrOf st).size ∧ Cov blt ys 0 (P.toList.map prj) (arrOf st).size ∧ P.size ≤ 1)
   (wpS_forRange (fun i (c : Option Unit × Unit) st' => ∃ ys P g, st' = setP st ys P g ∧ c.1 = none ∧ Keep (arrOf st) ys 0 (arrOf st).size ∧ Cov blt ys 0 (P.toList.map prj) (arrOf st).size ∧ P.size + i ≤ (arrOf st).size) ?_ ?_ ⟨ys, P, g, rfl, rfl, ky, cv, by lia⟩) ?_)
  ·rintro i ⟨r, u⟩ st' _ hi ⟨ys, P, g, rfl, rfl, ky, cv, hs⟩
   have hi : i < (arrOf st).size := hi
   refine wpS_bind (wpS_get ?_)
   refine w_ite (fun c1 => ?_) (fun c1 => ?_)
   ·exact wpS_pure ⟨ys, P, g, rfl, rfl, ky, cv, c1⟩
   have c1' : 2 ≤ P.size := by
    have : ¬ P.size ≤ 1 := c1
    lia
   refine wpS_bind (w_join O C (st := setP st ys P g) (lo := (arrOf st).size) hk hf (hS.keep ky) ?_ (Nat.le_of_eq ky.size.symm) cv fun zs P2 g2 kz cz sz => ?_)
   ·have key : ∀ (o : Option Bool), (if o = some true then P.size - 2 - 1 else P.size - 2) + 1 < P.size := fun o => by split <;> lia
    have key2 : ∀ (c : Bool), (if c = true then P.size - 2 - 1 else P.size - 2) + 1 < P.size := fun c => by split <;> lia
    exact key2 _
   ·change P2.size + 1 = P.size at sz
    refine w_ite (fun z => by cases z) (fun _ => ?_)
    exact wpS_pure ⟨zs, P2, g2, rfl, rfl, ky.trans kz, cz, by lia⟩
  ·rintro ⟨r, u⟩ st' ⟨ys, P, g, rfl, rfl, ky, cv, hs⟩
   have hs : P.size + max 0 (arrOf st).size ≤ (arrOf st).size := hs
   exact ⟨ys, P, g, rfl, rfl, ky, cv, by lia⟩
  ·rintro ⟨r, u⟩ st' ⟨ys, P, g, rfl, e, ky, cv, hs⟩
   simp only at e
   subst e
   refine wpS_pure (hq ys P g ky ?_)
   cases hP : P.toList with
   | nil =>
    rw [hP] at cv
    have e : 0 = (arrOf st).size := cv
    rw [← e]
    exact fun i j _ hj => absurd hj (Nat.not_lt_zero _)
   | cons a r =>
    have hr : r = [] := by
     have := congrArg List.length hP
     rw [Array.length_toList, List.length_cons] at this
     exact List.length_eq_zero_iff.mp (by lia)
    subst hr
    rw [hP] at cv
    obtain ⟨_, _, h3, h4⟩ := cv
    have e : 0 + (prj a).2 = (arrOf st).size := h4
    rw [← e, Nat.zero_add]
    exact h3
end
end TS
namespace TS
open PySem PyProof.Rows
noncomputable def MX : Nat := 10000001
section
variable {prog : Program} {w : World} {A : Around} {E : Value → Shared → Prop} {s : Shared} {κ : SortKind} {S : Keyed → Prop} {blt : Keyed → Keyed → Bool}
theorem w_sortRunsS (O : Ord S blt) (C : Cmp prog w A E s κ S blt) {st : SortSt} {Q : Unit → SortSt → Prop} (hk : kindOf st = κ) (hf : failedOf st = none) (hp : pendingOf st = #[]) (hS : AllS S (arrOf st)) (_ : 1 ≤ (arrOf st).size ∧ (arrOf st).size < MX)
  (hq : ∀ ys P g, Keep (arrOf st) ys 0 (arrOf st).size → Asc blt ys 0 (arrOf st).size → Q () (setP st ys P g)) : wpS (model prog w) A E s sortRuns' Q st := w_sortRuns O C hk hf hp hS hq
end
noncomputable def Fits (n : Nat) : Prop := n ≤ 10000000 ∧ n < MX
noncomputable def Kept (h h' : Heap) (a : Addr) : Prop := ∀ b o, b ≠ a → h.get? b = some o → h'.get? b = some o
section
variable {prog : Program} {w : World} {A : Around} {E : Value → Shared → Prop} {s : Shared} {κ : SortKind} {S : Keyed → Prop} {blt : Keyed → Keyed → Bool}
theorem cmp_of (h : ∀ (x y : Keyed) (Q : Bool → Shared → Prop), S x → S y → Q (blt x y) s → wpAny (model prog w) A (keyLt' κ x.1 y.1) Q (fun _ _ => False) s) : Cmp prog w A E s κ S blt := fun x y st Q sx sy hk hq => by
 rw [lt'_eq]; refine wpS_bind (wpS_get ?_); rw [hk]
 exact wpS_bind (wpS_lift (wpAny_attempt (wpAny_mono (h x y (fun b s' => b = blt x y ∧ s' = s) sx sy ⟨rfl, rfl⟩) (fun b s' e => by obtain ⟨rfl, rfl⟩ := e; exact ⟨rfl, wpS_pure hq⟩) fun _ _ f => f.elim)))
theorem pw_of {ys : Array Keyed} {n : Nat} (hn : ys.size = n) (h : Asc blt ys 0 n) : ys.toList.Pairwise fun x y => blt y x = false := by
 rw [List.pairwise_iff_getElem]; intro i j hi hj hij
 have hi' : i < ys.size := by simpa using hi
 have hj' : j < ys.size := by simpa using hj
 refine h i j (Nat.le_of_lt hij) (by lia) _ _ ?_ ?_ <;> simp [hi', hj']
theorem w_run (O : Ord S blt) {ps : List Keyed} {Q : SortSt → Shared → Prop} (C : Cmp prog w A E s κ S blt) (hS : ∀ p ∈ ps, S p) (hx : 1 ≤ ps.length ∧ ps.length < MX)
  (hq : ∀ (out : List Keyed) (st : SortSt), arrOf st = out.toArray → failedOf st = none → out.Perm ps → out.Pairwise (fun x y => blt y x = false) → Q st s) :
  wpAny (model prog w) A ((sortRuns').run (SortSt.mk' κ ps.toArray #[] 7 none)) (fun r s' => Q r.2 s') E s := by
 have key : wpS (model prog w) A E s sortRuns' (fun _ st => Q st s) (SortSt.mk' κ ps.toArray #[] 7 none) := by
  refine w_sortRunsS O C rfl rfl rfl (fun p hp => hS p (by simpa using hp)) (by show 1 ≤ ps.toArray.size ∧ ps.toArray.size < MX; rw [List.size_toArray]; exact hx) fun ys P g kp as => ?_
  refine hq ys.toList _ (by simp [setP]) rfl ?_ (pw_of kp.size as)
  have := kp.perm.toList
  simpa using this
 exact wpAny_mono key (fun r s' e => by obtain ⟨rfl, e⟩ := e; exact e) fun _ _ e => e
theorem outs_of {vs : List Value} {out : List Keyed} (hp : out.Perm (vs.zip vs)) (hw : out.Pairwise fun x y => blt y x = false) : (out.map (·.2)).Perm vs ∧ (out.map (·.2)).Pairwise fun x y => blt (y, y) (x, x) = false := by
 have e2 : (vs.zip vs).map (·.2) = vs := List.map_snd_zip (Nat.le_refl _)
 refine ⟨by have := hp.map (·.2); rwa [e2] at this, ?_⟩
 rw [List.pairwise_map]
 refine hw.imp_of_mem fun {x y} hx hy h => ?_
 have dx := mem_zip_self (hp.mem_iff.mp hx)
 have dy := mem_zip_self (hp.mem_iff.mp hy)
 have ex : x = (x.2, x.2) := Prod.ext dx.1 rfl
 have ey : y = (y.2, y.2) := Prod.ext dy.1 rfl
 rw [ex, ey] at h; exact h
theorem w_listsort (O : Ord S blt) {a : Addr} {vs : List Value} {n : Nat} {P : PySem.Fin → Shared → Prop} (ho : s.heap.get? a = some (seqObj "list" vs.toArray n)) (hzx : Fits vs.length) (hS : ∀ v ∈ vs, S (v, v))
  (hk : 2 ≤ vs.length → ∀ h', Kept s.heap h' a → ∀ Q : SortKind → Shared → Prop, Q κ { s with heap := h' } → wpAny (model prog w) A (keyKind' vs.toArray) Q (fun _ _ => False) { s with heap := h' })
  (hc : 2 ≤ vs.length → ∀ h', Kept s.heap h' a → ∀ (x y : Keyed) (Q : Bool → Shared → Prop), S x → S y → Q (blt x y) { s with heap := h' } → wpAny (model prog w) A (keyLt' κ x.1 y.1) Q (fun _ _ => False) { s with heap := h' })
  (h : ∀ out : List Value, out.Perm vs → out.Pairwise (fun x y => blt (y, y) (x, x) = false) → P (.done (.ret .none)) { s with heap := sortedHeap s.heap a vs out.toArray }) :
  wpAny (model prog w) A (Builtin.«list.sort» ⟨[.ref a], []⟩) P E s := by
 obtain ⟨hz, hx⟩ := hzx
 have hl : vs.toArray.size ≤ sizeLine := by rw [sizeLine_eq, List.size_toArray]; lia
 have ha := Heap.lt_size ho
 obtain ⟨e1, ho1⟩ : ∃ e1, (s.heap.update a (Obj.mapSeq fun _ => (#[] : Array Value))).get? a = some (seqObj "list" #[] e1) := ⟨_, get?_update_seq ho fun _ => #[]⟩
 rw [list_sort_plain]; refine wpAny_bind (listItems_at ho rfl (wpAny_bind (listUpdate_at ho rfl ?_ hl (Nat.zero_le _))))
 refine wpAny_bind (seqEpoch_at ho1 rfl (wpAny_bind (wpAny_newTuple ?_ (by show vs.length ≤ _; simpa using hl))))
 refine wpAny_bind (wpAny_newList (wpAny_holding ?_) (Nat.zero_le _))
 show wpAny (model prog w) A _ P E { s with heap := ((s.heap.update a (Obj.mapSeq fun _ => (#[] : Array Value))).push (seqObj "tuple" vs.toArray 0)).push (seqObj "list" #[] 0) }
 have ho6 : (((s.heap.update a (Obj.mapSeq fun _ => (#[] : Array Value))).push (seqObj "tuple" vs.toArray 0)).push (seqObj "list" #[] 0)).get? a = some (seqObj "list" #[] e1) := Heap.get?_push_of_some _ (Heap.get?_push_of_some _ ho1)
 have kp : Kept s.heap (((s.heap.update a (Obj.mapSeq fun _ => (#[] : Array Value))).push (seqObj "tuple" vs.toArray 0)).push (seqObj "list" #[] 0)) a := fun b o hb e => Heap.get?_push_of_some _ (Heap.get?_push_of_some _ (by rw [Heap.get?_update_ne _ _ _ _ hb]; exact e))
 dsimp only
 have ez : vs.toArray.zip vs.toArray = (vs.zip vs).toArray := by simp
 by_cases h2 : vs.toArray.size < 2
 ·rw [if_pos h2, if_pos h2]; refine wpAny_bind (wpAny_pure ?_)
  rw [StateT.run_pure]; refine wpAny_bind (wpAny_pure ?_); dsimp only
  refine wpAny_bind (seqEpoch_at ho6 rfl (wpAny_bind (listUpdate_at ho6 rfl ?_ (Nat.zero_le _) (hsz2 := by show ((vs.toArray.zip vs.toArray).map (·.2)).size ≤ _; rw [sizeLine_eq]; simp; simp at h2; lia))))
  simp only [bne_self_eq_false, Bool.false_eq_true, if_false]
  have hw : vs.Pairwise fun x y => blt (y, y) (x, x) = false := by
   match vs, h2 with
   | [], _ => exact .nil
   | [_], _ => exact List.pairwise_singleton _ _
   | _ :: _ :: _, h2 => simp at h2; lia
  have fin := h vs (List.Perm.refl _) hw
  have eo : (vs.toArray.zip vs.toArray).map (·.2) = vs.toArray := by rw [ez, List.map_toArray, List.map_snd_zip (Nat.le_refl _)]
  refine wpAny_pure ?_
  rw [← eo] at fin; exact fin
 ·have h2' : 2 ≤ vs.length := by simpa using h2
  rw [if_neg h2, if_neg h2]; refine wpAny_bind (wpAny_mono (hk h2' _ kp (fun k s' => k = κ ∧ s' = _) ⟨rfl, rfl⟩) ?_ fun _ _ f => f.elim)
  rintro k s' ⟨rfl, rfl⟩
  rw [ez]; refine wpAny_bind (wpAny_mono (w_run (E := E) (Q := fun st s' => s' = _ ∧ failedOf st = none ∧ ∃ out : List Keyed, arrOf st = out.toArray ∧ out.Perm (vs.zip vs) ∧ out.Pairwise (fun x y => blt y x = false)) O (cmp_of (hc h2' _ kp)) (fun p hp => ?_) (by rw [List.length_zip, Nat.min_self]; exact ⟨by lia, hx⟩) fun out st a1 a2 a3 a4 => ⟨rfl, a2, out, a1, a3, a4⟩) ?_ fun _ _ e => e)
  ·have := mem_zip_self hp
   have e : p = (p.1, p.1) := Prod.ext rfl this.1.symm
   rw [e]; exact hS _ this.2
  rintro ⟨⟨⟩, st⟩ s' ⟨rfl, hf, out, ea, hp, hw⟩
  have ⟨p1, p2⟩ := outs_of hp hw
  have eo : (arrOf st).map (·.2) = (out.map (·.2)).toArray := by rw [ea, List.map_toArray]
  have lo : (out.map (·.2)).length = vs.length := p1.length_eq
  dsimp only; refine wpAny_bind (seqEpoch_at ho6 rfl (wpAny_bind (listUpdate_at ho6 rfl ?_ (Nat.zero_le _) (hsz2 := by rw [eo, sizeLine_eq, List.size_toArray, lo]; lia))))
  rw [hf]; simp only [bne_self_eq_false, Bool.false_eq_true, if_false]
  refine wpAny_pure ?_
  have fin := h _ p1 p2
  rw [← eo] at fin; exact fin
theorem w_sorted (O : Ord S blt) {l : Addr} {vs : List Value} {Q : Value → Shared → Prop} (hl : s.heap.IsList l vs.toArray) (hzx : Fits vs.length) (hS : ∀ v ∈ vs, S (v, v))
  (hk : 2 ≤ vs.length → ∀ h' : Heap, (∀ b o, s.heap.get? b = some o → h'.get? b = some o) → ∀ Q : SortKind → Shared → Prop, Q κ { s with heap := h' } → wpAny (model prog w) A.in1.in1 (keyKind' vs.toArray) Q (fun _ _ => False) { s with heap := h' })
  (hc : 2 ≤ vs.length → ∀ h' : Heap, (∀ b o, s.heap.get? b = some o → h'.get? b = some o) → ∀ (x y : Keyed) (Q : Bool → Shared → Prop), S x → S y → Q (blt x y) { s with heap := h' } → wpAny (model prog w) A.in1.in1 (keyLt' κ x.1 y.1) Q (fun _ _ => False) { s with heap := h' })
  (h : ∀ out : List Value, out.Perm vs → out.Pairwise (fun x y => blt (y, y) (x, x) = false) → Q (.ref (s.heap.objs.size + 1)) { s with heap := sortedAll s.heap vs out.toArray }) :
  wpAny (model prog w) A (call (.builtin "sorted") [.ref l]) Q E s := by
 have hl0 : vs.length ≤ sizeLine := by have := hzx.1; rw [sizeLine_eq]; lia
 refine Calls.call_function_entry kind_sorted plain_sorted entry_sorted (args_sorted1 _) ?_
 unfold Builtin.«sorted»; refine wpAny_bind (m := checkCount "sorted" 1 1 _) (wpAny_pure (wpAny_bind (collect_list hl (wpAny_bind (wpAny_newList ?_ hl0)) hl0)))
 have sz : ((s.heap.push (seqObj "list" #[] 0)).update s.heap.objs.size (Obj.mapSeq (· ++ vs.toArray))).objs.size = s.heap.objs.size + 1 := by rw [Heap.size_update, size_push']
 have hoL : (((s.heap.push (seqObj "list" #[] 0)).update s.heap.objs.size (Obj.mapSeq (· ++ vs.toArray))).push (seqObj "list" vs.toArray 0)).get? (s.heap.objs.size + 1) = some (seqObj "list" vs.toArray 0) := by rw [← sz]; exact Heap.get?_push_size _ rfl
 have keep : ∀ b o, s.heap.get? b = some o → b ≠ s.heap.objs.size + 1 ∧ (((s.heap.push (seqObj "list" #[] 0)).update s.heap.objs.size (Obj.mapSeq (· ++ vs.toArray))).push (seqObj "list" vs.toArray 0)).get? b = some o := fun b o q => by
  have lt : b < s.heap.objs.size := Heap.lt_size q
  refine ⟨Nat.ne_of_lt (Nat.lt_succ_of_lt lt), Heap.get?_push_of_some _ ?_⟩
  rw [Heap.get?_update_ne _ _ _ _ (Nat.ne_of_lt lt)]; exact Heap.get?_push_of_some _ q
 show wpAny _ _ _ _ _ { s with heap := ((s.heap.push (seqObj "list" #[] 0)).update s.heap.objs.size (Obj.mapSeq (· ++ vs.toArray))).push (seqObj "list" vs.toArray 0) }
 rw [sz]; refine wpAny_bind (wpAny_holding (wpAny_call_entry slot_list_sort ⟨_, hoL, rfl⟩ entry_list_sort ?body (args_list_sort _)))
 case body =>
  refine w_listsort O hoL hzx hS (fun h2 h' kp => hk h2 h' fun b o e => kp b o (keep b o e).1 (keep b o e).2) (fun h2 h' kp => hc h2 h' fun b o e => kp b o (keep b o e).1 (keep b o e).2) fun out p1 p2 => ⟨_, rfl, wpAny_pure ⟨_, rfl, ?_⟩⟩
  exact h out p1 p2
end
end TS
namespace L2
open PySem PySem.Spec PyProof.Rows
inductive Sh where
 | int | str | tup (l : List Sh)
mutual
noncomputable def Dv.isA : Sh → Dv → Bool
 | .int, .int _ => true
 | .str, .str _ => true
 | .tup l, .tup r => Dv.areA l r
 | _, _ => false
noncomputable def Dv.areA : List Sh → List Dv → Bool
 | [], [] => true
 | s :: l, d :: r => Dv.isA s d && Dv.areA l r
 | _, _ => false
end
mutual
noncomputable def dcmp : Dv → Dv → Ordering
 | .int i, .int j => if i = j then .eq else if i < j then .lt else .gt
 | .str x, .str y => if x = y then .eq else if x.cps.toList < y.cps.toList then .lt else .gt
 | .tup l, .tup r => dcmps l r
 | _, _ => .eq
noncomputable def dcmps : List Dv → List Dv → Ordering
 | [], [] => .eq
 | [], _ :: _ => .lt
 | _ :: _, [] => .gt
 | d :: l, e :: r => (dcmp d e).then (dcmps l r)
end
theorem isA_int {d : Dv} (h : Dv.isA .int d = true) : ∃ i, d = .int i := by
 cases d with
 | int i => exact ⟨i, rfl⟩
 | _ => simp [Dv.isA] at h
theorem isA_str {d : Dv} (h : Dv.isA .str d = true) : ∃ i, d = .str i := by
 cases d with
 | str i => exact ⟨i, rfl⟩
 | _ => simp [Dv.isA] at h
theorem isA_tup {l : List Sh} {d : Dv} (h : Dv.isA (.tup l) d = true) : ∃ r, d = .tup r ∧ Dv.areA l r = true := by
 cases d with
 | tup r => exact ⟨r, rfl, by simpa [Dv.isA] using h⟩
 | _ => simp [Dv.isA] at h
theorem areA_nil {r : List Dv} (h : Dv.areA [] r = true) : r = [] := by
 cases r with
 | nil => rfl
 | cons _ _ => simp [Dv.areA] at h
theorem areA_cons {s : Sh} {l : List Sh} {r : List Dv} (h : Dv.areA (s :: l) r = true) : ∃ d r', r = d :: r' ∧ Dv.isA s d = true ∧ Dv.areA l r' = true := by
 cases r with
 | nil => simp [Dv.areA] at h
 | cons d r' =>
  simp only [Dv.areA, Bool.and_eq_true] at h
  exact ⟨d, r', rfl, h⟩
theorem str_cps {x y : Str} (h : x.cps.toList = y.cps.toList) : x = y := by
 cases x; cases y
 simp only [Str.mk.injEq]
 exact Array.toList_inj.mp h
theorem str_tri {x y : Str} (h : x ≠ y) (h1 : ¬ x.cps.toList < y.cps.toList) : y.cps.toList < x.cps.toList := by
 by_cases h2 : y.cps.toList < x.cps.toList
 ·exact h2
 ·exact absurd (str_cps (List.le_antisymm (List.not_lt.mp h2) (List.not_lt.mp h1))) h
theorem str_asy {x y : Str} (h : x.cps.toList < y.cps.toList) : ¬ y.cps.toList < x.cps.toList := fun h' => List.lt_irrefl _ (List.lt_trans h h')
mutual
theorem cmp_eq : ∀ {sh : Sh} {d e : Dv}, Dv.isA sh d = true → Dv.isA sh e = true → (dcmp d e = .eq ↔ d = e)
 | .int, d, e, hd, he => by
  obtain ⟨i, rfl⟩ := isA_int hd
  obtain ⟨j, rfl⟩ := isA_int he
  simp only [dcmp, Dv.int.injEq]
  split
  ·simp [*]
  ·split <;> simp [*]
 | .str, d, e, hd, he => by
  obtain ⟨i, rfl⟩ := isA_str hd
  obtain ⟨j, rfl⟩ := isA_str he
  simp only [dcmp, Dv.str.injEq]
  split
  ·simp [*]
  ·split <;> simp [*]
 | .tup l, d, e, hd, he => by
  obtain ⟨r, rfl, hr⟩ := isA_tup hd
  obtain ⟨q, rfl, hq⟩ := isA_tup he
  simp only [dcmp, Dv.tup.injEq]
  exact cmps_eq hr hq
theorem cmps_eq : ∀ {l : List Sh} {r q : List Dv}, Dv.areA l r = true → Dv.areA l q = true → (dcmps r q = .eq ↔ r = q)
 | [], r, q, hr, hq => by
  rw [areA_nil hr, areA_nil hq]
  simp [dcmps]
 | s :: l, r, q, hr, hq => by
  obtain ⟨d, r', rfl, h1, h2⟩ := areA_cons hr
  obtain ⟨e, q', rfl, h3, h4⟩ := areA_cons hq
  have a := cmp_eq h1 h3
  have b := cmps_eq h2 h4
  simp only [dcmps, List.cons.injEq]
  cases hc : dcmp d e with
  | eq =>
   rw [hc] at a
   simp only [Ordering.then, true_iff] at a ⊢
   rw [b]
   simp [a]
  | lt =>
   rw [hc] at a
   simp only [Ordering.then, reduceCtorEq, false_iff] at a ⊢
   simp [a]
  | gt =>
   rw [hc] at a
   simp only [Ordering.then, reduceCtorEq, false_iff] at a ⊢
   simp [a]
end
mutual
theorem cmp_swap : ∀ {sh : Sh} {d e : Dv}, Dv.isA sh d = true → Dv.isA sh e = true → dcmp e d = (dcmp d e).swap
 | .int, d, e, hd, he => by
  obtain ⟨i, rfl⟩ := isA_int hd
  obtain ⟨j, rfl⟩ := isA_int he
  simp only [dcmp]
  by_cases h : i = j
  ·subst h; simp
  ·rw [if_neg h, if_neg (fun z => h z.symm)]
   by_cases h1 : i < j
   ·rw [if_pos h1, if_neg (by lia)]; rfl
   ·rw [if_neg h1, if_pos (by lia)]; rfl
 | .str, d, e, hd, he => by
  obtain ⟨i, rfl⟩ := isA_str hd
  obtain ⟨j, rfl⟩ := isA_str he
  simp only [dcmp]
  by_cases h : i = j
  ·subst h; simp
  ·rw [if_neg h, if_neg (fun z => h z.symm)]
   by_cases h1 : i.cps.toList < j.cps.toList
   ·rw [if_pos h1, if_neg (str_asy h1)]; rfl
   ·rw [if_neg h1, if_pos (str_tri h h1)]; rfl
 | .tup l, d, e, hd, he => by
  obtain ⟨r, rfl, hr⟩ := isA_tup hd
  obtain ⟨q, rfl, hq⟩ := isA_tup he
  simp only [dcmp]
  exact cmps_swap hr hq
theorem cmps_swap : ∀ {l : List Sh} {r q : List Dv}, Dv.areA l r = true → Dv.areA l q = true → dcmps q r = (dcmps r q).swap
 | [], r, q, hr, hq => by
  rw [areA_nil hr, areA_nil hq]
  rfl
 | s :: l, r, q, hr, hq => by
  obtain ⟨d, r', rfl, h1, h2⟩ := areA_cons hr
  obtain ⟨e, q', rfl, h3, h4⟩ := areA_cons hq
  simp only [dcmps]
  rw [cmp_swap h1 h3, cmps_swap h2 h4]
  cases dcmp d e <;> rfl
end
mutual
theorem cmp_tr : ∀ {sh : Sh} {d e f : Dv}, Dv.isA sh d = true → Dv.isA sh e = true → Dv.isA sh f = true → dcmp d e ≠ .gt → dcmp e f ≠ .gt → dcmp d f ≠ .gt
 | .int, d, e, f, hd, he, hf, h1, h2 => by
  obtain ⟨i, rfl⟩ := isA_int hd
  obtain ⟨j, rfl⟩ := isA_int he
  obtain ⟨k, rfl⟩ := isA_int hf
  simp only [dcmp] at h1 h2 ⊢
  by_cases a : i = k
  ·simp [a]
  ·rw [if_neg a]
   by_cases b : i < k
   ·simp [b]
   ·exfalso
    have h1' : i ≤ j := by
     by_cases c : i ≤ j
     ·exact c
     ·rw [if_neg (by lia), if_neg (by lia)] at h1; exact absurd rfl h1
    have h2' : j ≤ k := by
     by_cases c : j ≤ k
     ·exact c
     ·rw [if_neg (by lia), if_neg (by lia)] at h2; exact absurd rfl h2
    lia
 | .str, d, e, f, hd, he, hf, h1, h2 => by
  obtain ⟨i, rfl⟩ := isA_str hd
  obtain ⟨j, rfl⟩ := isA_str he
  obtain ⟨k, rfl⟩ := isA_str hf
  simp only [dcmp] at h1 h2 ⊢
  by_cases a : i = k
  ·simp [a]
  ·rw [if_neg a]
   by_cases b : i.cps.toList < k.cps.toList
   ·simp [b]
   ·exfalso
    have ki := str_tri a b
    by_cases p : i = j
    ·subst p
     rw [if_neg a, if_neg b] at h2
     exact absurd rfl h2
    ·by_cases q : j = k
     ·subst q
      rw [if_neg p, if_neg b] at h1
      exact absurd rfl h1
     ·rw [if_neg p] at h1
      rw [if_neg q] at h2
      by_cases p1 : i.cps.toList < j.cps.toList
      ·by_cases q1 : j.cps.toList < k.cps.toList
       ·exact b (List.lt_trans p1 q1)
       ·rw [if_neg q1] at h2; exact absurd rfl h2
      ·rw [if_neg p1] at h1; exact absurd rfl h1
 | .tup l, d, e, f, hd, he, hf, h1, h2 => by
  obtain ⟨r, rfl, hr⟩ := isA_tup hd
  obtain ⟨q, rfl, hq⟩ := isA_tup he
  obtain ⟨p, rfl, hp⟩ := isA_tup hf
  simp only [dcmp] at h1 h2 ⊢
  exact cmps_tr hr hq hp h1 h2
theorem cmps_tr : ∀ {l : List Sh} {r q p : List Dv}, Dv.areA l r = true → Dv.areA l q = true → Dv.areA l p = true → dcmps r q ≠ .gt → dcmps q p ≠ .gt → dcmps r p ≠ .gt
 | [], r, q, p, hr, hq, hp, _, _ => by
  rw [areA_nil hr, areA_nil hp]
  simp [dcmps]
 | s :: l, r, q, p, hr, hq, hp, h1, h2 => by
  obtain ⟨d, r', rfl, a1, a2⟩ := areA_cons hr
  obtain ⟨e, q', rfl, b1, b2⟩ := areA_cons hq
  obtain ⟨f, p', rfl, c1, c2⟩ := areA_cons hp
  simp only [dcmps] at h1 h2 ⊢
  have n1 : dcmp d e ≠ .gt := fun z => by rw [z] at h1; exact h1 rfl
  have n2 : dcmp e f ≠ .gt := fun z => by rw [z] at h2; exact h2 rfl
  have n3 := cmp_tr a1 b1 c1 n1 n2
  cases hc : dcmp d f with
  | lt => simp [Ordering.then]
  | gt => exact absurd hc n3
  | eq =>
   have e3 := (cmp_eq a1 c1).mp hc
   subst e3
   have e1 : dcmp d e = .eq := by
    have sw := cmp_swap a1 b1
    cases hx : dcmp d e with
    | eq => rfl
    | gt => exact absurd hx n1
    | lt => rw [hx] at sw; exact absurd sw n2
   have e2 := (cmp_eq a1 b1).mp e1
   subst e2
   rw [hc] at h1 h2
   simp only [Ordering.then] at h1 h2 ⊢
   exact cmps_tr a2 b2 c2 h1 h2
end
noncomputable def LtAt (A : Around) (s : Shared) (y x : Value) (b : Bool) : Prop :=
 ∀ (prog : Program) (w : World) (E : Value → Shared → Prop) (Q : Value → Shared → Prop), Q (.bool b) s → wpAny (model prog w) A (richCompare .Lt y x) Q E s
inductive LtL (A : Around) (s : Shared) : List Value → List Value → Bool → Prop
 | nn : LtL A s [] [] false
 | nc {y : Value} {ys : List Value} : LtL A s [] (y :: ys) true
 | cn {x : Value} {xs : List Value} : LtL A s (x :: xs) [] false
 | eq {x y : Value} {xs ys : List Value} {b : Bool} : SeqAt.EqAt A s x y true → LtL A s xs ys b → LtL A s (x :: xs) (y :: ys) b
 | ne {x y : Value} {xs ys : List Value} {b : Bool} : SeqAt.EqAt A s x y false → LtAt A s x y b → LtL A s (x :: xs) (y :: ys) b
end L2
namespace HT
open PySem PyProof.Rows
section
open PySem.SeqAt
open PySem.AutoSeq1 (wpAny_loadPart')
open PySem.MeetsSeq PySem.MeetsSeq2 PySem.MeetsSeq3
theorem tuple_lt_any (l b : Addr) (items items2 : Array Value) (n n2 : Nat) (dd dd2 : Option Addr) (sl sl2 : Array (Option Value)) (k : Bool) :
  Meets (Builtin.«tuple.__lt__» ⟨[.ref l, .ref b], []⟩)
   (fun A R s => L2.LtL A.in1 s items.toList items2.toList k ∧ s.heap.get? l = some { cls := .type "tuple", dict := dd, data := .seq items n, slots := sl } ∧ s.heap.get? b = some { cls := .type "tuple", dict := dd2, data := .seq items2 n2, slots := sl2 } ∧
    R (.ok (.ret (.bool k))) s) := .of_wp fun prog w A R s h => by
 obtain ⟨hp, g, d, tk, os⟩ := s; obtain ⟨hL, hl, hb, h⟩ := h
 have f2 := AutoSeq1.sub_tuple_tuple
 wp_walk using wpAny_loadPart' hl, wpAny_loadPart' hb, wpAny_forIn_list _ (fun rest b s' => b.1 = none ∧ s' = ⟨hp, g, d, tk, os⟩ ∧ ∃ (vs ws : List Value), rest = vs.zip ws ∧ L2.LtL A.in1 ⟨hp, g, d, tk, os⟩ vs ws k ∧ vs.length + items2.size = ws.length + items.size) _
 case turn =>
  rintro ⟨y, x⟩ rest b s' ⟨hb', rfl, vs, ws, hz, hv, hlen⟩
  cases hv with
  | nn => rw [List.zip_nil_left] at hz; cases hz
  | nc => rw [List.zip_nil_left] at hz; cases hz
  | cn => rw [List.zip_nil_right] at hz; cases hz
  | eq he hr =>
   rw [List.zip_cons_cons] at hz; injection hz with hyx hrest; injection hyx with hy hx; subst hy hx
   simp only [List.length_cons] at hlen
   refine wpAny_bind (he prog w _ _ ?_); wp_walk; exact ⟨rfl, rfl, _, _, hrest, hr, by lia⟩
  | ne he hr =>
   rw [List.zip_cons_cons] at hz; injection hz with hyx hrest; injection hyx with hy hx; subst hy hx
   refine wpAny_bind (he prog w _ _ ?_); have hri := hr prog w; wp_walk using hri; exact ⟨_, rfl, by simpa using h⟩
 case fin =>
  rintro ⟨b1, b2⟩ s' ⟨hb', rfl, vs, ws, hz, hv, hlen⟩
  simp only at hb'; subst hb'
  have hk : k = decide (items.size < items2.size) := by
   cases hv with
   | nn => simp only [List.length_nil] at hlen; exact (decide_eq_false (by lia)).symm
   | nc => simp only [List.length_nil, List.length_cons] at hlen; exact (decide_eq_true (by lia)).symm
   | cn => simp only [List.length_nil, List.length_cons] at hlen; exact (decide_eq_false (by lia)).symm
   | eq _ _ => rw [List.zip_cons_cons] at hz; cases hz
   | ne _ _ => rw [List.zip_cons_cons] at hz; cases hz
  rw [hk] at h; wp_walk; exact ⟨_, rfl, by simpa [Builtin.Tuple.tupleCompareSizes] using h⟩
 case h => exact ⟨rfl, rfl, items.toList, items2.toList, rfl, hL, by simp only [Array.length_toList]; lia⟩
end
theorem lt_tupAny {A : Around} {s : Shared} {l b : Addr} {items items2 : Array Value} {k : Bool} (hl : IsTup s.heap l items) (hb : IsTup s.heap b items2) (hL : L2.LtL A.in1 s items.toList items2.toList k) (hu : A.units < cLine) : L2.LtAt A s (.ref l) (.ref b) k := fun prog w E Q h => by
 obtain ⟨⟨cls, dd, data, sl⟩, ho, hc, n, hd⟩ := id hl
 obtain ⟨⟨cls2, dd2, data2, sl2⟩, ho2, hc2, n2, hd2⟩ := id hb
 simp only at hc hd hc2 hd2; subst hc hd hc2 hd2
 exact richCompare_meets_room (op := .Lt) ⟨_, ho, rfl⟩ ⟨_, ho2, rfl⟩ PySem.F.slot_tuple_lt PySem.F.entry_tuple_lt (PySem.F.args_tuple_lt_2 _ _) (tuple_lt_any l b items items2 n n2 dd dd2 sl sl2 k) ⟨hL, ho, ho2, show Value.bool k ≠ Value.notImplemented ∧ Q (.bool k) s from ⟨(fun x => nomatch x), h⟩⟩ hu
end HT
namespace L2
open PySem PySem.Spec PyProof.Rows
section
variable {X : Cx} {pins : List (Addr × Obj)} {σ : St} {H : Hp} {s : Shared}
mutual
theorem isA_nomix : ∀ {sh : Sh} {d e : Dv}, Dv.isA sh d = true → Dv.isA sh e = true → nomix d e = true
 | .int, d, e, hd, he => by
  obtain ⟨i, rfl⟩ := isA_int hd
  obtain ⟨j, rfl⟩ := isA_int he
  rfl
 | .str, d, e, hd, he => by
  obtain ⟨i, rfl⟩ := isA_str hd
  obtain ⟨j, rfl⟩ := isA_str he
  rfl
 | .tup l, d, e, hd, he => by
  obtain ⟨r, rfl, hr⟩ := isA_tup hd
  obtain ⟨q, rfl, hq⟩ := isA_tup he
  simp only [nomix]
  exact areA_nomix hr hq
theorem areA_nomix : ∀ {l : List Sh} {r q : List Dv}, Dv.areA l r = true → Dv.areA l q = true → nomixs r q = true
 | [], r, q, hr, hq => by rw [areA_nil hr, areA_nil hq]; rfl
 | s :: l, r, q, hr, hq => by
  obtain ⟨d, r', rfl, h1, h2⟩ := areA_cons hr
  obtain ⟨e, q', rfl, h3, h4⟩ := areA_cons hq
  simp only [nomixs, Bool.and_eq_true]
  exact ⟨isA_nomix h1 h3, areA_nomix h2 h4⟩
end
noncomputable def isLt : Ordering → Bool
 | .lt => true
 | _ => false
theorem ltL_of (I : Inv X pins σ H s) {n : Nat} {A : Around} (hu : A.units + n < cLine)
  (hl : ∀ {sh : Sh} {d e : Dv} {x y : V} {u w : Value}, d.dep ≤ n → Dv.isA sh d = true → Dv.isA sh e = true → Dn X.K H x d → Dn X.K H y e → RelV x u → RelV y w → LtAt A s u w (isLt (dcmp d e))) :
  ∀ {l : List Sh} {ds es : List Dv} {xs ys : List V} {us ws : List Value}, Dv.deps ds ≤ n → Dv.areA l ds = true → Dv.areA l es = true → Dns X.K H xs ds → Dns X.K H ys es → Vals xs us → Vals ys ws → LtL A s us ws (isLt (dcmps ds es))
 | [], ds, es, xs, ys, us, ws, hd, a1, a2, d1, d2, r1, r2 => by
  rw [areA_nil a1] at d1 ⊢
  rw [areA_nil a2] at d2 ⊢
  cases d1; cases d2; cases r1; cases r2
  exact .nn
 | sh :: l, ds, es, xs, ys, us, ws, hd, a1, a2, d1, d2, r1, r2 => by
  obtain ⟨d, ds', rfl, h1, h2⟩ := areA_cons a1
  obtain ⟨e, es', rfl, h3, h4⟩ := areA_cons a2
  cases d1 with
  | cons dx dxs => cases d2 with
   | cons dy dys => cases r1 with
    | cons rx rxs => cases r2 with
     | cons ry rys =>
      simp only [Dv.deps] at hd
      obtain ⟨b, he, hb⟩ := deep_eq I n (A := A) (Nat.le_trans (Nat.le_max_left _ _) hd) hu (isA_nomix h1 h3) dx dy rx ry
      have hc := cmp_eq h1 h3
      cases b with
      | true =>
       have z : dcmp d e = .eq := hc.mpr (hb.mp rfl)
       have rest := ltL_of I hu hl (Nat.le_trans (Nat.le_max_right _ _) hd) h2 h4 dxs dys rxs rys
       have : dcmps (d :: ds') (e :: es') = dcmps ds' es' := by simp only [dcmps, z, Ordering.then]
       rw [this]
       exact .eq he rest
      | false =>
       have z : dcmp d e ≠ .eq := fun q => by have := hb.mpr (hc.mp q); cases this
       have : dcmps (d :: ds') (e :: es') = dcmp d e := by
        simp only [dcmps]
        cases q : dcmp d e with
        | eq => exact absurd q z
        | lt => rfl
        | gt => rfl
       rw [this]
       exact .ne he (hl (Nat.le_trans (Nat.le_max_left _ _) hd) h1 h3 dx dy rx ry)
theorem deep_lt (I : Inv X pins σ H s) : ∀ (n : Nat) {A : Around} {sh : Sh} {d e : Dv} {x y : V} {u w : Value}, d.dep ≤ n → A.units + n < cLine → Dv.isA sh d = true → Dv.isA sh e = true → Dn X.K H x d → Dn X.K H y e → RelV x u → RelV y w →
  LtAt A s u w (isLt (dcmp d e)) := by
 intro n
 induction n with
 | zero =>
  intro A sh d e x y u w hd hu a1 a2 dx dy rx ry
  cases sh with
  | int =>
   obtain ⟨i, rfl⟩ := isA_int a1
   obtain ⟨j, rfl⟩ := isA_int a2
   cases dx; cases dy
   obtain ⟨t, rfl⟩ := rx
   obtain ⟨t', rfl⟩ := ry
   intro prog w' E Q hq
   refine HT.rcLt_int A s i t j t' prog w' E Q ?_
   have : isLt (dcmp (.int i) (.int j)) = decide (i < j) := by
    simp only [dcmp]
    by_cases h : i = j
    ·subst h; simp [isLt]
    ·rw [if_neg h]; by_cases h1 : i < j <;> simp [h1, isLt]
   rw [this] at hq; exact hq
  | str =>
   obtain ⟨i, rfl⟩ := isA_str a1
   obtain ⟨j, rfl⟩ := isA_str a2
   cases dx; cases dy
   obtain ⟨t, rfl⟩ := rx
   obtain ⟨t', rfl⟩ := ry
   intro prog w' E Q hq
   refine (lt_str ?_ : wpAny (model prog w') A (compareOp .Lt (.str i t) (.str j t')) Q E s)
   have : isLt (dcmp (.str i) (.str j)) = decide (i.cps.toList < j.cps.toList) := by
    simp only [dcmp]
    by_cases h : i = j
    ·subst h; simp [isLt, List.lt_irrefl]
    ·rw [if_neg h]; by_cases h1 : i.cps.toList < j.cps.toList <;> simp [h1, isLt]
   rw [this] at hq; exact hq
  | tup l =>
   obtain ⟨r, rfl, hr⟩ := isA_tup a1
   simp [Dv.dep] at hd
 | succ n ih =>
  intro A sh d e x y u w hd hu a1 a2 dx dy rx ry
  cases sh with
  | int =>
   obtain ⟨i, rfl⟩ := isA_int a1
   obtain ⟨j, rfl⟩ := isA_int a2
   exact (ih (A := A) (sh := .int) (Nat.zero_le _) (by lia) a1 a2 dx dy rx ry)
  | str =>
   obtain ⟨i, rfl⟩ := isA_str a1
   obtain ⟨j, rfl⟩ := isA_str a2
   exact (ih (A := A) (sh := .str) (Nat.zero_le _) (by lia) a1 a2 dx dy rx ry)
  | tup l =>
   obtain ⟨r, rfl, hr⟩ := isA_tup a1
   obtain ⟨q, rfl, hq⟩ := isA_tup a2
   cases dx with
   | tup ha da => cases dy with
    | tup hb db =>
     cases rx; cases ry
     obtain ⟨its, r1, p1, _⟩ := I.tuple ha
     obtain ⟨its2, r2, p2, _⟩ := I.tuple hb
     simp only [Dv.dep] at hd
     simp only [dcmp]
     refine HT.lt_tupAny p1 p2 ?_ (by lia)
     exact ltL_of I (n := n) (A := A.in1) (by rw [in1_units]; lia) (fun h1 h2 h3 h4 h5 h6 h7 => ih h1 (by rw [in1_units]; lia) h2 h3 h4 h5 h6 h7) (by lia) hr hq da db r1 r2
end
end L2
namespace L2
open PySem PySem.Spec PyProof.Rows
noncomputable def Den (K : PySem.W.Frag) (H : Hp) (u : Value) (d : Dv) : Prop := ∃ v, RelV v u ∧ Dn K H v d
open Classical in
noncomputable def bltD (K : PySem.W.Frag) (H : Hp) (x y : Keyed) : Bool := decide (∃ d e, Den K H x.1 d ∧ Den K H y.1 e ∧ dcmp d e = .lt)
noncomputable def OfSh (K : PySem.W.Frag) (H : Hp) (sh : Sh) (x : Keyed) : Prop := ∃ d, Den K H x.1 d ∧ Dv.isA sh d = true
noncomputable def Sh.key : Sh → Bool
 | .int => true
 | .str => true
 | .tup (.int :: _) => true
 | .tup (.str :: _) => true
 | _ => false
noncomputable def Sh.kind : Sh → SortKind
 | .tup _ => tuples' true
 | _ => oneType'
mutual
noncomputable def Sh.dep : Sh → Nat
 | .tup l => Sh.deps l + 1
 | _ => 0
noncomputable def Sh.deps : List Sh → Nat
 | [] => 0
 | d :: r => max (Sh.dep d) (Sh.deps r)
end
mutual
theorem isA_dep : ∀ {sh : Sh} {d : Dv}, Dv.isA sh d = true → d.dep = sh.dep
 | .int, d, h => by obtain ⟨i, rfl⟩ := isA_int h; rfl
 | .str, d, h => by obtain ⟨i, rfl⟩ := isA_str h; rfl
 | .tup l, d, h => by
  obtain ⟨r, rfl, hr⟩ := isA_tup h
  simp only [Dv.dep, Sh.dep]
  rw [areA_deps hr]
theorem areA_deps : ∀ {l : List Sh} {r : List Dv}, Dv.areA l r = true → Dv.deps r = Sh.deps l
 | [], r, h => by rw [areA_nil h]; rfl
 | s :: l, r, h => by
  obtain ⟨d, r', rfl, h1, h2⟩ := areA_cons h
  simp only [Dv.deps, Sh.deps]
  rw [isA_dep h1, areA_deps h2]
end
section
variable {X : Cx} {pins : List (Addr × Obj)} {σ : St} {H : Hp} {s : Shared}
theorem relV_inj {K : PySem.W.Frag} {x y : V} {u : Value} {d e : Dv} (dx : Dn K H x d) (dy : Dn K H y e) (rx : RelV x u) (ry : RelV y u) : x = y := by
 cases dx <;> cases dy <;> first
  | rfl
  | (obtain ⟨t, rfl⟩ := rx; obtain ⟨t', h⟩ := ry; cases h; done)
  | (obtain ⟨t, rfl⟩ := rx; obtain ⟨t', h⟩ := ry; cases h; rfl)
  | (obtain ⟨t, rfl⟩ := rx; cases ry; done)
  | (obtain ⟨t, rfl⟩ := ry; cases rx; done)
  | (cases rx; cases ry; done)
  | (cases rx; cases ry; rfl)
theorem den_inj (I : Inv X pins σ H s) {u : Value} {d e : Dv} (h : Den X.K H u d) (h' : Den X.K H u e) : d = e := by
 obtain ⟨v, r, n⟩ := h
 obtain ⟨v', r', n'⟩ := h'
 have := relV_inj n n' r r'
 subst this
 exact Dn.inj I n n'
open Classical in
theorem blt_at (I : Inv X pins σ H s) {x y : Keyed} {d e : Dv} (hx : Den X.K H x.1 d) (hy : Den X.K H y.1 e) : bltD X.K H x y = isLt (dcmp d e) := by
 unfold bltD
 by_cases h : dcmp d e = .lt
 ·rw [h]
  exact decide_eq_true ⟨d, e, hx, hy, h⟩
 ·have : isLt (dcmp d e) = false := by
   cases q : dcmp d e with
   | lt => exact absurd q h
   | eq => rfl
   | gt => rfl
  rw [this]
  refine decide_eq_false fun ⟨d', e', hx', hy', h'⟩ => ?_
  rw [den_inj I hx hx', den_inj I hy hy'] at h
  exact h h'
theorem isLt_ff {o : Ordering} (h : isLt o = false) : o ≠ .lt := fun z => by rw [z] at h; cases h
theorem ord_data (I : Inv X pins σ H s) (sh : Sh) : TS.Ord (OfSh X.K H sh) (bltD X.K H) where
 irr := fun x ⟨d, hd, a⟩ => by
  rw [blt_at I hd hd, (cmp_eq a a).mpr rfl]; rfl
 asy := fun x y ⟨d, hd, a⟩ ⟨e, he, b⟩ h => by
  rw [blt_at I hd he] at h
  rw [blt_at I he hd, cmp_swap a b]
  cases q : dcmp d e with
  | lt => rfl
  | eq => rfl
  | gt => rw [q] at h; cases h
 tr := fun x y z ⟨d, hd, a⟩ ⟨e, he, b⟩ ⟨f, hf, c⟩ h1 h2 => by
  rw [blt_at I he hd] at h1
  rw [blt_at I hf he] at h2
  rw [blt_at I hf hd]
  have n1 : dcmp d e ≠ .gt := fun q => by rw [cmp_swap a b, q] at h1; cases h1
  have n2 : dcmp e f ≠ .gt := fun q => by rw [cmp_swap b c, q] at h2; cases h2
  have n3 := cmp_tr a b c n1 n2
  rw [cmp_swap a c]
  cases q : dcmp d f with
  | lt => rfl
  | eq => rfl
  | gt => exact absurd q n3
theorem cmp_data {prog : Program} {w : World} {A : Around} (I : Inv X pins σ H s) {sh : Sh} (hk : sh.key = true) (hu : A.units + sh.dep < cLine) {x y : Keyed} {Q : Bool → Shared → Prop} (hx : OfSh X.K H sh x) (hy : OfSh X.K H sh y) (hq : Q (bltD X.K H x y) s) :
  wpAny (model prog w) A (keyLt' sh.kind x.1 y.1) Q (fun _ _ => False) s := by
 obtain ⟨d, hd, a⟩ := hx
 obtain ⟨e, he, b⟩ := hy
 rw [blt_at I hd he] at hq
 obtain ⟨v, rv, nv⟩ := hd
 obtain ⟨v', rv', nv'⟩ := he
 cases sh with
 | int =>
  obtain ⟨i, rfl⟩ := isA_int a
  obtain ⟨j, rfl⟩ := isA_int b
  cases nv; cases nv'
  obtain ⟨t, et⟩ := rv
  obtain ⟨t', et'⟩ := rv'
  show wpAny (model prog w) A (keyLt' oneType' x.1 y.1) Q _ s
  rw [et, et']
  refine PySem.W.kat_lt_int ?_
  have : isLt (dcmp (.int i) (.int j)) = decide (i < j) := by
   simp only [dcmp]
   by_cases h : i = j
   ·subst h; simp [isLt]
   ·rw [if_neg h]; by_cases h1 : i < j <;> simp [h1, isLt]
  rw [this] at hq; exact hq
 | str =>
  obtain ⟨i, rfl⟩ := isA_str a
  obtain ⟨j, rfl⟩ := isA_str b
  cases nv; cases nv'
  obtain ⟨t, et⟩ := rv
  obtain ⟨t', et'⟩ := rv'
  show wpAny (model prog w) A (keyLt' oneType' x.1 y.1) Q _ s
  rw [et, et']
  refine PySem.W.kas_lt_str ?_
  have : isLt (dcmp (.str i) (.str j)) = decide (i.cps.toList < j.cps.toList) := by
   simp only [dcmp]
   by_cases h : i = j
   ·subst h; simp [isLt, List.lt_irrefl]
   ·rw [if_neg h]; by_cases h1 : i.cps.toList < j.cps.toList <;> simp [h1, isLt]
  rw [this] at hq; exact hq
 | tup l =>
  obtain ⟨r, rfl, hr⟩ := isA_tup a
  obtain ⟨q, rfl, hq'⟩ := isA_tup b
  cases nv with
  | tup ha da => cases nv' with
   | tup hb db =>
    have rv : x.1 = Value.ref _ := rv
    have rv' : y.1 = Value.ref _ := rv'
    show wpAny (model prog w) A (keyLt' (tuples' true) x.1 y.1) Q _ s
    rw [rv, rv']
    obtain ⟨its, r1, p1, _⟩ := I.tuple ha
    obtain ⟨its2, r2, p2, _⟩ := I.tuple hb
    obtain ⟨o1, g1, c1, n1, e1⟩ := p1
    obtain ⟨o2, g2, c2, n2, e2⟩ := p2
    refine PySem.W.kat_lt g1 e1 g2 e2 ?_
    have hlen : its.length = its2.length := by
     have z1 := r1.length; have z2 := r2.length; have z3 := da.length; have z4 := db.length
     have z5 : ∀ {l : List Sh} {r : List Dv}, Dv.areA l r = true → r.length = l.length := by
      intro l
      induction l with
      | nil => intro r h; rw [areA_nil h]; rfl
      | cons s l ih => intro r h; obtain ⟨d, r', rfl, _, h2⟩ := areA_cons h; simp [ih h2]
     have := z5 hr; have := z5 hq'; lia
    simp only [dcmp] at hq
    simp only [Sh.dep] at hu
    have fin : (decide (its.toArray.size < its2.toArray.size)) = false := decide_eq_false (by simp only [List.size_toArray]; lia)
    rw [fin]
    show PySem.W.KatLex prog w A true false Q (its.zip its2) 0 s
    have rest : ∀ {l : List Sh} {ds es : List Dv} {xs ys : List V} {us ws : List Value} {i : Nat}, (0 < i) → Sh.deps l + A.units < cLine → Dv.areA l ds = true → Dv.areA l es = true → Dns X.K H xs ds → Dns X.K H ys es → Vals xs us → Vals ys ws → Q (isLt (dcmps ds es)) s →
      PySem.W.KatLex prog w A true false Q (us.zip ws) i s := by
     intro l
     induction l with
     | nil =>
      intro ds es xs ys us ws i _ _ a1 a2 d1 d2 r1 r2 q
      rw [areA_nil a1] at d1 q
      rw [areA_nil a2] at d2 q
      cases d1; cases d2; cases r1; cases r2
      exact PySem.W.kat_nil q
     | cons sh l ih =>
      intro ds es xs ys us ws i hi hu a1 a2 d1 d2 r1 r2 q
      obtain ⟨d, ds', rfl, h1, h2⟩ := areA_cons a1
      obtain ⟨e, es', rfl, h3, h4⟩ := areA_cons a2
      simp only [Sh.deps] at hu
      have hu1 : A.units + Sh.dep sh < cLine := by have := Nat.le_max_left (Sh.dep sh) (Sh.deps l); lia
      have hu2 : Sh.deps l + A.units < cLine := by have := Nat.le_max_right (Sh.dep sh) (Sh.deps l); lia
      cases d1 with
      | cons dx dxs => cases d2 with
       | cons dy dys => cases r1 with
        | cons rx rxs => cases r2 with
         | cons ry rys =>
          obtain ⟨b, he, hb⟩ := deep_eq I (Sh.dep sh) (A := A) (Nat.le_of_eq (isA_dep h1)) hu1 (isA_nomix h1 h3) dx dy rx ry
          have hc := cmp_eq h1 h3
          rw [List.zip_cons_cons]
          refine PySem.W.kat_cons (he prog w _ _ ?_)
          cases b with
          | true =>
           have z : dcmp d e = .eq := hc.mpr (hb.mp rfl)
           refine PySem.W.kat_yes (ih (Nat.succ_pos _) hu2 h2 h4 dxs dys rxs rys ?_)
           simp only [dcmps, z, Ordering.then] at q; exact q
          | false =>
           have z : dcmp d e ≠ .eq := fun q => by have := hb.mpr (hc.mp q); cases this
           have zz : dcmps (d :: ds') (e :: es') = dcmp d e := by
            simp only [dcmps]
            cases q : dcmp d e with
            | eq => exact absurd q z
            | lt => rfl
            | gt => rfl
           rw [zz] at q
           refine PySem.W.kat_no ?_
           have e0 : (true && i == 0) = false := by simp; lia
           rw [e0]
           refine PySem.W.kat_one _ _ ?_
           exact deep_lt I (Sh.dep sh) (A := A) (Nat.le_of_eq (isA_dep h1)) hu1 h1 h3 dx dy rx ry prog w _ _ q
    cases l with
    | nil => simp [Sh.key] at hk
    | cons sh l =>
     obtain ⟨d, ds', rfl, h1, h2⟩ := areA_cons hr
     obtain ⟨e, es', rfl, h3, h4⟩ := areA_cons hq'
     simp only [Sh.deps] at hu
     have hu1 : A.units + Sh.dep sh < cLine := by have := Nat.le_max_left (Sh.dep sh) (Sh.deps l); lia
     have hu2 : Sh.deps l + A.units < cLine := by have := Nat.le_max_right (Sh.dep sh) (Sh.deps l); lia
     cases da with
     | cons dx dxs => cases db with
      | cons dy dys => cases r1 with
       | cons rx rxs => cases r2 with
        | cons ry rys =>
         obtain ⟨b, he, hb⟩ := deep_eq I (Sh.dep sh) (A := A) (Nat.le_of_eq (isA_dep h1)) hu1 (isA_nomix h1 h3) dx dy rx ry
         have hc := cmp_eq h1 h3
         rw [List.zip_cons_cons]
         refine PySem.W.kat_cons (he prog w _ _ ?_)
         cases b with
         | true =>
          have z : dcmp d e = .eq := hc.mpr (hb.mp rfl)
          refine PySem.W.kat_yes (rest (Nat.succ_pos _) hu2 h2 h4 dxs dys rxs rys ?_)
          simp only [dcmps, z, Ordering.then] at hq; exact hq
         | false =>
          have z : dcmp d e ≠ .eq := fun q => by have := hb.mpr (hc.mp q); cases this
          have zz : dcmps (d :: ds') (e :: es') = dcmp d e := by
           simp only [dcmps]
           cases q : dcmp d e with
           | eq => exact absurd q z
           | lt => rfl
           | gt => rfl
          rw [zz] at hq
          refine PySem.W.kat_no ?_
          show wpAny (model prog w) A (oneLt' true _ _) Q _ s
          cases sh with
          | tup _ => simp [Sh.key] at hk
          | int =>
           obtain ⟨i, rfl⟩ := isA_int h1
           obtain ⟨j, rfl⟩ := isA_int h3
           cases dx; cases dy
           obtain ⟨t, rfl⟩ := rx
           obtain ⟨t', rfl⟩ := ry
           refine oneLt_int ?_
           have : isLt (dcmp (.int i) (.int j)) = decide (i < j) := by
            simp only [dcmp]
            by_cases h : i = j
            ·subst h; simp [isLt]
            ·rw [if_neg h]; by_cases h1 : i < j <;> simp [h1, isLt]
           rw [this] at hq; exact hq
          | str =>
           obtain ⟨i, rfl⟩ := isA_str h1
           obtain ⟨j, rfl⟩ := isA_str h3
           cases dx; cases dy
           obtain ⟨t, rfl⟩ := rx
           obtain ⟨t', rfl⟩ := ry
           have : isLt (dcmp (.str i) (.str j)) = decide (i.cps.toList < j.cps.toList) := by
            simp only [dcmp]
            by_cases h : i = j
            ·subst h; simp [isLt, List.lt_irrefl]
            ·rw [if_neg h]; by_cases h1 : i.cps.toList < j.cps.toList <;> simp [h1, isLt]
           rw [this] at hq
           have := PySem.W.kas_lt_str (prog := prog) (w := w) (A := A) (E := fun _ _ => False) (t := t) (u := t') (s := s) (Q := Q) hq
           rw [keyLt'_oneType] at this; exact this
theorem kind_data {prog : Program} {w : World} {A : Around} (I : Inv X pins σ H s) {sh : Sh} (hk : sh.key = true) {vs : List Value} (h2 : 2 ≤ vs.length) (hv : ∀ v ∈ vs, ∃ d, Den X.K H v d ∧ Dv.isA sh d = true) {Q : SortKind → Shared → Prop} (hq : Q sh.kind s) :
  wpAny (model prog w) A (keyKind' vs.toArray) Q (fun _ _ => False) s := by
 cases sh with
 | int =>
  refine PySem.W.kas_kind (T := .type "int") h2 (fun v m => ?_) (by decide) (by decide) hq
  obtain ⟨d, ⟨x, r, n⟩, a⟩ := hv v m
  obtain ⟨i, rfl⟩ := isA_int a
  cases n
  obtain ⟨t, rfl⟩ := r
  exact .now
 | str =>
  refine PySem.W.kas_kind (T := .type "str") h2 (fun v m => ?_) (by decide) (by decide) hq
  obtain ⟨d, ⟨x, r, n⟩, a⟩ := hv v m
  obtain ⟨i, rfl⟩ := isA_str a
  cases n
  obtain ⟨t, rfl⟩ := r
  exact .now
 | tup l =>
  cases l with
  | nil => simp [Sh.key] at hk
  | cons sh l =>
   have T : ∃ T, (sh = .int ∧ T = Value.type "int") ∨ (sh = .str ∧ T = Value.type "str") := by
    cases sh with
    | int => exact ⟨_, .inl ⟨rfl, rfl⟩⟩
    | str => exact ⟨_, .inr ⟨rfl, rfl⟩⟩
    | tup _ => simp [Sh.key] at hk
   obtain ⟨T, hT⟩ := T
   have key : ∀ vs : List Value, (∀ v ∈ vs, ∃ d, Den X.K H v d ∧ Dv.isA (.tup (sh :: l)) d = true) → ∃ fs, fs.length = vs.length ∧ PySem.W.KatTups s.heap vs fs ∧ ∀ f ∈ fs, PySem.W.Looks (model prog w) s.heap (typeOf f) T := by
    intro vs
    induction vs with
    | nil => exact fun _ => ⟨[], rfl, trivial, fun f m => nomatch m⟩
    | cons v vs ih =>
     intro hv
     obtain ⟨fs, h1, h2, h3⟩ := ih fun u m => hv u (.tail _ m)
     obtain ⟨d, ⟨x, r, n⟩, a⟩ := hv v (.head _)
     obtain ⟨ds, rfl, hr⟩ := isA_tup a
     obtain ⟨d0, ds', rfl, a1, _⟩ := areA_cons hr
     cases n with
     | tup ha da =>
      obtain ⟨its, r1, p1, _⟩ := I.tuple ha
      obtain ⟨o, g, c, k, e⟩ := p1
      have rv : v = Value.ref _ := r
      subst rv
      cases da with
      | cons dx dxs => cases r1 with
       | @cons _ u _ us rx rxs =>
        refine ⟨u :: fs, by simp [h1], PySem.W.KatTups.cons g c e (by simp) h2, fun f m => ?_⟩
        rcases List.mem_cons.mp m with rfl | m
        ·rcases hT with ⟨rfl, rfl⟩ | ⟨rfl, rfl⟩
         ·obtain ⟨i, rfl⟩ := isA_int a1
          cases dx
          obtain ⟨t, rfl⟩ := rx
          exact .now
         ·obtain ⟨i, rfl⟩ := isA_str a1
          cases dx
          obtain ⟨t, rfl⟩ := rx
          exact .now
        ·exact h3 f m
   obtain ⟨fs, h1, h3, h4⟩ := key vs hv
   refine PySem.W.kat_kind h3 (by lia) h4 ?_ ?_
   ·rcases hT with ⟨_, rfl⟩ | ⟨_, rfl⟩ <;> decide
   ·have : (T != Value.type "tuple") = true := by rcases hT with ⟨_, rfl⟩ | ⟨_, rfl⟩ <;> decide
    rw [this]; exact hq
theorem pw_both (I : Inv X pins σ H s) {sh : Sh} : ∀ {out : List Value} {zs : List V} {es : List Dv}, Vals zs out → Dns X.K H zs es → (∀ d ∈ es, Dv.isA sh d = true) → out.Pairwise (fun x y => bltD X.K H (y, y) (x, x) = false) → es.Pairwise fun d e => dcmp d e ≠ .gt
 | [], _, _, r, d, _, _ => by cases r; cases d; exact .nil
 | u :: out, _, _, r, d, a, h => by
  cases r with
  | cons rx rxs => cases d with
   | @cons x xs d0 ds dx dxs =>
    obtain ⟨h1, h2⟩ := List.pairwise_cons.mp h
    refine List.pairwise_cons.mpr ⟨fun e m => ?_, pw_both I rxs dxs (fun d m => a d (.tail _ m)) h2⟩
    obtain ⟨i, hi⟩ := List.mem_iff_getElem?.mp m
    obtain ⟨y, ey, dy⟩ := dxs.get hi
    obtain ⟨w, ew, ry⟩ := Vals.get rxs ey
    have q := h1 w (List.mem_of_getElem? ew)
    rw [blt_at I (x := (w, w)) (y := (u, u)) ⟨y, ry, dy⟩ ⟨_, rx, dx⟩] at q
    have a1 := a d0 (.head _)
    have a2 := a e (.tail _ m)
    rw [cmp_swap a1 a2] at q
    intro z
    rw [z] at q
    cases q
end
end L2
namespace RD
open PySem PyProof.Rows
noncomputable def Raw (h : Heap) (d : Addr) (es : Array DictEntry) (ep : Nat) : Prop := ∃ o, h.get? d = some o ∧ o.ExactDict ∧ o.data = .dict es ep
section
variable {prog : Program} {w : World} {A : Around} {E : Value → Shared → Prop} {s : Shared} {d it : Addr} {es : Array DictEntry} {ep i : Nat}
theorem Raw.type (x : Raw s.heap d es ep) : s.TypeIs (.ref d) "dict" := let ⟨o, ho, hc, _⟩ := x; ⟨o, ho, hc.1⟩
theorem iter {Q : Value → Shared → Prop} (hd : (d == sysModules) = false) (x : Raw s.heap d es ep)
  (hQ : Q (.ref s.heap.objs.size) { s with heap := s.heap.push { cls := .type "dict_keyiterator", data := .fields #[.ref d, .int 0 0, .int es.size 0, .int ep 0] } }) : wpAny (model prog w) A (pyIter (.ref d)) Q E s := by
 have hT := x.type; obtain ⟨o, ho, hc, hdat⟩ := x
 refine wpAny_pyIter_slot hT F.slot_dict_iter (wpAny_call_entry F.slot_dict_iter hT F.entry_dict_iter ?_ (F.args_dict_iter_1 _))
 unfold Builtin.«dict.__iter__»; refine wpAny_bind ?_
 unfold Builtin.Dict.dictSlotNone; refine wpAny_bind (wpAny_notOrdered_dict hT ?_)
 show wpAny _ _ (pure (Value.ref d)) _ _ s
 refine wpAny_pure ?_; show wpAny _ _ (Builtin.Dict.showsAll d >>= _) _ _ s
 unfold Builtin.Dict.showsAll; rw [if_neg (by rw [hd]; exact Bool.false_ne_true)]
 refine wpAny_bind (wpAny_pure (wpAny_bind (wpAny_dictEntries ho hdat (wpAny_bind (wpAny_dictEpoch ho hdat ?_)))))
 refine wpAny_bind (wpAny_newObj_type (wpAny_pure ⟨_, rfl, "dict_keyiterator", _, ⟨_, Heap.get?_push_size _ rfl, rfl⟩, F.slot_dict_keyiterator_next.lookup, ?_⟩)); simpa [rawInt] using hQ
theorem next {Q : Option Value → Shared → Prop} (hit : s.heap.IsKeyIter it d i es.size ep) (x : Raw s.heap d es ep) (hi : i < es.size)
  (hQ : ∀ h', h'.IsKeyIter it d (i + 1) es.size ep → Heap.SameBut it s.heap h' → Q (some es[i].key) { s with heap := h' }) : wpAny (model prog w) A (pyNext (.ref it)) Q E s := by
 obtain ⟨o, ho, hc, hd⟩ := id hit; obtain ⟨od, hod, hcd, hdd⟩ := x
 unfold pyNext; refine wpAny_bind (wpAny_attempt (wpAny_callSpecial?_slot (name := Str.ofString "__next__") hit.typeIs F.slot_dict_keyiterator_next (wpAny_call_entry F.slot_dict_keyiterator_next hit.typeIs F.entry_dict_keyiterator_next ?_ (F.args_dict_keyiterator_next_1 _))))
 refine wpAny_bind (wpAny_pure (wpAny_bind (wpAny_bind ?_)))
 first | exact wpAny_bind (wpAny_typeNameOfWhole_keyiter hit.typeIs (wpAny_pure ?_)) | refine wpAny_bind (wpAny_typeNameOfWhole_keyiter hit.typeIs (wpAny_pure ?_)); skip
 refine wpAny_bind (wpAny_fieldsOf ho hd ?_); have hown : Builtin.Dict_items.ownsTuple "dict_keyiterator" = false := by decide
 simp only [hown, Bool.false_eq_true, if_false]; show wpAny _ _ (if (Value.ref d == Value.none) = true then _ else _) _ _ s
 rw [if_neg (show ¬ ((Value.ref d == Value.none) = true) from Bool.false_ne_true)]; refine wpAny_bind (wpAny_pure (wpAny_bind (wpAny_dictEntries hod hdd ?_)))
 rw [if_neg (by simp)]; refine wpAny_bind (wpAny_pure (wpAny_bind (wpAny_dictEpoch hod hdd ?_)))
 rw [if_neg (by simp)]; refine wpAny_pure ?_
 simp only [show ¬ ((i : Int) < 0) from by lia, if_false, Int.toNat_natCast, Array.getElem?_eq_getElem hi]; refine wpAny_bind ?_
 refine wpAny_bind (wpAny_typeNameOfWhole_keyiter hit.typeIs (wpAny_pure ?_)); refine wpAny_bind (wpAny_isOneOf_keyiter hit.typeIs ?_)
 show wpAny _ _ (setField (.ref it) 1 (rawInt ((i : Int) + 1)) >>= _) _ _ s; refine wpAny_bind (wpAny_setField ho hd (by simp) ?_)
 have hit' : (s.heap.update it (Obj.mapFields (·.setIfInBounds 1 (rawInt ((i : Int) + 1))))).IsKeyIter it d (i + 1) es.size ep := ⟨_, Heap.get?_update_self _ ho (Obj.isFreed_of_fields (Obj.data_mapFields hd _)), (Obj.cls_mapFields ..).trans hc, by rw [Obj.data_mapFields hd]; simp [rawInt]⟩
 refine wpAny_bind (wpAny_holding ?_); refine wpAny_bind (wpAny_isOneOf_keyiter (s := { s with heap := s.heap.update it (Obj.mapFields (·.setIfInBounds 1 (rawInt ((i : Int) + 1)))) }) hit'.typeIs ?_)
 show wpAny _ _ (pure es[i].key) _ _ _; exact wpAny_pure (wpAny_pure ⟨_, rfl, wpAny_pure (hQ _ hit' (Heap.SameBut.update ..))⟩)
theorem fin {Q : Option Value → Shared → Prop} (hh : A.handled = none) (hit : s.heap.IsKeyIter it d es.size es.size ep) (x : Raw s.heap d es ep) (hQ : ∀ h', Heap.ExtBut it s.heap h' → Q none { s with heap := h' }) : wpAny (model prog w) A (pyNext (.ref it)) Q E s := by
 obtain ⟨o, ho, hc, hd⟩ := id hit; obtain ⟨od, hod, hcd, hdd⟩ := x
 unfold pyNext; refine wpAny_bind (wpAny_attempt (wpAny_callSpecial?_slot (name := Str.ofString "__next__") hit.typeIs F.slot_dict_keyiterator_next (wpAny_call_entry F.slot_dict_keyiterator_next hit.typeIs F.entry_dict_keyiterator_next ?_ (F.args_dict_keyiterator_next_1 _))))
 refine wpAny_bind (wpAny_pure (wpAny_bind (wpAny_bind ?_)))
 refine wpAny_bind (wpAny_typeNameOfWhole_keyiter hit.typeIs (wpAny_pure ?_)); skip
 refine wpAny_bind (wpAny_fieldsOf ho hd ?_); have hown : Builtin.Dict_items.ownsTuple "dict_keyiterator" = false := by decide
 simp only [hown, Bool.false_eq_true, if_false]; show wpAny _ _ (if (Value.ref d == Value.none) = true then _ else _) _ _ s
 rw [if_neg (show ¬ ((Value.ref d == Value.none) = true) from Bool.false_ne_true)]; refine wpAny_bind (wpAny_pure (wpAny_bind (wpAny_dictEntries hod hdd ?_)))
 rw [if_neg (by simp)]; refine wpAny_bind (wpAny_pure (wpAny_bind (wpAny_dictEpoch hod hdd ?_)))
 rw [if_neg (by simp)]; refine wpAny_pure ?_
 simp only [show ¬ ((es.size : Int) < 0) from by lia, if_false, Int.toNat_natCast, Array.getElem?_eq_none (Nat.le_refl _)]; refine wpAny_bind ?_
 refine wpAny_bind (wpAny_typeNameOfWhole_keyiter hit.typeIs (wpAny_pure ?_)); show wpAny _ _ (setField (.ref it) 0 .none >>= _) _ _ s
 refine wpAny_bind (wpAny_setField ho hd (by simp) ?_); show wpAny _ _ (newExc (.type "StopIteration") [] >>= _) _ _ _
 refine wpAny_bind ?_; simp only [newExc, newTuple]
 refine wpAny_bind (wpAny_newObj_type ?_ (by size_fits)); refine wpAny_bind (m := firstArgMember _ _) (wpAny_of_eq (a := Value.none) (by first | rfl | (simp only [firstArgMember]; rfl)) ?_)
 refine wpAny_newObj_type ?_ (by size_fits); simp only [raiseNew]
 refine wpAny_bind (wpAny_handled ?_); rw [show A.in1.handled = none from hh]
 refine wpAny_bind (wpAny_pure (wpAny_throw ?_)); refine wpAny_bind (wpAny_isInstance (T := "StopIteration") (b := true) ⟨_, Heap.get?_push_size _ rfl, rfl⟩ isSubtype_stop ?_)
 exact wpAny_pure (hQ _ (((Heap.SameBut.update ..).extBut.push _).push _))
theorem erase_keys {K : Type} [DecidableEq K] {k : K} : ∀ {xs : List (K × Addr × Value)} {j : Nat} {p : Addr × Value}, (xs.map (·.1)).Nodup → xs[j]? = some (k, p) → xs.eraseIdx j = xs.filter fun x => decide (x.1 ≠ k)
 | [], j, p, _, h => by simp at h
 | x :: r, 0, p, hn, h => by
  simp at h
  subst h
  rw [List.map_cons, List.nodup_cons] at hn
  have : r.filter (fun x => decide (x.1 ≠ k)) = r := List.filter_eq_self.mpr fun y hy => decide_eq_true fun e => hn.1 (e ▸ List.mem_map.mpr ⟨y, hy, rfl⟩)
  rw [List.eraseIdx_zero, List.tail_cons, List.filter_cons, if_neg (by simp), this]
 | x :: r, j + 1, p, hn, h => by
  rw [List.map_cons, List.nodup_cons] at hn
  have h' : r[j]? = some (k, p) := by simpa using h
  have ne : x.1 ≠ k := fun e => hn.1 (e ▸ List.mem_map.mpr ⟨_, List.mem_of_getElem? h', rfl⟩)
  rw [List.eraseIdx_cons_succ, List.filter_cons, if_pos (by simp [ne]), erase_keys hn.2 h']
theorem map_erase {α β : Type} (f : α → β) : ∀ (l : List α) (j : Nat), (l.map f).eraseIdx j = (l.eraseIdx j).map f
 | [], _ => rfl
 | _ :: _, 0 => rfl
 | x :: l, j + 1 => by simp only [List.map_cons, List.eraseIdx_cons_succ, map_erase f l j]
theorem takeOut {K : Type} [DecidableEq K] {knd : HeapKind prog w K} {a : Addr} {xs : List (K × Addr × Value)} {k : K} {p : Addr × Value} {Q : Option DictEntry → Shared → Prop} (hu : knd.room A) (hkey : knd.is s.heap k a) (hm : s.heap.DictOfH knd d xs)
  (hz : xs.length ≤ sizeLine) (hp : atKey xs k = some p) (hQ : ∀ h', h'.DictOfH knd d (xs.filter fun x => decide (x.1 ≠ k)) → Heap.SameBut d s.heap h' → Q (some ⟨knd.hash k, .ref p.1, p.2⟩) { s with heap := h', toks := s.toks + knd.draws k }) :
  wpAny (model prog w) A (Builtin.Dict.takeOut d (.ref a)) Q E s := by
 obtain ⟨o, es, ep, ho, hc, hd, he, his, hn⟩ := hm
 unfold Builtin.Dict.takeOut; try with_reducible refine wpAny_holding ?_
 refine wpAny_bind (knd.pyHash hu hkey (wpAny_bind (wpAny_dictFind_heap (s := { s with toks := s.toks + knd.draws k }) hu hkey ho hd he his hn ?_ ?_)))
 ·intro hno; rw [atKey_none_of_get hno] at hp; cases hp
 ·intro j q hj
  have eq := atKey_of_get hn hj; rw [hp] at eq; cases eq
  have hs : es.size = xs.length := size_of_entries he
  refine wpAny_bind (wpAny_dictEntries (s := { s with toks := s.toks + knd.draws k }) ho hd ?_)
  rw [entry_at he j, hj]
  refine wpAny_bind (wpAny_updateDictKeys (hz := by lia) (hf := Nat.le_succ_of_le (size_eraseIdxIfInBounds_le _ _)) (s := { s with toks := s.toks + knd.draws k }) ho hd (wpAny_pure (hQ _ ⟨_, _, ep + 1, Heap.get?_update_self _ ho (Obj.isFreed_of_dict (Obj.data_mapDictKeys hd _)), hc.mapDictKeys _, Obj.data_mapDictKeys hd _, ?_, ?_, ?_⟩ (Heap.SameBut.update ..))))
  ·rw [← erase_keys hn hj]
   obtain ⟨l⟩ := es
   simp only at he
   simp only [List.eraseIdxIfInBounds_toArray, he]
   exact map_erase _ _ _
  ·intro x hx
   exact knd.keeps (his x (List.mem_filter.mp hx).1) ho hd (Heap.SameBut.update ..)
  ·exact hn.sublist (List.filter_sublist.map _)
end
end RD
namespace L2
open PySem PySem.Spec PyProof.Rows
theorem KT.drop {H : Hp} {kvs : List (List Key × V)} {xs : List (List Key × Addr × Value)} (r : KT H kvs xs) (k : List Key) : KT H (dropK kvs k) (xs.filter fun x => decide (x.1 ≠ k)) := by
 unfold dropK
 induction r with
 | nil => exact .nil
 | @cons p q ps qs h t ih =>
  rw [List.filter_cons, List.filter_cons]
  by_cases e : p.1 = k
  ·rw [if_neg (by simp [e]), if_neg (by simp [h.1.symm.trans e])]; exact ih
  ·rw [if_pos (by simp [e]), if_pos (by simp [show ¬ q.1 = k from fun z => e (h.1.trans z)])]; exact .cons h ih
section
variable {X : Cx} {pins : List (Addr × Obj)} {σ : St} {H : Hp} {s : Shared} {a b : Addr} {kvs : List (List Key × V)} {k : List Key} {A : Around} {E : Value → Shared → Prop}
theorem dT_write {h' : Heap} {t' : Nat} {xs : List (List Key × Addr × Value)} {kvs' : List (List Key × V)} (I : Inv X pins σ H s) (e : H a = some (.dT kvs)) (hz : kvs'.length ≤ sizeLine) (hd : (a == sysModules) = false) (rel : KT H kvs' xs)
  (dd : h'.DictOfH (tupleKind (mixKind X.prog X.w)) a xs) (hs : Heap.SameBut a s.heap h') : Inv X pins σ (upd H a (.dT kvs')) { s with heap := h', toks := t' } := by
 obtain ⟨q, es, ep, hq, h2, h3, h4, _, h5⟩ := dd
 refine d_write I (by rw [e]; exact True.intro) hs ⟨q, hq⟩ ⟨hz, hd, _, rel.keeps fun c ys ec => ?_, q, es, ep, hq, h2, h3, h4, h5⟩
 rw [upd_ne (ne_of ec e (fun z => nomatch z))]; exact ec
theorem d_popT {v : V} {Q : Value → Shared → Prop} (hu : A.units + 1 < cLine) (I : Inv X pins σ H s) (e : H a = some (.dT kvs)) (eb : H b = some (.tup (k.map kV))) (l : valV kvs k = some v)
  (h : ∀ w' s', Inv X pins σ (upd H a (.dT (dropK kvs k))) s' → RelV v w' → Q w' s') : wpAny (model X.prog X.w) A (call (.builtin "dict.pop") [.ref a, .ref b]) Q E s := by
 obtain ⟨z, hd, xs, rel, dd⟩ := dt_of I.hok e
 obtain ⟨w', hw, rw'⟩ := RelO.some_of (v := v) (o := (atKey xs k).map (·.2)) (by rw [← l]; exact rel.val k)
 obtain ⟨p, hp, hp2⟩ := Option.map_eq_some_iff.mp hw
 have hz' : xs.length ≤ sizeLine := by rw [← Paired.length rel]; exact z
 have ne : xs ≠ [] := fun q => by subst q; simp [atKey] at hp
 refine call_meetsIn (S := fun A R s => (tupleKind (mixKind X.prog X.w)).room A.in1 ∧ (tupleKind (mixKind X.prog X.w)).is s.heap k b ∧ s.heap.DictOfH (tupleKind (mixKind X.prog X.w)) a xs ∧ ∀ h' tk, h'.DictOfH (tupleKind (mixKind X.prog X.w)) a (xs.filter fun x => decide (x.1 ≠ k)) → Heap.SameBut a s.heap h' → R (.ok (.ret p.2)) { s with heap := h', toks := tk })
  PySem.F.slot_dict_pop dd.typeIs PySem.F.entry_dict_pop (PySem.F.args_dict_pop_2 _ _) ?_ ⟨tupleKind_room_in1 hu, key_of I.hok eb, dd, fun h' tk dd' hs => ?_⟩
 ·refine .of_wp fun A R s ⟨hu, hk, hm, h⟩ => ?_
  have hm0 := hm
  obtain ⟨o, es, ep, ho, hc, hdat, he, _⟩ := hm
  unfold Builtin.«dict.pop»; refine wpAny_bind ?_
  unfold Builtin.Dict.keyAndDefault; refine wpAny_bind (wpAny_notOrdered_dict hm0.typeIs ?_)
  show wpAny _ _ (pure (a, Value.ref b, none)) _ _ s
  refine wpAny_pure ?_
  have kp : (keyPart (Value.ref b)).isSome = false := rfl
  simp only [kp, Bool.false_eq_true, if_false]
  refine wpAny_bind (wpAny_dictEntries ho hdat (wpAny_bind (wpAny_pure ?_)))
  have hne : es.isEmpty = false := by
   have := size_of_entries he
   cases xs with
   | nil => exact absurd rfl ne
   | cons _ _ => rw [List.length_cons] at this; rw [Array.isEmpty_eq_false_iff]; intro z; rw [z] at this; simp at this
  simp only [hne, Bool.false_eq_true, if_false]
  refine wpAny_bind (RD.takeOut hu hk hm0 hz' hp fun h' hm' hs' => ?_)
  simp only [Option.isNone_some, Bool.false_eq_true, if_false]
  exact wpAny_bind (wpAny_letGo (wpAny_pure ⟨p.2, rfl, h h' _ hm' hs'⟩))
 ·rw [hp2]
  exact h w' _ (dT_write I e (Nat.le_trans (dropK_le kvs k) z) hd (rel.drop k) dd' hs) rw'
end
inductive tDPopTI (ty : TE) (σ : St) (Q : VK) (x : V) (H1 : Hp) : Prop
 | mk (a : _) : (x = .ref a) → (IsD H1 a) → (ty σ H1 fun y H2 => ∃ kvs k b v, H2 a = some (.dT kvs) ∧ y = .ref b ∧ H2 b = some (.tup (k.map kV)) ∧ valV kvs k = some v ∧ Q v (upd H2 a (.dT (dropK kvs k)))) → tDPopTI ty σ Q x H1
noncomputable def tDPopT (td ty : TE) : TE := fun σ H Q => td σ H fun x H1 => tDPopTI ty σ Q x H1
section
variable {X : Cx} {o e i : Expr} {apos cpos tpos pos : Pos} {td ty : TE}
theorem pe_dpopT (hu : X.A.units + 1 < cLine) (ho : PE X o td) (he : PE X e ty) (m : M1 X o "pop" apos e cpos) : PE X (.Call (.Attribute o "pop" apos) [e] [] cpos) (tDPopT td ty) := by
 intro pins s σ H Q I h
 refine wpAny_Call_method m.base m.few m.line PySem.F.plainAttrs_dict PySem.F.slot_dict_pop PySem.F.type_dict_pop (thn (ho pins s σ H _ I h) fun u s1 ⟨x, H1, I1, rx, a, ex, d, q1⟩ => ?_)
 subst ex; obtain rfl : u = Value.ref a := rx
 obtain ⟨t1, t2, _⟩ := isD_at I1 d
 refine ⟨t1, t2, ?_⟩
 rw [m.trees]; refine Calls.callWith_builtin rfl (Calls.evalArgs_plain (Calls.spliced_cons (thn (he pins s1 σ H1 _ I1 q1) fun iv s2 ⟨y, H2, I2, ry, kvs, k, b, v, ea, ey, eb, l, q2⟩ => Calls.spliced_nil ?_)))
 subst ey; obtain rfl : iv = Value.ref b := ry
 exact d_popT hu I2 ea eb l fun w' s3 I3 rw' => ⟨v, _, I3, rw', q2⟩
end
end L2
namespace L2
open PySem PySem.Spec PyProof.Rows
section
variable {P : Program} {w : World} {H H' : Hp} {h : Heap} {a : Addr} {o : HO}
end
section
variable {X : Cx} {pins : List (Addr × Obj)} {σ : St} {H H' : Hp} {s s' : Shared} {a : Addr} {C : Value} {B h2 : Heap}
end
section
variable {P : Program} {w : World} {K : PySem.W.Frag} {mg : Str → Option Value} {base : Heap} {N : List Str} {qual : Str} {scope : Scope} {f : Addr} {cd : Value} {A : Around} {outer : List Env} {s : Shared} {H : Hp} {E : XK}
end
section
variable {X : Cx} {E : XK} {x : Str} {C : Addr} {bmB : List Value} {newId B initId : String} {e₀ : Expr} {es : List Expr} {t : TA} {np cpos pos : Pos}
end
end L2
namespace L2
open PySem PySem.Spec PyProof.Rows
section
variable {X : Cx} {pins pins' : List (Addr × Obj)} {σ : St} {H : Hp} {s : Shared} {E : XK} {a : Addr}
end
section
variable {X : Cx} {body suite : List Stmt} {b₀ : Stmt} {h₀ : ExceptHandler} {hs : List ExceptHandler} {tb th : TS} {tE : XK → TS} {x n : Str} {C' : Addr} {np pos hpos : Pos} {i : Nat}
end
end L2
namespace L2
open PySem PySem.Spec PyProof.Rows
section
variable {X : Cx} {pins : List (Addr × Obj)} {σ : St} {H : Hp} {s : Shared}
end
section
variable {X : Cx} {body suite : List Stmt} {b₀ : Stmt} {th : TS} {tE : XK → TS} {x n : Str} {C' : Addr} {np pos hpos : Pos} {i : Nat}
end
end L2
namespace RD
open PySem PyProof.Rows
section
variable {prog : Program} {w : World} {A : Around} {E : Value → Shared → Prop} {s : Shared} {d it v : Addr} {es : Array DictEntry} {ep i : Nat} {ok ov : Value}
theorem iview {Q : Value → Shared → Prop} (hd : (d == sysModules) = false) (x : Raw s.heap d es ep) (hQ : Q (.ref s.heap.objs.size) { s with heap := s.heap.push { cls := .type "dict_items", data := .fields #[.ref d] } }) :
  wpAny (model prog w) A (call (.builtin "dict.items") [.ref d]) Q E s := by
 have hT := x.type
 refine call_meetsIn (S := fun _ R s => (∃ es ep, Raw s.heap d es ep) ∧ R (.ok (.ret (.ref s.heap.objs.size))) { s with heap := s.heap.push { cls := .type "dict_items", data := .fields #[.ref d] } }) PySem.F.slot_dict_items hT PySem.F.entry_dict_items (PySem.F.args_dict_items_1 _) ?_ ⟨⟨_, _, x⟩, hQ⟩
 refine .of_wp fun A R s ⟨⟨es, ep, hm⟩, h⟩ => ?_
 unfold Builtin.«dict.items»; refine wpAny_bind ?_
 unfold Builtin.Dict.noArgs; refine wpAny_bind (wpAny_notOrdered_dict hm.type ?_)
 show wpAny _ _ (pure d) _ _ s; refine wpAny_pure ?_
 show wpAny _ _ (Builtin.Dict.showsAll d >>= _) _ _ s; unfold Builtin.Dict.showsAll
 rw [if_neg (by rw [hd]; exact Bool.false_ne_true)]; refine wpAny_bind (wpAny_pure (wpAny_bind (wpAny_newObj_type (wpAny_pure ⟨_, rfl, h⟩))))
theorem iiter {Q : Value → Shared → Prop} (hv : s.heap.IsItemsView v d) (x : Raw s.heap d es ep)
  (hQ : Q (.ref s.heap.objs.size) { s with heap := s.heap.push { cls := .type "dict_itemiterator", data := .fields #[.none, .bool false, .ref d, .int 0 0, .int es.size 0, .int ep 0, .none, .none] } }) :
  wpAny (model prog w) A (pyIter (.ref v)) Q E s := by
 obtain ⟨o', hov, hcv, hdv⟩ := id hv; obtain ⟨o, ho, hc, hdat⟩ := x
 refine wpAny_pyIter_slot hv.typeIs F.slot_dict_items_iter (wpAny_call_entry F.slot_dict_items_iter hv.typeIs F.entry_dict_items_iter ?_ (F.args_dict_items_iter_1 _))
 unfold Builtin.«dict_items.__iter__»; refine wpAny_bind (wpAny_pure (wpAny_bind ?_))
 unfold Builtin.Dict_items.dictOf; refine wpAny_bind (wpAny_field hov hdv (x := .ref d) rfl (wpAny_pure (wpAny_bind ?_)))
 unfold Builtin.Dict_items.newIterator; refine wpAny_bind (wpAny_dictEntries ho hdat (wpAny_bind (wpAny_dictEpoch ho hdat ?_)))
 have hown : Builtin.Dict_items.ownsTuple "dict_itemiterator" = true := by decide
 simp only [hown, if_true]; refine wpAny_newObj_type (wpAny_pure ⟨_, rfl, "dict_itemiterator", _, ⟨_, Heap.get?_push_size _ rfl, rfl⟩, F.slot_dict_itemiterator_next.lookup, ?_⟩) (by simp only [sizeOk, Builtin.Dict_items.ownedTupleFields, List.size_toArray, List.length_append, List.length_cons, List.length_nil, sizeLine_eq]; lia)
 simpa [rawInt, Builtin.Dict_items.ownedTupleFields] using hQ
theorem inext {Q : Option Value → Shared → Prop} (hit : IsItemIter s.heap it d i es.size ep ok ov) (x : Raw s.heap d es ep) (hi : i < es.size)
    (hQ : ∀ h', IsItemIterOut h' it d (i + 1) es.size ep es[i].key es[i].val s.heap.objs.size → h'.get? s.heap.objs.size = some { cls := .type "tuple", data := .seq #[es[i].key, es[i].val] } → h'.objs.size = s.heap.objs.size + 1 →
      (∀ b o, b ≠ it → s.heap.get? b = some o → h'.get? b = some o) → Q (some (.ref s.heap.objs.size)) { s with heap := h' }) : wpAny (model prog w) A (pyNext (.ref it)) Q E s := by
  obtain ⟨hp, g, dr, tk, os⟩ := s; obtain ⟨od, hod, hcd, hdd⟩ := x
  have hT : Shared.TypeIs ⟨hp, g, dr, tk, os⟩ (.ref it) "dict_itemiterator" := ⟨_, hit, rfl⟩
  unfold pyNext; refine wpAny_bind (wpAny_attempt (wpAny_callSpecial?_slot (name := Str.ofString "__next__") hT F.slot_dict_itemiterator_next (wpAny_call_entry F.slot_dict_itemiterator_next hT F.entry_dict_itemiterator_next ?_ (F.args_dict_itemiterator_next_1 _))))
  refine wpAny_bind (wpAny_pure (wpAny_bind (wpAny_bind ?_)))
  refine wpAny_bind (wpAny_typeNameOfWhole_itemiter hT (wpAny_pure ?_)); refine wpAny_bind (wpAny_fieldsOf hit rfl ?_)
  have hown : Builtin.Dict_items.ownsTuple "dict_itemiterator" = true := by decide
  simp only [hown, if_true]; show wpAny _ _ (if (Value.ref d == Value.none) = true then _ else _) _ _ _
  rw [if_neg (show ¬ ((Value.ref d == Value.none) = true) from Bool.false_ne_true)]; refine wpAny_bind (wpAny_pure (wpAny_bind (wpAny_dictEntries hod hdd ?_)))
  rw [if_neg (by simp)]; refine wpAny_bind (wpAny_pure (wpAny_bind (wpAny_dictEpoch hod hdd ?_)))
  rw [if_neg (by simp)]; refine wpAny_pure ?_
  simp only [show ¬ ((i : Int) < 0) from by lia, if_false, Int.toNat_natCast, Array.getElem?_eq_getElem hi]; refine wpAny_bind ?_
  refine wpAny_bind (wpAny_typeNameOfWhole_itemiter hT (wpAny_pure ?_)); refine wpAny_bind (wpAny_isOneOf_itemiter hT ?_)
  show wpAny _ _ (setField (.ref it) 3 (rawInt ((i : Int) + 1)) >>= _) _ _ ⟨hp, g, dr, tk, os⟩; refine wpAny_bind (wpAny_setField_rec hit (by simp) fun h₁ he₁ hs₁ => ?_)
  replace hs₁ : Heap.SameBut it hp h₁ := hs₁
  replace he₁ : IsItemIter h₁ it d (i + 1) es.size ep ok ov := by have e : ((i + 1 : Nat) : Int) = (i : Int) + 1 := by lia
                                                                  unfold IsItemIter; rw [e]; simpa [rawInt] using he₁
  have hT₁ : Shared.TypeIs ⟨h₁, g, dr, tk, os⟩ (.ref it) "dict_itemiterator" := ⟨_, he₁, rfl⟩
  refine wpAny_bind (wpAny_holding ?_); refine wpAny_bind (wpAny_isOneOf_itemiter hT₁ ?_); refine wpAny_bind (wpAny_isOneOf_itemiter hT₁ ?_)
  show wpAny _ _ (Builtin.Dict_items.pairFromOwner (.ref it) 6 es[i].key es[i].val) _ _ ⟨h₁, g, dr, tk, os⟩; unfold Builtin.Dict_items.pairFromOwner
  refine wpAny_bind (wpAny_newTuple ?_)
  have he₂ : IsItemIter (h₁.push { cls := .type "tuple", data := .seq #[es[i].key, es[i].val] }) it d (i + 1) es.size ep ok ov := Heap.get?_push_of_some _ he₁
  generalize hh₂ : h₁.push { cls := .type "tuple", data := .seq #[es[i].key, es[i].val] } = h₂ at he₂
  have hz₁ : h₁.objs.size = hp.objs.size := hs₁.1; have hil : it < hp.objs.size := Heap.lt_size hit
  have ht₂ : h₂.get? hp.objs.size = some { cls := .type "tuple", data := .seq #[es[i].key, es[i].val] } := by rw [← hh₂, ← hz₁]; exact Heap.get?_push_size _ rfl
  have hz₂ : h₂.objs.size = hp.objs.size + 1 := by rw [← hh₂, Heap.size_push, hz₁]
  have hk₂ : ∀ b o, b ≠ it → hp.get? b = some o → h₂.get? b = some o := fun b o hb e => by rw [← hh₂]; exact Heap.get?_push_of_some _ (hs₁.extBut b o hb e)
  show wpAny _ _ (Builtin.Dict_items.ownedTupleIsFree (.ref it) >>= _) _ _ ⟨h₂, g, dr, tk, os⟩; rw [hz₁]
  clear hh₂ he₁ hs₁ hT₁ hz₁ h₁; refine wpAny_bind ?_
  unfold Builtin.Dict_items.ownedTupleIsFree; refine wpAny_bind (wpAny_field he₂ rfl (x := .none) rfl (wpAny_pure ?_))
  simp only [if_true]; refine wpAny_bind (wpAny_field he₂ rfl (x := ok) rfl (wpAny_bind (wpAny_field he₂ rfl (x := ov) rfl ?_)))
  refine wpAny_bind (wpAny_setField_rec he₂ (by simp) fun h₃ he₃ hs₃ => ?_); replace hs₃ : Heap.SameBut it h₂ h₃ := hs₃
  replace he₃ : IsItemIter h₃ it d (i + 1) es.size ep es[i].key ov := he₃; refine wpAny_bind (wpAny_setField_rec he₃ (by simp) fun h₄ he₄ hs₄ => ?_)
  replace hs₄ : Heap.SameBut it h₃ h₄ := hs₄; replace he₄ : IsItemIter h₄ it d (i + 1) es.size ep es[i].key es[i].val := he₄
  refine wpAny_bind (wpAny_setField_rec he₄ (by simp) fun h₅ he₅ hs₅ => ?_); replace hs₅ : Heap.SameBut it h₄ h₅ := hs₅
  replace he₅ : IsItemIterOut h₅ it d (i + 1) es.size ep es[i].key es[i].val hp.objs.size := he₅; refine wpAny_bind (wpAny_setField_rec he₅ (by simp) fun h₆ he₆ hs₆ => ?_)
  replace hs₆ : Heap.SameBut it h₅ h₆ := hs₆; replace he₆ : IsItemIterOut h₆ it d (i + 1) es.size ep es[i].key es[i].val hp.objs.size := he₆
  refine wpAny_bind (wpAny_letGo (wpAny_pure (wpAny_pure ⟨_, rfl, wpAny_pure (hQ h₆ he₆ ?_ ?_ ?_)⟩)))
  · exact hs₆.extBut _ _ (Nat.ne_of_gt hil) (hs₅.extBut _ _ (Nat.ne_of_gt hil) (hs₄.extBut _ _ (Nat.ne_of_gt hil) (hs₃.extBut _ _ (Nat.ne_of_gt hil) ht₂)))
  · show h₆.objs.size = hp.objs.size + 1; rw [hs₆.1, hs₅.1, hs₄.1, hs₃.1, hz₂]
  · exact fun b o hb e => hs₆.extBut b o hb (hs₅.extBut b o hb (hs₄.extBut b o hb (hs₃.extBut b o hb (hk₂ b o hb e))))
theorem ifin {Q : Option Value → Shared → Prop} (hh : A.handled = none) (hit : IsItemIter s.heap it d i es.size ep ok ov) (x : Raw s.heap d es ep) (hi : es.size ≤ i) (hQ : ∀ h', Heap.ExtBut it s.heap h' → Q none { s with heap := h' }) : wpAny (model prog w) A (pyNext (.ref it)) Q E s := by
 obtain ⟨od, hod, hcd, hdd⟩ := x; have hT : s.TypeIs (.ref it) "dict_itemiterator" := ⟨_, hit, rfl⟩
 unfold pyNext; refine wpAny_bind (wpAny_attempt (wpAny_callSpecial?_slot (name := Str.ofString "__next__") hT F.slot_dict_itemiterator_next (wpAny_call_entry F.slot_dict_itemiterator_next hT F.entry_dict_itemiterator_next ?_ (F.args_dict_itemiterator_next_1 _))))
 refine wpAny_bind (wpAny_pure (wpAny_bind (wpAny_bind ?_)))
 refine wpAny_bind (wpAny_typeNameOfWhole_itemiter hT (wpAny_pure ?_)); refine wpAny_bind (wpAny_fieldsOf hit rfl ?_)
 have hown : Builtin.Dict_items.ownsTuple "dict_itemiterator" = true := by decide
 simp only [hown, if_true]; show wpAny _ _ (if (Value.ref d == Value.none) = true then _ else _) _ _ s
 rw [if_neg (show ¬ ((Value.ref d == Value.none) = true) from Bool.false_ne_true)]; refine wpAny_bind (wpAny_pure (wpAny_bind (wpAny_dictEntries hod hdd ?_)))
 rw [if_neg (by simp)]; refine wpAny_bind (wpAny_pure (wpAny_bind (wpAny_dictEpoch hod hdd ?_)))
 rw [if_neg (by simp)]; refine wpAny_pure ?_
 simp only [show ¬ ((i : Int) < 0) from by lia, if_false, Int.toNat_natCast, Array.getElem?_eq_none hi]; refine wpAny_bind ?_
 refine wpAny_bind (wpAny_typeNameOfWhole_itemiter hT (wpAny_pure ?_)); show wpAny _ _ (setField (.ref it) 2 .none >>= _) _ _ s
 refine wpAny_bind (wpAny_setField hit rfl (by simp) ?_); show wpAny _ _ (newExc (.type "StopIteration") [] >>= _) _ _ _
 refine wpAny_bind ?_; simp only [newExc, newTuple]
 refine wpAny_bind (wpAny_newObj_type ?_ (by size_fits)); refine wpAny_bind (m := firstArgMember _ _) (wpAny_of_eq (a := Value.none) (by first | rfl | (simp only [firstArgMember]; rfl)) ?_)
 refine wpAny_newObj_type ?_ (by size_fits); simp only [raiseNew]
 refine wpAny_bind (wpAny_handled ?_); rw [show A.in1.handled = none from hh]
 refine wpAny_bind (wpAny_pure (wpAny_throw ?_)); refine wpAny_bind (wpAny_isInstance (T := "StopIteration") (b := true) ⟨_, Heap.get?_push_size _ rfl, rfl⟩ isSubtype_stop ?_)
 exact wpAny_pure (hQ _ (((Heap.SameBut.update ..).extBut.push _).push _))
end
end RD
namespace L2
open PySem PySem.Spec PyProof.Rows
section
variable {X : Cx} {pins : List (Addr × Obj)} {σ : St} {H : Hp} {s : Shared} {d : Addr} {o : Obj} {u : HO} {kvs : List (List Key × V)}
theorem Inv.thaw (I : Inv X pins σ H s) (e : H d = some (.frz o u)) (h0 : ∀ o' u', X.H₀ d ≠ some (.frz o' u')) : Inv X pins σ (upd H d u) s := by
 have ne : ∀ {b : Addr}, H b = none → b ≠ d := fun z q => by rw [q, e] at z; cases z
 refine ⟨I.ok, I.os, I.bare, ⟨I.base.keep, I.base.slot, fun b ob q n hx => ?_, I.base.there, fun b xs q => ?_, fun b ob v q => ?_, fun b ps q => ?_⟩, I.loc, I.cell, by rw [upd_ne (ne I.free)]; exact I.free, fun x c q => by rw [upd_ne (ne (I.freeC x c q))]; exact I.freeC x c q, fun p hp => ?_, fun b ob q => ?_, I.len⟩
 ·have z := I.base.free b ob q n hx
  rw [upd_ne (ne z)]; exact z
 ·have z := I.base.tups b xs q
  rw [upd_ne (ne_of z e (by intro y; cases y))]; exact z
 ·have z := I.base.frzs b ob v q
  rw [upd_ne (fun y => h0 ob v (by rw [← y]; exact q))]; exact z
 ·obtain ⟨m, z⟩ := I.base.tbls b ps q
  exact ⟨m, by rw [upd_ne (ne_of z e (by intro y; cases y))]; exact z⟩
 ·obtain ⟨q, n, r⟩ := I.pin p hp
  exact ⟨q, by rw [upd_ne (ne n)]; exact n, r⟩
 ·have ow : ∀ {c a : Addr}, H c = some (.own a) → upd H d u c = some (.own a) := fun z => by rw [upd_ne (ne_of z e (by intro y; cases y))]; exact z
  have tp : ∀ {c : Addr} {xs : List V}, H c = some (.tup xs) → upd H d u c = some (.tup xs) := fun z => by rw [upd_ne (ne_of z e (by intro y; cases y))]; exact z
  by_cases hb : b = d
  ·subst hb
   rw [upd_same] at q; cases q
   obtain ⟨_, z⟩ := (show ObjOk X.prog X.w H s.heap b (.frz o u) from I.hok b _ e)
   exact z.stay (fun _ _ _ y => y) (fun _ y => ow y) fun _ _ y => tp y
  ·rw [upd_ne hb] at q
   exact (I.hok b ob q).stay (fun _ _ _ y => y) (fun _ y => ow y) fun _ _ y => tp y
noncomputable def notFrz : HO → Prop
 | .frz _ _ => False
 | _ => True
inductive tThawI (t : TE) (σ : St) (H : Hp) (Q : VK) : Prop
 | mk (d : _) (u : _) : (H d = some u) → (notFrz u) → (t σ H fun v H' => ∃ o, H' d = some (.frz o u) ∧ Q v (upd H' d u)) → tThawI t σ H Q
noncomputable def tThaw (t : TE) : TE := fun σ H Q => tThawI t σ H Q
theorem pe_thaw {e : Expr} {t : TE} (h : PE X e t) : PE X e (tThaw t) := by
 intro pins s σ H Q I hq
 obtain ⟨d, u, hd, hn, q⟩ := hq
 refine thn (h pins s σ H _ I q) fun v s1 ⟨x, H1, I1, r, o, e1, q1⟩ => ⟨x, _, I1.thaw e1 fun o' u' z => ?_, r, q1⟩
 have := I.base.frzs d o' u' z
 rw [hd] at this; cases this
 exact hn
theorem frz_raw {P : Program} {w : World} {H : Hp} {h : Heap} {es : Array DictEntry} {ep : Nat} (ok : HOk P w H h) (e : H d = some (.frz o (.dT kvs))) (ho : o.data = .dict es ep) :
  ∃ xs, KT H kvs xs ∧ RD.Raw h d es ep ∧ es.toList = xs.map (entryOfKey (tupleKind (mixKind P w))) ∧ es.size = kvs.length ∧ (d == sysModules) = false := by
 obtain ⟨h1, _, hd, xs, rel, o', es', ep', h2, h3, h4, h5, _⟩ := (show ObjOk P w H h d (.frz o (.dT kvs)) from ok d _ e)
 rw [h1] at h2; cases h2
 rw [ho] at h4; cases h4
 exact ⟨xs, rel, ⟨o, h1, h3, ho⟩, h5, by have := congrArg List.length h5; rw [List.length_map, ← Paired.length rel] at this; simpa using this, hd⟩
theorem KT.at {xs : List (List Key × Addr × Value)} (r : KT H kvs xs) {i : Nat} (hi : i < kvs.length) : ∃ k v x, kvs[i]? = some (k, v) ∧ xs[i]? = some x ∧ H x.2.1 = some (.tup (k.map kV)) ∧ RelV v x.2.2 := by
 induction r generalizing i with
 | nil => exact absurd hi (by simp)
 | @cons p q ps qs h t ih =>
  cases i with
  | zero => exact ⟨p.1, p.2, q, rfl, rfl, h.2.1, h.2.2⟩
  | succ i =>
   obtain ⟨k, v, x, h1, h2, h3⟩ := ih (i := i) (by simpa using hi)
   exact ⟨k, v, x, by simpa using h1, by simpa using h2, h3⟩
noncomputable def Itdk (d : Addr) (o : Obj) : It := ⟨fun i H => ∃ kvs, H d = some (.frz o (.dT kvs)) ∧ i < kvs.length, fun i H x H' => H' = H ∧ ∀ kvs, H d = some (.frz o (.dT kvs)) → ∃ k v b, kvs[i]? = some (k, v) ∧ x = .ref b ∧ H b = some (.tup (k.map kV)), fun i H => ∃ kvs, H d = some (.frz o (.dT kvs)) ∧ kvs.length = i⟩
noncomputable def Itdi (d : Addr) (o : Obj) : It := ⟨fun i H => ∃ kvs, H d = some (.frz o (.dT kvs)) ∧ i < kvs.length, fun i H x H' => ∀ kvs, H d = some (.frz o (.dT kvs)) → ∃ k v b t, kvs[i]? = some (k, v) ∧ x = .ref t ∧ H t = none ∧ H b = some (.tup (k.map kV)) ∧ H' = upd H t (.tup [.ref b, v]), fun i H => ∃ kvs, H d = some (.frz o (.dT kvs)) ∧ kvs.length ≤ i⟩
theorem turn_dkeys {P : Program} {w : World} {K : PySem.W.Frag} {tg : Expr} {es : Array DictEntry} {ep : Nat} (it : Addr) (ho : o.data = .dict es ep) : Turn P w K tg (Itdk d o) [it] it (fun i h => h.IsKeyIter it d i es.size ep) where
 mem := by simp
 obj := fun i h st b hb => by
  have e : b = it := by simpa using hb
  subst e
  obtain ⟨o', e, c, dd⟩ := st
  exact ⟨o', e, fun v z => by rw [dd] at z; cases z⟩
 keep := fun i h h' st k => st.at fun o e => k it (by simp) o e
 item := by
  intro X hP hw hK hc i pins s σ H E I hf st hg
  subst hP hw hK
  obtain ⟨kvs, hk, hi⟩ := hg
  obtain ⟨xs, rel, raw, he, hz, hd⟩ := frz_raw I.hok hk ho
  obtain ⟨k, v, x, h1, h2, h3, h4⟩ := rel.at hi
  obtain ⟨f0, f1, f2, f3, f4, f5⟩ := hf it (by simp)
  have hie : i < es.size := by lia
  refine RD.next st raw hie fun h' st' sb => ?_
  have I1 : Inv X pins σ H { s with heap := h' } := I.turned (t' := s.toks) (fun b ob hb e => (sb.2 b hb).trans e) f0 f1 f3 f4 f5
  obtain ⟨o', e', c', dd'⟩ := id st'
  have ek : es[i].key = .ref x.2.1 := by
   have z := entry_at he i
   rw [h2, Array.getElem?_eq_getElem hie] at z
   have z' := Option.some.inj z
   rw [z']; rfl
  refine ⟨_, rfl, go_of (s := { s with heap := h' }) e' c' dd' (by decide) ⟨.ref x.2.1, H, I1, by rw [ek]; rfl, ⟨rfl, fun kvs' hk' => ?_⟩, st', fun b hb => (hf b hb).1⟩⟩
  rw [hk] at hk'; cases hk'
  exact ⟨k, v, x.2.1, h1, rfl, h3⟩
 done := by
  intro X hP hw hK hc i pins s σ H E I hf st hg
  subst hP hw hK
  obtain ⟨kvs, hk, hi⟩ := hg
  obtain ⟨xs, rel, raw, he, hz, hd⟩ := frz_raw I.hok hk ho
  obtain ⟨f0, f1, f2, f3, f4, f5⟩ := hf it (by simp)
  obtain rfl : i = es.size := by lia
  exact RD.fin (I.ok.hd hc) st raw fun h' eb => ⟨rfl, I.turned (t' := s.toks) (fun b ob hb e => eb b ob hb e) f0 f1 f3 f4 f5⟩
 self := fun _ _ _ _ _ st h => wpAny_pyIter_keyiter st h
theorem turn_ditems {P : Program} {w : World} {K : PySem.W.Frag} {elts : List Expr} {x1} {tpos : Pos} {es : Array DictEntry} {ep : Nat} (it : Addr) (ho : o.data = .dict es ep) : Turn P w K (.Tuple elts x1 tpos) (Itdi d o) [it] it (fun i h => ∃ ok ov, IsItemIter h it d i es.size ep ok ov) where
 mem := by simp
 obj := fun i h ⟨ok, ov, st⟩ b hb => by
  have e : b = it := by simpa using hb
  subst e
  exact ⟨_, st, fun v z => by
   have z' : Data.fields _ = Data.cell v := z
   cases z'⟩
 keep := fun i h h' ⟨ok, ov, st⟩ k => ⟨ok, ov, k it (by simp) _ st⟩
 item := by
  intro X hP hw hK hc i pins s σ H E I hf st hg
  subst hP hw hK
  obtain ⟨ok, ov, st⟩ := st
  obtain ⟨kvs, hk, hi⟩ := hg
  obtain ⟨xs, rel, raw, he, hz, hd⟩ := frz_raw I.hok hk ho
  obtain ⟨k, v, x, h1, h2, h3, h4⟩ := rel.at hi
  obtain ⟨f0, f1, f2, f3, f4, f5⟩ := hf it (by simp)
  have hie : i < es.size := by lia
  have ee : es[i].key = .ref x.2.1 ∧ es[i].val = x.2.2 := by
   have z := entry_at he i
   rw [h2, Array.getElem?_eq_getElem hie] at z
   have z' := Option.some.inj z
   rw [z']; exact ⟨rfl, rfl⟩
  refine RD.inext st raw hie fun h' st' ht' hsz' kp' => ⟨_, rfl, ?_⟩
  rw [ee.1, ee.2] at st' ht'
  refine wpAny_letOwnedTupleGo_items (s := { s with heap := h' }) st' fun h2' st2 sb => ?_
  have ilt : it < s.heap.objs.size := Heap.lt_size st
  have kp : ∀ b ob, b ≠ it → s.heap.get? b = some ob → h2'.get? b = some ob := fun b ob hb e => sb.extBut b ob hb (kp' b ob hb e)
  have htn : h2'.get? s.heap.objs.size = some { cls := .type "tuple", data := .seq #[.ref x.2.1, x.2.2] } := sb.extBut _ _ (Nat.ne_of_gt ilt) ht'
  have I1 : Inv X pins σ H { s with heap := s.heap } := I
  have fr : H s.heap.objs.size = none := I.hok.fresh (Nat.le_refl _)
  have I2 : Inv X pins σ (upd H s.heap.objs.size (.tup [.ref x.2.1, v])) { s with heap := h2' } := by
   have nit : ∀ {b : Addr} {ob : HO}, H b = some ob → b ≠ it := fun e z => by rw [z, f0] at e; cases e
   refine I.step (g' := s.gens) (d' := s.drawn) (t' := s.toks) (ch := [it]) (fun b hb => ?_) (fun b ob _ _ hc' e _ => kp b ob (fun z => hc' (by simp [z])) e) (fun b ob _ _ hc' e _ => ⟨ob.slots, kp b ob (fun z => hc' (by simp [z])) e⟩)
    (fun b ob _ e n => by rw [upd_ne (Nat.ne_of_lt (Heap.lt_size e))]; exact n) (fun b ob hc' e => ⟨ob, kp b ob (fun z => hc' (by simp [z])) e⟩)
    (fun b ys e => by rw [upd_ne (ne_of_none e fr)]; exact e) (fun b ob w' e => by rw [upd_ne (ne_of_none e fr)]; exact e) (fun b ps e => ⟨#[], by rw [upd_ne (ne_of_none e fr), e]; simp⟩) (fun m hm => ?_) (fun b ob e => ?_) I.bare
   ·have e : b = it := by simpa using hb
    subst e
    exact ⟨f3, f1, f4, f5⟩
   ·obtain ⟨ob, es', ep', hob, r⟩ := hm
    exact ⟨ob, es', ep', kp _ _ (Ne.symm f1) hob, r⟩
   ·by_cases hb : b = s.heap.objs.size
    ·subst hb
     rw [upd_same] at e; cases e
     exact ⟨by show 2 ≤ sizeLine; decide, [.ref x.2.1, x.2.2], .cons rfl (.cons h4 .nil), ⟨_, htn, rfl, _, rfl⟩⟩
    ·rw [upd_ne hb] at e
     refine (I.hok b ob e).stay (fun c u hc' q => kp c u ?_ q) (fun c q => by rw [upd_ne (ne_of_none q fr)]; exact q) fun c ys q => by rw [upd_ne (ne_of_none q fr)]; exact q
     rcases hc' with z | z
     ·rw [z]; exact nit e
     ·exact nit z
  refine ⟨.ref s.heap.objs.size, _, I2, rfl, fun kvs' hk' => ?_, ⟨_, _, st2⟩, fun b hb => ?_⟩
  ·rw [hk] at hk'; cases hk'
   exact ⟨k, v, x.2.1, _, h1, rfl, fr, h3, rfl⟩
  ·have e : b = it := by simpa using hb
   subst e
   rw [upd_ne (Nat.ne_of_lt ilt)]; exact f0
 done := by
  intro X hP hw hK hc i pins s σ H E I hf st hg
  subst hP hw hK
  obtain ⟨ok, ov, st⟩ := st
  obtain ⟨kvs, hk, hi⟩ := hg
  obtain ⟨xs, rel, raw, he, hz, hd⟩ := frz_raw I.hok hk ho
  obtain ⟨f0, f1, f2, f3, f4, f5⟩ := hf it (by simp)
  exact RD.ifin (I.ok.hd hc) st raw (by lia) fun h' eb => ⟨rfl, I.turned (t' := s.toks) (fun b ob hb e => eb b ob hb e) f0 f1 f3 f4 f5⟩
 self := fun _ _ _ _ _ ⟨_, _, st⟩ h => PySem.W.kcp_self st h
end
noncomputable def isView (v d : Addr) : Heap → Prop := fun h => h.IsItemsView v d
inductive rItemsI (x : V) (xs : List V) (H : Hp) (Q : VK) : Prop
 | mk (d : _) (kvs : _) : (x = .ref d) → (xs = []) → (H d = some (.dT kvs)) → (∀ v, H v = none → Q (.ref v) (upd H v (.ext (isView v d)))) → rItemsI x xs H Q
noncomputable def rItems : V → List V → Hp → VK → Prop := fun x xs H Q => rItemsI x xs H Q
inductive iDKI (R : It → Hp → Prop) (x : V) (H1 : Hp) : Prop
 | mk (d : _) (kvs : _) : (x = .ref d) → (H1 d = some (.dT kvs)) → (∀ o, R (Itdk d o) (upd H1 d (.frz o (.dT kvs)))) → iDKI R x H1
noncomputable def iDK (te : TE) : TI := fun σ H R => te σ H fun x H1 => iDKI R x H1
inductive iDII (R : It → Hp → Prop) (x : V) (H1 : Hp) : Prop
 | mk (v : _) (d : _) (kvs : _) : (x = .ref v) → (H1 v = some (.ext (isView v d))) → (H1 d = some (.dT kvs)) → (∀ o, R (Itdi d o) (upd H1 d (.frz o (.dT kvs)))) → iDII R x H1
noncomputable def iDI (te : TE) : TI := fun σ H R => te σ H fun x H1 => iDII R x H1
section
variable {X : Cx} {pins : List (Addr × Obj)} {σ : St} {H : Hp} {s : Shared} {d : Addr} {kvs : List (List Key × V)}
theorem Inv.freeze (I : Inv X pins σ H s) (e : H d = some (.dT kvs)) : ∃ o es ep, o.data = .dict es ep ∧ RD.Raw s.heap d es ep ∧ es.size = kvs.length ∧ (d == sysModules) = false ∧ Inv X pins σ (upd H d (.frz o (.dT kvs))) s := by
 obtain ⟨z, hd, xs, rel, o, es, ep, h1, h2, h3, h4, h5⟩ := (show ObjOk X.prog X.w H s.heap d (.dT kvs) from I.hok d _ e)
 have hsz : es.size = kvs.length := by have := congrArg List.length h4; rw [List.length_map, ← Paired.length rel] at this; simpa using this
 refine ⟨o, es, ep, h3, ⟨o, h1, h2, h3⟩, hsz, hd, I.write (t' := s.toks) (x := d) (e := d) (h' := s.heap) (by rw [e]; exact True.intro) (.inl rfl) (fun _ _ _ q => q) ⟨o, h1⟩ ⟨h1, z, hd, xs, ?_, o, es, ep, h1, h2, h3, h4, h5⟩⟩
 exact Paired.mapP rel fun p q r => ⟨r.1, by rw [upd_ne (ne_of r.2.1 e (by intro y; cases y))]; exact r.2.1, r.2.2⟩
theorem mt_items : MtM X "dict.items" rItems := by
 intro pins s σ H x xs v us Q I r rv h
 obtain ⟨d, kvs, rfl, rfl, hk, q⟩ := h
 cases r
 cases rv
 obtain ⟨o, es, ep, _, raw, _, hd, _⟩ := I.freeze hk
 refine RD.iview hd raw ⟨.ref s.heap.objs.size, _, I.laid (t' := s.toks) (fun b u e => Heap.get?_push_of_some _ e) (Nat.le_refl _) (o := .ext (isView s.heap.objs.size d)) ?_, rfl, q _ (I.hok.fresh (Nat.le_refl _))⟩
 exact ⟨⟨_, Heap.get?_push_size _ rfl, rfl, rfl⟩, ⟨_, Heap.get?_push_size _ rfl⟩, fun h1 h2 ⟨o', e', c⟩ k => ⟨o', k o' e', c⟩⟩
theorem pi_dkeys {tg e : Expr} {te : TE} (he : PE X e te) : PI X tg e (iDK te) := by
 intro pins s σ H R I h
 refine thn (he pins s σ H _ I h) fun v s1 ⟨x, H1, I1, r1, d, kvs, ex, hk, q⟩ => ?_
 subst ex
 cases r1
 obtain ⟨o, es, ep, ho, raw, hz, hd, I2⟩ := I1.freeze hk
 refine RD.iter hd raw ?_
 refine ⟨s1.heap.objs.size, [s1.heap.objs.size], _, _, _, rfl, I2.kept (t' := s1.toks) fun b ob e => Heap.get?_push_of_some _ e, turn_dkeys _ ho, ⟨_, Heap.get?_push_size _ rfl, rfl, rfl⟩, fun b hb => ?_, q o⟩
 have e : b = s1.heap.objs.size := by simpa using hb
 subst e
 exact I2.fpOk (Nat.le_refl _) (I2.hok.fresh (Nat.le_refl _))
theorem pi_ditems {elts : List Expr} {x1} {tpos : Pos} {e : Expr} {te : TE} (he : PE X e te) : PI X (.Tuple elts x1 tpos) e (iDI te) := by
 intro pins s σ H R I h
 refine thn (he pins s σ H _ I h) fun v s1 ⟨x, H1, I1, r1, vw, d, kvs, ex, hv, hk, q⟩ => ?_
 subst ex
 cases r1
 obtain ⟨o, es, ep, ho, raw, hz, hd, I2⟩ := I1.freeze hk
 obtain ⟨view, _⟩ := (show ObjOk X.prog X.w H1 s1.heap vw (.ext (isView vw d)) from I1.hok vw _ hv)
 refine RD.iiter view raw ?_
 refine ⟨s1.heap.objs.size, [s1.heap.objs.size], _, _, _, rfl, I2.kept (t' := s1.toks) fun b ob e => Heap.get?_push_of_some _ e, turn_ditems _ ho, ⟨_, _, Heap.get?_push_size _ rfl⟩, fun b hb => ?_, q o⟩
 have e : b = s1.heap.objs.size := by simpa using hb
 subst e
 exact I2.fpOk (Nat.le_refl _) (I2.hok.fresh (Nat.le_refl _))
end
end L2
namespace L2
open PySem PySem.Spec PyProof.Rows
theorem comp_it {J : It} {n : Nat} {g : TG} {tc : TT} {te : TE} {js : List (Option Nat)} {σ : St} {H1 : Hp} {D : Addr} {R : Hp → Prop} (Pv : Nat → List V → Hp → Prop) (h0 : Pv 0 [] (upd H1 D (.lst []))) (hD : ∀ i ys H, Pv i ys H → H D = some (.lst ys))
  (hg : ∀ i ys H, i < n → Pv i ys H → J.go i H) (he : ∀ ys H, Pv n ys H → J.stop n H)
  (hs : ∀ i x ys H H', i < n → Pv i ys H → J.yld i H x H' → g x (subSt js σ) H' fun σ2 H2 => Weak (subSt js σ) σ2 ∧ tc σ2 H2 fun b H3 =>
   if b = true then te σ2 H3 fun v H4 => ∃ zs, H4 D = some (.lst zs) ∧ zs.length < sizeLine ∧ Pv (i + 1) (zs ++ [v]) (upd H4 D (.lst (zs ++ [v]))) else ∃ zs, Pv (i + 1) zs H3)
  (hd : ∀ ys H, Pv n ys H → R H) :
  ∃ W : Nat → Nat → List V → Hp → Prop, (∃ m, W 0 m [] (upd H1 D (.lst []))) ∧
   ∀ i m xs H, W i m xs H → H D = some (.lst xs) ∧ ((J.stop i H ∧ R H) ∨ (J.go i H ∧ ∃ N : List V → Hp → Prop, (∀ ys H', N ys H' → ∃ m', m' < m ∧ W (i + 1) m' ys H') ∧ ∀ x H', J.yld i H x H' → g x (subSt js σ) H' fun σ2 H2 => Weak (subSt js σ) σ2 ∧ tc σ2 H2 fun b H3 =>
    if b = true then te σ2 H3 fun v H4 => ∃ ys, H4 D = some (.lst ys) ∧ ys.length < sizeLine ∧ N (ys ++ [v]) (upd H4 D (.lst (ys ++ [v])))
    else ∃ ys, N ys H3)) := by
 refine ⟨fun i m ys H => m = n - i ∧ i ≤ n ∧ Pv i ys H, ⟨n, by simp, Nat.zero_le _, h0⟩, ?_⟩
 rintro i m ys H ⟨rfl, hi, p⟩
 refine ⟨hD i ys H p, ?_⟩
 by_cases hlt : i < n
 ·exact .inr ⟨hg i ys H hlt p, Pv (i + 1), fun zs H' p' => ⟨n - (i + 1), by lia, rfl, hlt, p'⟩, fun x H' y => hs i x ys H H' hlt p y⟩
 ·have e : i = n := by lia
  subst e
  exact .inl ⟨he ys H p, hd ys H p⟩
theorem comp_lR {K : PySem.W.Frag} {a : Addr} {xs : List V} {g : TG} {tc : TT} {te : TE} {js : List (Option Nat)} {σ : St} {H1 : Hp} {D : Addr} {R : Hp → Prop} (Pv : Nat → List V → Hp → Prop) (h0 : Pv 0 [] (upd H1 D (.lst []))) (hD : ∀ i ys H, Pv i ys H → H D = some (.lst ys))
  (hl : ∀ i ys H, i ≤ xs.length → Pv i ys H → SqL K H a xs)
  (hs : ∀ i x ys H, xs[i]? = some x → Pv i ys H → g x (subSt js σ) H fun σ2 H2 => Weak (subSt js σ) σ2 ∧ tc σ2 H2 fun b H3 =>
   if b = true then te σ2 H3 fun v H4 => ∃ zs, H4 D = some (.lst zs) ∧ zs.length < sizeLine ∧ Pv (i + 1) (zs ++ [v]) (upd H4 D (.lst (zs ++ [v]))) else ∃ zs, Pv (i + 1) zs H3)
  (hd : ∀ ys H, Pv xs.length ys H → R H) :
  ∃ W : Nat → Nat → List V → Hp → Prop, (∃ m, W 0 m [] (upd H1 D (.lst []))) ∧
   ∀ i m xs H, W i m xs H → H D = some (.lst xs) ∧ (((Itl K a).stop i H ∧ R H) ∨ ((Itl K a).go i H ∧ ∃ N : List V → Hp → Prop, (∀ ys H', N ys H' → ∃ m', m' < m ∧ W (i + 1) m' ys H') ∧ ∀ x H', (Itl K a).yld i H x H' → g x (subSt js σ) H' fun σ2 H2 => Weak (subSt js σ) σ2 ∧ tc σ2 H2 fun b H3 =>
    if b = true then te σ2 H3 fun v H4 => ∃ ys, H4 D = some (.lst ys) ∧ ys.length < sizeLine ∧ N (ys ++ [v]) (upd H4 D (.lst (ys ++ [v])))
    else ∃ ys, N ys H3)) :=
 comp_it (J := Itl K a) (n := xs.length) Pv h0 hD (fun i ys H hi p => ⟨xs, xs[i], hl i ys H (Nat.le_of_lt hi) p, by simp [hi]⟩) (fun ys H p => ⟨xs, hl _ ys H (Nat.le_refl _) p, Nat.le_refl _⟩)
  (fun i x ys H H' hi p y => by
   obtain ⟨e, y⟩ := y
   subst e
   exact hs i x ys _ (y xs (hl i ys _ (Nat.le_of_lt hi) p)) p) hd
end L2
namespace L2
open PySem PySem.Spec PyProof.Rows
structure MethIn (K : PySem.W.Frag) (C : Addr) (m qual : Str) (st : Stmt) : Prop where
 ex : ∃ (f : Addr) (oc : Value) (od : Option Addr) (kV doc pm : Value) (an : Option Addr) (cdv ct : Value) (osl : Array (Option Value)),
  PySem.W.findIn K (.ref C) m = some (some (.ref f)) ∧ PySem.W.isFn K (.ref f) = true ∧ K.lookup f = some ⟨oc, od, .func (PySem.W.fnOf m qual (defArgs st) (defBody st) (defScope st) .none kV doc pm an cdv ct), osl⟩ ∧ PySem.W.codeIn K cdv qual = true ∧ PySem.W.keepIn K (.ref f) = true
theorem MethIn.mk' {K : PySem.W.Frag} {C : Addr} {m qual : Str} {st : Stmt} {f : Addr} {oc : Value} {od : Option Addr} {kV doc pm : Value} {an : Option Addr} {cdv ct : Value} {osl : Array (Option Value)} (a : PySem.W.findIn K (.ref C) m = some (some (.ref f))) (i : PySem.W.isFn K (.ref f) = true)
  (l : K.lookup f = some ⟨oc, od, .func (PySem.W.fnOf m qual (defArgs st) (defBody st) (defScope st) .none kV doc pm an cdv ct), osl⟩) (c : PySem.W.codeIn K cdv qual = true) (k : PySem.W.keepIn K (.ref f) = true) : MethIn K C m qual st := ⟨⟨f, oc, od, kV, doc, pm, an, cdv, ct, osl, a, i, l, c, k⟩⟩
structure ClassIn (K : PySem.W.Frag) (x : Str) (C : Addr) : Prop where
 at_ : PySem.W.nsIn K mainGlobals x = some (some (.ref C))
 cl : Cls K C
 makes : PySem.W.makesIn K C = true
 kp : PySem.W.keepIn K (.ref C) = true
noncomputable def MethB (P : Program) (w : World) (K : PySem.W.Frag) (mg : Str → Option Value) (CX : CXT) (C : Addr) (m : Str) (ps : List Str) (k : Nat) (sp : Sp) : Prop :=
 ∃ (f : Addr) (fd : FuncData), Meth K C m f ∧ (∀ us : List Value, us.length = ps.length → bindArgs fd ⟨us, []⟩ = pure (ps.zip us)) ∧ ∀ base, FnOk P w K mg base CX k f fd ps sp
section
variable {P : Program} {w : World} {K : PySem.W.Frag} {mg : Str → Option Value} {CX : CXT} {C : Addr} {m : Str} {ps : List Str} {j k : Nat} {sp sp' : Sp}
theorem MethIn.fn {qual : Str} {st : Stmt} {N : List Str} (D : MethIn K C m qual st) (S : FnScope N ps (defScope st))
  (hb : ∀ (kV doc pm : Value) (an : Option Addr) (cdv ct : Value) (us : List Value), us.length = ps.length → bindArgs (PySem.W.fnOf m qual (defArgs st) (defBody st) (defScope st) .none kV doc pm an cdv ct) ⟨us, []⟩ = pure (ps.zip us))
  (len : ∀ vs H Q E, sp vs H Q E → vs.length = ps.length)
  (hbody : ∀ (f : Addr) (base : Heap) (cdv : Value) (A : Around) (outer : List Env) (s : Shared) (H : Hp) (vs : List V) (Q : VK) (E : XK), Room k (A.deeper (envOfC qual (defScope st) s.heap.objs.size f cdv)) → sp vs H Q E →
   ∃ t, PSs (cxOf CX0 P w K mg base N qual (defScope st) f cdv A outer s H E).nox (defBody st) t ∧ t { nx := fun _ H' => Q .non H', rt := Q } (start N vs) H) : MethB P w K mg CX0 C m ps (k + 1) sp := by
 obtain ⟨f, oc, od, kV, doc, pm, an, cdv, ct, osl, a, i, l, c, kp⟩ := D.ex
 have F : Fun K m qual st f (PySem.W.fnOf m qual (defArgs st) (defBody st) (defScope st) .none kV doc pm an cdv ct) := fun_mk l c kp
 exact ⟨f, _, ⟨a, i, kp⟩, hb kV doc pm an cdv ct, fun base => F.ok S len (hbody f base)⟩
end
section
variable {X : Cx} {CX : CXT} {k : Nat} {C : Addr} {ps : List Str} {sp : Sp} {E : XK} {x m : Str} {p pos apos : Pos} {e o : Expr} {es : List Expr} {ta : TE} {t : TA}
theorem pe_methB {pl : Sem Bool} (he : PE X o ta) (c : Cls X.K C) (F : MethB X.prog X.w X.K X.mg CX C m ps k sp) (hx : Passes CX X E) (hr : Room k X.A) (ha : PA X (e :: es) t)
  (hst : starEach (e :: es) X.env = (false, eval e X.env) :: starEach es X.env := by rfl) (hpl : (backTo pos (starEach es X.env)).any (·.1) = false := by rfl)
  (ht : eval (.Call (.Attribute o m apos) (e :: es) [] pos) X.env = (do let ov ← eval o X.env; standAt apos.atName; let (f, first) ← holding [ov] (getMethod ov m pl); callWith pos f first (backTo pos (starEach (e :: es) X.env)) (backToKw pos (keywordEach [] X.env))) := by rfl) :
  PE X (.Call (.Attribute o m apos) (e :: es) [] pos) (tMeth C m sp [] E ta t) := by
 obtain ⟨f, fd, h1, h2, h3⟩ := F
 exact pe_meth he c h1 (h3 X.base) hr (.all h2) .nil hx ha hst hpl ht
theorem pe_makeB (c : ClassIn X.K x C) (M : MG X.K X.mg) (F : MethB X.prog X.w X.K X.mg CX C "__init__" ps k sp) (hx : Passes CX X E) (hr : Room (k + 1) X.A) (hg : Gl X x) (ha : PA X (e :: es) t)
  (hdb : (x == ("__debug__" : Str)) = false := by decide) (he : starEach (e :: es) X.env = (false, eval e X.env) :: starEach es X.env := by rfl) (hpl : (backTo pos (starEach es X.env)).any (·.1) = false := by rfl) :
  PE X (.Call (.Name x p) (e :: es) [] pos) (tMake C sp [] E t) := by
 obtain ⟨f, fd, h1, h2, h3⟩ := F
 exact pe_make ⟨c.makes, h1.at_, h1.fn, c.kp⟩ (h3 X.base) hr hg (M.is _ _ c.at_) (.all h2) .nil hx ha hdb he hpl
end
end L2
namespace L2
open PySem PySem.Spec PyProof.Rows
section
variable {prog : Program} {w : World} {A : Around} {E : Value → Shared → Prop} {h : Heap} {g : Array GenState} {d : Drawn} {t : Nat} {os : OsState} {a C : Addr} {o : Obj} {K : PySem.W.Frag} {x : Str}
end
section
variable {X : Cx}
end
end L2
namespace L2
open PySem PySem.Spec PyProof.Rows
section
variable {X : Cx} {K : PySem.W.Frag}
theorem ixK_tup (e : X.K = K) : IxR X (rIxT K) := by subst e; exact ix_tup
theorem opK_catT (e : X.K = K) : OpR X (binaryOp .Add) (rCatT K) := by subst e; exact op_catT
theorem pg_tupK {es : List Expr} {k : Nat} {t : TGs} {n : Nat} {pos : Pos} (e : X.K = K) (hc : X.calm = true) (h : PGs X es t) (hn : (assignEach es X.env).length = n := by rfl) (hst : (assignEach es X.env).findIdx? (·.1) = none := by rfl) : PG X (.Tuple es k pos) (gTup K n t) := by
 subst e; exact pg_tup hc h hn hst
theorem pe_fldK {o : Expr} {ta : TE} {f : Str} {pos : Pos} (e : X.K = K) (he : PE X o ta) (hb : attributeBase o f X.env (eval o X.env) = eval o X.env := by rfl) : PE X (.Attribute o f pos) (tFld K ta f) := by
 subst e; exact pe_fld he hb
variable {o e : Expr} {es : List Expr} {to : TE} {t : TA} {name : Str} {apos cpos : Pos} {T id : String} {r : V → List V → Hp → VK → Prop}
end
end L2
namespace L2
open PySem PySem.Spec PyProof.Rows
section
variable {X : Cx} {K : PySem.W.Frag}
theorem ints_items {its : List Value} {ns : List Int} (hi : IntsAre its ns) : ∃ xs : Array (Int × Tok), its.toArray = intItems xs ∧ ns = xs.toList.map (·.1) := by
 obtain ⟨xs, e⟩ := hi.allInts.items
 exact ⟨xs, e, by rw [← hi.numsOf, ← nums_intItems, ← e]⟩
inductive rMinI (K : PySem.W.Frag) (xs : List V) (H : Hp) (Q : VK) : Prop
 | mk (p : Addr) (ns : List Int) : (xs = [.ref p]) → (SqL K H p (ns.map V.int)) → (0 < ns.length) → (∀ M, M ∈ ns → (∀ a ∈ ns, M ≤ a) → Q (.int M) H) → rMinI K xs H Q
noncomputable def rMin (K : PySem.W.Frag) : List V → Hp → VK → Prop := fun xs H Q => rMinI K xs H Q
inductive rMaxI (K : PySem.W.Frag) (xs : List V) (H : Hp) (Q : VK) : Prop
 | mk (p : Addr) (ns : List Int) : (xs = [.ref p]) → (SqL K H p (ns.map V.int)) → (0 < ns.length) → (∀ M, M ∈ ns → (∀ a ∈ ns, a ≤ M) → Q (.int M) H) → rMaxI K xs H Q
noncomputable def rMax (K : PySem.W.Frag) : List V → Hp → VK → Prop := fun xs H Q => rMaxI K xs H Q
theorem call_min1 (hc : X.calm = true) : CallR X (.builtin "min") (rMin X.K) := by
 intro pins s σ H xs us Q I r h
 obtain ⟨p, ns, rfl, hp, hz, q⟩ := h
 obtain ⟨u, rfl, rx⟩ := vals1 r
 cases rx
 obtain ⟨its, r', pl, hz'⟩ := I.list hp
 obtain ⟨ys, e, hns⟩ := ints_items (intsAre_of r')
 have hl := pl.isList
 rw [e] at hl
 have hsz : 0 < ys.size := by rw [hns, List.length_map, Array.length_toList] at hz; exact hz
 refine min_intList (I.ok.hd hc) hl hsz fun v h' tk hv hk => ?_
 obtain ⟨t, rfl⟩ := intItems_at hv
 obtain ⟨h1, h2⟩ := argBest_lt (numAt ys) (ys.size - 1)
 refine ⟨.int _, H, I.kept (t' := tk) hk, ⟨t, rfl⟩, q _ ?_ fun a ha => ?_⟩
 ·rw [hns, numAt_eq]; exact getD_mem (by rw [List.length_map, Array.length_toList]; lia)
 ·rw [hns] at ha
  obtain ⟨j, hj, rfl⟩ := mem_getD ha; rw [List.length_map, Array.length_toList] at hj; rw [← numAt_eq]; exact h2 j (by lia)
theorem call_max1 (hc : X.calm = true) : CallR X (.builtin "max") (rMax X.K) := by
 intro pins s σ H xs us Q I r h
 obtain ⟨p, ns, rfl, hp, hz, q⟩ := h
 obtain ⟨u, rfl, rx⟩ := vals1 r
 cases rx
 obtain ⟨its, r', pl, hz'⟩ := I.list hp
 obtain ⟨ys, e, hns⟩ := ints_items (intsAre_of r')
 have hl := pl.isList
 rw [e] at hl
 have hsz : 0 < ys.size := by rw [hns, List.length_map, Array.length_toList] at hz; exact hz
 refine max_intList (I.ok.hd hc) hl hsz fun v h' tk hv hk => ?_
 obtain ⟨t, rfl⟩ := intItems_at hv
 obtain ⟨h1, h2⟩ := argBest_gt (numAt ys) (ys.size - 1)
 refine ⟨.int _, H, I.kept (t' := tk) hk, ⟨t, rfl⟩, q _ ?_ fun a ha => ?_⟩
 ·rw [hns, numAt_eq]; exact getD_mem (by rw [List.length_map, Array.length_toList]; lia)
 ·rw [hns] at ha
  obtain ⟨j, hj, rfl⟩ := mem_getD ha; rw [List.length_map, Array.length_toList] at hj; rw [← numAt_eq]; exact h2 j (by lia)
open Classical in
noncomputable def eqD (K : PySem.W.Frag) (H : Hp) (d : Dv) (u : Value) : Bool := decide (Den K H u d)
inductive rInDI (K : PySem.W.Frag) (neg : Bool) (x : V) (y : V) (H : Hp) (Q : VK) : Prop
 | mk (p : _) (ys : _) (d : _) (ds : _) : (y = .ref p) → (SqL K H p ys) → (Dn K H x d) → (Dns K H ys ds) → ((∀ e ∈ ds, nomix e d = true ∧ e.dep ≤ 30)) → (∀ b : Bool, (b = true ↔ d ∈ ds) → Q (.bl (if neg then !b else b)) H) → rInDI K neg x y H Q
noncomputable def rInD (K : PySem.W.Frag) (neg : Bool) : R2 := fun x y H Q => rInDI K neg x y H Q
theorem inD_items {pins : List (Addr × Obj)} {σ : St} {H : Hp} {s : Shared} {A : Around} (I : Inv X pins σ H s) (hu : A.units + 60 < cLine) {x : V} {v : Value} {d : Dv} (rx : RelV x v) (dx : Dn X.K H x d) : ∀ {its : List Value} {ys : List V} {ds : List Dv}, Vals ys its → Dns X.K H ys ds →
  (∀ e ∈ ds, nomix e d = true ∧ e.dep ≤ 30) → (∀ u ∈ its, SeqAt.EqAt A s u v (eqD X.K H d u)) ∧ (its.any (eqD X.K H d) = true ↔ d ∈ ds)
 | [], _, _, r, dn, hm => by
  cases r
  cases dn
  exact ⟨fun u hu => (nomatch hu), by simp⟩
 | u :: us, _, _, r, dn, hm => by
  cases r with
  | @cons y _ ys _ ru rus =>
   cases dn with
   | @cons _ _ e es dy dys =>
    obtain ⟨h1, h2⟩ := inD_items I hu rx dx rus dys fun e' m => hm e' (.tail _ m)
    obtain ⟨m1, m2⟩ := hm e (.head _)
    obtain ⟨b, q, hb⟩ := deep_eq I 30 (A := A) m2 (by lia) m1 dy dx ru rx
    have eb : eqD X.K H d u = b := by
     rw [Bool.eq_iff_iff, hb]
     unfold eqD
     rw [@decide_eq_true_iff]
     constructor
     ·intro z; exact den_inj I ⟨y, ru, dy⟩ z
     ·intro z; exact z ▸ ⟨y, ru, dy⟩
    refine ⟨fun u' m => ?_, ?_⟩
    ·rcases List.mem_cons.mp m with rfl | m
     ·rw [eb]; exact q
     ·exact h1 u' m
    ·rw [List.any_cons, Bool.or_eq_true, h2, eb, hb, List.mem_cons]
     constructor
     ·rintro (z | z)
      ·exact .inl z.symm
      ·exact .inr z
     ·rintro (z | z)
      ·exact .inl z.symm
      ·exact .inr z
theorem op_inD (hu : X.A.units + 64 < cLine) : OpR X (compareOp .In) (rInD X.K false) := by
 intro pins s σ H x y v u Q I rx ry h
 obtain ⟨p, ys, d, ds, rfl, hp, dx, dn, hm, q⟩ := h
 cases ry
 obtain ⟨its, r, pl, hz⟩ := I.list hp
 obtain ⟨h1, h2⟩ := inD_items I (A := X.A.in1) (by rw [in1_units]; lia) rx dx r dn hm
 refine SeqAt.in_listAt (eqD X.K H d) pl.isList (fun w hw => h1 w (by simpa using hw)) ⟨.bl _, H, I, rfl, q _ ?_⟩
 rw [← h2]; simp
theorem op_notInD (hu : X.A.units + 64 < cLine) : OpR X (compareOp .NotIn) (rInD X.K true) := by
 intro pins s σ H x y v u Q I rx ry h
 obtain ⟨p, ys, d, ds, rfl, hp, dx, dn, hm, q⟩ := h
 cases ry
 obtain ⟨its, r, pl, hz⟩ := I.list hp
 obtain ⟨h1, h2⟩ := inD_items I (A := X.A.in1) (by rw [in1_units]; lia) rx dx r dn hm
 refine SeqAt.notIn_listAt (eqD X.K H d) pl.isList (fun w hw => h1 w (by simpa using hw)) ⟨.bl (!its.toArray.any (eqD X.K H d)), H, I, rfl, q _ ?_⟩
 rw [← h2]; simp
theorem opK_notInD (e : X.K = K) (hu : X.A.units + 64 < cLine) : OpR X (compareOp .NotIn) (rInD K true) := by subst e; exact op_notInD hu
end
end L2
namespace L2
open PySem PySem.Spec PyProof.Rows
section
variable {X : Cx} {H : Hp}
theorem perm_pairs {K : PySem.W.Frag} {its out : List Value} (p : its.Perm out) : ∀ {ys : List V} {ds : List Dv}, Vals ys its → Dns K H ys ds → ∃ ps : List (V × Dv), ps.Perm (ys.zip ds) ∧ Vals (ps.map (·.1)) out ∧ Dns K H (ps.map (·.1)) (ps.map (·.2)) := by
 have base : ∀ {its : List Value} {ys : List V} {ds : List Dv}, Vals ys its → Dns K H ys ds → (ys.zip ds).map (·.1) = ys ∧ (ys.zip ds).map (·.2) = ds := fun {its ys ds} _ d => by
  have hl := d.length
  exact ⟨List.map_fst_zip (by lia), List.map_snd_zip (by lia)⟩
 induction p with
 | nil => intro ys ds r d; exact ⟨ys.zip ds, .refl _, by rw [(base r d).1]; exact r, by rw [(base r d).1, (base r d).2]; exact d⟩
 | cons x p ih =>
  intro ys ds r d
  cases r with
  | cons rx rxs => cases d with
   | cons dx dxs =>
    obtain ⟨ps, h1, h2, h3⟩ := ih rxs dxs
    exact ⟨(_, _) :: ps, h1.cons _, .cons rx h2, .cons dx h3⟩
 | swap x y l =>
  intro ys ds r d
  cases r with
  | cons rx rxs => cases rxs with
   | cons ry rys => cases d with
    | cons dx dxs => cases dxs with
     | cons dy dys =>
      have e := base rys dys
      refine ⟨(_, _) :: (_, _) :: List.zip _ _, List.Perm.swap _ _ _, .cons ry (.cons rx ?_), .cons dy (.cons dx ?_)⟩
      ·show Vals (List.map _ _) _; rw [e.1]; exact rys
      ·show Dns K H (List.map _ _) (List.map _ _); rw [e.1, e.2]; exact dys
 | trans p1 p2 ih1 ih2 =>
  intro ys ds r d
  obtain ⟨ps, h1, h2, h3⟩ := ih1 r d
  obtain ⟨ps', h1', h2', h3'⟩ := ih2 h2 h3
  refine ⟨ps', h1'.trans ?_, h2', h3'⟩
  have e : (ps.map (·.1)).zip (ps.map (·.2)) = ps := by
   clear h1 h2 h3 h1' h2' h3'
   induction ps with
   | nil => rfl
   | cons a l ih => rw [List.map_cons, List.map_cons, List.zip_cons_cons, ih]
  rw [e]
  exact h1
inductive rSortedPI (K : PySem.W.Frag) (xs : List V) (H : Hp) (Q : VK) : Prop
 | mk (p : _) (ys : _) (ds : _) (sh : _) : (xs = [.ref p]) → (SqL K H p ys) → (Dns K H ys ds) → ((∀ d ∈ ds, Dv.isA sh d = true)) → (sh.key = true) → (sh.dep ≤ 30) → (TS.Fits ys.length) → (∀ (l : Addr) (ps : List (V × Dv)), H l = none → ps.Perm (ys.zip ds) → (ps.map (·.2)).Pairwise (fun d e => dcmp d e ≠ .gt) → Q (.ref l) (upd H l (.lst (ps.map (·.1))))) → rSortedPI K xs H Q
noncomputable def rSortedP (K : PySem.W.Frag) : List V → Hp → VK → Prop := fun xs H Q => rSortedPI K xs H Q
theorem call_sortedP (hu : X.A.units + 64 < cLine) : CallR X (.builtin "sorted") (rSortedP X.K) := by
 intro pins s σ H xs us Q I r h
 obtain ⟨p, ys, ds, sh, rfl, hp, dn, ha, hk, hd, hz, q⟩ := h
 obtain ⟨u, rfl, rx⟩ := vals1 r
 cases rx
 obtain ⟨its, r', pl, hz'⟩ := I.list hp
 have hlen := r'.length
 have den : ∀ v ∈ its, ∃ d, Den X.K H v d ∧ Dv.isA sh d = true := fun v m => by
  obtain ⟨i, hi⟩ := List.mem_iff_getElem?.mp m
  have hy : i < ys.length := by have := (List.getElem?_eq_some_iff.mp hi).1; lia
  obtain ⟨u, eu, ru⟩ := r'.get (List.getElem?_eq_getElem hy)
  rw [hi] at eu; cases eu
  obtain ⟨d, ed, dd⟩ := dn.get' (List.getElem?_eq_getElem hy)
  exact ⟨d, ⟨_, ru, dd⟩, ha d (List.mem_of_getElem? ed)⟩
 refine TS.w_sorted (κ := sh.kind) (S := OfSh X.K H sh) (blt := bltD X.K H) (ord_data I sh) pl.isList (by rw [show its.length = ys.length by lia]; exact hz) (fun v m => den v m) (fun h2 h' kp Q' q' => ?_) (fun h2 h' kp x y Q' hx hy q' => ?_) fun out p1 p2 => ?_
 ·exact kind_data (I.kept (t' := s.toks) kp : Inv X pins σ H { s with heap := h' }) hk h2 den q'
 ·exact cmp_data (I.kept (t' := s.toks) kp : Inv X pins σ H { s with heap := h' }) hk (by rw [in1_units, in1_units]; lia) hx hy q'
 ·obtain ⟨ps, h3, h1, h2⟩ := perm_pairs (K := X.K) (H := H) p1.symm r' dn
  have hl' := dn.length
  have pw := pw_both I h1 h2 (fun d m => by
   obtain ⟨x, hx, rfl⟩ := List.mem_map.mp m
   exact ha _ (List.of_mem_zip (h3.mem_iff.mp hx)).2) p2
  have hl : (ps.map (·.1)).length = ys.length := by rw [h1.length, p1.length_eq, hlen]
  obtain ⟨e, he⟩ := sortedAll_at s.heap its out.toArray
  refine ⟨.ref (s.heap.objs.size + 1), _, I.laid (t' := s.toks) (a := s.heap.objs.size + 1) (o := .lst (ps.map (·.1))) (fun b o q => sortedAll_old q) (Nat.le_succ _) ?_, rfl, q _ ps (I.hok.fresh (Nat.le_succ _)) h3 pw⟩
  exact ⟨by lia, out, e, h1, he⟩
end
end L2
namespace L2
open PySem PySem.Spec PyProof.Rows
section
variable {X : Cx}
theorem ps_setC {k : Nat} {x : Str} {px spos : Pos} {elt tgt iter : Expr} {ifs : List Expr} {scope : Scope} {cl : List (Str × Addr)} {pos : Pos} {wi : TI} {g : TG} {tc : TT} {te : TE} {NY : List Str} {js : List (Option Nat)} (hc : X.calm = true) (hN : X.N.Nodup) (hk : X.N[k]? = some x) (hx : X.env.scope.names.lookup x = some .local)
  (hkind : scope.kind = .function) (hclos : closureFor scope X.env = pure cl) (hcl : ClIn X.env.cells cl) (hjs : JsOk X scope js NY)
  (hi : PI X tgt iter wi)
  (hb : ∀ pins fp C s H, PG (cxComp X pins NY scope cl fp C s H) tgt g ∧ PIfs (cxComp X pins NY scope cl fp C s H) ifs tc ∧ PE (cxComp X pins NY scope cl fp C s H) elt te)
  (hcell : ∀ y ∈ scope.names, y.2 ≠ .cell := by decide) (hnames : ∀ y ∈ scope.names, y.2 = .local → scope.names.lookup y.1 = some .local := by decide)
  (hfr' : (scope.names.all fun y => !(y.2 == .free) || (cl.lookup y.1).isSome) = true := by first | rfl | with_unfolding_all rfl) (hs : ∀ x, foldedSetIterable iter X.env x = pure x := by intro _; rfl)
  (hsw : swapsWith (.ListComp elt [⟨tgt, iter, ifs, 0⟩] scope pos) (some (.Name x px)) spos.line X.env = pure true := by with_unfolding_all rfl) :
  PS X (.Assign [.Name x px] (.ListComp elt [⟨tgt, iter, ifs, 0⟩] scope pos) spos) (tAsg (tComp wi g tc te js) (gName k)) := by
 intro pins s σ H DD I h
 rw [exec_Assign_Name_used _ _ _ _ hsw]
 refine wpAny_bind (wpAny_standAt (wpAny_bind ?_))
 show wpAny _ X.A (do let _ ← comprehension (.ListComp elt [⟨tgt, iter, ifs, 0⟩] scope pos) scope X.env _ (newList []) false (eval iter X.env) (some (assign (.Name x px) X.env))) _ _ s
 refine wpAny_bind (wpAny_mono (comp_all (R := fun _ s' => ∃ σ' H', Inv X pins σ' H' s' ∧ DD.nx σ' H') hc hkind hclos hcl hjs hi hb hcell hnames hfr' hs (fun D C s6 H5 I7 fC hn qn => ?_) I h) (fun _ s' hq => wpAny_pure (wpAny_pure hq)) fun _ _ e => e)
 obtain ⟨m6, oC, es6, ep6, hoC, rC⟩ := hn
 have dC : ∀ v, oC.data ≠ .cell v := fun v e => by
  rw [rC.1] at e
  cases e
 have I8 := I7.pinned (fp := [C]) (fun b hb => by rw [List.mem_singleton.mp hb]; exact fC) (fun b hb => by rw [List.mem_singleton.mp hb]; exact ⟨oC, hoC, dC⟩)
 show wpAny _ X.A (assign (.Name x px) X.env (.ref D)) _ _ _
 refine wpAny_mono (pg_name hN hk (.inl hx) (.inr hx) (pins ++ pinsAt [C] s6.heap) s6 σ H5 (.ref D) (.ref D) _ I8 rfl qn) (fun _ s9 h9 => ?_) fun _ _ z => z
 obtain ⟨σ9, H9, I9, q9⟩ := h9
 obtain ⟨p1, p2, p3, p4, p5⟩ := I9.pin (C, oC) (List.mem_append_right _ (List.mem_append_right _ (mem_pinsAt (by simp) hoC)))
 refine ⟨m6, ⟨oC, es6, ep6, p1, rC⟩, fun h7 sb7 => ?_⟩
 obtain ⟨c0, c1, c2, c3, c4, c5⟩ := fC
 exact ⟨σ9, H9, I9.unpinned.turned (t' := s9.toks) (fun b o hb e => sb7.extBut b o hb e) p2 c1 c3 c4 c5, q9⟩
end
end L2
namespace L2
open PySem PySem.Spec PyProof.Rows
section
variable {X : Cx} {pins : List (Addr × Obj)} {σ : St} {H : Hp} {s : Shared}
theorem lam_run {A : Around} {k : Nat} {F c' : Addr} {nm qual x : Str} {params : Arguments} {body : Expr} {scope : Scope} {pm ctv u : Value} {v : V} {Q : VK} {te : TE} {E : Value → Shared → Prop} (I : Inv X pins σ H s) (hA : A.frames = X.A.frames) (hr : Room (k + 1) A)
  (ho : s.heap.get? F = some (PySem.W.kla_obj nm qual params body scope [] pm c' ctv)) (hc : s.heap.CodeRec (.ref c') qual) (hb : bindArgs (PySem.W.kla_fn nm qual params body scope [] pm (.ref c') ctv) ⟨[u], []⟩ = pure [(x, u)])
  (S : FnScope [x] [x] scope) (r : RelV v u)
  (hbody : ∀ (A : Around) (outer : List Env) (s : Shared) (H : Hp), Room k (A.deeper (envOfC qual scope s.heap.objs.size F (.ref c'))) → PE (cxOf CX0 X.prog X.w X.K X.mg X.base [x] qual scope F (.ref c') A outer s H E0).nox body te)
  (h : te (start [x] [v]) H Q) : wpAny (model X.prog X.w) A (call (.ref F) [u]) (EP X pins σ Q) E s := by
 have e0 : Env0 X.prog X.w X.K X.mg X.base A X.stack s H := ⟨hA.trans I.ok.frames, I.ok.mod, I.bs, Nat.le_trans I.ok.bsz I.sz, I.stack, I.stkFree, I.hok, I.bare⟩
 have run : codeAny (model X.prog X.w) A (.call (.ref F) ⟨[u], []⟩) (CR CX0 X.stack X.prog X.w H s Q E0) s := by
  have hkind : ∀ y ∈ [x].zip [u], scope.names.lookup y.1 = some .local ∨ (scope.names.lookup y.1 = some .cell ∧ ((cellsFrom (s.heap.objs.size + 1) scope.names []).lookup y.1).isSome = true) := fun ⟨n, v⟩ hy => by
   rcases S.par n (List.of_mem_zip hy).1 with q | q
   ·exact .inl q
   ·exact .inr ⟨q, PySem.W.cellsFrom_some _ _ _ (.inl q)⟩
  refine PySem.W.kla_callFunE hr.depth ho rfl S.co S.gen rfl hc ?_
  rw [hb]
  refine wpAny_pure (wpAny_newFunctionEnv_cells S.kind hkind fun env he s1 x => ?_)
  subst he
  refine ⟨I.nolimit.keeps x.toInCall.keep, PySem.W.kla_codeExpr ?_⟩
  have J : Inv (cxOf CX0 X.prog X.w X.K X.mg X.base [_] qual scope F (.ref c') A X.stack s H E0) [] (start [_] [v]) H s1 := inv_start S hr.hd e0 rfl (.cons r .nil) x
  refine wpAny_mono (hbody A X.stack s H (hr.deeper _) [] s1 _ H Q (J.wish _) h) (fun u' s' hs => ?_) fun e s' hs => False.elim hs
  obtain ⟨v', H', J', r', q'⟩ := hs
  exact ⟨v', H', J'.os, J'.bare, J'.base, J'.hok, r', q'⟩
 refine wpAny_call (codeAny_mono run fun r s' hq => ?_)
 cases r with
 | error e => exact False.elim hq
 | ok fl =>
  cases fl with
  | ret u => exact I.after hq
  | next => exact False.elim hq
  | brk => exact False.elim hq
  | cont => exact False.elim hq
end
section
variable {α β : Type} {R : α → β → Prop}
theorem paired_perm {l out : List α} (p : l.Perm out) : ∀ {m : List β}, Paired R l m → ∃ m' : List β, m'.Perm m ∧ Paired R out m' := by
 induction p with
 | nil => intro m h; cases h; exact ⟨[], .refl _, .nil⟩
 | cons x p ih =>
  intro m h
  cases h with
  | cons r t =>
   obtain ⟨m', p', t'⟩ := ih t
   exact ⟨_ :: m', p'.cons _, .cons r t'⟩
 | swap x y l =>
  intro m h
  cases h with
  | cons r t => cases t with
   | cons r' t' => exact ⟨_, List.Perm.swap _ _ _, .cons r' (.cons r t')⟩
 | trans p1 p2 ih1 ih2 =>
  intro m h
  obtain ⟨m1, q1, h1⟩ := ih1 h
  obtain ⟨m2, q2, h2⟩ := ih2 h1
  exact ⟨m2, q2.trans q1, h2⟩
theorem paired_mem {l : List α} {m : List β} (h : Paired R l m) {b : β} (hb : b ∈ m) : ∃ a ∈ l, R a b := by
 induction h with
 | nil => cases hb
 | cons r t ih =>
  rcases List.mem_cons.mp hb with rfl | hb
  ·exact ⟨_, .head _, r⟩
  ·obtain ⟨a, h1, h2⟩ := ih hb
   exact ⟨a, .tail _ h1, h2⟩
theorem paired_pw {S : α → α → Prop} {T : β → β → Prop} (f : ∀ a b a' b', R a b → R a' b' → S a a' → T b b') {l : List α} {m : List β} (h : Paired R l m) (p : l.Pairwise S) : m.Pairwise T := by
 induction h with
 | nil => exact .nil
 | cons r t ih =>
  obtain ⟨p1, p2⟩ := List.pairwise_cons.mp p
  refine List.pairwise_cons.mpr ⟨fun b hb => ?_, ih p2⟩
  obtain ⟨a, h1, h2⟩ := paired_mem t hb
  exact f _ _ _ _ r h2 (p1 a h1)
end
section
variable {X : Cx} {pins : List (Addr × Obj)} {σ : St} {H : Hp} {s : Shared}
theorem Inv.scratch {b : Addr} {h' : Heap} (I : Inv X pins σ H s) (f : FpOk X pins H b) (hs : Heap.SameBut b s.heap h') : Inv X pins σ H { s with heap := h' } := by
 obtain ⟨c0, c1, c2, c3, c4, c5⟩ := f
 exact I.turned (t' := s.toks) (fun b o hb e => hs.extBut b o hb e) c0 c1 c3 c4 c5
theorem run_own {A : Around} {m : Sem Value} {Q : VK} {fp : List Addr} (I : Inv X pins σ H s) (hf : ∀ b ∈ fp, FpOk X pins H b) (ho : ∀ b ∈ fp, ∃ o, s.heap.get? b = some o ∧ ∀ v, o.data ≠ .cell v)
  (run : ∀ pins', Inv X pins' σ H s → wpAny (model X.prog X.w) A m (EP X pins' σ Q) (fun _ _ => False) s) :
  wpAny (model X.prog X.w) A m (fun u s' => ∃ v H', Inv X pins σ H' s' ∧ RelV v u ∧ Q v H' ∧ ∀ b ∈ fp, s'.heap.get? b = s.heap.get? b ∧ FpOk X pins H' b) (fun _ _ => False) s := by
 refine wpAny_mono (run _ (I.pinned hf ho)) (fun u s' h => ?_) fun _ _ z => z
 obtain ⟨v, H', I', r, q⟩ := h
 refine ⟨v, H', I'.unpinned, r, q, fun b hb => ?_⟩
 obtain ⟨o, e, _⟩ := ho b hb
 obtain ⟨p1, p2, _⟩ := I'.pin (b, o) (List.mem_append_right _ (List.mem_append_right _ (mem_pinsAt hb e)))
 exact ⟨p1.trans e.symm, p2, (hf b hb).2⟩
end
section
variable {X : Cx} {pins : List (Addr × Obj)} {σ : St} {H : Hp} {s : Shared} {A : Around} {a F : Addr} {fo : Obj} {vs : List Value} {ys : List V} {ds : List Dv} {sh : Sh} {n : Nat} {P : PySem.Fin → Shared → Prop} {E : Value → Shared → Prop}
noncomputable def KdR (K : PySem.W.Frag) (H : Hp) (p : Keyed) (q : V × Dv) : Prop := Den K H p.1 q.2 ∧ RelV q.1 p.2
theorem kd_zip {K : PySem.W.Frag} {kv : List V} {kl : List Value} (r : Vals kv kl) : ∀ {ds : List Dv} {ys : List V} {vs : List Value}, Dns K H kv ds → Vals ys vs → kl.length = vs.length → Paired (KdR K H) (kl.zip vs) (ys.zip ds) := by
 induction r with
 | nil => intro ds ys vs d r' h; cases r' with | nil => exact .nil | cons _ _ => simp at h
 | cons r t ih =>
  intro ds ys vs d r' h
  cases d with
  | cons d t' => cases r' with
   | nil => simp at h
   | cons r' t'' => exact .cons ⟨⟨_, r, d⟩, r'⟩ (ih t' t'' (by simpa using h))
theorem kd_vals {K : PySem.W.Frag} {out : List Keyed} {ps : List (V × Dv)} (h : Paired (KdR K H) out ps) : Vals (ps.map (·.1)) (out.map (·.2)) := by
 induction h with
 | nil => exact .nil
 | cons r _ ih => exact .cons r.2 ih
theorem key_tail {kS : Addr} {e1 c : Nat} {kl : List Value} {kv : List V} {st : SortSt} {out : List Keyed} (I : Inv X pins σ H s) (fa : FpOk X pins H a) (fk : FpOk X pins H kS) (hne : kS ≠ a) (ha : s.heap.get? a = some (seqObj "list" #[] e1)) (hk : s.heap.get? kS = some (seqObj "list" kl.toArray c))
  (rk : Vals kv kl) (dk : Dns X.K H kv ds) (rv : Vals ys vs) (hlen : kl.length = vs.length) (hz : vs.length ≤ 10000000) (hsh : ∀ d ∈ ds, Dv.isA sh d = true)
  (ea : arrOf st = out.toArray) (hf : failedOf st = none) (hp : out.Perm (kl.zip vs)) (hw : out.Pairwise fun x y => bltD X.K H y x = false)
  (fin : ∀ (ps : List (V × Dv)) (out : List Value) (s' : Shared) (c : Nat), Inv X pins σ H s' → s'.heap.get? a = some (seqObj "list" out.toArray c) → ps.Perm (ys.zip ds) → Vals (ps.map (·.1)) out → (ps.map (·.2)).Pairwise (fun d e => dcmp d e ≠ .gt) → P (.done (.ret .none)) s') :
  wpAny (model X.prog X.w) A (ksk_tail a false e1 (.ref kS) st) P E s := by
 obtain ⟨ps, pp, pr⟩ := paired_perm hp.symm (kd_zip rk dk rv hlen)
 have lo : (out.map (·.2)).length = vs.length := by rw [List.length_map, hp.length_eq, List.length_zip, hlen, Nat.min_self]
 have s1 := Heap.SameBut.update s.heap kS (Obj.mapSeq fun _ => (#[] : Array Value))
 have ha1 : (s.heap.update kS (Obj.mapSeq fun _ => (#[] : Array Value))).get? a = some (seqObj "list" #[] e1) := (s1.2 a hne.symm).trans ha
 have s2 := Heap.SameBut.update (s.heap.update kS (Obj.mapSeq fun _ => (#[] : Array Value))) a (Obj.mapSeq fun _ => (out.map (·.2)).toArray)
 have eo : (arrOf st).map (·.2) = (out.map (·.2)).toArray := by rw [ea, List.map_toArray]
 unfold ksk_tail
 dsimp only
 refine wpAny_bind (listUpdate_at hk rfl ?_ (by rw [List.size_toArray, sizeLine_eq]; lia) (Nat.zero_le _))
 refine wpAny_bind (wpAny_letGo ?_)
 refine wpAny_bind (seqEpoch_at ha1 rfl ?_)
 simp only [Bool.false_eq_true, if_false]
 rw [eo]
 refine wpAny_bind (listUpdate_at ha1 rfl ?_ (Nat.zero_le _) (by rw [List.size_toArray, lo, sizeLine_eq]; lia))
 rw [hf]
 simp only [bne_self_eq_false, Bool.false_eq_true, if_false]
 refine wpAny_pure (fin ps (out.map (·.2)) _ _ ((I.scratch fk s1).scratch fa s2) (get?_update_seq ha1 fun _ => (out.map (·.2)).toArray) pp (kd_vals pr) ?_)
 rw [List.pairwise_map]
 have hin : ∀ q ∈ ps, Dv.isA sh q.2 = true := fun q hq => hsh _ (List.of_mem_zip (pp.mem_iff.mp hq)).2
 refine (paired_pw (T := fun (p q : V × Dv) => dcmp q.2 p.2 ≠ .lt) (fun x p y q hx hy h => ?_) pr hw).imp_of_mem fun {p q} hp hq h => ?_
 ·rw [blt_at I hy.1 hx.1] at h
  exact isLt_ff h
 ·rw [cmp_swap (hin p hp) (hin q hq)] at h
  intro z
  rw [z] at h
  exact h rfl
theorem key_sort (I : Inv X pins σ H s) (ho : s.heap.get? a = some (seqObj "list" vs.toArray n)) (fa : FpOk X pins H a) (hF : s.heap.get? F = some fo) (fF : FpOk X pins H F) (hFd : ∀ v, fo.data ≠ .cell v) (haF : a ≠ F)
  (rv : Vals ys vs) (hzx : TS.Fits vs.length) (hd : ds.length = vs.length) (hsh : ∀ d ∈ ds, Dv.isA sh d = true) (hk : sh.key = true) (hdep : sh.dep ≤ 30) (hu : A.units + 64 < cLine)
  (turn : ∀ (i : Nat) (y : V) (u : Value) (d : Dv), ys[i]? = some y → RelV y u → ds[i]? = some d → ∀ (pins' : List (Addr × Obj)) (H' : Hp) (s' : Shared), Inv X pins' σ H' s' → Same H H' → s'.heap.get? F = some fo →
   wpAny (model X.prog X.w) A (call (.ref F) [u]) (EP X pins' σ fun k H'' => Same H' H'' ∧ Dn X.K H'' k d) (fun _ _ => False) s')
  (fin : ∀ (ps : List (V × Dv)) (out : List Value) (H' : Hp) (s' : Shared) (c : Nat), Inv X pins σ H' s' → Same H H' → FpOk X pins H' a → s'.heap.get? a = some (seqObj "list" out.toArray c) → ps.Perm (ys.zip ds) → Vals (ps.map (·.1)) out → (ps.map (·.2)).Pairwise (fun d e => dcmp d e ≠ .gt) → P (.done (.ret .none)) s') :
  wpAny (model X.prog X.w) A (ksk_tree a (.ref F) false) P E s := by
 obtain ⟨hz, hx⟩ := hzx
 have hl : vs.toArray.size ≤ sizeLine := by rw [sizeLine_eq, List.size_toArray]; lia
 have la : a < s.heap.objs.size := Heap.lt_size ho
 have lF : F < s.heap.objs.size := Heap.lt_size hF
 have lyv := rv.length
 have s1 := Heap.SameBut.update s.heap a (Obj.mapSeq fun _ => (#[] : Array Value))
 obtain ⟨e1, ho1⟩ : ∃ e1, (s.heap.update a (Obj.mapSeq fun _ => (#[] : Array Value))).get? a = some (seqObj "list" #[] e1) := ⟨_, get?_update_seq ho fun _ => #[]⟩
 have hF1 : (s.heap.update a (Obj.mapSeq fun _ => (#[] : Array Value))).get? F = some fo := (s1.2 F haF.symm).trans hF
 have I1 := I.scratch fa s1
 have sz1 : (s.heap.update a (Obj.mapSeq fun _ => (#[] : Array Value))).objs.size = s.heap.objs.size := Heap.size_update ..
 unfold ksk_tree
 refine wpAny_bind (listItems_at ho rfl (wpAny_bind (listUpdate_at ho rfl ?_ hl (Nat.zero_le _))))
 refine wpAny_bind (seqEpoch_at ho1 rfl (wpAny_bind (wpAny_newTuple ?_ (by show vs.length ≤ _; simpa using hl))))
 refine wpAny_bind (wpAny_newList (wpAny_holding ?_) (Nat.zero_le _))
 have I2 : Inv X pins σ H { s with heap := (s.heap.update a (Obj.mapSeq fun _ => (#[] : Array Value))).push (seqObj "tuple" vs.toArray 0) } := I1.kept (t' := s.toks) fun b u e => Heap.get?_push_of_some _ e
 have fk : FpOk X pins H ((s.heap.update a (Obj.mapSeq fun _ => (#[] : Array Value))).push (seqObj "tuple" vs.toArray 0)).objs.size := I2.fpOk (Nat.le_refl _) (I2.hok.fresh (Nat.le_refl _))
 have I3 : Inv X pins σ H { s with heap := ((s.heap.update a (Obj.mapSeq fun _ => (#[] : Array Value))).push (seqObj "tuple" vs.toArray 0)).push (seqObj "list" #[] 0) } := I2.kept (t' := s.toks) fun b u e => Heap.get?_push_of_some _ e
 have hk3 : (((s.heap.update a (Obj.mapSeq fun _ => (#[] : Array Value))).push (seqObj "tuple" vs.toArray 0)).push (seqObj "list" #[] 0)).get? ((s.heap.update a (Obj.mapSeq fun _ => (#[] : Array Value))).push (seqObj "tuple" vs.toArray 0)).objs.size = some (seqObj "list" #[] 0) := Heap.get?_push_size _ rfl
 have ha3 := Heap.get?_push_of_some (seqObj "list" #[] 0) (Heap.get?_push_of_some (seqObj "tuple" vs.toArray 0) ho1)
 have hF3 := Heap.get?_push_of_some (seqObj "list" #[] 0) (Heap.get?_push_of_some (seqObj "tuple" vs.toArray 0) hF1)
 have ske : ((s.heap.update a (Obj.mapSeq fun _ => (#[] : Array Value))).push (seqObj "tuple" vs.toArray 0)).objs.size = s.heap.objs.size + 1 := by rw [size_push', sz1]
 show wpAny (model X.prog X.w) A (ksk_rest a (.ref F) false vs.toArray e1 (.ref ((s.heap.update a (Obj.mapSeq fun _ => (#[] : Array Value))).push (seqObj "tuple" vs.toArray 0)).objs.size)) P E { s with heap := ((s.heap.update a (Obj.mapSeq fun _ => (#[] : Array Value))).push (seqObj "tuple" vs.toArray 0)).push (seqObj "list" #[] 0) }
 generalize ((s.heap.update a (Obj.mapSeq fun _ => (#[] : Array Value))).push (seqObj "tuple" vs.toArray 0)).push (seqObj "list" #[] 0) = h3 at *
 generalize ((s.heap.update a (Obj.mapSeq fun _ => (#[] : Array Value))).push (seqObj "tuple" vs.toArray 0)).objs.size = kS at *
 have nka : kS ≠ a := by rw [ske]; exact Nat.ne_of_gt (Nat.lt_succ_of_lt la)
 have nkF : kS ≠ F := by rw [ske]; exact Nat.ne_of_gt (Nat.lt_succ_of_lt lF)
 unfold ksk_rest
 refine wpAny_bind (wpAny_rule ?_)
 rw [List.forIn_toArray]
 refine wpAny_bind (ksk_fold (fun i s' => ∃ (H' : Hp) (kl : List Value) (e : Nat) (kv : List V), Inv X pins σ H' s' ∧ Same H H' ∧ (∀ b ∈ [a, kS, F], FpOk X pins H' b) ∧ s'.heap.get? a = some (seqObj "list" #[] e1) ∧ s'.heap.get? kS = some (seqObj "list" kl.toArray e) ∧ s'.heap.get? F = some fo ∧ Vals kv kl ∧ Dns X.K H' kv (ds.take i)) vs 0 _
  ⟨H, [], 0, [], I3, Same.refl _, fun b hb => ?_, ha3, hk3, hF3, .nil, .nil⟩ ?step ?done)
 ·rcases List.mem_cons.mp hb with rfl | hb
  ·exact fa
  ·rcases List.mem_cons.mp hb with rfl | hb
   ·exact fk
   ·rw [List.mem_singleton.mp hb]; exact fF
 case step =>
  rintro j u s' hu' ⟨H', kl, e, kv, I', sm, fp, ha', hk', hF', rk, dk⟩
  simp only [Nat.zero_add] at dk ⊢
  have hj : j < vs.length := (List.getElem?_eq_some_iff.mp hu').1
  have hy : ys[j]? = some (ys[j]'(by lia)) := List.getElem?_eq_getElem (by lia)
  obtain ⟨u', eu, ru⟩ := Vals.get rv hy
  rw [hu'] at eu
  cases eu
  have hdj : ds[j]? = some (ds[j]'(by lia)) := List.getElem?_eq_getElem (by lia)
  refine wpAny_bind (wpAny_attempt (wpAny_mono (run_own (fp := [a, kS, F]) I' fp (fun b hb => ?_) fun pins' J => turn j _ u _ hy ru hdj pins' H' s' J sm hF') (fun k s'' h => ?_) fun _ _ z => z.elim))
  ·rcases List.mem_cons.mp hb with rfl | hb
   ·exact ⟨_, ha', fun v z => nomatch z⟩
   ·rcases List.mem_cons.mp hb with rfl | hb
    ·exact ⟨_, hk', fun v z => nomatch z⟩
    ·rw [List.mem_singleton.mp hb]; exact ⟨_, hF', hFd⟩
  obtain ⟨kx, H'', I'', rx, ⟨sm'', dn''⟩, own⟩ := h
  have hk'' := (own kS (by simp)).1.trans hk'
  have hkl : kl.length = j := by
   have := rk.length
   have := dk.length
   rw [List.length_take] at this
   lia
  have s4 := Heap.SameBut.update s''.heap kS (Obj.mapSeq (·.push k))
  dsimp only
  refine wpAny_bind (listUpdate_at hk'' rfl ?_ (by rw [List.size_toArray, sizeLine_eq]; lia) (Nat.le_trans (Nat.le_of_eq (Array.size_push ..)) (by rw [List.size_toArray, sizeLine_eq]; lia)))
  refine wpAny_pure ⟨rfl, H'', kl ++ [k], _, kv ++ [kx], I''.scratch (own kS (by simp)).2 s4, sm.trans sm'', fun b hb => (own b hb).2, (s4.2 a nka.symm).trans ((own a (by simp)).1.trans ha'), (get?_update_seq hk'' (·.push k)).trans (by rw [List.push_toArray]), (s4.2 F nkF.symm).trans ((own F (by simp)).1.trans hF'), rk.append (.cons rx .nil), ?_⟩
  rw [List.take_add_one, hdj]
  exact (dk.stay sm''.stays).snoc dn''
 case done =>
  rintro s' ⟨H', kl, e, kv, I', sm, fp, ha', hk', hF', rk, dk⟩
  have e3 : ds.take (0 + vs.length) = ds := List.take_of_length_le (by lia)
  rw [e3] at dk
  have lkl : kl.length = vs.length := by
   have := rk.length
   have := dk.length
   lia
  have fa' := fp a (by simp)
  have fk' := fp kS (by simp)
  have den : ∀ v ∈ kl, ∃ d, Den X.K H' v d ∧ Dv.isA sh d = true := fun v m => by
   obtain ⟨i, hi⟩ := List.mem_iff_getElem?.mp m
   have hy : i < kv.length := by
    have := (List.getElem?_eq_some_iff.mp hi).1
    have := rk.length
    lia
   obtain ⟨u, eu, ru⟩ := rk.get (List.getElem?_eq_getElem hy)
   rw [hi] at eu; cases eu
   obtain ⟨d, ed, dd⟩ := dk.get' (List.getElem?_eq_getElem hy)
   exact ⟨d, ⟨_, ru, dd⟩, hsh d (List.mem_of_getElem? ed)⟩
  have ez : kl.toArray.zip vs.toArray = (kl.zip vs).toArray := by simp
  refine wpAny_bind (listItems_at hk' rfl ?_)
  unfold ksk_end
  dsimp only
  simp only [Bool.false_eq_true, if_false]
  rw [ez]
  have tail : ∀ (st : SortSt) (out : List Keyed), arrOf st = out.toArray → failedOf st = none → out.Perm (kl.zip vs) → out.Pairwise (fun x y => bltD X.K H' y x = false) → wpAny (model X.prog X.w) A (ksk_tail a false e1 (.ref kS) st) P E s' := fun st out a1 a2 a3 a4 =>
   key_tail I' fa' fk' nka ha' hk' rk dk rv lkl hz hsh a1 a2 a3 a4 fun ps out s'' c J g p1 p2 p3 => fin ps out H' s'' c J sm fa' g p1 p2 p3
  by_cases h2 : vs.toArray.size < 2
  ·rw [if_pos h2, if_pos h2]
   refine wpAny_bind (wpAny_pure ?_)
   rw [StateT.run_pure]
   refine wpAny_bind (wpAny_pure ?_)
   dsimp only
   refine tail (SortSt.mk' general' (kl.zip vs).toArray #[] 7 none) (kl.zip vs) rfl rfl (.refl _) ?_
   have : (kl.zip vs).length < 2 := by rw [List.length_zip, lkl, Nat.min_self]; simpa using h2
   match kl.zip vs, this with
   | [], _ => exact .nil
   | [_], _ => exact List.pairwise_singleton _ _
   | _ :: _ :: _, h => simp at h; lia
  ·rw [if_neg h2, if_neg h2]
   have h2' : 2 ≤ vs.length := by simpa using h2
   refine wpAny_bind (wpAny_mono (kind_data (Q := fun k s'' => k = sh.kind ∧ s'' = s') I' hk (by lia) den ⟨rfl, rfl⟩) ?_ fun _ _ f => f.elim)
   rintro k s'' ⟨rfl, rfl⟩
   refine wpAny_bind (wpAny_mono (TS.w_run (E := E) (Q := fun st s3 => s3 = s'' ∧ failedOf st = none ∧ ∃ out : List Keyed, arrOf st = out.toArray ∧ out.Perm (kl.zip vs) ∧ out.Pairwise (fun x y => bltD X.K H' y x = false)) (ord_data I' sh)
    (TS.cmp_of fun x y Q hx hy q => cmp_data I' hk (by lia) hx hy q) (fun p hp => den _ (List.of_mem_zip hp).1) (by rw [List.length_zip, lkl, Nat.min_self]; exact ⟨by lia, hx⟩) fun out st a1 a2 a3 a4 => ⟨rfl, a2, out, a1, a3, a4⟩) ?_ fun _ _ e => e)
   rintro ⟨⟨⟩, st⟩ s3 ⟨rfl, hf, out, ea, hp, hw⟩
   dsimp only
   exact tail st out ea hf hp hw
end
end L2
namespace L2
open PySem PySem.Spec PyProof.Rows
section
variable {X : Cx} {pins : List (Addr × Obj)} {σ : St} {H : Hp} {s : Shared}
theorem Inv.adopt {a : Addr} {o : HO} (I : Inv X pins σ H s) (h0 : X.s₀.heap.objs.size ≤ a) (f : FpOk X pins H a) (new : ObjOk X.prog X.w (upd H a o) s.heap a o) : Inv X pins σ (upd H a o) s := by
 obtain ⟨hn, hL, _, _, hc, hp⟩ := f
 have ne : ∀ {b : Addr} {u : HO}, H b = some u → b ≠ a := fun e => ne_of_none e hn
 have old : ∀ {b : Addr} {u : Obj}, X.s₀.heap.get? b = some u → b ≠ a := fun e => Nat.ne_of_lt (Nat.lt_of_lt_of_le (Heap.lt_size e) h0)
 refine ⟨I.ok, I.os, I.bare, ⟨I.base.keep, I.base.slot, fun b u e n hx => ?_, I.base.there, fun b xs q => ?_, fun b u v q => ?_, fun b ps q => ?_⟩, I.loc, I.cell, by rw [upd_ne hL.symm]; exact I.free, fun x c e => by rw [upd_ne (hc x c e)]; exact I.freeC x c e, fun q hq => ?_, fun b u e => ?_, I.len⟩
 ·rw [upd_ne (old e)]; exact I.base.free b u e n hx
 ·have := I.base.tups b xs q
  rw [upd_ne (ne this)]; exact this
 ·have := I.base.frzs b u v q
  rw [upd_ne (ne this)]; exact this
 ·obtain ⟨m, e⟩ := I.base.tbls b ps q
  exact ⟨m, by rw [upd_ne (ne e)]; exact e⟩
 ·obtain ⟨e, n, r⟩ := I.pin q hq
  exact ⟨e, by rw [upd_ne (hp q hq)]; exact n, r⟩
 ·by_cases hb : b = a
  ·subst hb
   rw [upd_same] at e; cases e
   exact new
  ·rw [upd_ne hb] at e
   exact (I.hok b u e).stay (fun c v _ q => q) (fun c q => by rw [upd_ne (ne q)]; exact q) fun c xs q => by rw [upd_ne (ne q)]; exact q
theorem key_sorted {l F : Addr} {fo : Obj} {ys : List V} {ds : List Dv} {sh : Sh} {Q : VK} {E : Value → Shared → Prop} (I : Inv X pins σ H s) (hl : SqL X.K H l ys) (hF : s.heap.get? F = some fo) (fF : FpOk X pins H F) (hFd : ∀ v, fo.data ≠ .cell v)
  (hzx : TS.Fits ys.length) (hd : ds.length = ys.length) (hsh : ∀ d ∈ ds, Dv.isA sh d = true) (hk : sh.key = true) (hdep : sh.dep ≤ 30) (hu : X.A.units + 70 < cLine)
  (turn : ∀ (i : Nat) (y : V) (u : Value) (d : Dv), ys[i]? = some y → RelV y u → ds[i]? = some d → ∀ (pins' : List (Addr × Obj)) (H' : Hp) (s' : Shared), Inv X pins' σ H' s' → Same H H' → s'.heap.get? F = some fo →
   wpAny (model X.prog X.w) X.A.in1.in1 (call (.ref F) [u]) (EP X pins' σ fun k H'' => Same H' H'' ∧ Dn X.K H'' k d) (fun _ _ => False) s')
  (q : ∀ (L : Addr) (ps : List (V × Dv)) (H' : Hp), Same H H' → H L = none → H' L = some (.lst (ps.map (·.1))) → ps.Perm (ys.zip ds) → (ps.map (·.2)).Pairwise (fun d e => dcmp d e ≠ .gt) → Q (.ref L) H') :
  wpAny (model X.prog X.w) X.A (call (.builtin "sorted") [.ref l] [(Str.ofString "key", .ref F)]) (EP X pins σ Q) E s := by
 obtain ⟨vs, rv, pl, hz'⟩ := I.list hl
 have lyv := rv.length
 have hz := hzx.1
 have hl0 : vs.length ≤ sizeLine := by rw [sizeLine_eq]; lia
 refine call_function_entry_kw kind_sorted plain_sorted entry_sorted (ksk_s1 _ _) ?_
 unfold Builtin.«sorted»
 refine wpAny_bind (m := checkCount "sorted" 1 1 _) (wpAny_pure (wpAny_bind (collect_list pl.isList (wpAny_bind (wpAny_newList ?_ hl0)) hl0)))
 have sz : ((s.heap.push (seqObj "list" #[] 0)).update s.heap.objs.size (Obj.mapSeq (· ++ vs.toArray))).objs.size = s.heap.objs.size + 1 := by rw [Heap.size_update, size_push']
 have hoL : (((s.heap.push (seqObj "list" #[] 0)).update s.heap.objs.size (Obj.mapSeq (· ++ vs.toArray))).push (seqObj "list" vs.toArray 0)).get? (s.heap.objs.size + 1) = some (seqObj "list" vs.toArray 0) := by rw [← sz]; exact Heap.get?_push_size _ rfl
 have keep : ∀ b o, s.heap.get? b = some o → (((s.heap.push (seqObj "list" #[] 0)).update s.heap.objs.size (Obj.mapSeq (· ++ vs.toArray))).push (seqObj "list" vs.toArray 0)).get? b = some o := fun b o q => by
  have lt : b < s.heap.objs.size := Heap.lt_size q
  refine Heap.get?_push_of_some _ ?_
  rw [Heap.get?_update_ne _ _ _ _ (Nat.ne_of_lt lt)]; exact Heap.get?_push_of_some _ q
 show wpAny _ _ _ _ _ { s with heap := ((s.heap.push (seqObj "list" #[] 0)).update s.heap.objs.size (Obj.mapSeq (· ++ vs.toArray))).push (seqObj "list" vs.toArray 0) }
 rw [sz]
 have I1 : Inv X pins σ H { s with heap := ((s.heap.push (seqObj "list" #[] 0)).update s.heap.objs.size (Obj.mapSeq (· ++ vs.toArray))).push (seqObj "list" vs.toArray 0) } := I.kept (t' := s.toks) keep
 have fL : FpOk X pins H (s.heap.objs.size + 1) := I.fpOk (Nat.le_succ _) (I.hok.fresh (Nat.le_succ _))
 have lF : F < s.heap.objs.size := Heap.lt_size hF
 refine wpAny_bind (wpAny_holding (wpAny_call_entry_kw slot_list_sort ⟨_, hoL, rfl⟩ entry_list_sort ?body (ksk_l1 _ _)))
 case body =>
  show wpAny (model X.prog X.w) X.A.in1.in1 (Builtin.«list.sort» ⟨[.ref (s.heap.objs.size + 1)], [(Str.ofString "key", .ref F)]⟩) _ _ _
  rw [ksk_t1]
  refine key_sort I1 hoL fL (keep _ _ hF) fF hFd (Nat.ne_of_gt (Nat.lt_succ_of_lt lF)) rv (by rw [← lyv]; exact hzx) (by lia) hsh hk hdep (by rw [in1_units, in1_units]; lia) turn fun ps out H' s' c J sm f g p1 p2 p3 => ⟨_, rfl, wpAny_pure ⟨_, rfl, ?_⟩⟩
  refine ⟨.ref (s.heap.objs.size + 1), upd H' (s.heap.objs.size + 1) (.lst (ps.map (·.1))), J.adopt (Nat.le_trans I.sz (Nat.le_succ _)) f ?_, rfl, q _ ps _ (sm.trans (Same.new f.1)) fL.1 upd_same p1 p3⟩
  refine ⟨?_, out, c, p2, g⟩
  rw [List.length_map, p1.length_eq, List.length_zip, sizeLine_eq]
  lia
noncomputable def lamTab (H : Hp) (P : Addr) (pos : Pos) (qual : Str) : Prop := H P = some (.tbl #[]) ∨ ∃ (c' : Addr) (oc : Obj) (vs : Array Value) (t : Tok), H P = some (.tbl #[rawInt pos.line, rawInt pos.col, .ref c']) ∧ H c' = some (.frz oc (.ext fun _ => True)) ∧ oc.data = .fields vs ∧ vs[1]? = some (.str qual t)
noncomputable def bltAt (K : PySem.W.Frag) (mg : Str → Option Value) (H : Hp) : Prop := ∃ (bm : Addr) (ob : Obj), mg "__builtins__" = some (.ref bm) ∧ bm ≠ builtinsNs ∧ (K.lookup bm = some ob ∨ H bm = some (.frz ob (.ext fun _ => True))) ∧ ob.cls = .type "module" ∧ ob.dict = some builtinsNs ∧ ob.data = .plain
noncomputable def KeptP (H H' : Hp) (P : Addr) : Prop := ∀ b o, H b = some o → b ≠ P → H' b = some o
theorem lam_make {params : Arguments} {body : Expr} {scope : Scope} {pos : Pos} {qual : Str} {fl : Nat} {c P : Addr} {Q : Value → Shared → Prop} {E : Value → Shared → Prop} (I : Inv X pins σ H s) (hcl : closureFor scope X.env = pure []) (hge : X.env.globals = mainGlobals) (hcode : X.env.code = .ref c) (hd : PySem.W.codeHdIn X.K c P = true)
  (hb : bltAt X.K X.mg H) (T : lamTab H P pos qual)
  (h : ∀ (F c' : Addr) (oc : Obj) (vs : Array Value) (t : Tok) (pm ctv : Value) (H' : Hp) (s' : Shared), Inv X pins σ H' s' → KeptP H H' P → H' P = some (.tbl #[rawInt pos.line, rawInt pos.col, .ref c']) → H' c' = some (.frz oc (.ext fun _ => True)) → oc.data = .fields vs → vs[1]? = some (.str qual t) →
   s'.heap.get? F = some (PySem.W.kla_obj "<lambda>" qual params body scope [] pm c' ctv) → FpOk X pins H' F → Q (.ref F) s') :
  wpAny (model X.prog X.w) X.A (makeFunction "<lambda>" qual params (.expr body) scope X.env [] [] [] pos fl) Q E s := by
 have hg : s.heap.Ns mainGlobals X.mg := I.mod.glob.keeps I.bk
 have hC : PySem.W.CodeHd s.heap c P := PySem.W.codeHd_of_K I.kIn hd
 obtain ⟨bm, ob, b1, b2, b3, b4, b5, b6⟩ := hb
 have b3' : s.heap.get? bm = some ob := by
  rcases b3 with z | z
  ·exact I.kIn _ _ z
  ·exact (I.hok _ _ z).1
 have tabNe : ∀ {ps : Array Value}, s.heap.get? P = some (PySem.W.tabObj ps) → mainGlobals ≠ P ∧ s.heap.BuiltinsAt X.mg P := fun {ps} hP => by
  refine ⟨fun q => ?_, bm, ob, b1, b2, fun q => ?_, fun q => ?_, b3', b4, b5, b6⟩
  ·obtain ⟨o, es, ep, e, hd, _⟩ := hg
   rw [q, hP] at e; cases e; cases hd
  ·obtain ⟨o, es, ep, e, hd, _⟩ := hg
   rw [q, e] at b3'; cases b3'; rw [hd] at b6; cases b6
  ·rw [q, hP] at b3'; cases b3'; cases b4
 rcases T with hP | ⟨c', oc, vs, t, hP, hc', hv, hv1⟩
 ·have hP' : s.heap.get? P = some (PySem.W.tabObj #[]) := I.hok _ _ hP
  obtain ⟨n1, n2⟩ := tabNe hP'
  refine PySem.W.kla_makeFunction (mg := X.mg) hcl hge hg hcode hC hP' trivial rfl n1 n2 fun c' ctv h' tk hx hge' hlt hrec htb => ?_
  obtain ⟨c₂, oc, vs, t, e2, hoc, hv, hv1⟩ := hrec
  cases e2
  have hf' : H c' = none := I.hok.fresh hge'
  have hcP : c' ≠ P := fun z => by rw [z, hP] at hf'; cases hf'
  have nP : ∀ {b : Addr}, H b = none → b ≠ P := fun e z => by rw [z, hP] at e; cases e
  have nC : ∀ {b : Addr} {u : HO}, H b = some u → b ≠ c' := fun e z => by rw [z, hf'] at e; cases e
  have lC : ∀ {b : Addr} {o : Obj}, s.heap.get? b = some o → b ≠ c' := fun e => Nat.ne_of_lt (Nat.lt_of_lt_of_le (Heap.lt_size e) hge')
  have fF : FpOk X pins H h'.objs.size := I.fpOk (Nat.le_of_lt (Nat.lt_of_le_of_lt hge' hlt)) (I.hok.fresh (Nat.le_of_lt (Nat.lt_of_le_of_lt hge' hlt)))
  have nFP : h'.objs.size ≠ P := nP fF.1
  have J : Inv X pins σ (upd (upd H P (.tbl #[rawInt pos.line, rawInt pos.col, .ref c'])) c' (.frz oc (.ext fun _ => True))) { s with heap := h'.push (PySem.W.kla_obj "<lambda>" qual params body scope [] ((X.mg "__name__").getD .none) c' ctv), toks := tk } := by
   refine I.step (g' := s.gens) (d' := s.drawn) (ch := []) (fun b hb => by cases hb) (fun b o _ _ _ e n => Heap.get?_push_of_some _ (hx b o (nP n) e)) (fun b o _ _ _ e n => ⟨o.slots, Heap.get?_push_of_some _ (hx b o (nP n) e)⟩) (fun b o _ e n => by rw [upd_ne (lC e), upd_ne (nP n)]; exact n)
    (fun b o _ e => ?_) (fun b xs e => ?_) (fun b o u e => ?_) (fun b ps e => ?_) (fun m hm => ?_) (fun b u e => ?_) I.bare
   ·by_cases hb : b = P
    ·subst hb; exact ⟨_, Heap.get?_push_of_some _ htb⟩
    ·exact ⟨o, Heap.get?_push_of_some _ (hx b o hb e)⟩
   ·rw [upd_ne (nC e), upd_ne (fun z => by rw [z, hP] at e; cases e)]; exact e
   ·rw [upd_ne (nC e), upd_ne (fun z => by rw [z, hP] at e; cases e)]; exact e
   ·by_cases hb : b = P
    ·subst hb
     rw [hP] at e; cases e
     exact ⟨#[rawInt pos.line, rawInt pos.col, .ref c'], by rw [upd_ne hcP.symm, upd_same]; simp⟩
    ·exact ⟨#[], by rw [upd_ne (nC e), upd_ne hb, e]; simp⟩
   ·exact (hm.extBut hx (nP I.free)).push _
   ·by_cases hb : b = c'
    ·subst hb
     rw [upd_same] at e; cases e
     exact ⟨Heap.get?_push_of_some _ hoc, trivial, ⟨_, Heap.get?_push_of_some _ hoc⟩, fun _ _ _ _ => trivial⟩
    ·rw [upd_ne hb] at e
     by_cases hb' : b = P
     ·subst hb'
      rw [upd_same] at e; cases e
      exact Heap.get?_push_of_some _ htb
     ·rw [upd_ne hb'] at e
      refine (I.hok b u e).stay (fun d v hw q => Heap.get?_push_of_some _ (hx d v (fun zP => by subst zP; rcases hw with z | z; exact hb' z.symm; rw [hP] at z; cases z) q)) (fun d q => ?_) fun d xs q => ?_
      ·rw [upd_ne (nC q), upd_ne (fun z => by rw [z, hP] at q; cases q)]; exact q
      ·rw [upd_ne (nC q), upd_ne (fun z => by rw [z, hP] at q; cases q)]; exact q
  refine h h'.objs.size c' oc vs t _ ctv _ _ J (fun b o e n => ?_) ?_ upd_same hv hv1 (Heap.get?_push_size _ rfl) ⟨?_, fF.2⟩
  ·rw [upd_ne (nC e), upd_ne n]; exact e
  ·rw [upd_ne hcP.symm, upd_same]
  ·rw [upd_ne (Nat.ne_of_gt hlt), upd_ne nFP]; exact fF.1
 ·have hP' : s.heap.get? P = some (PySem.W.tabObj #[rawInt pos.line, rawInt pos.col, .ref c']) := I.hok _ _ hP
  obtain ⟨n1, n2⟩ := tabNe hP'
  refine PySem.W.kla_makeFunctionHit (mg := X.mg) (cv := .ref c') hcl hge hg hcode hC hP' ?_ ?_ n2 fun ctv h' tk hk hsz => ?_
  ·exact trivial
  ·show codeAmong pos [.int pos.line 0, .int pos.col 0, .ref c'] = _
   simp [codeAmong]
  ·have J : Inv X pins σ H { s with heap := h'.push (PySem.W.kla_obj "<lambda>" qual params body scope [] ((X.mg "__name__").getD .none) c' ctv), toks := tk } := I.kept (t' := tk) fun b u e => Heap.get?_push_of_some _ (hk b u e)
   exact h h'.objs.size c' oc vs t _ ctv H _ J (fun _ _ e _ => e) hP hc' hv hv1 (Heap.get?_push_size _ rfl) (I.fpOk hsz (I.hok.fresh hsz))
end
end L2
namespace L2
open PySem PySem.Spec PyProof.Rows
section
variable {X : Cx}
theorem KeptP.seq {K : PySem.W.Frag} {H H' : Hp} {P p : Addr} {ps : Array Value} {xs : List V} (k : KeptP H H' P) (hP : H P = some (.tbl ps)) (h : SqL K H p xs) : SqL K H' p xs := by
 have ne : ∀ {u : HO}, H p = some u → (∀ ps, u ≠ .tbl ps) → p ≠ P := fun e n z => by rw [z, hP] at e; exact n _ (Option.some.inj e).symm
 rcases h with (h | ⟨o, h⟩) | h
 ·exact .inl (.inl (k _ _ h (ne h fun _ z => nomatch z)))
 ·exact .inl (.inr ⟨o, k _ _ h (ne h fun _ z => nomatch z)⟩)
 ·exact .inr h
theorem KeptP.trans {H H1 H2 : Hp} {P : Addr} (a : KeptP H H1 P) (b : KeptP H1 H2 P) : KeptP H H2 P := fun c o e n => b c o (a c o e n) n
theorem Same.keptP {H H' : Hp} {P : Addr} (s : Same H H') : KeptP H H' P := fun b o e _ => s b o e
inductive tSortedLamI (K : PySem.W.Frag) (mg : Str → Option Value) (P : Addr) (lpos : Pos) (qual : Str) (x : Str) (te : TE) (Q : VK) (v : V) (H1 : Hp) : Prop
 | mk (p : Addr) (ys : List V) (ds : List Dv) (sh : Sh) : (v = .ref p) → (SqL K H1 p ys) → (lamTab H1 P lpos qual) → (bltAt K mg H1) → (TS.Fits ys.length) → (ds.length = ys.length) → ((∀ d ∈ ds, Dv.isA sh d = true)) → (sh.key = true) → (sh.dep ≤ 30) → ((∀ (i : Nat) (y : V) (d : Dv) (H' : Hp), ys[i]? = some y → ds[i]? = some d → KeptP H1 H' P → te (start [x] [y]) H' fun k H'' => Same H' H'' ∧ Dn K H'' k d)) → (∀ (L : Addr) (ps : List (V × Dv)) (H' : Hp), KeptP H1 H' P → lamTab H' P lpos qual → H1 L = none → H' L = some (.lst (ps.map (·.1))) → ps.Perm (ys.zip ds) → (ps.map (·.2)).Pairwise (fun d e => dcmp d e ≠ .gt) → Q (.ref L) H') → tSortedLamI K mg P lpos qual x te Q v H1
noncomputable def tSortedLam (K : PySem.W.Frag) (mg : Str → Option Value) (P : Addr) (lpos : Pos) (qual x : Str) (te tl : TE) : TE := fun σ H Q => tl σ H fun v H1 => tSortedLamI K mg P lpos qual x te Q v H1
theorem pe_sortedLam {c P : Addr} {x : Str} {e : Expr} {params : Arguments} {body : Expr} {scope : Scope} {lpos p pos kpos : Pos} {te tl : TE} (hu : X.A.units + 70 < cLine) (hr : Room 3 X.A) (hg : Gl X "sorted") (hm : X.mg "sorted" = none) (he : PE X e tl)
  (hcl : closureFor scope X.env = pure []) (hge : X.env.globals = mainGlobals) (hcode : X.env.code = .ref c) (hd : PySem.W.codeHdIn X.K c P = true) (hdef : defaultsOf params X.env = ([], []))
  (hbind : ∀ (pm ctv u : Value) (c' : Addr), bindArgs (PySem.W.kla_fn "<lambda>" (X.env.qual ++ "<lambda>") params body scope [] pm (.ref c') ctv) ⟨[u], []⟩ = pure [(x, u)]) (S : FnScope [x] [x] scope)
  (hbody : ∀ (F c' : Addr) (A : Around) (outer : List Env) (s : Shared) (H : Hp), PE (cxOf CX0 X.prog X.w X.K X.mg X.base [x] (X.env.qual ++ "<lambda>") scope F (.ref c') A outer s H E0).nox body te)
  (hs : starEach [e] X.env = [(false, eval e X.env)] := by rfl) :
  PE X (.Call (.Name "sorted" p) [e] [⟨some (Str.ofString "key"), .Lambda params body scope lpos, kpos⟩] pos) (tSortedLam X.K X.mg P lpos (X.env.qual ++ "<lambda>") x te tl) := by
 intro pins s σ H Q I h
 refine wpAny_Call_Name_kw (ld_blt I hg hm bt_sorted ?_ (by decide) (by decide))
 refine callWith_kw ?_ (by rw [hs]; rfl) (by rw [hs]; rfl) rfl rfl
 rw [hs]
 show wpAny _ _ (spliced ((false, eval e X.env) :: backTo pos [])) _ _ s
 refine Calls.spliced_cons (thn (he pins s σ H _ I h) fun u s1 ⟨v, H1, I1, r1, q1⟩ => Calls.spliced_nil ?_)
 obtain ⟨l, ys, ds, sh, rfl, hl, hT, hB, hz, hdl, hsh, hkey, hdep, turn, q⟩ := q1
 cases r1
 refine evalAll_cons (wpAny_bind (PySem.W.kla_eval hdef (lam_make I1 hcl hge hcode hd hB hT fun F c' oc vs tq pm ctv H2 s2 I2 k2 hP2 hc2 hv hv1 hF fF => wpAny_bind (wpAny_standAt (wpAny_pure (wpAny_pure ?_))))))
 show wpAny _ _ (call (.builtin "sorted") [.ref l] [(Str.ofString "key", .ref F)]) _ _ s2
 obtain ⟨ps0, hP1⟩ : ∃ ps0, H1 P = some (.tbl ps0) := by
  rcases hT with z | ⟨_, _, _, _, z, _⟩
  ·exact ⟨_, z⟩
  ·exact ⟨_, z⟩
 refine key_sorted I2 (k2.seq hP1 hl) hF fF (fun _ z => nomatch z) hz hdl hsh hkey hdep hu (fun i y u d hy ry hdi pins' H' s' J sm hF' => ?_) fun L ps H' sm hL hL' p1 p2 => ?_
 ·have hcr : s'.heap.CodeRec (.ref c') (X.env.qual ++ "<lambda>") := ⟨c', oc, vs, tq, rfl, (J.hok _ _ (sm _ _ hc2)).1, hv, hv1⟩
  exact lam_run (k := 0) J rfl hr.in1.in1 hF' hcr (hbind _ _ _ _) S ry (fun A outer s H _ => hbody F c' A outer s H) (turn i y d H' hy hdi (k2.trans sm.keptP))
 ·refine q L ps H' (k2.trans sm.keptP) (.inr ⟨c', oc, vs, tq, sm _ _ hP2, sm _ _ hc2, hv, hv1⟩) ?_ hL' p1 p2
  cases e1 : H1 L with
  | none => rfl
  | some o =>
   by_cases hLP : L = P
   ·rw [hLP, hP2] at hL; cases hL
   ·rw [k2 L o e1 hLP] at hL; cases hL
end
end L2
namespace L2
open PySem PySem.Spec PyProof.Rows
section
variable {X : Cx}
inductive sThawI (t : TS) (D : Ends) (σ : St) (H : Hp) : Prop
 | mk (d : _) (u : _) : (H d = some u) → (notFrz u) → (t { D with nx := fun σ' H' => ∃ o, H' d = some (.frz o u) ∧ D.nx σ' (upd H' d u) } σ H) → sThawI t D σ H
noncomputable def sThaw (t : TS) : TS := fun D σ H => sThawI t D σ H
theorem ps_thaw {st : Stmt} {t : TS} (h : PS X st t) : PS X st (sThaw t) := by
 intro pins s σ H D I hq
 obtain ⟨d, u, hd, hn, q⟩ := hq
 refine wpAny_mono (h pins s σ H _ I q) (fun f s1 hs => ?_) fun _ _ z => z
 cases f with
 | next =>
  obtain ⟨σ', H', I', o, e1, q1⟩ := hs
  refine ⟨σ', _, I'.thaw e1 fun o' u' z => ?_, q1⟩
  have := I.base.frzs d o' u' z
  rw [hd] at this; cases this
  exact hn
 | brk => exact hs
 | cont => exact hs
 | ret v => exact hs
end
structure MethInT (K : PySem.W.Frag) (C : Addr) (m qual : Str) (st : Stmt) (Pt : Addr) : Prop where
 ex : ∃ (f : Addr) (oc : Value) (od : Option Addr) (kV doc pm : Value) (an : Option Addr) (c : Addr) (ct : Value) (osl : Array (Option Value)),
  PySem.W.findIn K (.ref C) m = some (some (.ref f)) ∧ PySem.W.isFn K (.ref f) = true ∧ K.lookup f = some ⟨oc, od, .func (PySem.W.fnOf m qual (defArgs st) (defBody st) (defScope st) .none kV doc pm an (.ref c) ct), osl⟩ ∧ PySem.W.codeIn K (.ref c) qual = true ∧ PySem.W.keepIn K (.ref f) = true ∧ PySem.W.codeHdIn K c Pt = true
theorem MethInT.mk' {K : PySem.W.Frag} {C Pt : Addr} {m qual : Str} {st : Stmt} {f : Addr} {oc : Value} {od : Option Addr} {kV doc pm : Value} {an : Option Addr} {c : Addr} {ct : Value} {osl : Array (Option Value)} (a : PySem.W.findIn K (.ref C) m = some (some (.ref f))) (i : PySem.W.isFn K (.ref f) = true)
  (l : K.lookup f = some ⟨oc, od, .func (PySem.W.fnOf m qual (defArgs st) (defBody st) (defScope st) .none kV doc pm an (.ref c) ct), osl⟩) (c' : PySem.W.codeIn K (.ref c) qual = true) (k : PySem.W.keepIn K (.ref f) = true) (t : PySem.W.codeHdIn K c Pt = true) : MethInT K C m qual st Pt := ⟨⟨f, oc, od, kV, doc, pm, an, c, ct, osl, a, i, l, c', k, t⟩⟩
theorem MethInT.code {K : PySem.W.Frag} {C Pt : Addr} {m qual : Str} {st : Stmt} (D : MethInT K C m qual st Pt) : ∃ c, PySem.W.codeHdIn K c Pt = true := by
 obtain ⟨f, oc, od, kV, doc, pm, an, c, ct, osl, a, i, l, c', kp, t⟩ := D.ex
 exact ⟨c, t⟩
section
variable {P : Program} {w : World} {K : PySem.W.Frag} {mg : Str → Option Value} {C Pt : Addr} {m : Str} {ps : List Str} {k : Nat} {sp : Sp}
theorem MethInT.fn {qual : Str} {st : Stmt} {N : List Str} (D : MethInT K C m qual st Pt) (S : FnScope N ps (defScope st))
  (hb : ∀ (kV doc pm : Value) (an : Option Addr) (cdv ct : Value) (us : List Value), us.length = ps.length → bindArgs (PySem.W.fnOf m qual (defArgs st) (defBody st) (defScope st) .none kV doc pm an cdv ct) ⟨us, []⟩ = pure (ps.zip us))
  (len : ∀ vs H Q E, sp vs H Q E → vs.length = ps.length)
  (hbody : ∀ (f c : Addr) (base : Heap) (A : Around) (outer : List Env) (s : Shared) (H : Hp) (vs : List V) (Q : VK) (E : XK), PySem.W.codeHdIn K c Pt = true → Room k (A.deeper (envOfC qual (defScope st) s.heap.objs.size f (.ref c))) → sp vs H Q E →
   ∃ t, PSs (cxOf CX0 P w K mg base N qual (defScope st) f (.ref c) A outer s H E).nox (defBody st) t ∧ t { nx := fun _ H' => Q .non H', rt := Q } (start N vs) H) : MethB P w K mg CX0 C m ps (k + 1) sp := by
 obtain ⟨f, oc, od, kV, doc, pm, an, c, ct, osl, a, i, l, c', kp, t⟩ := D.ex
 refine ⟨f, _, ⟨a, i, kp⟩, hb kV doc pm an (.ref c) ct, fun base => fn_of l c' S len fun A outer s H vs Q E hr hsp => ?_⟩
 obtain ⟨t', h, q⟩ := hbody f c base A outer s H vs Q E t hr hsp
 exact ⟨t', h.nox, q⟩
end
theorem law_callT {P : Program} {w : World} {K : PySem.W.Frag} {mg mb : Str → Option Value} {k : Nat} {fa a Pt c : Addr} {fd : FuncData} {x : Str} {sp : Sp} {s₁ : Shared} {vs : List Value} {ns : List Int}
  (KX : K.In s₁.heap) (hns : s₁.heap.Ns mainGlobals mg) (hb : s₁.heap.Ns builtinsNs mb) (hbb : ∀ x : Str, x ≠ "__name__" → mb x = bootBuiltins x) (hlim : s₁.heap.NoLimit) (hg : s₁.gens = #[])
  (hbm : ∃ bm ob, mg "__builtins__" = some (.ref bm) ∧ bm ≠ builtinsNs ∧ s₁.heap.get? bm = some ob ∧ ob.cls = .type "module" ∧ ob.dict = some builtinsNs ∧ ob.data = .plain)
  (hT : s₁.heap.get? Pt = some (PySem.W.tabObj #[])) (KT : K.lookup Pt = none) (hcd : PySem.W.codeHdIn K c Pt = true)
  (ha : s₁.heap.get? a = some { cls := .type "list", data := .seq vs.toArray }) (hi : IntsAre vs ns) (hl : ns.length ≤ sizeLine) (hr : Room k callerA)
  (F : ∀ base : Heap, FnOk P w K mg base CX0 k fa fd [x] sp) (hbind : ∀ (s : Shared) (u : Value), BindsTo s fd ⟨[u], []⟩ [(x, u)])
  (hsp : ∀ H : Hp, SqL K H a (ns.map V.int) → H Pt = some (.tbl #[]) → bltAt K mg H → sp [.ref a] H (fun v _ => v = .bl true) fun _ _ _ => False) :
  codeAny (model P w) callerA (.call (.ref fa) ⟨[.ref a], []⟩) (fun r s' => r = .ok (.ret (.bool true)) ∧ OldK s₁.heap s'.heap ∧ s'.os = s₁.os ∧ AllBare s'.gens) s₁ := by
 have rv := vals_ints hi
 have lenV := hi.length
 obtain ⟨bm, ob, b1, b2, b3, b4, b5, b6⟩ := hbm
 have naP : a ≠ Pt := fun z => by rw [z, hT] at ha; cases ha
 have nab : a ≠ bm := fun z => by rw [z, b3] at ha; cases ha; cases b6
 have nbP : bm ≠ Pt := fun z => by rw [z, hT] at b3; cases b3; cases b6
 obtain ⟨H, hH, hS, hP, hB⟩ : ∃ H : Hp, (∀ b u, H b = some u → K.lookup b = none ∧ ((b = a ∧ u = .frz { cls := .type "list", data := .seq vs.toArray } (.lst (ns.map V.int))) ∨ (b = Pt ∧ u = .tbl #[]) ∨ (b = bm ∧ u = .frz ob (.ext fun _ => True)))) ∧ SqL K H a (ns.map V.int) ∧ H Pt = some (.tbl #[]) ∧ bltAt K mg H := by
  refine ⟨fun b => if b = Pt then some (.tbl #[]) else if b = a then (match K.lookup a with | none => some (.frz { cls := .type "list", data := .seq vs.toArray } (.lst (ns.map V.int))) | some _ => none) else if b = bm then (match K.lookup bm with | none => some (.frz ob (.ext fun _ => True)) | some _ => none) else none, fun b u e => ?_, ?_, if_pos rfl, bm, ob, b1, b2, ?_, b4, b5, b6⟩
  ·dsimp only at e
   split at e
   ·rename_i hb; subst hb; cases e; exact ⟨KT, .inr (.inl ⟨rfl, rfl⟩)⟩
   ·split at e
    ·rename_i hb; subst hb
     split at e
     ·rename_i hk; cases e; exact ⟨hk, .inl ⟨rfl, rfl⟩⟩
     ·cases e
    ·split at e
     ·rename_i hb; subst hb
      split at e
      ·rename_i hk; cases e; exact ⟨hk, .inr (.inr ⟨rfl, rfl⟩)⟩
      ·cases e
     ·cases e
  ·cases hk : K.lookup a with
   | some o =>
    have e := KX a o hk
    rw [ha] at e
    cases e
    exact .inr ⟨_, vs.toArray, _, hk, rfl, rfl, rfl, by rw [List.size_toArray, lenV]; exact hl, by simpa using rv⟩
   | none =>
    refine .inl (.inr ⟨{ cls := .type "list", data := .seq vs.toArray }, ?_⟩)
    dsimp only
    rw [if_neg naP, if_pos rfl]
  ·cases hk : K.lookup bm with
   | some o =>
    have e := KX bm o hk
    rw [b3] at e
    cases e
    exact .inl rfl
   | none =>
    refine .inr ?_
    dsimp only
    rw [if_neg nbP, if_neg nab.symm, if_pos rfl]
 have hok : HOk P w H s₁.heap := fun b u e => by
  obtain ⟨_, h⟩ := hH b u e
  rcases h with ⟨rfl, rfl⟩ | ⟨rfl, rfl⟩ | ⟨rfl, rfl⟩
  ·exact ⟨ha, by rw [List.length_map]; exact hl, vs, _, rv, ha⟩
  ·exact hT
  ·exact ⟨b3, trivial, ⟨_, b3⟩, fun _ _ _ _ => trivial⟩
 have base_of : ∀ {b : Addr} {o : Obj}, s₁.heap.get? b = some o → H b = none → (hidT s₁.heap H).get? b = some o := fun e n => hidT_get e n
 have noA : ∀ {b : Addr} {o : Obj} {es : Array DictEntry} {ep : Nat}, s₁.heap.get? b = some o → o.data = .dict es ep → H b = none := fun {b o es ep} e d => by
  cases q : H b with
  | none => rfl
  | some u =>
   obtain ⟨_, h⟩ := hH b u q
   rcases h with ⟨rfl, rfl⟩ | ⟨rfl, rfl⟩ | ⟨rfl, rfl⟩
   ·rw [ha] at e; cases e; cases d
   ·rw [hT] at e; cases e; cases d
   ·rw [b3] at e; cases e; rw [b6] at d; cases d
 have nsK : ∀ {b : Addr} {m : Str → Option Value}, s₁.heap.Ns b m → (hidT s₁.heap H).Ns b m := fun {b m} ⟨o, es, ep, e, d, r⟩ => ⟨o, es, ep, base_of e (noA e d), d, r⟩
 have hKb : K.In (hidT s₁.heap H) := fun b o e => base_of (KX b o e) (by
  cases q : H b with
  | none => rfl
  | some u =>
   have z := (hH b u q).1
   have e' : K.lookup b = some o := e
   rw [z] at e'; cases e')
 have hM : Mod K mg (hidT s₁.heap H) := ⟨hKb, nsK hns, ⟨mb, nsK hb, hbb⟩, let ⟨mc, h1, h2⟩ := hlim; ⟨mc, nsK h1, h2⟩⟩
 have e0 : Env0 P w K mg (hidT s₁.heap H) callerA [] s₁ H := ⟨rfl, hM, fun b o e => of_hidT e, Nat.le_of_eq (hidT_size _ _), trivial, fun b hb => absurd (show b ∈ ([] : List Addr) from hb) (by simp), hok, .of_eq hg⟩
 refine codeAny_mono ((F _).run callerA [] s₁ H ⟨[.ref a], []⟩ [.ref a] [.ref a] _ _ hr e0 (hbind s₁ (.ref a)) (.cons rfl .nil) (hsp H hS hP hB)) fun r s' h => ?_
 cases r with
 | error e => exact False.elim h
 | ok fl =>
  cases fl with
  | next => exact False.elim h
  | brk => exact False.elim h
  | cont => exact False.elim h
  | ret u =>
   obtain ⟨v, H', os, bare, un, hok', r', q⟩ := h
   have q' : v = .bl true := q
   subst q'
   obtain rfl : u = Value.bool true := r'
   have isT : isCodeTable s₁.heap Pt := by
    obtain ⟨o, vs, _, _, _, _, _, _, _, h1, h2, h3, h4, _⟩ := PySem.W.codeHd_of_K KX hcd
    exact ⟨c, o, vs, h1, h2, h3, h4⟩
   refine ⟨rfl, ⟨fun b o e => ?_, fun b o e => un.there b o e (by simp)⟩, os, bare⟩
   cases q : H b with
   | none => exact .inl (un.keep b o e q (by intro z; exact absurd (show b ∈ ([] : List Addr) from z) (by simp)) (by simp))
   | some u =>
    obtain ⟨_, z⟩ := hH b u q
    rcases z with ⟨rfl, rfl⟩ | ⟨rfl, rfl⟩ | ⟨rfl, rfl⟩
    ·have e2 := (hok' _ _ (un.frzs _ _ _ q)).1
     rw [ha] at e; cases e
     exact .inl e2
    ·obtain ⟨more, e2⟩ := un.tbls _ _ q
     have e3 : s'.heap.get? b = some { cls := .none, data := .fields (#[] ++ more) } := hok' _ _ e2
     rw [hT] at e; cases e
     exact .inr (.inl ⟨isT, rfl, #[], more, rfl, e3⟩)
    ·have e2 := (hok' _ _ (un.frzs _ _ _ q)).1
     rw [b3] at e; cases e
     exact .inl e2
theorem walkT {l : PySem.W.OpenLaw} {q : Program} {loose : List Str} {XP : (Str → Option Value) → Heap → Prop} {YP : World → Heap → Prop} {d : DefRec} {K : Params → PySem.W.Frag} {x : Str} (k : Nat) (Pt : Addr) (hk : Room k callerA)
  (hn : l.most = some 63) (hdf : d.params.defaults = [])
  (hY : ∀ (w : World) (h : Heap), YP w h → (K w.params).In h ∧ h.get? Pt = some (PySem.W.tabObj #[]))
  (sp : PySem.W.Frag → (Str → Option Value) → Sp) (hsp : ∀ (K : PySem.W.Frag) (mg : Str → Option Value) (H : Hp) (a : Addr) (ns : List Int), ns.length ≤ 63 → SqL K H a (ns.map V.int) → H Pt = some (.tbl #[]) → bltAt K mg H → sp K mg [.ref a] H (fun v _ => v = .bl true) fun _ _ _ => False)
  (F : ∀ (w : World) (mg : Str → Option Value), MG (K w.params) mg → (K w.params).lookup Pt = none ∧ (∃ c, PySem.W.codeHdIn (K w.params) c Pt = true) ∧ FnB l.prog w (K w.params) mg d.name [x] k (sp (K w.params) mg)) :
  PySem.W.WalkO q loose XP YP l.row.toRowW d [] (fun f vs => PySem.call f vs) := by
 refine Att.attach_call hn hdf fun w s₀ s₁ mg mb fa o pm cd doc a vs ns G Y ho hd hcd hmg hobj hints hlen hg => ?_
 obtain ⟨KX, hT⟩ := hY w _ Y
 have M : MG (K w.params) mg := ⟨fun y v e => PySem.W.mg_of KX G.T.g e, fun y e => PySem.W.mg_none_of KX G.T.g e⟩
 obtain ⟨KT, ⟨c, hc⟩, f, fd, h1, h2, h3, h4⟩ := F w mg M
 have e := hmg.symm.trans h1
 cases e
 exact law_callT KX G.T.g G.T.b G.T.builtins G.T.nolimit hg G.T.bmain hT KT hc hobj hints (Nat.le_trans hlen (by decide)) hk h4 (fun s u => .of_eq (h3 [u] rfl)) fun H hS hP hB => hsp (K w.params) mg H a ns hlen hS hP hB
end L2
namespace L2
open PySem PySem.Spec PyProof.Rows
theorem len1 {us : List Value} (h : us.length = 1) : ∃ a, us = [a] := by
 cases us with
 | nil => cases h
 | cons a r => cases r with
  | nil => exact ⟨a, rfl⟩
  | cons b r => cases h
theorem lenS {us : List Value} {n : Nat} (h : us.length = n + 1) : ∃ a r, us = a :: r ∧ r.length = n := by
 cases us with
 | nil => cases h
 | cons a r => exact ⟨a, r, rfl, Nat.succ.inj h⟩
theorem len2 {us : List Value} (h : us.length = 2) : ∃ a b, us = [a, b] := by
 obtain ⟨a, r, rfl, g⟩ := lenS h
 obtain ⟨b, rfl⟩ := len1 g
 exact ⟨a, b, rfl⟩
theorem len3 {us : List Value} (h : us.length = 3) : ∃ a b c, us = [a, b, c] := by
 obtain ⟨a, r, rfl, g⟩ := lenS h
 obtain ⟨b, c, rfl⟩ := len2 g
 exact ⟨a, b, c, rfl⟩
theorem len4 {us : List Value} (h : us.length = 4) : ∃ a b c d, us = [a, b, c, d] := by
 obtain ⟨a, r, rfl, g⟩ := lenS h
 obtain ⟨b, c, d, rfl⟩ := len3 g
 exact ⟨a, b, c, d, rfl⟩
theorem seq_abs {a b : TS} {D : Ends} {σ : St} {H : Hp} (h : ∀ B : TS, B = b → a { D with nx := fun σ' H' => B D σ' H' } σ H) : tSeq a b D σ H := h b rfl
section
variable {X : Cx}
end
end L2
namespace L2
open PySem PySem.Spec PyProof.Rows
noncomputable def LeAt (A : Around) (s : Shared) (y x : Value) (b : Bool) : Prop :=
 ∀ (prog : Program) (w : World) (E : Value → Shared → Prop) (Q : Value → Shared → Prop), Q (.bool b) s → wpAny (model prog w) A (richCompare .LtE y x) Q E s
inductive LeL (A : Around) (s : Shared) : List Value → List Value → Bool → Prop
 | nn : LeL A s [] [] true
 | eq {x y : Value} {xs ys : List Value} {b : Bool} : SeqAt.EqAt A s x y true → LeL A s xs ys b → LeL A s (x :: xs) (y :: ys) b
 | ne {x y : Value} {xs ys : List Value} {b : Bool} : SeqAt.EqAt A s x y false → LeAt A s x y b → LeL A s (x :: xs) (y :: ys) b
end L2
namespace HT
open PySem PyProof.Rows
section
open PySem.SeqAt
open PySem.AutoSeq1 (wpAny_loadPart')
open PySem.MeetsSeq PySem.MeetsSeq2 PySem.MeetsSeq3
theorem tuple_le_any (l b : Addr) (items items2 : Array Value) (n n2 : Nat) (dd dd2 : Option Addr) (sl sl2 : Array (Option Value)) (k : Bool) :
  Meets (Builtin.«tuple.__le__» ⟨[.ref l, .ref b], []⟩)
   (fun A R s => L2.LeL A.in1 s items.toList items2.toList k ∧ s.heap.get? l = some { cls := .type "tuple", dict := dd, data := .seq items n, slots := sl } ∧ s.heap.get? b = some { cls := .type "tuple", dict := dd2, data := .seq items2 n2, slots := sl2 } ∧
    R (.ok (.ret (.bool k))) s) := .of_wp fun prog w A R s h => by
 obtain ⟨hp, g, d, tk, os⟩ := s; obtain ⟨hL, hl, hb, h⟩ := h
 have f2 := AutoSeq1.sub_tuple_tuple
 wp_walk using wpAny_loadPart' hl, wpAny_loadPart' hb, wpAny_forIn_list _ (fun rest b s' => b.1 = none ∧ s' = ⟨hp, g, d, tk, os⟩ ∧ ∃ (vs ws : List Value), rest = vs.zip ws ∧ L2.LeL A.in1 ⟨hp, g, d, tk, os⟩ vs ws k ∧ vs.length + items2.size = ws.length + items.size) _
 case turn =>
  rintro ⟨y, x⟩ rest b s' ⟨hb', rfl, vs, ws, hz, hv, hlen⟩
  cases hv with
  | nn => rw [List.zip_nil_left] at hz; cases hz
  | eq he hr =>
   rw [List.zip_cons_cons] at hz; injection hz with hyx hrest; injection hyx with hy hx; subst hy hx
   simp only [List.length_cons] at hlen
   refine wpAny_bind (he prog w _ _ ?_); wp_walk; exact ⟨rfl, rfl, _, _, hrest, hr, by lia⟩
  | ne he hr =>
   rw [List.zip_cons_cons] at hz; injection hz with hyx hrest; injection hyx with hy hx; subst hy hx
   refine wpAny_bind (he prog w _ _ ?_); have hri := hr prog w; wp_walk using hri; exact ⟨_, rfl, by simpa using h⟩
 case fin =>
  rintro ⟨b1, b2⟩ s' ⟨hb', rfl, vs, ws, hz, hv, hlen⟩
  simp only at hb'; subst hb'
  have hk : k = decide (items.size ≤ items2.size) := by
   cases hv with
   | nn => simp only [List.length_nil] at hlen; exact (decide_eq_true (by lia)).symm
   | eq _ _ => rw [List.zip_cons_cons] at hz; cases hz
   | ne _ _ => rw [List.zip_cons_cons] at hz; cases hz
  rw [hk] at h; wp_walk; exact ⟨_, rfl, by simpa [Builtin.Tuple.tupleCompareSizes] using h⟩
 case h => exact ⟨rfl, rfl, items.toList, items2.toList, rfl, hL, by simp only [Array.length_toList]; lia⟩
end
theorem le_tupAny {A : Around} {s : Shared} {l b : Addr} {items items2 : Array Value} {k : Bool} (hl : IsTup s.heap l items) (hb : IsTup s.heap b items2) (hL : L2.LeL A.in1 s items.toList items2.toList k) (hu : A.units < cLine) : L2.LeAt A s (.ref l) (.ref b) k := fun prog w E Q h => by
 obtain ⟨⟨cls, dd, data, sl⟩, ho, hc, n, hd⟩ := id hl
 obtain ⟨⟨cls2, dd2, data2, sl2⟩, ho2, hc2, n2, hd2⟩ := id hb
 simp only at hc hd hc2 hd2; subst hc hd hc2 hd2
 exact richCompare_meets_room (op := .LtE) ⟨_, ho, rfl⟩ ⟨_, ho2, rfl⟩ PySem.F.slot_tuple_le PySem.F.entry_tuple_le (PySem.F.args_tuple_le_2 _ _) (tuple_le_any l b items items2 n n2 dd dd2 sl sl2 k) ⟨hL, ho, ho2, show Value.bool k ≠ Value.notImplemented ∧ Q (.bool k) s from ⟨(fun x => nomatch x), h⟩⟩ hu
end HT
namespace L2
open PySem PySem.Spec PyProof.Rows
section
variable {X : Cx} {pins : List (Addr × Obj)} {σ : St} {H : Hp} {s : Shared}
noncomputable def isLe : Ordering → Bool
 | .gt => false
 | _ => true
theorem flat_le {A : Around} {sh : Sh} {d e : Dv} {x y : V} {u w : Value} (hs : sh = .int ∨ sh = .str) (a1 : Dv.isA sh d = true) (a2 : Dv.isA sh e = true) (dx : Dn X.K H x d) (dy : Dn X.K H y e) (rx : RelV x u) (ry : RelV y w) : LeAt A s u w (isLe (dcmp d e)) := by
 rcases hs with rfl | rfl
 ·obtain ⟨i, rfl⟩ := isA_int a1
  obtain ⟨j, rfl⟩ := isA_int a2
  cases dx; cases dy
  obtain ⟨t, rfl⟩ := rx
  obtain ⟨t', rfl⟩ := ry
  intro prog w' E Q hq
  refine (P.le_int ?_ : wpAny (model prog w') A (compareOp .LtE (.int i t) (.int j t')) Q E s)
  have : isLe (dcmp (.int i) (.int j)) = decide (i ≤ j) := by
   simp only [dcmp]
   by_cases h : i = j
   ·subst h; simp [isLe]
   ·rw [if_neg h]
    by_cases h1 : i < j
    ·rw [if_pos h1, decide_eq_true (by lia)]; rfl
    ·rw [if_neg h1, decide_eq_false (by lia)]; rfl
  rw [this] at hq; exact hq
 ·obtain ⟨i, rfl⟩ := isA_str a1
  obtain ⟨j, rfl⟩ := isA_str a2
  cases dx; cases dy
  obtain ⟨t, rfl⟩ := rx
  obtain ⟨t', rfl⟩ := ry
  intro prog w' E Q hq
  refine (PySem.P.le_str ?_ : wpAny (model prog w') A (compareOp .LtE (.str i t) (.str j t')) Q E s)
  have : isLe (dcmp (.str i) (.str j)) = !decide (j.cps.toList < i.cps.toList) := by
   have sw := cmp_swap (sh := .str) (d := .str j) (e := .str i) rfl rfl
   rw [sw]
   simp only [dcmp]
   by_cases h : j = i
   ·subst h; simp [isLe, List.lt_irrefl]
   ·rw [if_neg h]; by_cases h1 : j.cps.toList < i.cps.toList <;> simp [h1, isLe]
  rw [this] at hq; exact hq
theorem flat_dep {sh : Sh} {d : Dv} (hs : sh = .int ∨ sh = .str) (a : Dv.isA sh d = true) : d.dep ≤ 0 := by
 rcases hs with rfl | rfl
 ·obtain ⟨i, rfl⟩ := isA_int a
  exact Nat.le_refl _
 ·obtain ⟨i, rfl⟩ := isA_str a
  exact Nat.le_refl _
theorem leL_of (I : Inv X pins σ H s) {A : Around} (hu : A.units + 0 < cLine) {l : List Sh} : ∀ {ds es : List Dv} {xs ys : List V} {us ws : List Value}, (∀ sh ∈ l, sh = .int ∨ sh = .str) → Dv.areA l ds = true → Dv.areA l es = true → Dns X.K H xs ds → Dns X.K H ys es → Vals xs us → Vals ys ws → LeL A s us ws (isLe (dcmps ds es)) := by
 induction l with
 | nil =>
  intro ds es xs ys us ws hl a1 a2 d1 d2 r1 r2
  rw [areA_nil a1] at d1 ⊢
  rw [areA_nil a2] at d2 ⊢
  cases d1; cases d2; cases r1; cases r2
  exact .nn
 | cons sh l ih =>
  intro ds es xs ys us ws hl a1 a2 d1 d2 r1 r2
  obtain ⟨d, ds', rfl, h1, h2⟩ := areA_cons a1
  obtain ⟨e, es', rfl, h3, h4⟩ := areA_cons a2
  have hs := hl sh (.head _)
  cases d1 with
  | cons dx dxs => cases d2 with
   | cons dy dys => cases r1 with
    | cons rx rxs => cases r2 with
     | cons ry rys =>
      obtain ⟨b, he, hb⟩ := deep_eq I 0 (A := A) (flat_dep hs h1) hu (isA_nomix h1 h3) dx dy rx ry
      have hc := cmp_eq h1 h3
      cases b with
      | true =>
       have z : dcmp d e = .eq := hc.mpr (hb.mp rfl)
       have rest := ih (fun q hq => hl q (.tail _ hq)) h2 h4 dxs dys rxs rys
       have : dcmps (d :: ds') (e :: es') = dcmps ds' es' := by simp only [dcmps, z, Ordering.then]
       rw [this]
       exact .eq he rest
      | false =>
       have z : dcmp d e ≠ .eq := fun q => by have := hb.mpr (hc.mp q); cases this
       have : dcmps (d :: ds') (e :: es') = dcmp d e := by
        simp only [dcmps]
        cases q : dcmp d e with
        | eq => exact absurd q z
        | lt => rfl
        | gt => rfl
       rw [this]
       exact .ne he (flat_le hs h1 h3 dx dy rx ry)
inductive rLeDI (K : PySem.W.Frag) (x : V) (y : V) (H : Hp) (Q : VK) : Prop
 | mk (l : _) (ds : _) (es : _) : (Dn K H x (.tup ds)) → (Dn K H y (.tup es)) → (Dv.areA l ds = true) → (Dv.areA l es = true) → ((∀ sh ∈ l, sh = .int ∨ sh = .str)) → (Q (.bl (isLe (dcmps ds es))) H) → rLeDI K x y H Q
noncomputable def rLeD (K : PySem.W.Frag) : R2 := fun x y H Q => rLeDI K x y H Q
theorem op_leD (hu : X.A.units + 64 < cLine) : OpR X (compareOp .LtE) (rLeD X.K) := by
 intro pins s σ H x y v u Q I rx ry h
 obtain ⟨l, ds, es, dx, dy, a1, a2, hl, q⟩ := h
 cases dx with
 | tup ha da => cases dy with
  | tup hb db =>
   cases rx; cases ry
   obtain ⟨its, r1, p1, _⟩ := I.tuple ha
   obtain ⟨its2, r2, p2, _⟩ := I.tuple hb
   exact HT.le_tupAny p1 p2 (leL_of I (A := X.A.in1) (by rw [in1_units]; lia) hl a1 a2 da db r1 r2) (by lia) _ _ _ _ ⟨.bl _, H, I, rfl, q⟩
inductive rInMI (neg : Bool) (x : V) (y : V) (H : Hp) (Q : VK) : Prop
 | mk (a : _) (o : _) : (y = .ref a) → (DGet H a x o) → (Q (.bl (if neg then !o.isSome else o.isSome)) H) → rInMI neg x y H Q
noncomputable def rInM (neg : Bool) : R2 := fun x y H Q => rInMI neg x y H Q
theorem op_inM (hu : X.A.units + 1 < cLine) : OpR X (compareOp .In) (rInM false) := by
 intro pins s σ H x y v u Q I rx ry h
 obtain ⟨a, o, rfl, g, q⟩ := h
 cases ry
 exact d_in hu I g rx fun s' I' => ⟨.bl _, H, I', rfl, q⟩
theorem op_notInM (hu : X.A.units + 1 < cLine) : OpR X (compareOp .NotIn) (rInM true) := by
 intro pins s σ H x y v u Q I rx ry h
 obtain ⟨a, o, rfl, g, q⟩ := h
 cases ry
 exact d_notIn hu I g rx fun s' I' => ⟨.bl _, H, I', rfl, q⟩
theorem rep_size {α : Type} (a : Array α) : ∀ (n : Nat) (b : Array α), ((List.replicate n a).foldl (· ++ ·) b).size = b.size + n * a.size := by
 intro n
 induction n with
 | zero => intro b; simp
 | succ n ih =>
  intro b
  rw [List.replicate_succ, List.foldl_cons, ih, Array.size_append, Nat.succ_mul]
  lia
inductive rRepNI (x : V) (y : V) (H : Hp) (Q : VK) : Prop
 | mk (z : _) (n : _) : (x = .str z) → (y = .int n) → (0 ≤ n) → (n ≤ 1000) → (0 < z.length) → (z.length ≤ 1000) → (∀ z' : Str, z'.length ≤ 1000000 → Q (.str z') H) → rRepNI x y H Q
noncomputable def rRepN : R2 := fun x y H Q => rRepNI x y H Q
theorem op_repN : OpR X (binaryOp .Mult) rRepN := by
 intro pins s σ H x y v u Q I rx ry h
 obtain ⟨z, n, rfl, rfl, h1, h2, h3, h4, q⟩ := h
 obtain ⟨t, rfl⟩ := rx
 obtain ⟨t', rfl⟩ := ry
 have sl := sizeLine_eq
 refine PySem.P.mul_str ?_ (fun g1 _ => ?_) (fun _ _ => ?_) ?_
 ·simp; lia
 ·have hm : (z.length : Int) * n ≤ 1000 * 1000 := Int.mul_le_mul (by lia) h2 (by lia) (by decide)
  exact Int.not_lt.mpr (Int.le_ediv_of_mul_le (by lia) (by lia))
 ·have hm : z.length * n.toNat ≤ 1000 * 1000 := Nat.mul_le_mul h4 (by lia)
  show decide (z.length * n.toNat > sizeLine) = false
  exact decide_eq_false (by lia)
 ·by_cases g1 : n < 1
  ·rw [if_pos g1]
   exact ⟨by decide, .str _, H, I.tok _, ⟨_, rfl⟩, q _ (by decide)⟩
  ·rw [if_neg g1]
   by_cases g2 : (n == 1 || z.length == 0) = true
   ·rw [if_pos g2]
    exact ⟨.str _, H, I, ⟨_, rfl⟩, q _ (by lia)⟩
   ·rw [if_neg g2]
    have hs : (⟨(List.replicate n.toNat z.cps).foldl (· ++ ·) #[]⟩ : Str).length ≤ 1000000 := by
     show ((List.replicate n.toNat z.cps).foldl (· ++ ·) #[]).size ≤ _
     rw [rep_size]
     have : n.toNat * z.cps.size ≤ 1000 * 1000 := Nat.mul_le_mul (by lia) h4
     simpa using this
    exact ⟨by lia, .str _, H, I.tok _, ⟨_, rfl⟩, q _ hs⟩
end
end L2
seal L2.PE L2.PT L2.PW L2.PA L2.PS L2.PSs L2.PG L2.PGs L2.PI L2.PIfs L2.OpR L2.UnR L2.CallR L2.IxR L2.SlR L2.PO
namespace K1
theorem div_ge {a s : Int} (hs : 1 ≤ s) (ha : a < 0) : a ≤ a / s := by
 have h1 : a < (a / s + 1) * s := Int.lt_ediv_add_one_mul_self a (by lia)
 refine Int.not_lt.mp fun h => ?_
 have h2 : (a / s + 1) * s ≤ (a / s + 1) * 1 := Int.mul_le_mul_of_nonpos_left (by lia) hs
 rw [Int.mul_one] at h2
 lia
theorem div_nn {a s : Int} (hs : 1 ≤ s) (ha : 0 ≤ a) : 0 ≤ a / s ∧ a / s ≤ a := ⟨Int.ediv_nonneg ha (by lia), Int.ediv_le_self _ ha⟩
theorem div_neg {a s : Int} (hs : 1 ≤ s) (ha : a < 0) : a / s < 0 := Int.ediv_neg_of_neg_of_pos ha (by lia)
theorem div_in {a s b : Int} (hs : 1 ≤ s) (h1 : -b < a) (h2 : a < b) : -b < a / s ∧ a / s < b := by
 by_cases h : a < 0
 ·have := div_ge hs h
  have := div_neg hs h
  lia
 ·have := div_nn hs (Int.not_lt.mp h)
  lia
noncomputable def rsz (a b c : Int) : Int := if c > 0 then (if a < b then (b - a - 1) / c + 1 else 0) else (if a > b then (a - b - 1) / (-c) + 1 else 0)
theorem first_gt {t l s : Int} (hs : 1 ≤ s) : t - l < ((t - l) / s + 1) * s := Int.lt_ediv_add_one_mul_self _ (by lia)
theorem rsz_le {t l s : Int} (hs : 1 ≤ s) (hl : l ≤ 100 * s) : rsz (((t - l) / s + 1) * s) (t + 1) s ≤ 100 := by
 unfold rsz
 rw [if_pos (by lia)]
 split
 ·have h := first_gt (t := t) (l := l) hs
  have h2 : (t + 1 - ((t - l) / s + 1) * s - 1) / s < 100 := Int.ediv_lt_of_lt_mul (by lia) (by lia)
  lia
 ·lia
end K1
namespace K1
open PySem PySem.Spec PyProof.Rows L2
noncomputable def top (i : Nat) : Stmt := PySem.Challenge.pw_weirgauge_k06_whole_told_just_once.main.body.getD i (.Pass ⟨0, 0, 0, 0⟩)
noncomputable abbrev st__wall : Stmt := top 0
noncomputable abbrev st_kind_of : Stmt := top 8
theorem sc_kind_of : FnScope ["plan"] ["plan"] (defScope st_kind_of) := ⟨rfl, rfl, rfl, by decide +kernel, rfl, by decide +kernel, by decide +kernel⟩
theorem bd_kind_of (kV doc pm : Value) (an : Option Addr) (cdv ct : Value) (us : List Value) (hl : us.length = [("plan" : Str)].length) : bindArgs (PySem.W.fnOf "kind_of" "kind_of" (defArgs st_kind_of) (defBody st_kind_of) (defScope st_kind_of) .none kV doc pm an cdv ct) ⟨us, []⟩ = pure ((["plan"] : List Str).zip us) := by
 obtain ⟨_, rfl⟩ := len1 hl
 rfl
noncomputable abbrev st_length_of : Stmt := top 9
theorem sc_length_of : FnScope ["plan"] ["plan"] (defScope st_length_of) := ⟨rfl, rfl, rfl, by decide +kernel, rfl, by decide +kernel, by decide +kernel⟩
theorem bd_length_of (kV doc pm : Value) (an : Option Addr) (cdv ct : Value) (us : List Value) (hl : us.length = [("plan" : Str)].length) : bindArgs (PySem.W.fnOf "length_of" "length_of" (defArgs st_length_of) (defBody st_length_of) (defScope st_length_of) .none kV doc pm an cdv ct) ⟨us, []⟩ = pure ((["plan"] : List Str).zip us) := by
 obtain ⟨_, rfl⟩ := len1 hl
 rfl
noncomputable abbrev st_step_of : Stmt := top 10
theorem sc_step_of : FnScope ["plan"] ["plan"] (defScope st_step_of) := ⟨rfl, rfl, rfl, by decide +kernel, rfl, by decide +kernel, by decide +kernel⟩
theorem bd_step_of (kV doc pm : Value) (an : Option Addr) (cdv ct : Value) (us : List Value) (hl : us.length = [("plan" : Str)].length) : bindArgs (PySem.W.fnOf "step_of" "step_of" (defArgs st_step_of) (defBody st_step_of) (defScope st_step_of) .none kV doc pm an cdv ct) ⟨us, []⟩ = pure ((["plan"] : List Str).zip us) := by
 obtain ⟨_, rfl⟩ := len1 hl
 rfl
noncomputable abbrev st_grace_of : Stmt := top 11
theorem sc_grace_of : FnScope ["plan"] ["plan"] (defScope st_grace_of) := ⟨rfl, rfl, rfl, by decide +kernel, rfl, by decide +kernel, by decide +kernel⟩
theorem bd_grace_of (kV doc pm : Value) (an : Option Addr) (cdv ct : Value) (us : List Value) (hl : us.length = [("plan" : Str)].length) : bindArgs (PySem.W.fnOf "grace_of" "grace_of" (defArgs st_grace_of) (defBody st_grace_of) (defScope st_grace_of) .none kV doc pm an cdv ct) ⟨us, []⟩ = pure ((["plan"] : List Str).zip us) := by
 obtain ⟨_, rfl⟩ := len1 hl
 rfl
noncomputable abbrev st_check_plan : Stmt := top 14
theorem sc_check_plan : FnScope ["plan", "length", "step"] ["plan"] (defScope st_check_plan) := ⟨rfl, rfl, rfl, by decide +kernel, rfl, by decide +kernel, by decide +kernel⟩
theorem bd_check_plan (kV doc pm : Value) (an : Option Addr) (cdv ct : Value) (us : List Value) (hl : us.length = [("plan" : Str)].length) : bindArgs (PySem.W.fnOf "check_plan" "check_plan" (defArgs st_check_plan) (defBody st_check_plan) (defScope st_check_plan) .none kV doc pm an cdv ct) ⟨us, []⟩ = pure ((["plan"] : List Str).zip us) := by
 obtain ⟨_, rfl⟩ := len1 hl
 rfl
noncomputable abbrev st_spans_at : Stmt := top 15
theorem sc_spans_at : FnScope ["plan", "time", "length", "step", "first"] ["plan", "time"] (defScope st_spans_at) := ⟨rfl, rfl, rfl, by decide +kernel, rfl, by decide +kernel, by decide +kernel⟩
theorem bd_spans_at (kV doc pm : Value) (an : Option Addr) (cdv ct : Value) (us : List Value) (hl : us.length = [("plan" : Str), ("time" : Str)].length) : bindArgs (PySem.W.fnOf "spans_at" "spans_at" (defArgs st_spans_at) (defBody st_spans_at) (defScope st_spans_at) .none kV doc pm an cdv ct) ⟨us, []⟩ = pure ((["plan", "time"] : List Str).zip us) := by
 obtain ⟨_, _, rfl⟩ := len2 hl
 rfl
noncomputable abbrev st_joined : Stmt := top 18
theorem sc_joined : FnScope ["keys"] ["keys"] (defScope st_joined) := ⟨rfl, rfl, rfl, by decide +kernel, rfl, by decide +kernel, by decide +kernel⟩
theorem bd_joined (kV doc pm : Value) (an : Option Addr) (cdv ct : Value) (us : List Value) (hl : us.length = [("keys" : Str)].length) : bindArgs (PySem.W.fnOf "joined" "joined" (defArgs st_joined) (defBody st_joined) (defScope st_joined) .none kV doc pm an cdv ct) ⟨us, []⟩ = pure ((["keys"] : List Str).zip us) := by
 obtain ⟨_, rfl⟩ := len1 hl
 rfl
noncomputable abbrev st_answers : Stmt := top 20
theorem sc_answers : FnScope ["plan", "deeds", "desk"] ["plan", "deeds"] (defScope st_answers) := ⟨rfl, rfl, rfl, by decide +kernel, rfl, by decide +kernel, by decide +kernel⟩
theorem bd_answers (kV doc pm : Value) (an : Option Addr) (cdv ct : Value) (us : List Value) (hl : us.length = [("plan" : Str), ("deeds" : Str)].length) : bindArgs (PySem.W.fnOf "answers" "answers" (defArgs st_answers) (defBody st_answers) (defScope st_answers) .none kV doc pm an cdv ct) ⟨us, []⟩ = pure ((["plan", "deeds"] : List Str).zip us) := by
 obtain ⟨_, _, rfl⟩ := len2 hl
 rfl
noncomputable abbrev st__law_whole : Stmt := top 22
theorem sc__law_whole : FnScope ["_law_found"] ["_law_found"] (defScope st__law_whole) := ⟨rfl, rfl, rfl, by decide +kernel, rfl, by decide +kernel, by decide +kernel⟩
theorem bd__law_whole (kV doc pm : Value) (an : Option Addr) (cdv ct : Value) (us : List Value) (hl : us.length = [("_law_found" : Str)].length) : bindArgs (PySem.W.fnOf "_law_whole" "_law_whole" (defArgs st__law_whole) (defBody st__law_whole) (defScope st__law_whole) .none kV doc pm an cdv ct) ⟨us, []⟩ = pure ((["_law_found"] : List Str).zip us) := by
 obtain ⟨_, rfl⟩ := len1 hl
 rfl
noncomputable abbrev st__law_at : Stmt := top 23
theorem sc__law_at : FnScope ["_law_script", "_law_k"] ["_law_script", "_law_k"] (defScope st__law_at) := ⟨rfl, rfl, rfl, by decide +kernel, rfl, by decide +kernel, by decide +kernel⟩
theorem bd__law_at (kV doc pm : Value) (an : Option Addr) (cdv ct : Value) (us : List Value) (hl : us.length = [("_law_script" : Str), ("_law_k" : Str)].length) : bindArgs (PySem.W.fnOf "_law_at" "_law_at" (defArgs st__law_at) (defBody st__law_at) (defScope st__law_at) .none kV doc pm an cdv ct) ⟨us, []⟩ = pure ((["_law_script", "_law_k"] : List Str).zip us) := by
 obtain ⟨_, _, rfl⟩ := len2 hl
 rfl
noncomputable abbrev st__law_plan_of : Stmt := top 24
theorem sc__law_plan_of : FnScope ["_law_one", "_law_two", "_law_spot", "_law_large", "_law_wide", "_law_length", "_law_grace", "_law_steps"] ["_law_one", "_law_two"] (defScope st__law_plan_of) := ⟨rfl, rfl, rfl, by decide +kernel, rfl, by decide +kernel, by decide +kernel⟩
theorem bd__law_plan_of (kV doc pm : Value) (an : Option Addr) (cdv ct : Value) (us : List Value) (hl : us.length = [("_law_one" : Str), ("_law_two" : Str)].length) : bindArgs (PySem.W.fnOf "_law_plan_of" "_law_plan_of" (defArgs st__law_plan_of) (defBody st__law_plan_of) (defScope st__law_plan_of) .none kV doc pm an cdv ct) ⟨us, []⟩ = pure ((["_law_one", "_law_two"] : List Str).zip us) := by
 obtain ⟨_, _, rfl⟩ := len2 hl
 rfl
noncomputable abbrev st__law_long : Stmt := top 25
theorem sc__law_long : FnScope ["_law_sign", "_law_base"] ["_law_sign", "_law_base"] (defScope st__law_long) := ⟨rfl, rfl, rfl, by decide +kernel, rfl, by decide +kernel, by decide +kernel⟩
theorem bd__law_long (kV doc pm : Value) (an : Option Addr) (cdv ct : Value) (us : List Value) (hl : us.length = [("_law_sign" : Str), ("_law_base" : Str)].length) : bindArgs (PySem.W.fnOf "_law_long" "_law_long" (defArgs st__law_long) (defBody st__law_long) (defScope st__law_long) .none kV doc pm an cdv ct) ⟨us, []⟩ = pure ((["_law_sign", "_law_base"] : List Str).zip us) := by
 obtain ⟨_, _, rfl⟩ := len2 hl
 rfl
noncomputable abbrev st__law_event_of : Stmt := top 26
theorem sc__law_event_of : FnScope ["_law_cell", "_law_k", "_law_base", "_law_name", "_law_time", "_law_amount"] ["_law_cell", "_law_k", "_law_base"] (defScope st__law_event_of) := ⟨rfl, rfl, rfl, by decide +kernel, rfl, by decide +kernel, by decide +kernel⟩
theorem bd__law_event_of (kV doc pm : Value) (an : Option Addr) (cdv ct : Value) (us : List Value) (hl : us.length = [("_law_cell" : Str), ("_law_k" : Str), ("_law_base" : Str)].length) : bindArgs (PySem.W.fnOf "_law_event_of" "_law_event_of" (defArgs st__law_event_of) (defBody st__law_event_of) (defScope st__law_event_of) .none kV doc pm an cdv ct) ⟨us, []⟩ = pure ((["_law_cell", "_law_k", "_law_base"] : List Str).zip us) := by
 obtain ⟨_, _, _, rfl⟩ := len3 hl
 rfl
noncomputable abbrev st__law_drawn : Stmt := top 27
theorem sc__law_drawn : FnScope ["_law_cells", "_law_base", "_law_deeds", "_law_k", "_law_cell"] ["_law_cells", "_law_base"] (defScope st__law_drawn) := ⟨rfl, rfl, rfl, by decide +kernel, rfl, by decide +kernel, by decide +kernel⟩
theorem bd__law_drawn (kV doc pm : Value) (an : Option Addr) (cdv ct : Value) (us : List Value) (hl : us.length = [("_law_cells" : Str), ("_law_base" : Str)].length) : bindArgs (PySem.W.fnOf "_law_drawn" "_law_drawn" (defArgs st__law_drawn) (defBody st__law_drawn) (defScope st__law_drawn) .none kV doc pm an cdv ct) ⟨us, []⟩ = pure ((["_law_cells", "_law_base"] : List Str).zip us) := by
 obtain ⟨_, _, rfl⟩ := len2 hl
 rfl
noncomputable abbrev st__law_base_of : Stmt := top 28
theorem sc__law_base_of : FnScope ["_law_cell", "_law_far"] ["_law_cell"] (defScope st__law_base_of) := ⟨rfl, rfl, rfl, by decide +kernel, rfl, by decide +kernel, by decide +kernel⟩
theorem bd__law_base_of (kV doc pm : Value) (an : Option Addr) (cdv ct : Value) (us : List Value) (hl : us.length = [("_law_cell" : Str)].length) : bindArgs (PySem.W.fnOf "_law_base_of" "_law_base_of" (defArgs st__law_base_of) (defBody st__law_base_of) (defScope st__law_base_of) .none kV doc pm an cdv ct) ⟨us, []⟩ = pure ((["_law_cell"] : List Str).zip us) := by
 obtain ⟨_, rfl⟩ := len1 hl
 rfl
noncomputable abbrev st__law_is_said : Stmt := top 29
theorem sc__law_is_said : FnScope ["_law_found", "_law_number"] ["_law_found"] (defScope st__law_is_said) := ⟨rfl, rfl, rfl, by decide +kernel, rfl, by decide +kernel, by decide +kernel⟩
theorem bd__law_is_said (kV doc pm : Value) (an : Option Addr) (cdv ct : Value) (us : List Value) (hl : us.length = [("_law_found" : Str)].length) : bindArgs (PySem.W.fnOf "_law_is_said" "_law_is_said" (defArgs st__law_is_said) (defBody st__law_is_said) (defScope st__law_is_said) .none kV doc pm an cdv ct) ⟨us, []⟩ = pure ((["_law_found"] : List Str).zip us) := by
 obtain ⟨_, rfl⟩ := len1 hl
 rfl
noncomputable abbrev st__law_are_said : Stmt := top 30
theorem sc__law_are_said : FnScope ["_law_found", "_law_one"] ["_law_found"] (defScope st__law_are_said) := ⟨rfl, rfl, rfl, by decide +kernel, rfl, by decide +kernel, by decide +kernel⟩
theorem bd__law_are_said (kV doc pm : Value) (an : Option Addr) (cdv ct : Value) (us : List Value) (hl : us.length = [("_law_found" : Str)].length) : bindArgs (PySem.W.fnOf "_law_are_said" "_law_are_said" (defArgs st__law_are_said) (defBody st__law_are_said) (defScope st__law_are_said) .none kV doc pm an cdv ct) ⟨us, []⟩ = pure ((["_law_found"] : List Str).zip us) := by
 obtain ⟨_, rfl⟩ := len1 hl
 rfl
noncomputable abbrev st__law_by_event : Stmt := top 31
theorem sc__law_by_event : FnScope ["_law_said", "_law_stand", "_law_deed", "_law_mark", "_law_keys", "_law_one", "_law_key"] ["_law_said", "_law_stand", "_law_deed", "_law_mark"] (defScope st__law_by_event) := ⟨rfl, rfl, rfl, by decide +kernel, rfl, by decide +kernel, by decide +kernel⟩
theorem bd__law_by_event (kV doc pm : Value) (an : Option Addr) (cdv ct : Value) (us : List Value) (hl : us.length = [("_law_said" : Str), ("_law_stand" : Str), ("_law_deed" : Str), ("_law_mark" : Str)].length) : bindArgs (PySem.W.fnOf "_law_by_event" "_law_by_event" (defArgs st__law_by_event) (defBody st__law_by_event) (defScope st__law_by_event) .none kV doc pm an cdv ct) ⟨us, []⟩ = pure ((["_law_said", "_law_stand", "_law_deed", "_law_mark"] : List Str).zip us) := by
 obtain ⟨_, _, _, _, rfl⟩ := len4 hl
 rfl
noncomputable abbrev st__law_by_mark : Stmt := top 32
theorem sc__law_by_mark : FnScope ["_law_said", "_law_stand", "_law_deed", "_law_mark", "_law_last", "_law_one", "_law_key"] ["_law_said", "_law_stand", "_law_deed", "_law_mark"] (defScope st__law_by_mark) := ⟨rfl, rfl, rfl, by decide +kernel, rfl, by decide +kernel, by decide +kernel⟩
theorem bd__law_by_mark (kV doc pm : Value) (an : Option Addr) (cdv ct : Value) (us : List Value) (hl : us.length = [("_law_said" : Str), ("_law_stand" : Str), ("_law_deed" : Str), ("_law_mark" : Str)].length) : bindArgs (PySem.W.fnOf "_law_by_mark" "_law_by_mark" (defArgs st__law_by_mark) (defBody st__law_by_mark) (defScope st__law_by_mark) .none kV doc pm an cdv ct) ⟨us, []⟩ = pure ((["_law_said", "_law_stand", "_law_deed", "_law_mark"] : List Str).zip us) := by
 obtain ⟨_, _, _, _, rfl⟩ := len4 hl
 rfl
noncomputable abbrev st__law_ends_alike : Stmt := top 33
theorem sc__law_ends_alike : FnScope ["_law_cell", "_law_plan", "_law_time", "_law_one", "_law_two", "_law_deeds"] ["_law_cell", "_law_plan"] (defScope st__law_ends_alike) := ⟨rfl, rfl, rfl, by decide +kernel, rfl, by decide +kernel, by decide +kernel⟩
theorem bd__law_ends_alike (kV doc pm : Value) (an : Option Addr) (cdv ct : Value) (us : List Value) (hl : us.length = [("_law_cell" : Str), ("_law_plan" : Str)].length) : bindArgs (PySem.W.fnOf "_law_ends_alike" "_law_ends_alike" (defArgs st__law_ends_alike) (defBody st__law_ends_alike) (defScope st__law_ends_alike) .none kV doc pm an cdv ct) ⟨us, []⟩ = pure ((["_law_cell", "_law_plan"] : List Str).zip us) := by
 obtain ⟨_, _, rfl⟩ := len2 hl
 rfl
noncomputable abbrev st__law_room : Stmt := top 34
theorem sc__law_room : FnScope ["_law_script", "_law_most", "_law_bound"] ["_law_script", "_law_most", "_law_bound"] (defScope st__law_room) := ⟨rfl, rfl, rfl, by decide +kernel, rfl, by decide +kernel, by decide +kernel⟩
theorem bd__law_room (kV doc pm : Value) (an : Option Addr) (cdv ct : Value) (us : List Value) (hl : us.length = [("_law_script" : Str), ("_law_most" : Str), ("_law_bound" : Str)].length) : bindArgs (PySem.W.fnOf "_law_room" "_law_room" (defArgs st__law_room) (defBody st__law_room) (defScope st__law_room) .none kV doc pm an cdv ct) ⟨us, []⟩ = pure ((["_law_script", "_law_most", "_law_bound"] : List Str).zip us) := by
 obtain ⟨_, _, _, rfl⟩ := len3 hl
 rfl
noncomputable abbrev st_law : Stmt := top 35
theorem sc_law : FnScope ["_law_script", "_law_plan", "_law_deeds", "_law_cells", "_law_handed", "_law_told", "_law_stand", "_law_mark", "_law_k", "_law_deed", "_law_one"] ["_law_script"] (defScope st_law) := ⟨rfl, rfl, rfl, by decide +kernel, rfl, by decide +kernel, by decide +kernel⟩
theorem bd_law (kV doc pm : Value) (an : Option Addr) (cdv ct : Value) (us : List Value) (hl : us.length = [("_law_script" : Str)].length) : bindArgs (PySem.W.fnOf "law" "law" (defArgs st_law) (defBody st_law) (defScope st_law) .none kV doc pm an cdv ct) ⟨us, []⟩ = pure ((["_law_script"] : List Str).zip us) := by
 obtain ⟨_, rfl⟩ := len1 hl
 rfl
noncomputable abbrev st_Desk___init__ : Stmt := inClass (top 17) 0
theorem sc_Desk___init__ : FnScope ["self", "plan"] ["self", "plan"] (defScope st_Desk___init__) := ⟨rfl, rfl, rfl, by decide +kernel, rfl, by decide +kernel, by decide +kernel⟩
theorem bd_Desk___init__ (kV doc pm : Value) (an : Option Addr) (cdv ct : Value) (us : List Value) (hl : us.length = [("self" : Str), ("plan" : Str)].length) : bindArgs (PySem.W.fnOf "__init__" "Desk.__init__" (defArgs st_Desk___init__) (defBody st_Desk___init__) (defScope st_Desk___init__) .none kV doc pm an cdv ct) ⟨us, []⟩ = pure ((["self", "plan"] : List Str).zip us) := by
 obtain ⟨_, _, rfl⟩ := len2 hl
 rfl
noncomputable abbrev st_Desk_rows : Stmt := inClass (top 17) 1
noncomputable abbrev st_Desk_is_closed : Stmt := inClass (top 17) 2
theorem sc_Desk_is_closed : FnScope ["self", "end"] ["self", "end"] (defScope st_Desk_is_closed) := ⟨rfl, rfl, rfl, by decide +kernel, rfl, by decide +kernel, by decide +kernel⟩
theorem bd_Desk_is_closed (kV doc pm : Value) (an : Option Addr) (cdv ct : Value) (us : List Value) (hl : us.length = [("self" : Str), ("end" : Str)].length) : bindArgs (PySem.W.fnOf "is_closed" "Desk.is_closed" (defArgs st_Desk_is_closed) (defBody st_Desk_is_closed) (defScope st_Desk_is_closed) .none kV doc pm an cdv ct) ⟨us, []⟩ = pure ((["self", "end"] : List Str).zip us) := by
 obtain ⟨_, _, rfl⟩ := len2 hl
 rfl
noncomputable abbrev st_Desk_is_kept : Stmt := inClass (top 17) 3
noncomputable abbrev st_Desk_is_too_late : Stmt := inClass (top 17) 4
theorem sc_Desk_is_too_late : FnScope ["self", "time"] ["self", "time"] (defScope st_Desk_is_too_late) := ⟨rfl, rfl, rfl, by decide +kernel, rfl, by decide +kernel, by decide +kernel⟩
theorem bd_Desk_is_too_late (kV doc pm : Value) (an : Option Addr) (cdv ct : Value) (us : List Value) (hl : us.length = [("self" : Str), ("time" : Str)].length) : bindArgs (PySem.W.fnOf "is_too_late" "Desk.is_too_late" (defArgs st_Desk_is_too_late) (defBody st_Desk_is_too_late) (defScope st_Desk_is_too_late) .none kV doc pm an cdv ct) ⟨us, []⟩ = pure ((["self", "time"] : List Str).zip us) := by
 obtain ⟨_, _, rfl⟩ := len2 hl
 rfl
noncomputable abbrev st_Desk_do : Stmt := inClass (top 17) 5
theorem sc_Desk_do : FnScope ["self", "deed"] ["self", "deed"] (defScope st_Desk_do) := ⟨rfl, rfl, rfl, by decide +kernel, rfl, by decide +kernel, by decide +kernel⟩
theorem bd_Desk_do (kV doc pm : Value) (an : Option Addr) (cdv ct : Value) (us : List Value) (hl : us.length = [("self" : Str), ("deed" : Str)].length) : bindArgs (PySem.W.fnOf "do" "Desk.do" (defArgs st_Desk_do) (defBody st_Desk_do) (defScope st_Desk_do) .none kV doc pm an cdv ct) ⟨us, []⟩ = pure ((["self", "deed"] : List Str).zip us) := by
 obtain ⟨_, _, rfl⟩ := len2 hl
 rfl
noncomputable abbrev st_Desk_take_mark : Stmt := inClass (top 17) 6
theorem sc_Desk_take_mark : FnScope ["self", "time", "told"] ["self", "time"] (defScope st_Desk_take_mark) := ⟨rfl, rfl, rfl, by decide +kernel, rfl, by decide +kernel, by decide +kernel⟩
theorem bd_Desk_take_mark (kV doc pm : Value) (an : Option Addr) (cdv ct : Value) (us : List Value) (hl : us.length = [("self" : Str), ("time" : Str)].length) : bindArgs (PySem.W.fnOf "take_mark" "Desk.take_mark" (defArgs st_Desk_take_mark) (defBody st_Desk_take_mark) (defScope st_Desk_take_mark) .none kV doc pm an cdv ct) ⟨us, []⟩ = pure ((["self", "time"] : List Str).zip us) := by
 obtain ⟨_, _, rfl⟩ := len2 hl
 rfl
noncomputable abbrev st_Desk_take_event : Stmt := inClass (top 17) 7
theorem sc_Desk_take_event : FnScope ["self", "name", "time", "amount", "keys", "met", "key", "gone", "told"] ["self", "name", "time", "amount"] (defScope st_Desk_take_event) := ⟨rfl, rfl, rfl, by decide +kernel, rfl, by decide +kernel, by decide +kernel⟩
theorem bd_Desk_take_event (kV doc pm : Value) (an : Option Addr) (cdv ct : Value) (us : List Value) (hl : us.length = [("self" : Str), ("name" : Str), ("time" : Str), ("amount" : Str)].length) : bindArgs (PySem.W.fnOf "take_event" "Desk.take_event" (defArgs st_Desk_take_event) (defBody st_Desk_take_event) (defScope st_Desk_take_event) .none kV doc pm an cdv ct) ⟨us, []⟩ = pure ((["self", "name", "time", "amount"] : List Str).zip us) := by
 obtain ⟨_, _, _, _, rfl⟩ := len4 hl
 rfl
noncomputable abbrev st_Desk_keys_met_by : Stmt := inClass (top 17) 8
theorem sc_Desk_keys_met_by : FnScope ["self", "alone"] ["self", "alone"] (defScope st_Desk_keys_met_by) := ⟨rfl, rfl, rfl, by decide +kernel, rfl, by decide +kernel, by decide +kernel⟩
theorem bd_Desk_keys_met_by (kV doc pm : Value) (an : Option Addr) (cdv ct : Value) (us : List Value) (hl : us.length = [("self" : Str), ("alone" : Str)].length) : bindArgs (PySem.W.fnOf "keys_met_by" "Desk.keys_met_by" (defArgs st_Desk_keys_met_by) (defBody st_Desk_keys_met_by) (defScope st_Desk_keys_met_by) .none kV doc pm an cdv ct) ⟨us, []⟩ = pure ((["self", "alone"] : List Str).zip us) := by
 obtain ⟨_, _, rfl⟩ := len2 hl
 rfl
noncomputable abbrev st_Desk_move_tallies : Stmt := inClass (top 17) 9
theorem sc_Desk_move_tallies : FnScope ["self", "keys", "target", "key"] ["self", "keys", "target"] (defScope st_Desk_move_tallies) := ⟨rfl, rfl, rfl, by decide +kernel, rfl, by decide +kernel, by decide +kernel⟩
theorem bd_Desk_move_tallies (kV doc pm : Value) (an : Option Addr) (cdv ct : Value) (us : List Value) (hl : us.length = [("self" : Str), ("keys" : Str), ("target" : Str)].length) : bindArgs (PySem.W.fnOf "move_tallies" "Desk.move_tallies" (defArgs st_Desk_move_tallies) (defBody st_Desk_move_tallies) (defScope st_Desk_move_tallies) .none kV doc pm an cdv ct) ⟨us, []⟩ = pure ((["self", "keys", "target"] : List Str).zip us) := by
 obtain ⟨_, _, _, rfl⟩ := len3 hl
 rfl
noncomputable abbrev st_Desk_add_tally : Stmt := inClass (top 17) 10
theorem sc_Desk_add_tally : FnScope ["self", "key", "tally", "ahead"] ["self", "key", "tally"] (defScope st_Desk_add_tally) := ⟨rfl, rfl, rfl, by decide +kernel, rfl, by decide +kernel, by decide +kernel⟩
theorem bd_Desk_add_tally (kV doc pm : Value) (an : Option Addr) (cdv ct : Value) (us : List Value) (hl : us.length = [("self" : Str), ("key" : Str), ("tally" : Str)].length) : bindArgs (PySem.W.fnOf "add_tally" "Desk.add_tally" (defArgs st_Desk_add_tally) (defBody st_Desk_add_tally) (defScope st_Desk_add_tally) .none kV doc pm an cdv ct) ⟨us, []⟩ = pure ((["self", "key", "tally"] : List Str).zip us) := by
 obtain ⟨_, _, _, rfl⟩ := len3 hl
 rfl
inductive Pl where
 | fixed (l g : Int) | sliding (l s g : Int) | pauses (l g : Int)
noncomputable def Pl.row : Pl → List V
 | .fixed l g => [.str "fixed", .int l, .int g]
 | .sliding l s g => [.str "sliding", .int l, .int s, .int g]
 | .pauses l g => [.str "pauses", .int l, .int g]
noncomputable def Pl.kind : Pl → Str
 | .fixed _ _ => "fixed"
 | .sliding _ _ _ => "sliding"
 | .pauses _ _ => "pauses"
noncomputable def Pl.len : Pl → Int
 | .fixed l _ => l
 | .sliding l _ _ => l
 | .pauses l _ => l
noncomputable def Pl.stp : Pl → Int
 | .fixed l _ => l
 | .sliding _ s _ => s
 | .pauses l _ => l
structure Pl.ok (p : Pl) : Prop where
 l1 : 1 ≤ p.len
 l2 : p.len < 10 ^ 45
 s1 : 1 ≤ p.stp
 s2 : p.stp < 10 ^ 45
 ls : p.len ≤ 100 * p.stp
theorem n_fs : ¬ (("fixed" : Str) = "sliding") := by decide +kernel
theorem n_ps : ¬ (("pauses" : Str) = "sliding") := by decide +kernel
theorem n_fp : ¬ (("fixed" : Str) = "pauses") := by decide +kernel
theorem n_sp : ¬ (("sliding" : Str) = "pauses") := by decide +kernel
theorem dstr {a b : Str} (h : decide (V.str a = V.str b) = true) : a = b := by
 have h' := of_decide_eq_true h
 injection h'
theorem row_0 (p : Pl) : atI p.row 0 = some (.str p.kind) := by cases p <;> rfl
theorem row_1 (p : Pl) : atI p.row 1 = some (.int p.len) := by cases p <;> rfl
noncomputable def fst1 (p : Pl) (t : Int) : Int := ((t - p.len) / p.stp + 1) * p.stp
noncomputable def cnt (p : Pl) (t : Int) : Nat := rngN (fst1 p t) (t + 1) p.stp
noncomputable def win (p : Pl) (t : Int) (i : Nat) : List V := [.int (fst1 p t + i * p.stp), .int (fst1 p t + i * p.stp + p.len)]
noncomputable def wins (p : Pl) (t : Int) : List (List V) := match p with
 | .pauses l _ => [[.int t, .int (t + l)]]
 | p => (List.range (cnt p t)).map (win p t)
noncomputable def Tups (H : Hp) : List V → List (List V) → Prop := Paired fun x row => ∃ a, x = .ref a ∧ H a = some (.tup row)
theorem Tups.keep {H H' : Hp} {xs : List V} {rows : List (List V)} (h : Tups H xs rows) (k : ∀ a row, H a = some (.tup row) → H' a = some (.tup row)) : Tups H' xs rows :=
 Paired.imp' (fun _ _ ⟨a, e, h⟩ => ⟨a, e, k a _ h⟩) h
theorem Tups.snoc {H : Hp} {xs : List V} {rows : List (List V)} {a : Addr} {row : List V} (h : Tups H xs rows) (e : H a = some (.tup row)) : Tups H (xs ++ [.ref a]) (rows ++ [row]) := Paired.snoc h ⟨_, rfl, e⟩
theorem Tups.len {H : Hp} {xs : List V} {rows : List (List V)} (h : Tups H xs rows) : xs.length = rows.length := Paired.length h
theorem cnt_le {p : Pl} {t : Int} (h : p.ok) : cnt p t ≤ 100 := by
 have := rsz_le (t := t) h.s1 h.ls
 unfold cnt rngN fst1
 show (rsz _ _ _).toNat ≤ 100
 lia
inductive spKindI (K : PySem.W.Frag) (vs : List V) (H : Hp) (Q : VK) : Prop
 | mk (p : Addr) (pl : Pl) : (vs = [.ref p]) → (SqT K H p pl.row) → (Q (.str pl.kind) H) → spKindI K vs H Q
noncomputable def spKind (K : PySem.W.Frag) : Sp := fun vs H Q d_ => spKindI K vs H Q
inductive spLenI (K : PySem.W.Frag) (vs : List V) (H : Hp) (Q : VK) : Prop
 | mk (p : Addr) (pl : Pl) : (vs = [.ref p]) → (SqT K H p pl.row) → (Q (.int pl.len) H) → spLenI K vs H Q
noncomputable def spLen (K : PySem.W.Frag) : Sp := fun vs H Q d_ => spLenI K vs H Q
inductive spStpI (K : PySem.W.Frag) (vs : List V) (H : Hp) (Q : VK) : Prop
 | mk (p : Addr) (pl : Pl) : (vs = [.ref p]) → (SqT K H p pl.row) → (Q (.int pl.stp) H) → spStpI K vs H Q
noncomputable def spStp (K : PySem.W.Frag) : Sp := fun vs H Q d_ => spStpI K vs H Q
inductive spSpansI (K : PySem.W.Frag) (vs : List V) (H : Hp) (Q : VK) : Prop
 | mk (p : Addr) (pl : Pl) (t : Int) : (vs = [.ref p, .int t]) → (SqT K H p pl.row) → (pl.ok) → ((-(10 ^ 45) < t ∧ t < 10 ^ 45)) → (∀ (l : Addr) (xs : List V) (H' : Hp), Same H H' → H l = none → H' l = some (.lst xs) → Tups H' xs (wins pl t) → Q (.ref l) H') → spSpansI K vs H Q
noncomputable def spSpans (K : PySem.W.Frag) : Sp := fun vs H Q d_ => spSpansI K vs H Q
structure Bi (K : PySem.W.Frag) : Prop where
 b_bool : PySem.W.nsIn K mainGlobals "bool" = some none
 b_int : PySem.W.nsIn K mainGlobals "int" = some none
 b_isinstance : PySem.W.nsIn K mainGlobals "isinstance" = some none
 b_len : PySem.W.nsIn K mainGlobals "len" = some none
 b_list : PySem.W.nsIn K mainGlobals "list" = some none
 b_max : PySem.W.nsIn K mainGlobals "max" = some none
 b_min : PySem.W.nsIn K mainGlobals "min" = some none
 b_range : PySem.W.nsIn K mainGlobals "range" = some none
 b_sorted : PySem.W.nsIn K mainGlobals "sorted" = some none
 b_str : PySem.W.nsIn K mainGlobals "str" = some none
 b_tuple : PySem.W.nsIn K mainGlobals "tuple" = some none
section
variable {P : Program} {w : World} {K : PySem.W.Frag} {mg : Str → Option Value}
theorem f_kind (D : DefIn K "kind_of" st_kind_of) (M : MG K mg) : FnB P w K mg "kind_of" ["plan"] 1 (spKind K) := by
 refine D.fn M sc_kind_of bd_kind_of (fun vs H Q E h => ?_) (fun f base cdv A outer s H vs Q E hr h => ?_)
 ·obtain ⟨p, pl, rfl, _⟩ := h
  rfl
 ·obtain ⟨p, pl, rfl, hp, k⟩ := h
  refine ⟨_, (pss_one (ps_ret (pe_ix ix_tup (pv 0) pe_int (fun _ _ => rfl)))), ?_⟩
  exact ⟨_, rfl, p, _, 0, _, rfl, rfl, hp, row_0 pl, k⟩
theorem f_len (D : DefIn K "length_of" st_length_of) (M : MG K mg) : FnB P w K mg "length_of" ["plan"] 1 (spLen K) := by
 refine D.fn M sc_length_of bd_length_of (fun vs H Q E h => ?_) (fun f base cdv A outer s H vs Q E hr h => ?_)
 ·obtain ⟨p, pl, rfl, _⟩ := h
  rfl
 ·obtain ⟨p, pl, rfl, hp, k⟩ := h
  refine ⟨_, (pss_one (ps_ret (pe_ix ix_tup (pv 0) pe_int (fun _ _ => rfl)))), ?_⟩
  exact ⟨_, rfl, p, _, 1, _, rfl, rfl, hp, row_1 pl, k⟩
theorem f_stp (D : DefIn K "step_of" st_step_of) (M : MG K mg) (G_SLIDING : GlobIs K "SLIDING" (.str "sliding")) (F_kind_of : FnB P w K mg "kind_of" ["plan"] 1 (spKind K)) (F_length_of : FnB P w K mg "length_of" ["plan"] 1 (spLen K)) :
  FnB P w K mg "step_of" ["plan"] 2 (spStp K) := by
 refine D.fn M sc_step_of bd_step_of (fun vs H Q E h => ?_) (fun f base cdv A outer s H vs Q E hr h => ?_)
 ·obtain ⟨p, pl, rfl, _⟩ := h
  rfl
 ·obtain ⟨p, pl, rfl, hp, k⟩ := h
  refine ⟨_, (pss_cons (ps_if (pt_cmpR op_eq (pcallF F_kind_of (hr.mono (by decide)) rfl (pc (pv 0) pa_nil)) (pe_globC G_SLIDING M rfl) (nomark _)) (pss_one (ps_ret (pe_ix ix_tup (pv 0) pe_int (fun _ _ => rfl)))) pss_nil)
   (pss_one (ps_ret (pcallF F_length_of (hr.mono (by decide)) rfl (pc (pv 0) pa_nil))))), ?_⟩
  refine ⟨_, rfl, p, pl, rfl, hp, rfl, _, rfl, ?_⟩
  refine ite2 (fun h => ?_) (fun h => ?_)
  ·have e := dstr h
   cases pl with
   | fixed l g => exact absurd e n_fs
   | pauses l g => exact absurd e n_ps
   | sliding l s g => exact ⟨_, rfl, p, _, 2, _, rfl, rfl, hp, rfl, k⟩
  ·refine ⟨_, rfl, p, pl, rfl, hp, ?_⟩
   cases pl with
   | fixed l g => exact k
   | pauses l g => exact k
   | sliding l s g => exact absurd (decide_eq_true rfl) h
end
end K1
namespace K1
open PySem PySem.Spec PyProof.Rows L2
theorem at_int (ls : List Int) {i : Int} (h0 : 0 ≤ i) (h1 : i < ls.length) : atI (ls.map V.int) i = some (.int (ls.getD i.toNat 0)) := by
 obtain ⟨n, rfl⟩ : ∃ n : Nat, i = n := ⟨i.toNat, by lia⟩
 have hn : n < ls.length := by lia
 refine atI_nat ?_
 simp [List.getD, hn]
theorem mod_in (a b : Int) (h : 0 < b) : 0 ≤ a % b ∧ a % b < b := ⟨Int.emod_nonneg _ (by lia), Int.emod_lt_of_pos _ h⟩
inductive spAt2I (K : PySem.W.Frag) (vs : List V) (H : Hp) (Q : VK) : Prop
 | mk (a : Addr) (ns : List Int) (k : Int) : (vs = [.ref a, .int k]) → (SqL K H a (ns.map V.int)) → (0 ≤ k) → (∀ v : Int, Q (.int v) H) → spAt2I K vs H Q
noncomputable def spAt2 (K : PySem.W.Frag) : Sp := fun vs H Q d_ => spAt2I K vs H Q
section
variable {P : Program} {w : World} {K : PySem.W.Frag} {mg : Str → Option Value}
theorem f_at2 (D : DefIn K "_law_at" st__law_at) (M : MG K mg) (B : Bi K) : FnB P w K mg "_law_at" ["_law_script", "_law_k"] 1 (spAt2 K) := by
 refine D.fn M sc__law_at bd__law_at (fun vs H Q E h => ?_) (fun f base cdv A outer s H vs Q E hr h => ?_)
 ·obtain ⟨a, ns, i, rfl, _⟩ := h
  rfl
 ·obtain ⟨a, ns, i, rfl, ha, h0, k⟩ := h
  refine ⟨_, (pss_cons (ps_if (pt_cmpR oLt (pv 1) (pcallB call_len_seq rfl (M.no _ B.b_len) bt_len (pc (pv 0) pa_nil)) (nomark _)) (pss_one (ps_ret (pe_ix ix_list (pv 0) (pv 1) (fun _ _ => rfl)))) pss_nil)
   (pss_one (ps_ret pe_int))), ?_⟩
  refine ⟨_, rfl, _, rfl, a, _, rfl, .inl ha, _, _, rfl, rfl, _, rfl, ?_⟩
  refine ite2 (fun h => ?_) (fun h => ?_)
  ·have h' := of_decide_eq_true h
   rw [List.length_map] at h'
   exact ⟨_, rfl, _, rfl, a, _, _, _, rfl, rfl, ha, at_int ns h0 h', k _⟩
  ·exact k 0
end
end K1
namespace K2
open PySem PySem.Spec PyProof.Rows L2 K1
noncomputable def grace : Pl → Int
 | .fixed _ g => g
 | .sliding _ _ g => g
 | .pauses _ g => g
noncomputable def bad (p : Pl) : Bool := decide (p.len < 1) || decide (p.stp < 1) || decide (grace p < 0) || decide (100 * p.stp < p.len)
theorem row_m1 (p : Pl) : atI p.row (-1) = some (.int (grace p)) := by cases p <;> rfl
theorem bad_no {p : Pl} (h : bad p = false) : ¬ p.len < 1 ∧ ¬ p.stp < 1 ∧ ¬ grace p < 0 ∧ ¬ 100 * p.stp < p.len := by
 unfold bad at h
 simp only [Bool.or_eq_false_iff, decide_eq_false_iff_not] at h
 exact ⟨h.1.1.1, h.1.1.2, h.1.2, h.2⟩
noncomputable def flds (p : Addr) (mk : V) (d m : Addr) : List (Str × V) := [("plan", .ref p), ("mark", mk), ("windows", .ref d), ("missed", .ref m)]
structure DeskIn (K : PySem.W.Frag) (C : Addr) : Prop where
 cl : ClassIn K "Desk" C
 nP : NoAttr K C "plan"
 nM : NoAttr K C "mark"
 nW : NoAttr K C "windows"
 nS : NoAttr K C "missed"
theorem ne_pm : ¬ (("plan" : Str) = "mark") := by decide +kernel
theorem ne_pw : ¬ (("plan" : Str) = "windows") := by decide +kernel
theorem ne_ps : ¬ (("plan" : Str) = "missed") := by decide +kernel
theorem ne_mw : ¬ (("mark" : Str) = "windows") := by decide +kernel
theorem ne_ms : ¬ (("mark" : Str) = "missed") := by decide +kernel
theorem ne_ws : ¬ (("windows" : Str) = "missed") := by decide +kernel
theorem put0 (p : Addr) : putF "plan" (.ref p) [] = ([("plan", V.ref p)] : List (Str × V)) := rfl
theorem put1 (p : Addr) (v : V) : putF "mark" v [("plan", V.ref p)] = ([("plan", V.ref p), ("mark", v)] : List (Str × V)) := by
 simp only [putF, if_neg ne_pm]
theorem put2 (p d : Addr) (v : V) : putF "windows" (.ref d) [("plan", V.ref p), ("mark", v)] = ([("plan", V.ref p), ("mark", v), ("windows", V.ref d)] : List (Str × V)) := by
 simp only [putF, if_neg ne_pw, if_neg ne_mw]
theorem put3 (p d m : Addr) (v : V) : putF "missed" (.ref m) [("plan", V.ref p), ("mark", v), ("windows", V.ref d)] = flds p v d m := by
 simp only [putF, if_neg ne_ps, if_neg ne_ms, if_neg ne_ws, flds]
theorem putM (p d m : Addr) (v u : V) : putF "mark" u (flds p v d m) = flds p u d m := by
 simp only [putF, if_neg ne_pm, flds, if_true]
theorem fld_look (p d m : Addr) (v : V) (k : Str) : (flds p v d m).lookup k = if k = "plan" then some (.ref p) else if k = "mark" then some v else if k = "windows" then some (.ref d) else if k = "missed" then some (.ref m) else none := by
 unfold flds
 simp only [List.lookup]
 repeat' split
 all_goals simp_all
theorem fP (p d m : Addr) (v : V) : (flds p v d m).lookup ("plan" : Str) = some (.ref p) := by rw [fld_look, if_pos rfl]
theorem fM (p d m : Addr) (v : V) : (flds p v d m).lookup ("mark" : Str) = some v := by rw [fld_look, if_neg (Ne.symm ne_pm), if_pos rfl]
theorem fW (p d m : Addr) (v : V) : (flds p v d m).lookup ("windows" : Str) = some (.ref d) := by rw [fld_look, if_neg (Ne.symm ne_pw), if_neg (Ne.symm ne_mw), if_pos rfl]
theorem fS (p d m : Addr) (v : V) : (flds p v d m).lookup ("missed" : Str) = some (.ref m) := by rw [fld_look, if_neg (Ne.symm ne_ps), if_neg (Ne.symm ne_ms), if_neg (Ne.symm ne_ws), if_pos rfl]
theorem fNo (p d m : Addr) (v : V) {k : Str} (h1 : ¬ k = "plan") (h2 : ¬ k = "mark") (h3 : ¬ k = "windows") (h4 : ¬ k = "missed") : (flds p v d m).lookup k = none := by rw [fld_look, if_neg h1, if_neg h2, if_neg h3, if_neg h4]
inductive spGraceI (K : PySem.W.Frag) (vs : List V) (H : Hp) (Q : VK) : Prop
 | mk (p : Addr) (pl : Pl) : (vs = [.ref p]) → (SqT K H p pl.row) → (Q (.int (grace pl)) H) → spGraceI K vs H Q
noncomputable def spGrace (K : PySem.W.Frag) : Sp := fun vs H Q d_ => spGraceI K vs H Q
inductive spChkI (K : PySem.W.Frag) (vs : List V) (H : Hp) (Q : VK) : Prop
 | mk (p : Addr) (pl : Pl) : (vs = [.ref p]) → (SqT K H p pl.row) → (bad pl = false) → (Q .non H) → spChkI K vs H Q
noncomputable def spChk (K : PySem.W.Frag) : Sp := fun vs H Q d_ => spChkI K vs H Q
inductive spInitI (K : PySem.W.Frag) (C : Addr) (vs : List V) (H : Hp) (Q : VK) : Prop
 | mk (x dx p : Addr) (pl : Pl) : (vs = [.ref x, .ref p]) → (H x = some (.ins C dx [])) → (SqT K H p pl.row) → (bad pl = false) → (∀ (d m : Addr) (H' : Hp), H d = none → H m = none → H' x = some (.ins C dx (flds p .non d m)) → H' d = some (.dT []) → H' m = some (.lst []) → (∀ b o, H b = some o → b ≠ x → H' b = some o) → Q .non H') → spInitI K C vs H Q
noncomputable def spInit (K : PySem.W.Frag) (C : Addr) : Sp := fun vs H Q d_ => spInitI K C vs H Q
section
variable {P : Program} {w : World} {K : PySem.W.Frag} {mg : Str → Option Value} {C B : Addr}
theorem f_grace (D : DefIn K "grace_of" st_grace_of) (M : MG K mg) : FnB P w K mg "grace_of" ["plan"] 1 (spGrace K) := by
 refine D.fn M sc_grace_of bd_grace_of (fun vs H Q E h => ?_) (fun f base cdv A outer s H vs Q E hr h => ?_)
 ·obtain ⟨p, pl, rfl, _⟩ := h
  rfl
 ·obtain ⟨p, pl, rfl, hp, k⟩ := h
  refine ⟨_, (pss_one (ps_ret (pe_ix ix_tup (pv 0) (pe_un uNeg pe_int) (fun _ _ => rfl)))), ?_⟩
  exact ⟨_, rfl, _, rfl, p, _, -1, _, rfl, rfl, hp, row_m1 pl, k⟩
theorem f_chk (D : DefIn K "check_plan" st_check_plan) (M : MG K mg) (G_MOST_STEPS : GlobIs K "MOST_STEPS" (.int 100)) (F_length_of : FnB P w K mg "length_of" ["plan"] 1 (spLen K)) (F_step_of : FnB P w K mg "step_of" ["plan"] 2 (spStp K))
  (F_grace_of : FnB P w K mg "grace_of" ["plan"] 1 (spGrace K)) : FnB P w K mg "check_plan" ["plan"] 3 (spChk K) := by
 refine D.fn M sc_check_plan bd_check_plan (fun vs H Q E h => ?_) (fun f base cdv A outer s H vs Q E hr h => ?_)
 ·obtain ⟨p, pl, rfl, _⟩ := h
  rfl
 ·obtain ⟨p, pl, rfl, hp, hb, k⟩ := h
  obtain ⟨b1, b2, b3, b4⟩ := bad_no hb
  refine ⟨_, (pss_cons (pset (i := 1) sc_check_plan.nd rfl (Or.inl rfl) (pcallF F_length_of (hr.mono (by decide)) rfl (pc (pv 0) pa_nil)))
   (pss_cons (pset (i := 2) sc_check_plan.nd rfl (Or.inl rfl) (pcallF F_step_of (hr.mono (by decide)) rfl (pc (pv 0) pa_nil)))
   (pss_cons (ps_if (pt_cmpR oLt (pv 1) pe_int (nomark _)) (pss_one ps_never) pss_nil)
   (pss_cons (ps_if (pt_cmpR oLt (pv 2) pe_int (nomark _)) (pss_one ps_never) pss_nil)
   (pss_cons (ps_if (pt_cmpR oLt (pcallF F_grace_of (hr.mono (by decide)) rfl (pc (pv 0) pa_nil)) pe_int (nomark _)) (pss_one ps_never) pss_nil)
   (pss_one (ps_if (pt_cmpR oGt (pv 1) (pe_op oMul (pe_globC G_MOST_STEPS M rfl) (pv 2)) (nomark _)) (pss_one ps_never) pss_nil))))))), ?_⟩
  refine ⟨_, rfl, p, pl, rfl, hp, _, rfl, p, pl, rfl, hp, ?_⟩
  refine ⟨_, rfl, _, _, rfl, rfl, _, rfl, ?_⟩
  refine ite2 (fun h => absurd (of_decide_eq_true h) b1) (fun _ => ?_)
  refine ⟨_, rfl, _, _, rfl, rfl, _, rfl, ?_⟩
  refine ite2 (fun h => absurd (of_decide_eq_true h) b2) (fun _ => ?_)
  refine ⟨_, rfl, p, pl, rfl, hp, _, _, rfl, rfl, _, rfl, ?_⟩
  refine ite2 (fun h => absurd (of_decide_eq_true h) b3) (fun _ => ?_)
  refine ⟨_, rfl, _, rfl, _, _, rfl, rfl, .inl ⟨by decide, by decide⟩, _, _, rfl, rfl, _, rfl, ?_⟩
  exact ite2 (fun h => absurd (of_decide_eq_true h) b4) (fun _ => k)
theorem f_init (D : MethIn K C "__init__" "Desk.__init__" st_Desk___init__) (T : DeskIn K C) (F_check_plan : FnB P w K mg "check_plan" ["plan"] 3 (spChk K)) : MethB P w K mg CX0 C "__init__" ["self", "plan"] 4 (spInit K C) := by
 refine D.fn sc_Desk___init__ bd_Desk___init__ (fun vs H Q E h => ?_) (fun f base cdv A outer s H vs Q E hr h => ?_)
 ·obtain ⟨x, dx, p, pl, rfl, _⟩ := h
  rfl
 ·obtain ⟨x, dx, p, pl, rfl, hx, hp, hb, k⟩ := h
  refine ⟨_, (pss_cons (pexpr (pcallF F_check_plan (hr.mono (by decide)) rfl (pc (pv 1) pa_nil)))
   (pss_cons (ps_fld (pv 0) (pv 1) rfl)
   (pss_cons (ps_fld (pv 0) pe_non rfl)
   (pss_cons (ps_fld (pv 0) pe_dnewT rfl)
   (pss_one (ps_fld (pv 0) (pe_lst pa_nil) rfl)))))), ?_⟩
  refine ⟨_, rfl, p, pl, rfl, hp, hb, ?_⟩
  refine ⟨_, rfl, _, rfl, x, C, dx, [], rfl, hx, T.cl.cl, T.nP, (by show 0 < 1000; decide), ?_⟩
  refine ⟨_, rfl, x, C, dx, _, rfl, upd_same, T.cl.cl, T.nM, (by show 1 < 1000; decide), ?_⟩
  intro d hd
  have nd : x ≠ d := ne_of_none upd_same hd
  have hd0 : H d = none := by rw [upd_ne nd.symm, upd_ne nd.symm] at hd; exact hd
  refine ⟨_, rfl, x, C, dx, _, rfl, (by rw [upd_ne nd]; exact upd_same), T.cl.cl, T.nW, (by rw [put0, put1]; show 2 < 1000; decide), ?_⟩
  refine ⟨(by show 0 ≤ sizeLine; decide), fun m hm => ?_⟩
  have nm : x ≠ m := ne_of_none upd_same hm
  have ndm : d ≠ m := by
   intro z; subst z
   rw [upd_ne nd.symm, upd_same] at hm; cases hm
  have hm0 : H m = none := by rw [upd_ne nm.symm, upd_ne ndm.symm, upd_ne nm.symm, upd_ne nm.symm] at hm; exact hm
  refine ⟨_, rfl, x, C, dx, _, rfl, (by rw [upd_ne nm]; exact upd_same), T.cl.cl, T.nS, (by rw [put0, put1, put2]; show 3 < 1000; decide), ?_⟩
  refine k d m _ hd0 hm0 (by rw [put0, put1, put2, put3]; exact upd_same) (by rw [upd_ne nd.symm, upd_ne ndm, upd_ne nd.symm, upd_same]) (by rw [upd_ne nm.symm, upd_same]) fun b o e hb => ?_
  rw [upd_ne hb, upd_ne (ne_of_none e hm0), upd_ne hb, upd_ne (ne_of_none e hd0), upd_ne hb, upd_ne hb]
  exact e
end
end K2
namespace K2
open PySem PySem.Spec PyProof.Rows L2 K1
structure Wn where
 n : Str
 s : Int
 e : Int
 c : Int
 t : Int
noncomputable def kyL (n : Str) (s e : Int) : List Key := [.inr n, .inl s, .inl e]
noncomputable def Wn.ky (w : Wn) : List Key := kyL w.n w.s w.e
noncomputable def kyV (n : Str) (s e : Int) : List V := [.str n, .int s, .int e]
noncomputable def ValAt (H : Hp) (v : V) (w : Wn) : Prop := ∃ a, v = .ref a ∧ H a = some (.tup [.int w.c, .int w.t])
noncomputable def WinsP (H : Hp) : List (List Key × V) → List Wn → Prop := Paired fun p w => p.1 = w.ky ∧ ValAt H p.2 w
theorem WinsP.keep {H H' : Hp} {kvs : List (List Key × V)} {ws : List Wn} (h : WinsP H kvs ws) (k : ∀ a row, H a = some (.tup row) → H' a = some (.tup row)) : WinsP H' kvs ws :=
 Paired.imp' (fun _ _ ⟨e, a, e2, z⟩ => ⟨e, a, e2, k a _ z⟩) h
theorem WinsP.len {H : Hp} {kvs : List (List Key × V)} {ws : List Wn} (h : WinsP H kvs ws) : kvs.length = ws.length := Paired.length h
theorem WinsP.at {H : Hp} {kvs : List (List Key × V)} {ws : List Wn} (h : WinsP H kvs ws) {i : Nat} {k : List Key} {v : V} (e : kvs[i]? = some (k, v)) : ∃ w, ws[i]? = some w ∧ k = w.ky ∧ ValAt H v w := by
 induction h generalizing i with
 | nil => simp at e
 | @cons p w ps ws r _ ih =>
  cases i with
  | zero => simp at e; subst e; exact ⟨w, rfl, r.1, r.2⟩
  | succ i => obtain ⟨w', h1, h2⟩ := ih (i := i) (by simpa using e); exact ⟨w', by simpa using h1, h2⟩
noncomputable def mkV : Option Int → V
 | none => .non
 | some m => .int m
noncomputable def closed (mk : Option Int) (e : Int) : Bool := match mk with
 | none => false
 | some m => decide (e ≤ m)
noncomputable def late (mk : Option Int) (g t : Int) : Bool := match mk with
 | none => false
 | some m => decide (t < m - g)
inductive spClosedI (C : Addr) (vs : List V) (H : Hp) (Q : VK) : Prop
 | mk (x dx p d m : Addr) (mk : Option Int) (e : Int) : (vs = [.ref x, .int e]) → (H x = some (.ins C dx (flds p (mkV mk) d m))) → (Q (.bl (closed mk e)) H) → spClosedI C vs H Q
noncomputable def spClosed (C : Addr) : Sp := fun vs H Q d_ => spClosedI C vs H Q
inductive spLateI (K : PySem.W.Frag) (C : Addr) (vs : List V) (H : Hp) (Q : VK) : Prop
 | mk (x dx p d m : Addr) (mk : Option Int) (pl : Pl) (t : Int) : (vs = [.ref x, .int t]) → (H x = some (.ins C dx (flds p (mkV mk) d m))) → (SqT K H p pl.row) → (Q (.bl (late mk (grace pl) t)) H) → spLateI K C vs H Q
noncomputable def spLate (K : PySem.W.Frag) (C : Addr) : Sp := fun vs H Q d_ => spLateI K C vs H Q
section
variable {P : Program} {w : World} {K : PySem.W.Frag} {mg : Str → Option Value} {C : Addr}
theorem f_closed (D : MethIn K C "is_closed" "Desk.is_closed" st_Desk_is_closed) (T : DeskIn K C) : MethB P w K mg CX0 C "is_closed" ["self", "end"] 1 (spClosed C) := by
 refine D.fn sc_Desk_is_closed bd_Desk_is_closed (fun vs H Q E h => ?_) (fun f base cdv A outer s H vs Q E hr h => ?_)
 ·obtain ⟨x, dx, p, d, m, mk, e, rfl, _⟩ := h
  rfl
 ·obtain ⟨x, dx, p, d, m, mk, e, rfl, hx, k⟩ := h
  refine ⟨_, (pss_one (ps_ret (pe_and (pe_cmpR op_notN (pe_fld (pv 0) rfl) pe_non (nomark _)) (pe_one (pe_cmpR oLe (pv 1) (pe_fld (pv 0) rfl) (nomark _)))))), ?_⟩
  refine ⟨_, rfl, x, C, dx, _, _, rfl, hx, T.cl.cl, T.nM, fM p d m _, rfl, _, rfl, ?_⟩
  cases mk with
  | none => exact iteF k
  | some mm => exact iteT ⟨_, rfl, _, rfl, x, C, dx, _, _, rfl, hx, T.cl.cl, T.nM, fM p d m _, _, _, rfl, rfl, k⟩
theorem f_late (D : MethIn K C "is_too_late" "Desk.is_too_late" st_Desk_is_too_late) (M : MG K mg) (T : DeskIn K C) (F_grace_of : FnB P w K mg "grace_of" ["plan"] 1 (spGrace K)) : MethB P w K mg CX0 C "is_too_late" ["self", "time"] 2 (spLate K C) := by
 refine D.fn sc_Desk_is_too_late bd_Desk_is_too_late (fun vs H Q E h => ?_) (fun f base cdv A outer s H vs Q E hr h => ?_)
 ·obtain ⟨x, dx, p, d, m, mk, pl, t, rfl, _⟩ := h
  rfl
 ·obtain ⟨x, dx, p, d, m, mk, pl, t, rfl, hx, hp, k⟩ := h
  refine ⟨_, (pss_one (ps_ret (pe_and (pe_cmpR op_notN (pe_fld (pv 0) rfl) pe_non (nomark _)) (pe_one (pe_cmpR oLt (pv 1) (pe_op oSub (pe_fld (pv 0) rfl) (pcallF F_grace_of (hr.mono (by decide)) rfl (pc (pe_fld (pv 0) rfl) pa_nil))) (nomark _)))))), ?_⟩
  refine ⟨_, rfl, x, C, dx, _, _, rfl, hx, T.cl.cl, T.nM, fM p d m _, rfl, _, rfl, ?_⟩
  cases mk with
  | none => exact iteF k
  | some mm => exact iteT ⟨_, rfl, _, rfl, x, C, dx, _, _, rfl, hx, T.cl.cl, T.nM, fM p d m _, _, rfl, x, C, dx, _, _, rfl, hx, T.cl.cl, T.nP, fP p d m _, p, pl, rfl, hp, _, _, rfl, rfl, _, _, rfl, rfl, k⟩
end
end K2
namespace K2
open PySem PySem.Spec PyProof.Rows L2 K1
noncomputable def getW (ws : List Wn) (k : List Key) : Option Wn := ws.find? fun w => decide (w.ky = k)
noncomputable def setW (ws : List Wn) (n : Str) (s e c t : Int) : List Wn := if (ws.any fun w => decide (w.ky = kyL n s e)) = true then ws.map (fun w => if w.ky = kyL n s e then { w with c := c, t := t } else w) else ws ++ [⟨n, s, e, c, t⟩]
noncomputable def addW (ws : List Wn) (n : Str) (s e c t : Int) : List Wn := match getW ws (kyL n s e) with
 | some w => setW ws n s e (w.c + c) (w.t + t)
 | none => setW ws n s e (0 + c) (0 + t)
noncomputable def dropW (ws : List Wn) (k : List Key) : List Wn := ws.filter fun w => decide (w.ky ≠ k)
section
variable {H : Hp} {kvs : List (List Key × V)} {ws : List Wn}
theorem WinsP.get (h : WinsP H kvs ws) (k : List Key) : (valV kvs k = none ∧ getW ws k = none) ∨ ∃ v w, valV kvs k = some v ∧ getW ws k = some w ∧ w.ky = k ∧ ValAt H v w := by
 induction h with
 | nil => exact .inl ⟨rfl, rfl⟩
 | @cons p w ps ws r _ ih =>
  by_cases e : p.1 = k
  ·exact .inr ⟨p.2, w, valV_pos e, by simp [getW, List.find?_cons, ← r.1, e], r.1.symm.trans e, r.2⟩
  ·rw [valV_neg e]
   have : getW (w :: ws) k = getW ws k := by simp [getW, List.find?_cons, ← r.1, e]
   rw [this]
   exact ih
theorem WinsP.any (h : WinsP H kvs ws) (k : List Key) : (kvs.any fun kv => decide (kv.1 = k)) = ws.any fun w => decide (w.ky = k) := by
 induction h with
 | nil => rfl
 | cons r _ ih => rw [List.any_cons, List.any_cons, r.1, ih]
theorem WinsP.append {kvs' : List (List Key × V)} {ws' : List Wn} (h : WinsP H kvs ws) (h' : WinsP H kvs' ws') : WinsP H (kvs ++ kvs') (ws ++ ws') := by
 induction h with
 | nil => exact h'
 | cons r _ ih => exact .cons r ih
theorem WinsP.put (h : WinsP H kvs ws) {a : Addr} {n : Str} {s e c t : Int} (ha : H a = some (.tup [.int c, .int t])) : WinsP H (putK kvs (kyL n s e) (.ref a)) (setW ws n s e c t) := by
 have key : WinsP H (kvs.map fun kv => if kv.1 = kyL n s e then (kv.1, .ref a) else kv) (ws.map fun w => if w.ky = kyL n s e then { w with c := c, t := t } else w) := by
  induction h with
  | nil => exact .nil
  | @cons p w ps ws r _ ih =>
   refine .cons ?_ ih
   dsimp only
   by_cases q : p.1 = kyL n s e
   ·rw [if_pos q, if_pos (r.1 ▸ q)]
    exact ⟨r.1, a, rfl, ha⟩
   ·rw [if_neg q, if_neg (r.1 ▸ q)]
    exact r
 unfold putK setW
 rw [h.any]
 split
 ·exact key
 ·exact h.append (.cons ⟨rfl, a, rfl, ha⟩ .nil)
theorem WinsP.drop (h : WinsP H kvs ws) (k : List Key) : WinsP H (dropK kvs k) (dropW ws k) := by
 unfold dropK dropW
 induction h with
 | nil => exact .nil
 | @cons p w ps ws r _ ih =>
  rw [List.filter_cons, List.filter_cons]
  by_cases e : p.1 = k
  ·rw [if_neg (by simp [e]), if_neg (by simp [← r.1, e])]; exact ih
  ·rw [if_pos (by simp [e]), if_pos (by simp [← r.1, e])]; exact .cons r ih
end
noncomputable def Kept (H H' : Hp) (d : Addr) : Prop := ∀ b o, H b = some o → b ≠ d → H' b = some o
theorem Kept.tups {H H' : Hp} {d : Addr} (k : Kept H H' d) {kvs : List (List Key × V)} (hd : H d = some (.dT kvs)) : ∀ a row, H a = some (.tup row) → H' a = some (.tup row) := fun a row e => k a _ e (ne_of e hd (by intro z; cases z))
theorem Kept.trans {H H1 H2 : Hp} {d : Addr} (a : Kept H H1 d) (b : Kept H1 H2 d) : Kept H H2 d := fun c o e n => b c o (a c o e n) n
theorem Same.kept {H H' : Hp} {d : Addr} (s : Same H H') : Kept H H' d := fun b o e _ => s b o e
inductive spAddI (C : Addr) (vs : List V) (H : Hp) (Q : VK) : Prop
 | mk (x dx p d m kb tb : Addr) (mk : V) (n : Str) (s e c t : Int) (kvs : List (List Key × V)) (ws : List Wn) : (vs = [.ref x, .ref kb, .ref tb]) → (H x = some (.ins C dx (flds p mk d m))) → (H kb = some (.tup (kyV n s e))) → (H tb = some (.tup [.int c, .int t])) → (H d = some (.dT kvs)) → (WinsP H kvs ws) → (kvs.length < sizeLine) → (∀ (H' : Hp) (kvs' : List (List Key × V)), Kept H H' d → H' d = some (.dT kvs') → WinsP H' kvs' (addW ws n s e c t) → Q .non H') → spAddI C vs H Q
noncomputable def spAdd (C : Addr) : Sp := fun vs H Q d_ => spAddI C vs H Q
section
variable {P : Program} {w : World} {K : PySem.W.Frag} {mg : Str → Option Value} {C : Addr}
theorem f_add (D : MethIn K C "add_tally" "Desk.add_tally" st_Desk_add_tally) (T : DeskIn K C) : MethB P w K mg CX0 C "add_tally" ["self", "key", "tally"] 1 (spAdd C) := by
 refine D.fn sc_Desk_add_tally bd_Desk_add_tally (fun vs H Q E h => ?_) (fun f base cdv A outer s H vs Q E hr h => ?_)
 ·obtain ⟨x, dx, p, d, m, kb, tb, mk, n, s, e, c, t, kvs, ws, rfl, _⟩ := h
  rfl
 ·obtain ⟨x, dx, p, d, m, kb, tb, mk, n, s, e, c, t, kvs, ws, rfl, hx, hk, ht, hd, hw, hl, k⟩ := h
  have hu1 := hu_of hr
  refine ⟨_, (pss_cons (pset (i := 3) sc_Desk_add_tally.nd rfl (Or.inl rfl) (pe_dget2 hu1 (pe_fld (pv 0) rfl) (pv 1) (pe_tup (pc pe_int (pc pe_int pa_nil))) ⟨rfl, rfl, rfl, rfl⟩))
   (pss_one (ps_dput hu1 (pe_fld (pv 0) rfl) (pv 1) (pe_tup (pc (pe_op oAdd (pe_ix ix_tup (pv 3) pe_int (fun _ _ => rfl)) (pe_ix ix_tup (pv 2) pe_int (fun _ _ => rfl))) (pc (pe_op oAdd (pe_ix ix_tup (pv 3) pe_int (fun _ _ => rfl)) (pe_ix ix_tup (pv 2) pe_int (fun _ _ => rfl))) pa_nil))) rfl))), ?_⟩
  refine ⟨_, rfl, x, C, dx, _, _, rfl, hx, T.cl.cl, T.nW, fW p d m mk, d, rfl, .inr ⟨kvs, .inl hd⟩, _, rfl, (by show 2 ≤ sizeLine; decide), fun z hz => ?_⟩
  have s1 := Same.new (o := .tup [.int 0, .int 0]) hz
  refine ⟨_, DGet.t (k := kyL n s e) (s1 _ _ hd) (s1 _ _ hk), ?_⟩
  obtain ⟨a0, c0, t0, e0, h0, ea⟩ : ∃ (a0 : Addr) (c0 t0 : Int), (valV kvs (kyL n s e)).getD (.ref z) = .ref a0 ∧ upd H z (.tup [.int 0, .int 0]) a0 = some (.tup [.int c0, .int t0]) ∧ addW ws n s e c t = setW ws n s e (c0 + c) (t0 + t) := by
   rcases hw.get (kyL n s e) with ⟨h1, h2⟩ | ⟨v, w, h1, h2, _, a, rfl, ha⟩
   ·exact ⟨z, 0, 0, by rw [h1]; rfl, upd_same, by unfold addW; rw [h2]⟩
   ·exact ⟨a, w.c, w.t, by rw [h1]; rfl, s1 _ _ ha, by unfold addW; rw [h2]⟩
  rw [e0]
  refine ⟨_, rfl, a0, _, 0, _, rfl, rfl, SqT.of h0, rfl, _, rfl, tb, _, 0, _, rfl, rfl, SqT.of (s1 _ _ ht), rfl, _, _, rfl, rfl, ?_⟩
  refine ⟨_, rfl, a0, _, 1, _, rfl, rfl, SqT.of h0, rfl, _, rfl, tb, _, 1, _, rfl, rfl, SqT.of (s1 _ _ ht), rfl, _, _, rfl, rfl, (by show 2 ≤ sizeLine; decide), fun r hr' => ?_⟩
  have s2 := s1.trans (Same.new (o := .tup [.int (c0 + c), .int (t0 + t)]) hr')
  refine ⟨_, rfl, x, C, dx, _, _, rfl, s2 _ _ hx, T.cl.cl, T.nW, fW p d m mk, _, rfl, d, _, rfl, DPut.t (k := kyL n s e) (s2 _ _ hd) (s2 _ _ hk) hl, ?_⟩
  refine k _ _ (fun b o eb nb => by rw [upd_ne nb]; exact s2 _ _ eb) upd_same ?_
  rw [ea]
  have nr : r ≠ d := fun q => by
   rw [q] at hr'
   rw [s1 _ _ hd] at hr'
   cases hr'
  refine WinsP.keep (H := upd (upd H z (.tup [.int 0, .int 0])) r (.tup [.int (c0 + c), .int (t0 + t)])) (WinsP.put (hw.keep fun a row q => s2 _ _ q) upd_same) fun a row q => ?_
  rw [upd_ne (ne_of q (s2 _ _ hd) (by intro y; cases y))]
  exact q
end
end K2
namespace K2
open PySem PySem.Spec PyProof.Rows L2 K1
noncomputable def kyD (n : Str) (s e : Int) : Dv := .tup [.str n, .int s, .int e]
structure Ky where
 n : Str
 s : Int
 e : Int
noncomputable def Ky.l (k : Ky) : List Key := kyL k.n k.s k.e
noncomputable def Ky.v (k : Ky) : List V := kyV k.n k.s k.e
noncomputable def Ky.d (k : Ky) : Dv := kyD k.n k.s k.e
noncomputable def Wn.k (w : Wn) : Ky := ⟨w.n, w.s, w.e⟩
theorem ky_inj {a b : Ky} (h : a.l = b.l) : a = b := by
 obtain ⟨n, s, e⟩ := a
 obtain ⟨n', s', e'⟩ := b
 injection h with h1 h2
 injection h1 with h1
 injection h2 with h2 h3
 injection h2 with h2
 injection h3 with h3 _
 injection h3 with h3
 subst h1 h2 h3
 rfl
theorem kyD_inj {a b : Ky} (h : a.d = b.d) : a = b := by
 obtain ⟨n, s, e⟩ := a
 obtain ⟨n', s', e'⟩ := b
 injection h with h
 injection h with h1 h2
 injection h1 with h1
 injection h2 with h2 h3
 injection h2 with h2
 injection h3 with h3 _
 injection h3 with h3
 subst h1 h2 h3
 rfl
theorem Wn.ky_k (w : Wn) : w.ky = w.k.l := rfl
noncomputable def KeysAt (H : Hp) : List V → List Ky → Prop := Paired fun x k => ∃ a, x = .ref a ∧ H a = some (.tup k.v)
theorem KeysAt.keep {H H' : Hp} {xs : List V} {ks : List Ky} (h : KeysAt H xs ks) (k : ∀ a row, H a = some (.tup row) → H' a = some (.tup row)) : KeysAt H' xs ks := Paired.imp' (fun _ _ ⟨a, e, h⟩ => ⟨a, e, k a _ h⟩) h
theorem KeysAt.len {H : Hp} {xs : List V} {ks : List Ky} (h : KeysAt H xs ks) : xs.length = ks.length := Paired.length h
theorem KeysAt.snoc {H : Hp} {xs : List V} {ks : List Ky} {a : Addr} {k : Ky} (h : KeysAt H xs ks) (e : H a = some (.tup k.v)) : KeysAt H (xs ++ [.ref a]) (ks ++ [k]) := Paired.snoc h ⟨_, rfl, e⟩
theorem KeysAt.get {H : Hp} {xs : List V} {ks : List Ky} {i : Nat} {x : V} (h : KeysAt H xs ks) (e : xs[i]? = some x) : ∃ k a, ks[i]? = some k ∧ x = .ref a ∧ H a = some (.tup k.v) := by
 obtain ⟨k, ek, a, r⟩ := Paired.getL h e
 exact ⟨k, a, ek, r⟩
theorem key_dn {K : PySem.W.Frag} {H : Hp} {a : Addr} {k : Ky} (h : H a = some (.tup k.v)) : Dn K H (.ref a) k.d := .tup (SqT.of h) (.cons (.str _) (.cons (.int _) (.cons (.int _) .nil)))
theorem KeysAt.dns {K : PySem.W.Frag} {H : Hp} {xs : List V} {ks : List Ky} (h : KeysAt H xs ks) : Dns K H xs (ks.map Ky.d) := by
 induction h with
 | nil => exact .nil
 | cons r _ ih =>
  obtain ⟨a, rfl, h⟩ := r
  exact .cons (key_dn h) ih
end K2
namespace K2
open PySem PySem.Spec PyProof.Rows L2 K1
noncomputable def meet (a : Ky) (w : Wn) : Bool := decide (w.n = a.n) && (decide (w.s < a.e) && decide (a.s < w.e))
noncomputable def shK : Sh := .tup [.str, .int, .int]
theorem shK_is (k : Ky) : Dv.isA shK k.d = true := rfl
theorem keys_perm {H : Hp} {ys : List V} {ks : List Ky} {ps : List (V × Dv)} (h : KeysAt H ys ks) (p : ps.Perm (ys.zip (ks.map Ky.d))) : ∃ ks', ks'.Perm ks ∧ KeysAt H (ps.map (·.1)) ks' ∧ ps.map (·.2) = ks'.map Ky.d := by
 have h0 : ∀ {ys : List V} {ks : List Ky}, KeysAt H ys ks → ∀ q ∈ ys.zip (ks.map Ky.d), ∃ k : Ky, q.2 = k.d ∧ ∃ a, q.1 = .ref a ∧ H a = some (.tup k.v) := by
  intro ys ks h
  induction h with
  | nil => intro q hq; simp at hq
  | @cons x k xs ks r _ ih =>
   intro q hq
   rw [List.map_cons, List.zip_cons_cons] at hq
   rcases List.mem_cons.mp hq with rfl | hq
   ·exact ⟨k, rfl, r⟩
   ·exact ih q hq
 have h1 : ∀ ps : List (V × Dv), (∀ q ∈ ps, ∃ k : Ky, q.2 = k.d ∧ ∃ a, q.1 = .ref a ∧ H a = some (.tup k.v)) → ∃ ks', KeysAt H (ps.map (·.1)) ks' ∧ ps.map (·.2) = ks'.map Ky.d := by
  intro ps
  induction ps with
  | nil => intro _; exact ⟨[], .nil, rfl⟩
  | cons q ps ih =>
   intro hp
   obtain ⟨k, e, r⟩ := hp q (.head _)
   obtain ⟨ks', a1, a2⟩ := ih fun q' m => hp q' (.tail _ m)
   exact ⟨k :: ks', .cons r a1, by rw [List.map_cons, List.map_cons, e, a2]⟩
 obtain ⟨ks', a1, a2⟩ := h1 ps fun q m => h0 h q (p.mem_iff.mp m)
 refine ⟨ks', ?_, a1, a2⟩
 have e : (ks'.map Ky.d).Perm (ks.map Ky.d) := by
  rw [← a2]
  have := p.map (·.2)
  rw [List.map_snd_zip (by rw [List.length_map, h.len]; exact Nat.le_refl _)] at this
  exact this
 have inj : ∀ (l r : List Ky), (l.map Ky.d).Perm (r.map Ky.d) → l.Perm r := by
  intro l
  induction l with
  | nil => intro r hp; have := List.Perm.eq_nil hp.symm; rw [List.map_eq_nil_iff] at this; rw [this]
  | cons a l ih =>
   intro r hp
   have hm : a.d ∈ r.map Ky.d := hp.mem_iff.mp (by simp)
   obtain ⟨b, hb, eb⟩ := List.mem_map.mp hm
   have := kyD_inj eb
   subst this
   obtain ⟨r1, r2, rfl⟩ := List.append_of_mem hb
   have hp2 : ((b :: l).map Ky.d).Perm ((b :: (r1 ++ r2)).map Ky.d) := hp.trans ((List.perm_middle).map _)
   rw [List.map_cons, List.map_cons] at hp2
   exact ((ih _ hp2.cons_inv).cons b).trans List.perm_middle.symm
 exact inj _ _ e
inductive spMetI (C : Addr) (vs : List V) (H : Hp) (Q : VK) : Prop
 | mk (x dx p d m ab : Addr) (mk : V) (a : Ky) (kvs : List (List Key × V)) (ws : List Wn) : (vs = [.ref x, .ref ab]) → (H x = some (.ins C dx (flds p mk d m))) → (H ab = some (.tup a.v)) → (H d = some (.dT kvs)) → (WinsP H kvs ws) → (TS.Fits ws.length) → (∀ (l : Addr) (zs : List V) (ks : List Ky) (H' : Hp), Same H H' → H l = none → H' l = some (.lst zs) → KeysAt H' zs ks → ks.Perm ((ws.filter (meet a)).map Wn.k) → (ks.map Ky.d).Pairwise (fun d e => dcmp d e ≠ .gt) → Q (.ref l) H') → spMetI C vs H Q
noncomputable def spMet (C : Addr) : Sp := fun vs H Q d_ => spMetI C vs H Q
section
variable {P : Program} {w : World} {K : PySem.W.Frag} {mg : Str → Option Value} {C : Addr}
theorem f_met (D : MethIn K C "keys_met_by" "Desk.keys_met_by" st_Desk_keys_met_by) (M : MG K mg) (B : Bi K) (T : DeskIn K C) : MethB P w K mg CX0 C "keys_met_by" ["self", "alone"] 1 (spMet C) := by
 refine D.fn sc_Desk_keys_met_by bd_Desk_keys_met_by (fun vs H Q E h => ?_) (fun f base cdv A outer s H vs Q E hr h => ?_)
 ·obtain ⟨x, dx, p, d, m, ab, mk, a, kvs, ws, rfl, _⟩ := h
  rfl
 ·obtain ⟨x, dx, p, d, m, ab, mk, a, kvs, ws, rfl, hx, hab, hd, hw, hzx, k⟩ := h
  have hz := hzx.1
  have hu : (A.deeper (envOfC "Desk.keys_met_by" (defScope st_Desk_keys_met_by) s.heap.objs.size f cdv)).units + 64 < cLine := hr.units
  refine ⟨_, (pss_one (ps_ret (pcallB (call_sortedP hu) rfl (M.no _ B.b_sorted) bt_sorted (pc (pe_thaw (pe_comp (NY := ["key", "alone"]) (js := [none, some 1]) rfl rfl (by with_unfolding_all rfl) (by repeat first | exact ClIn.nil | refine ClIn.cons rfl ?_) (.own (.out rfl rfl (.inl rfl) .nil)) (pi_dkeys (pe_fld (pv 0) rfl)) (fun _ _ _ _ _ => ⟨(pg_name (i := 0) (show (["key", "alone"] : List Str).Nodup from by decide +kernel) rfl (Or.inl rfl)), (pif_one (PW.pt (pw_and (pt_cmpR op_eq (pe_ix (ixK_tup (K := K) rfl) (pv 0) pe_int (fun _ _ => rfl)) (pe_ix (ixK_tup (K := K) rfl) (pv 1) pe_int (fun _ _ => rfl)) (nomark _)) (pw_and (pt_cmpR oLt (pe_ix (ixK_tup (K := K) rfl) (pv 0) pe_int (fun _ _ => rfl)) (pe_ix (ixK_tup (K := K) rfl) (pv 1) pe_int (fun _ _ => rfl)) (nomark _)) (pw_and1 (pt_cmpR oLt (pe_ix (ixK_tup (K := K) rfl) (pv 1) pe_int (fun _ _ => rfl)) (pe_ix (ixK_tup (K := K) rfl) (pv 0) pe_int (fun _ _ => rfl)) (nomark _))))))), (pv 0)⟩))) pa_nil)))), ?_⟩
  refine ⟨d, .dT kvs, hd, True.intro, _, rfl, x, C, dx, _, _, rfl, hx, T.cl.cl, T.nW, fW p d m mk, d, kvs, rfl, hd, fun o => ?_⟩
  intro l hl
  have ndl : d ≠ l := ne_of_none upd_same hl
  have hl0 : H l = none := by rw [upd_ne ndl.symm] at hl; exact hl
  have hlen := hw.len
  have tup1 : ∀ {ys : List V} {b : Addr} {row : List V}, upd (upd H d (.frz o (.dT kvs))) l (.lst ys) b = some (.tup row) → H b = some (.tup row) := fun {ys b row} e => by
   have n1 : b ≠ l := by rintro rfl; rw [upd_same] at e; cases e
   rw [upd_ne n1] at e
   have n2 : b ≠ d := by rintro rfl; rw [upd_same] at e; cases e
   rw [upd_ne n2] at e
   exact e
  have tup2 : ∀ {ys : List V} {b : Addr} {row : List V}, H b = some (.tup row) → upd (upd H d (.frz o (.dT kvs))) l (.lst ys) b = some (.tup row) := fun {ys b row} e => by
   rw [upd_ne (ne_of_none e hl0), upd_ne (ne_of e hd (by intro z; cases z))]
   exact e
  refine comp_it (n := kvs.length) (fun i ys H' => H' = upd (upd H d (.frz o (.dT kvs))) l (.lst ys) ∧ KeysAt H ys (((ws.take i).filter (meet a)).map Wn.k)) ⟨rfl, .nil⟩ ?_ ?_ ?_ ?_ ?_
  ·rintro i ys H' ⟨rfl, _⟩
   exact upd_same
  ·rintro i ys H' hi ⟨rfl, _⟩
   exact ⟨kvs, by rw [upd_ne ndl, upd_same], hi⟩
  ·rintro ys H' ⟨rfl, _⟩
   exact ⟨kvs, by rw [upd_ne ndl, upd_same], rfl⟩
  ·rintro i y ys H1 H2 hi ⟨rfl, hk⟩ ⟨e2, yl⟩
   subst e2
   obtain ⟨kk, v, b, ek, rfl, hb⟩ := yl kvs (by rw [upd_ne ndl, upd_same])
   obtain ⟨w, ew, rfl, _⟩ := hw.at ek
   have hb0 : H b = some (.tup w.k.v) := tup1 hb
   have htk : ws.take (i + 1) = ws.take i ++ [w] := by rw [List.take_add_one, ew]; rfl
   have hyl := hk.len
   have hyl2 : ys.length < sizeLine := by
    rw [hyl, List.length_map, sizeLine_eq]
    have := List.length_filter_le (meet a) (ws.take i)
    have := List.length_take_le i ws
    lia
   refine ⟨weak_set rfl, ?_⟩
   refine ⟨_, rfl, b, _, 0, _, rfl, rfl, SqT.of (tup2 hb0), rfl, _, rfl, ab, _, 0, _, rfl, rfl, SqT.of (tup2 hab), rfl, rfl, _, rfl, ?_⟩
   have out : meet a w = false → ∃ zs, upd (upd H d (.frz o (.dT kvs))) l (.lst ys) = upd (upd H d (.frz o (.dT kvs))) l (.lst zs) ∧ KeysAt H zs (((ws.take (i + 1)).filter (meet a)).map Wn.k) := fun z => by
    refine ⟨ys, rfl, ?_⟩
    rw [htk, List.filter_append, List.filter_cons, if_neg (by rw [z]; exact Bool.false_ne_true), List.filter_nil, List.append_nil]
    exact hk
   refine ite2 (fun c1 => ?_) (fun c1 => iteF (out ?_))
   ·have e1 : w.n = a.n := by
     have := of_decide_eq_true c1
     injection this
    refine ⟨_, rfl, b, _, 1, _, rfl, rfl, SqT.of (tup2 hb0), rfl, _, rfl, ab, _, 2, _, rfl, rfl, SqT.of (tup2 hab), rfl, _, _, rfl, rfl, _, rfl, ?_⟩
    refine ite2 (fun c2 => ?_) (fun c2 => iteF (out ?_))
    ·refine ⟨_, rfl, ab, _, 1, _, rfl, rfl, SqT.of (tup2 hab), rfl, _, rfl, b, _, 2, _, rfl, rfl, SqT.of (tup2 hb0), rfl, _, _, rfl, rfl, _, rfl, ?_⟩
     refine ite2 (fun c3 => ?_) (fun c3 => out ?_)
     ·refine ⟨_, rfl, ys, upd_same, hyl2, by rw [upd_upd], ?_⟩
      have mt : meet a w = true := by
       unfold meet
       rw [e1, decide_eq_true rfl]
       show (decide (w.s < a.e) && decide (a.s < w.e)) = true
       rw [show decide (w.s < a.e) = true from c2, show decide (a.s < w.e) = true from c3]
       rfl
      rw [htk, List.filter_append, List.filter_cons, if_pos mt, List.filter_nil, List.map_append]
      exact hk.snoc hb0
     ·unfold meet
      rw [show decide (a.s < w.e) = false from Bool.eq_false_iff.mpr c3]
      simp
    ·unfold meet
     rw [show decide (w.s < a.e) = false from Bool.eq_false_iff.mpr c2]
     simp
   ·unfold meet
    have : ¬ w.n = a.n := fun q => c1 (by
     show decide (V.str w.n = V.str a.n) = true
     rw [q]; simp)
    simp [this]
  ·rintro ys H' ⟨rfl, hk⟩
   rw [hlen, List.take_length] at hk
   have hth : upd (upd (upd H d (.frz o (.dT kvs))) l (.lst ys)) d (.dT kvs) = upd H l (.lst ys) := by
    funext b
    by_cases e1 : b = d
    ·subst e1
     rw [upd_same, upd_ne ndl]; exact hd.symm
    ·rw [upd_ne e1]
     by_cases e2 : b = l
     ·subst e2
      rw [upd_same, upd_same]
     ·rw [upd_ne e2, upd_ne e1, upd_ne e2]
   refine ⟨o, by rw [upd_ne ndl, upd_same], ?_⟩
   rw [hth]
   have sl := Same.new (o := .lst ys) hl0
   have hk1 : KeysAt (upd H l (.lst ys)) ys ((ws.filter (meet a)).map Wn.k) := hk.keep fun a row e => sl _ _ e
   refine ⟨l, ys, _, shK, rfl, SqL.of upd_same, hk1.dns, (fun d hd => ?_), rfl, (by decide), ?_, fun l2 ps hl2 pm pw => ?_⟩
   ·obtain ⟨q, _, rfl⟩ := List.mem_map.mp hd
    exact shK_is q
   ·rw [hk1.len, List.length_map]
    have := List.length_filter_le (meet a) ws
    exact ⟨by lia, Nat.lt_of_le_of_lt this hzx.2⟩
   ·obtain ⟨ks, a1, a2, a3⟩ := keys_perm hk1 pm
    have s2 := sl.trans (Same.new (o := .lst (ps.map (·.1))) hl2)
    refine k l2 _ ks _ s2 (sl.free hl2) upd_same (a2.keep fun a row e => (Same.new hl2) _ _ e) a1 (by rw [← a3]; exact pw)
end
end K2
namespace K2
open PySem PySem.Spec PyProof.Rows L2 K1
inductive spJoinI (K : PySem.W.Frag) (vs : List V) (H : Hp) (Q : VK) : Prop
 | mk (l : Addr) (xs : List V) (ks : List Ky) (k0 : Ky) : (vs = [.ref l]) → (SqL K H l xs) → (KeysAt H xs ks) → (ks[0]? = some k0) → (ks.length ≤ 1000001) → (∀ (r : Addr) (s e : Int) (H' : Hp), Same H H' → H r = none → (∃ k ∈ ks, k.s = s) → (∀ k ∈ ks, s ≤ k.s) → (∃ k ∈ ks, k.e = e) → (∀ k ∈ ks, k.e ≤ e) → H' r = some (.tup (kyV k0.n s e)) → Q (.ref r) H') → spJoinI K vs H Q
noncomputable def spJoin (K : PySem.W.Frag) : Sp := fun vs H Q d_ => spJoinI K vs H Q
noncomputable def moveW (ws : List Wn) (ks : List Ky) (g : Ky) : List Wn := ks.foldl (fun ws k => match getW ws k.l with
 | some w => addW (dropW ws k.l) g.n g.s g.e w.c w.t
 | none => ws) ws
inductive spMoveI (C : Addr) (vs : List V) (H : Hp) (Q : VK) : Prop
 | mk (x dx p d m l gb : Addr) (mk : V) (g : Ky) (xs : List V) (ks : List Ky) (kvs : List (List Key × V)) (ws : List Wn) : (vs = [.ref x, .ref l, .ref gb]) → (H x = some (.ins C dx (flds p mk d m))) → (H gb = some (.tup g.v)) → (H l = some (.lst xs)) → (KeysAt H xs ks) → (H d = some (.dT kvs)) → (WinsP H kvs ws) → (ws.length < 1000000) → (ks.Nodup) → ((∀ k ∈ ks, k ∈ ws.map Wn.k)) → (∀ (H' : Hp) (kvs' : List (List Key × V)), Kept H H' d → H' d = some (.dT kvs') → WinsP H' kvs' (moveW ws ks g) → Q .non H') → spMoveI C vs H Q
noncomputable def spMove (K : PySem.W.Frag) (C : Addr) : Sp := fun vs H Q d_ => spMoveI C vs H Q
theorem moveW_snoc (ws : List Wn) (ks : List Ky) (k g : Ky) : moveW ws (ks ++ [k]) g = match getW (moveW ws ks g) k.l with
  | some w => addW (dropW (moveW ws ks g) k.l) g.n g.s g.e w.c w.t
  | none => moveW ws ks g := by
 unfold moveW
 rw [List.foldl_append]
 rfl
theorem getW_some {ws : List Wn} {k : Ky} (h : k ∈ ws.map Wn.k) : ∃ w, getW ws k.l = some w ∧ w.k = k := by
 cases e : getW ws k.l with
 | none =>
  obtain ⟨w, hw, rfl⟩ := List.mem_map.mp h
  have := List.find?_eq_none.mp e w hw
  simp [Wn.ky_k] at this
 | some w =>
  have := List.find?_some e
  exact ⟨w, rfl, ky_inj (of_decide_eq_true this)⟩
theorem setW_keys (ws : List Wn) (n : Str) (s e c t : Int) (k : Ky) : k ∈ (setW ws n s e c t).map Wn.k ↔ k ∈ ws.map Wn.k ∨ k = ⟨n, s, e⟩ := by
 unfold setW
 split
 ·rename_i h
  have e : (ws.map fun w => if w.ky = kyL n s e then { w with c := c, t := t } else w).map Wn.k = ws.map Wn.k := by
   rw [List.map_map]
   refine List.map_congr_left fun w _ => ?_
   show (if w.ky = kyL n s e then { w with c := c, t := t } else w).k = w.k
   split <;> rfl
  rw [e]
  refine ⟨.inl, fun q => q.elim id fun q => ?_⟩
  obtain ⟨w, hw, ew⟩ := List.any_eq_true.mp h
  have : w.k = ⟨n, s, _⟩ := ky_inj (a := w.k) (b := ⟨n, s, _⟩) (of_decide_eq_true ew)
  rw [q, ← this]
  exact List.mem_map.mpr ⟨w, hw, rfl⟩
 ·rw [List.map_append, List.mem_append]
  simp [Wn.k]
theorem addW_keys (ws : List Wn) (n : Str) (s e c t : Int) (k : Ky) : k ∈ (addW ws n s e c t).map Wn.k ↔ k ∈ ws.map Wn.k ∨ k = ⟨n, s, e⟩ := by
 unfold addW
 split <;> exact setW_keys ..
theorem dropW_keys (ws : List Wn) (g k : Ky) : k ∈ (dropW ws g.l).map Wn.k ↔ k ∈ ws.map Wn.k ∧ k ≠ g := by
 unfold dropW
 simp only [List.mem_map, List.mem_filter, decide_eq_true_eq]
 constructor
 ·rintro ⟨w, ⟨h1, h2⟩, rfl⟩
  exact ⟨⟨w, h1, rfl⟩, fun q => h2 (by rw [Wn.ky_k, q])⟩
 ·rintro ⟨⟨w, h1, rfl⟩, h2⟩
  exact ⟨w, ⟨h1, fun q => h2 (ky_inj (by rw [← Wn.ky_k]; exact q))⟩, rfl⟩
theorem setW_len (ws : List Wn) (n : Str) (s e c t : Int) : (setW ws n s e c t).length ≤ ws.length + 1 := by
 unfold setW
 split
 ·rw [List.length_map]; lia
 ·rw [List.length_append]; simp
theorem addW_len (ws : List Wn) (n : Str) (s e c t : Int) : (addW ws n s e c t).length ≤ ws.length + 1 := by
 unfold addW
 split <;> exact setW_len ..
theorem dropW_len {ws : List Wn} {k : Ky} (h : k ∈ ws.map Wn.k) : (dropW ws k.l).length < ws.length := by
 obtain ⟨w, hw, rfl⟩ := List.mem_map.mp h
 exact List.length_filter_lt_length_iff_exists.mpr ⟨w, hw, by simp [Wn.ky_k]⟩
section
variable {P : Program} {w : World} {K : PySem.W.Frag} {mg : Str → Option Value} {C : Addr}
theorem f_join (D : DefIn K "joined" st_joined) (M : MG K mg) (B : Bi K) : FnB P w K mg "joined" ["keys"] 1 (spJoin K) := by
 refine D.fn M sc_joined bd_joined (fun vs H Q E h => ?_) (fun f base cdv A outer s H vs Q E hr h => ?_)
 ·obtain ⟨l, xs, ks, k0, rfl, _⟩ := h
  rfl
 ·obtain ⟨l, xs, ks, k0, rfl, hl, hk, h0, hz1, k⟩ := h
  have hz : 0 < ks.length := (List.getElem?_eq_some_iff.mp h0).1
  have hxl := hk.len
  obtain ⟨x0, ex0⟩ : ∃ x0, xs[0]? = some x0 := ⟨xs[0], by simp⟩
  obtain ⟨k0', b0, e1, rfl, hb0⟩ := hk.get ex0
  rw [h0] at e1
  cases e1
  refine ⟨_, (pss_one (ps_ret (pe_tup (pc (pe_ix ix_tup (pe_ix ix_list (pv 0) pe_int (fun _ _ => rfl)) pe_int (fun _ _ => rfl)) (pc (pcallB (call_min1 rfl) rfl (M.no _ B.b_min) bt_min (pc (pe_comp (NY := ["key"]) (js := [none]) rfl rfl (by with_unfolding_all rfl) (by repeat first | exact ClIn.nil | refine ClIn.cons rfl ?_) (.own .nil) (pi_list (pv 0)) (fun _ _ _ _ _ => ⟨(pg_name (i := 0) (show (["key"] : List Str).Nodup from by decide +kernel) rfl (Or.inl rfl)), pif_nil, (pe_ix (ixK_tup (K := K) rfl) (pv 0) pe_int (fun _ _ => rfl))⟩)) pa_nil)) (pc (pcallB (call_max1 rfl) rfl (M.no _ B.b_max) bt_max (pc (pe_comp (NY := ["key"]) (js := [none]) rfl rfl (by with_unfolding_all rfl) (by repeat first | exact ClIn.nil | refine ClIn.cons rfl ?_) (.own .nil) (pi_list (pv 0)) (fun _ _ _ _ _ => ⟨(pg_name (i := 0) (show (["key"] : List Str).Nodup from by decide +kernel) rfl (Or.inl rfl)), pif_nil, (pe_ix (ixK_tup (K := K) rfl) (pv 0) pe_int (fun _ _ => rfl))⟩)) pa_nil)) pa_nil)))))), ?_⟩
  refine ⟨_, rfl, l, xs, 0, _, rfl, rfl, hl, atI_nat ex0, b0, _, 0, _, rfl, rfl, SqT.of hb0, rfl, ?_⟩
  refine ⟨_, rfl, l, rfl, ⟨_, hl⟩, fun l1 h1 => ?_⟩
  refine comp_lR (K := K) (a := l) (xs := xs) (fun i ys H' => ys = ((ks.take i).map fun k => V.int k.s) ∧ H' = upd H l1 (.lst ys)) ⟨rfl, rfl⟩ (by rintro i ys H' ⟨_, rfl⟩; exact upd_same) (fun i ys H' _ ⟨_, e⟩ => by rw [e]; exact (Same.new h1).seq hl) ?_ ?_
  ·rintro i y ys H' hi ⟨hys, rfl⟩
   obtain ⟨kk, b, ek, rfl, hb⟩ := hk.get hi
   have hil := (List.getElem?_eq_some_iff.mp ek).1
   refine ⟨weak_set rfl, ?_⟩
   refine ⟨_, rfl, b, _, 1, _, rfl, rfl, SqT.of ((Same.new h1) _ _ hb), rfl, ys, upd_same, ?_, ?_, by rw [upd_upd]⟩
   ·rw [hys, List.length_map, List.length_take]
    have := sizeLine_eq
    lia
   ·rw [hys, List.take_add_one, ek]
    simp
  ·rintro ys H' ⟨hys, rfl⟩
   rw [hxl, List.take_length] at hys
   have em : ys = (ks.map Ky.s).map V.int := by rw [hys, List.map_map]; rfl
   refine ⟨l1, ks.map Ky.s, rfl, SqL.of (by rw [upd_same, em]), by rw [List.length_map]; exact hz, fun s hs1 hs2 => ?_⟩
   have sA := Same.new (o := .lst ys) h1
   generalize upd H l1 (.lst ys) = H1 at *
   refine ⟨_, rfl, l, rfl, ⟨_, sA.seq hl⟩, fun l2 h2 => ?_⟩
   refine comp_lR (K := K) (a := l) (xs := xs) (fun i ys H' => ys = ((ks.take i).map fun k => V.int k.e) ∧ H' = upd H1 l2 (.lst ys)) ⟨rfl, rfl⟩ (by rintro i ys H' ⟨_, rfl⟩; exact upd_same) (fun i ys H' _ ⟨_, e⟩ => by rw [e]; exact (Same.new h2).seq (sA.seq hl)) ?_ ?_
   ·rintro i y ys H' hi ⟨hys, rfl⟩
    obtain ⟨kk, b, ek, rfl, hb⟩ := hk.get hi
    have hil := (List.getElem?_eq_some_iff.mp ek).1
    refine ⟨weak_set rfl, ?_⟩
    refine ⟨_, rfl, b, _, 2, _, rfl, rfl, SqT.of ((Same.new h2) _ _ (sA _ _ hb)), rfl, ys, upd_same, ?_, ?_, by rw [upd_upd]⟩
    ·rw [hys, List.length_map, List.length_take]
     have := sizeLine_eq
     lia
    ·rw [hys, List.take_add_one, ek]
     simp
   ·rintro ys2 H' ⟨hys2, rfl⟩
    rw [hxl, List.take_length] at hys2
    have em2 : ys2 = (ks.map Ky.e).map V.int := by rw [hys2, List.map_map]; rfl
    refine ⟨l2, ks.map Ky.e, rfl, SqL.of (by rw [upd_same, em2]), by rw [List.length_map]; exact hz, fun e he1 he2 => ?_⟩
    have sB := sA.trans (Same.new (o := .lst ys2) h2)
    refine ⟨(by show 3 ≤ sizeLine; decide), fun r hr' => ?_⟩
    obtain ⟨ka, ma, ea⟩ := List.mem_map.mp hs1
    obtain ⟨kb, mb, eb⟩ := List.mem_map.mp he1
    exact k r s e _ (sB.trans (Same.new hr')) (sB.free hr') ⟨ka, ma, ea⟩ (fun q m => hs2 _ (List.mem_map.mpr ⟨q, m, rfl⟩)) ⟨kb, mb, eb⟩ (fun q m => he2 _ (List.mem_map.mpr ⟨q, m, rfl⟩)) upd_same
theorem f_move (D : MethIn K C "move_tallies" "Desk.move_tallies" st_Desk_move_tallies) (T : DeskIn K C) (F_Desk_add_tally : MethB P w K mg CX0 C "add_tally" ["self", "key", "tally"] 1 (spAdd C)) : MethB P w K mg CX0 C "move_tallies" ["self", "keys", "target"] 2 (spMove K C) := by
 have CL_Desk := T.cl
 refine D.fn sc_Desk_move_tallies bd_Desk_move_tallies (fun vs H Q E h => ?_) (fun f base cdv A outer s H vs Q E hr h => ?_)
 ·obtain ⟨x, dx, p, d, m, l, gb, mk, g, xs, ks, kvs, ws, rfl, _⟩ := h
  rfl
 ·obtain ⟨x, dx, p, d, m, l, gb, mk, g, xs, ks, kvs, ws, rfl, hx, hg, hl, hk, hd, hw, hz, nd, hin, k⟩ := h
  have hu1 := hu_of hr
  have hxl := hk.len
  have nxd : x ≠ d := ne_of hx hd (by intro z; cases z)
  have nld : l ≠ d := ne_of hl hd (by intro z; cases z)
  refine ⟨_, (pss_one (ps_for PassesOwn.never rfl (pi_list (pv 1)) (pg_name (i := 3) sc_Desk_move_tallies.nd rfl (Or.inl rfl))
   (pss_one (pexpr (pe_methB (pv 0) CL_Desk.cl F_Desk_add_tally pass0 (hr.mono (by decide)) (pc (pv 2) (pc (pe_dpopT hu1 (pe_fld (pv 0) rfl) (pv 3) ⟨rfl, rfl, rfl, rfl⟩) pa_nil))))))), ?_⟩
  refine ⟨_, rfl, l, rfl, ⟨_, SqL.of hl⟩, for_list (K := K) (a := l) (xs := xs) (fun i σ H' => ∃ (v : Option V) (kvs' : List (List Key × V)) (ws' : List Wn), σ = [some (.ref x), some (.ref l), some (.ref gb), v] ∧ Kept H H' d ∧ H' d = some (.dT kvs') ∧ WinsP H' kvs' ws' ∧ ws' = moveW ws (ks.take i) g ∧ ws'.length < 1000000 ∧ ∀ k ∈ ks.drop i, k ∈ ws'.map Wn.k)
   ⟨_, kvs, ws, rfl, fun b o e _ => e, hd, hw, rfl, hz, by simpa using hin⟩ (fun i σ H' _ ⟨v, kvs', ws', _, kp, _⟩ => SqL.of (kp _ _ hl nld)) ?_ ?_⟩
  ·rintro i y σ H1 hi ⟨v, kvs1, ws1, rfl, kp1, hd1, hw1, ew1, hz1, hin1⟩
   obtain ⟨kk, b, ek, rfl, hb⟩ := hk.get hi
   have hil := (List.getElem?_eq_some_iff.mp ek).1
   have hb1 : H1 b = some (.tup kk.v) := kp1.tups hd _ _ hb
   have hdr : ks.drop i = kk :: ks.drop (i + 1) := by rw [List.drop_eq_getElem_cons hil]; congr 1; exact (List.getElem?_eq_some_iff.mp ek).2
   have hkin : kk ∈ ws1.map Wn.k := hin1 kk (by rw [hdr]; exact .head _)
   obtain ⟨w0, eg, ew0⟩ := getW_some hkin
   rcases hw1.get kk.l with ⟨_, z⟩ | ⟨v0, w0', h1, h2, _, a0, rfl, ha0⟩
   ·rw [eg] at z; cases z
   rw [eg] at h2
   cases h2
   refine ⟨_, rfl, x, dx, _, rfl, kp1 _ _ hx nxd, fNo p d m mk (by decide +kernel) (by decide +kernel) (by decide +kernel) (by decide +kernel), _, rfl, _, rfl, x, C, dx, _, _, rfl, kp1 _ _ hx nxd, T.cl.cl, T.nW, fW p d m mk, d, rfl, .inr ⟨kvs1, .inl hd1⟩, _, rfl, kvs1, kk.l, b, _, hd1, rfl, hb1, h1, ?_⟩
   have kp2 : Kept H1 (upd H1 d (.dT (dropK kvs1 kk.l))) d := fun b o e n => by rw [upd_ne n]; exact e
   have tp2 := kp2.tups hd1
   have hw2 : WinsP (upd H1 d (.dT (dropK kvs1 kk.l))) (dropK kvs1 kk.l) (dropW ws1 kk.l) := (hw1.drop kk.l).keep tp2
   have hl2 := hw2.len
   have hl3 := dropW_len hkin
   refine ⟨x, dx, p, d, m, gb, a0, mk, g.n, g.s, g.e, w0.c, w0.t, dropK kvs1 kk.l, dropW ws1 kk.l, rfl, kp2 _ _ (kp1 _ _ hx nxd) nxd, tp2 _ _ (kp1.tups hd _ _ hg), tp2 _ _ ha0, upd_same, hw2, by have := sizeLine_eq; lia, fun H3 kvs3 kp3 hd3 hw3 => ?_⟩
   have hl4 := addW_len (dropW ws1 kk.l) g.n g.s g.e w0.c w0.t
   refine ⟨_, kvs3, _, rfl, kp1.trans (kp2.trans kp3), hd3, hw3, ?_, by lia, fun q mq => ?_⟩
   ·rw [List.take_add_one, ek]
    show _ = moveW ws (ks.take i ++ [kk]) g
    rw [moveW_snoc, ← ew1, eg]
   ·rw [addW_keys, dropW_keys]
    refine .inl ⟨hin1 q (by rw [hdr]; exact .tail _ mq), fun z => ?_⟩
    have := (List.drop_sublist i ks).nodup nd
    rw [hdr, List.nodup_cons] at this
    exact this.1 (z ▸ mq)
  ·rintro σ H1 ⟨v, kvs1, ws1, rfl, kp1, hd1, hw1, ew1, _, _⟩
   rw [hxl, List.take_length] at ew1
   subst ew1
   exact k H1 kvs1 kp1 hd1 hw1
end
end K2
namespace K2
open PySem PySem.Spec PyProof.Rows L2 K1
noncomputable def ListAt {α : Type} (f : α → List V) (H : Hp) : List V → List α → Prop := Paired fun x w => ∃ a, x = .ref a ∧ H a = some (.tup (f w))
section
variable {α : Type} {f : α → List V} {H H' : Hp}
theorem ListAt.keep {xs : List V} {ws : List α} (h : ListAt f H xs ws) (k : ∀ a row, H a = some (.tup row) → H' a = some (.tup row)) : ListAt f H' xs ws := Paired.imp' (fun _ _ ⟨a, e, h⟩ => ⟨a, e, k a _ h⟩) h
theorem ListAt.len {xs : List V} {ws : List α} (h : ListAt f H xs ws) : xs.length = ws.length := Paired.length h
theorem ListAt.snoc {xs : List V} {ws : List α} {a : Addr} {w : α} (h : ListAt f H xs ws) (e : H a = some (.tup (f w))) : ListAt f H (xs ++ [.ref a]) (ws ++ [w]) := Paired.snoc h ⟨_, rfl, e⟩
theorem ListAt.app {xs ys : List V} {ws us : List α} (h : ListAt f H xs ws) (h' : ListAt f H ys us) : ListAt f H (xs ++ ys) (ws ++ us) := Paired.app h h'
theorem ListAt.get {xs : List V} {ws : List α} {i : Nat} {x : V} (h : ListAt f H xs ws) (e : xs[i]? = some x) : ∃ w a, ws[i]? = some w ∧ x = .ref a ∧ H a = some (.tup (f w)) := by
 obtain ⟨k, ek, a, r⟩ := Paired.getL h e
 exact ⟨k, a, ek, r⟩
theorem ListAt.dns {K : PySem.W.Frag} {g : α → Dv} (hd : ∀ a w, H a = some (.tup (f w)) → Dn K H (.ref a) (g w)) {xs : List V} {ws : List α} (h : ListAt f H xs ws) : Dns K H xs (ws.map g) := by
 induction h with
 | nil => exact .nil
 | cons r _ ih =>
  obtain ⟨a, rfl, h⟩ := r
  exact .cons (hd _ _ h) ih
end
end K2
namespace K2
open PySem PySem.Spec PyProof.Rows L2 K1
noncomputable def spI (pl : Pl) (t : Int) : List (Int × Int) := match pl with
 | .pauses l _ => [(t, t + l)]
 | pl => (List.range (cnt pl t)).map fun (i : Nat) => (fst1 pl t + (i : Int) * pl.stp, fst1 pl t + (i : Int) * pl.stp + pl.len)
theorem wins_spI (pl : Pl) (t : Int) : wins pl t = (spI pl t).map fun q => [.int q.1, .int q.2] := by
 cases pl with
 | fixed l g => show (List.range _).map _ = ((List.range _).map _).map _; rw [List.map_map]; rfl
 | sliding l s g => show (List.range _).map _ = ((List.range _).map _).map _; rw [List.map_map]; rfl
 | pauses l g => rfl
theorem spI_len {pl : Pl} (ok : pl.ok) (t : Int) : (spI pl t).length ≤ 100 := by
 have := cnt_le (t := t) ok
 cases pl with
 | fixed l g => show ((List.range _).map _).length ≤ 100; rw [List.length_map, List.length_range]; exact this
 | sliding l s g => show ((List.range _).map _).length ≤ 100; rw [List.length_map, List.length_range]; exact this
 | pauses l g => show 1 ≤ 100; decide
noncomputable def evKeys (pl : Pl) (n : Str) (t : Int) : List Ky := (spI pl t).map fun q => ⟨n, q.1, q.2⟩
noncomputable def isP : Pl → Bool
 | .pauses _ _ => true
 | _ => false
inductive Say where
 | told (w : Wn) | gone (k : Ky) | missed (n : Str) (t a : Int)
noncomputable def Say.v : Say → List V
 | .told w => [.str "told", .str w.n, .int w.s, .int w.e, .int w.c, .int w.t]
 | .gone k => [.str "gone", .str k.n, .int k.s, .int k.e]
 | .missed n t a => [.str "missed", .str n, .int t, .int a]
noncomputable def EvRel (pl : Pl) (n : Str) (t a : Int) (ws : List Wn) (ms ks : List Ky) (ws' : List Wn) : Prop :=
 (isP pl = false ∧ ms = [] ∧ ks = evKeys pl n t ∧ ws' = ks.foldl (fun u k => addW u k.n k.s k.e 1 a) ws) ∨
 (isP pl = true ∧ ms.Perm ((ws.filter (meet ⟨n, t, t + pl.len⟩)).map Wn.k) ∧ (ms.map Ky.d).Pairwise (fun d e => dcmp d e ≠ .gt) ∧ ∃ s e : Int, (s = t ∨ ∃ k ∈ ms, k.s = s) ∧ s ≤ t ∧ (∀ k ∈ ms, s ≤ k.s) ∧ (e = t + pl.len ∨ ∃ k ∈ ms, k.e = e) ∧ t + pl.len ≤ e ∧ (∀ k ∈ ms, k.e ≤ e) ∧
  ks = [⟨n, s, e⟩] ∧ ws' = addW (moveW ws ms ⟨n, s, e⟩) n s e 1 a)
noncomputable def tolds (mk : Option Int) (ws : List Wn) (ks : List Ky) : List Say := (ks.filter fun k => closed mk k.e).filterMap fun k => (getW ws k.l).map Say.told
open Classical in
noncomputable def gones (mk : Option Int) (ms ks : List Ky) : List Say := (ms.filter fun k => decide (k ∉ ks) && closed mk k.e).map Say.gone
structure DeskAt (K : PySem.W.Frag) (C : Addr) (H : Hp) (x p d m : Addr) (pl : Pl) (mk : Option Int) (ws : List Wn) (ms : List (Str × Int × Int)) : Prop where
 ob : ∃ dx, H x = some (.ins C dx (flds p (mkV mk) d m))
 pl : SqT K H p pl.row
 wd : ∃ kvs, H d = some (.dT kvs) ∧ WinsP H kvs ws
 ml : ∃ xs, H m = some (.lst xs) ∧ ListAt (fun q : Str × Int × Int => [.str q.1, .int q.2.1, .int q.2.2]) H xs ms
 nd : (ws.map Wn.k).Nodup
inductive spEventI (K : PySem.W.Frag) (C : Addr) (vs : List V) (H : Hp) (Q : VK) : Prop
 | mk (x p d m : Addr) (pl : Pl) (mk : Option Int) (ws : List Wn) (ms : List (Str × Int × Int)) (n : Str) (t a : Int) : (vs = [.ref x, .str n, .int t, .int a]) → (DeskAt K C H x p d m pl mk ws ms) → (pl.ok) → ((-(10 ^ 45) < t ∧ t < 10 ^ 45)) → ((ws.length + 200 < 1000000 ∧ ws.length < TS.MX)) → (ms.length < 1000000) → ((late mk (grace pl) t = true → ∀ (l : Addr) (zs : List V) (H' : Hp), (∀ b o, H b = some o → b ≠ m → H' b = some o) → H l = none → H' l = some (.lst zs) → ListAt Say.v H' zs [.missed n t a] → DeskAt K C H' x p d m pl mk ws (ms ++ [(n, t, a)]) → Q (.ref l) H')) → ((late mk (grace pl) t = false → ∀ (l : Addr) (zs : List V) (H' : Hp) (mt ks : List Ky) (ws' : List Wn), EvRel pl n t a ws mt ks ws' → (∀ b o, H b = some o → b ≠ d → H' b = some o) → H l = none → H' l = some (.lst zs) → ListAt Say.v H' zs (gones mk mt ks ++ tolds mk ws' ks) → DeskAt K C H' x p d m pl mk ws' ms → Q (.ref l) H')) → spEventI K C vs H Q
noncomputable def spEvent (K : PySem.W.Frag) (C : Addr) : Sp := fun vs H Q d_ => spEventI K C vs H Q
end K2
namespace K2
open PySem PySem.Spec PyProof.Rows L2 K1
theorem getW_none {ws : List Wn} {k : Ky} (h : k ∉ ws.map Wn.k) : getW ws k.l = none := by
 cases e : getW ws k.l with
 | none => rfl
 | some w =>
  have h1 := List.find?_some e
  have h2 := List.mem_of_find?_eq_some e
  exact absurd (List.mem_map.mpr ⟨w, h2, ky_inj (a := w.k) (b := k) (of_decide_eq_true h1)⟩) h
theorem setW_nodup {ws : List Wn} {n : Str} {s e c t : Int} (h : (ws.map Wn.k).Nodup) : ((setW ws n s e c t).map Wn.k).Nodup := by
 unfold setW
 split
 ·have : (ws.map fun w => if w.ky = kyL n s e then { w with c := c, t := t } else w).map Wn.k = ws.map Wn.k := by
   rw [List.map_map]
   refine List.map_congr_left fun w _ => ?_
   show (if w.ky = kyL n s e then { w with c := c, t := t } else w).k = w.k
   split <;> rfl
  rw [this]
  exact h
 ·rename_i hn
  rw [List.map_append]
  refine List.nodup_append.mpr ⟨h, by simp, fun a ha b hb => ?_⟩
  simp at hb
  rintro rfl
  obtain ⟨w, hw, ew⟩ := List.mem_map.mp ha
  refine hn (List.any_eq_true.mpr ⟨w, hw, decide_eq_true ?_⟩)
  rw [Wn.ky_k, ew, hb]
  rfl
theorem addW_nodup {ws : List Wn} {n : Str} {s e c t : Int} (h : (ws.map Wn.k).Nodup) : ((addW ws n s e c t).map Wn.k).Nodup := by
 unfold addW
 split <;> exact setW_nodup h
theorem dropW_nodup {ws : List Wn} {k : List Key} (h : (ws.map Wn.k).Nodup) : ((dropW ws k).map Wn.k).Nodup := h.sublist ((List.filter_sublist).map _)
theorem moveW_nodup {g : Ky} : ∀ {ks : List Ky} {ws : List Wn}, (ws.map Wn.k).Nodup → ((moveW ws ks g).map Wn.k).Nodup
 | [], _, h => h
 | k :: ks, ws, h => by
  show ((moveW _ ks g).map Wn.k).Nodup
  refine moveW_nodup ?_
  dsimp only
  split
  ·exact addW_nodup (dropW_nodup h)
  ·exact h
theorem moveW_len {g : Ky} : ∀ {ks : List Ky} {ws : List Wn}, (moveW ws ks g).length ≤ ws.length
 | [], _ => Nat.le_refl _
 | k :: ks, ws => by
  show (moveW _ ks g).length ≤ ws.length
  refine Nat.le_trans moveW_len ?_
  dsimp only
  split
  ·rename_i w e
   have h1 := List.find?_some e
   have h2 := List.mem_of_find?_eq_some e
   have h3 := dropW_len (k := k) (ws := ws) (List.mem_map.mpr ⟨w, h2, ky_inj (a := w.k) (b := k) (of_decide_eq_true h1)⟩)
   have h4 := addW_len (dropW ws k.l) g.n g.s g.e w.c w.t
   lia
  ·exact Nat.le_refl _
noncomputable def addAll (a : Int) (ws : List Wn) (ks : List Ky) : List Wn := ks.foldl (fun u k => addW u k.n k.s k.e 1 a) ws
theorem addAll_snoc (a : Int) (ws : List Wn) (ks : List Ky) (k : Ky) : addAll a ws (ks ++ [k]) = addW (addAll a ws ks) k.n k.s k.e 1 a := by
 unfold addAll
 rw [List.foldl_append]
 rfl
theorem addAll_nodup {a : Int} : ∀ {ks : List Ky} {ws : List Wn}, (ws.map Wn.k).Nodup → ((addAll a ws ks).map Wn.k).Nodup
 | [], _, h => h
 | _ :: ks, _, h => addAll_nodup (ks := ks) (addW_nodup h)
theorem addAll_len {a : Int} : ∀ {ks : List Ky} {ws : List Wn}, (addAll a ws ks).length ≤ ws.length + ks.length
 | [], _ => Nat.le_refl _
 | k :: ks, ws => by
  have h1 := addAll_len (a := a) (ks := ks) (ws := addW ws k.n k.s k.e 1 a)
  have h2 := addW_len ws k.n k.s k.e 1 a
  have h3 : addAll a ws (k :: ks) = addAll a (addW ws k.n k.s k.e 1 a) ks := rfl
  rw [h3, List.length_cons]
  lia
theorem addAll_has {a : Int} {q : Ky} : ∀ {ks : List Ky} {ws : List Wn}, q ∈ ks ∨ q ∈ ws.map Wn.k → q ∈ (addAll a ws ks).map Wn.k
 | [], _, h => h.elim (fun z => nomatch z) id
 | k :: ks, ws, h => by
  have h3 : addAll a ws (k :: ks) = addAll a (addW ws k.n k.s k.e 1 a) ks := rfl
  rw [h3]
  refine addAll_has ?_
  rw [addW_keys]
  rcases h with h | h
  ·rcases List.mem_cons.mp h with rfl | h
   ·exact .inr (.inr rfl)
   ·exact .inl h
  ·exact .inr (.inl h)
end K2
namespace K2
open PySem PySem.Spec PyProof.Rows L2 K1
theorem Kept.tup {H H' : Hp} {m : Addr} {z : HO} (k : Kept H H' m) (hm : H m = some z) (n1 : ∀ r, z ≠ .tup r) : ∀ a row, H a = some (.tup row) → H' a = some (.tup row) := fun a row e => k a _ e fun q => by
 rw [q, hm] at e
 exact n1 row (Option.some.inj e)
theorem Kept.seqT {K : PySem.W.Frag} {H H' : Hp} {m p : Addr} {z : HO} {row : List V} (k : Kept H H' m) (hm : H m = some z) (n1 : ∀ r, z ≠ .tup r) (n2 : ∀ o u, z ≠ .frz o u) (h : SqT K H p row) : SqT K H' p row := by
 rcases h with (h | ⟨o, h⟩) | h
 ·exact .inl (.inl (k.tup hm n1 _ _ h))
 ·refine .inl (.inr ⟨o, k _ _ h fun q => ?_⟩)
  rw [q, hm] at h
  exact n2 _ _ (Option.some.inj h)
 ·exact .inr h
theorem Kept.refl (H : Hp) (d : Addr) : Kept H H d := fun _ _ e _ => e
theorem Kept.free {H H' : Hp} {d l : Addr} (k : Kept H H' d) (hn : l ≠ d) (h : H' l = none) : H l = none := by
 cases e : H l with
 | none => rfl
 | some o => rw [k l o e hn] at h; cases h
noncomputable def Mid (pl : Pl) (n : Str) (t : Int) (ws : List Wn) (ms ks : List Ky) (ws' : List Wn) : Prop :=
 (isP pl = false ∧ ms = [] ∧ ks = evKeys pl n t ∧ ws' = ws) ∨
 (isP pl = true ∧ ms.Perm ((ws.filter (meet ⟨n, t, t + pl.len⟩)).map Wn.k) ∧ (ms.map Ky.d).Pairwise (fun d e => dcmp d e ≠ .gt) ∧ ∃ s e : Int, (s = t ∨ ∃ k ∈ ms, k.s = s) ∧ s ≤ t ∧ (∀ k ∈ ms, s ≤ k.s) ∧ (e = t + pl.len ∨ ∃ k ∈ ms, k.e = e) ∧ t + pl.len ≤ e ∧ (∀ k ∈ ms, k.e ≤ e) ∧ ks = [⟨n, s, e⟩] ∧ ws' = moveW ws ms ⟨n, s, e⟩)
theorem Mid.rel {pl : Pl} {n : Str} {t a : Int} {ws : List Wn} {ms ks : List Ky} {ws' : List Wn} (h : Mid pl n t ws ms ks ws') : EvRel pl n t a ws ms ks (addAll a ws' ks) := by
 rcases h with ⟨h1, h2, h3, rfl⟩ | ⟨h1, h2, h3, s, e, h4, h5, h6, h7, h8, h9, rfl, rfl⟩
 ·exact .inl ⟨h1, h2, h3, rfl⟩
 ·exact .inr ⟨h1, h2, h3, s, e, h4, h5, h6, h7, h8, h9, rfl, rfl⟩
theorem evKeys_pauses (l g : Int) (n : Str) (t : Int) : evKeys (.pauses l g) n t = [⟨n, t, t + l⟩] := rfl
theorem gones_app (mk : Option Int) (a b ks : List Ky) : gones mk (a ++ b) ks = gones mk a ks ++ gones mk b ks := by
 unfold gones
 rw [List.filter_append, List.map_append]
theorem gones_len (mk : Option Int) (ms ks : List Ky) : (gones mk ms ks).length ≤ ms.length := by
 unfold gones
 rw [List.length_map]
 exact List.length_filter_le _ _
theorem gones_one_t {mk : Option Int} {k : Ky} {ks : List Ky} (h1 : k ∉ ks) (h2 : closed mk k.e = true) : gones mk [k] ks = [.gone k] := by
 unfold gones
 simp [h1, h2]
open Classical in
theorem gones_one_f {mk : Option Int} {k : Ky} {ks : List Ky} (h : ¬ (k ∉ ks ∧ closed mk k.e = true)) : gones mk [k] ks = [] := by
 unfold gones
 simp only [List.filter_cons, List.filter_nil]
 rw [if_neg]
 ·rfl
 ·intro z
  have z := (Bool.and_eq_true _ _).mp z
  exact h ⟨of_decide_eq_true z.1, z.2⟩
theorem tolds_app (mk : Option Int) (ws : List Wn) (a b : List Ky) : tolds mk ws (a ++ b) = tolds mk ws a ++ tolds mk ws b := by
 unfold tolds
 rw [List.filter_append, List.filterMap_append]
theorem tolds_len (mk : Option Int) (ws : List Wn) (ks : List Ky) : (tolds mk ws ks).length ≤ ks.length := by
 unfold tolds
 exact Nat.le_trans (List.length_filterMap_le _ _) (List.length_filter_le _ _)
theorem tolds_one_t {mk : Option Int} {ws : List Wn} {k : Ky} {w : Wn} (h : closed mk k.e = true) (hg : getW ws k.l = some w) : tolds mk ws [k] = [.told w] := by
 unfold tolds
 simp [h, hg]
theorem tolds_one_f {mk : Option Int} {ws : List Wn} {k : Ky} (h : ¬ closed mk k.e = true) : tolds mk ws [k] = [] := by
 unfold tolds
 simp [h]
section
variable {P : Program} {w : World} {K : PySem.W.Frag} {mg : Str → Option Value} {C : Addr}
theorem f_event (D : MethIn K C "take_event" "Desk.take_event" st_Desk_take_event) (M : MG K mg) (T : DeskIn K C) (G_PAUSES : GlobIs K "PAUSES" (.str "pauses")) (F_kind_of : FnB P w K mg "kind_of" ["plan"] 1 (spKind K)) (F_spans_at : FnB P w K mg "spans_at" ["plan", "time"] 3 (spSpans K))
  (F_Desk_is_too_late : MethB P w K mg CX0 C "is_too_late" ["self", "time"] 2 (spLate K C)) (F_Desk_is_closed : MethB P w K mg CX0 C "is_closed" ["self", "end"] 1 (spClosed C)) (F_Desk_keys_met_by : MethB P w K mg CX0 C "keys_met_by" ["self", "alone"] 1 (spMet C))
  (F_joined : FnB P w K mg "joined" ["keys"] 1 (spJoin K)) (F_Desk_move_tallies : MethB P w K mg CX0 C "move_tallies" ["self", "keys", "target"] 2 (spMove K C)) (F_Desk_add_tally : MethB P w K mg CX0 C "add_tally" ["self", "key", "tally"] 1 (spAdd C)) :
  MethB P w K mg CX0 C "take_event" ["self", "name", "time", "amount"] 4 (spEvent K C) := by
 have CL_Desk := T.cl
 refine D.fn sc_Desk_take_event bd_Desk_take_event (fun vs H Q E h => ?_) (fun f base cdv A outer s H vs Q E hr h => ?_)
 ·obtain ⟨x, p, d, m, pl, mk, ws, ms, n, t, a, rfl, _⟩ := h
  rfl
 ·obtain ⟨x, p, d, m, pl, mk, ws, ms, n, t, a, rfl, DA, ok, ht, ⟨hwl, hfx⟩, hml, kL, kN⟩ := h
  have hu1 := hu_of hr
  have hu : (A.deeper (envOfC "Desk.take_event" (defScope st_Desk_take_event) s.heap.objs.size f cdv)).units + 64 < cLine := hr.units
  obtain ⟨dx, hx⟩ := DA.ob
  obtain ⟨kvs, hd, hw⟩ := DA.wd
  obtain ⟨mx, hm, hmx⟩ := DA.ml
  have hp := DA.pl
  have nxd : x ≠ d := ne_of hx hd (by intro z; cases z)
  have nxm : x ≠ m := ne_of hx hm (by intro z; cases z)
  have nmd : m ≠ d := ne_of hm hd (by intro z; cases z)
  refine ⟨_, (pss_cons (ps_if (pt_val (pe_methB (pv 0) CL_Desk.cl F_Desk_is_too_late pass0 (hr.mono (by decide)) (pc (pv 2) pa_nil))) (pss_cons (pexpr (pe_bm PySem.F.plainAttrs_list PySem.F.slot_list_append PySem.F.type_list_append mt_append (pe_fld (pv 0) rfl) (pc (pe_tup (pc (pv 1) (pc (pv 2) (pc (pv 3) pa_nil)))) pa_nil)))
   (pss_one (ps_ret (pe_lst (pc (pe_tup (pc pe_str (pc (pv 1) (pc (pv 2) (pc (pv 3) pa_nil))))) pa_nil))))) pss_nil)
   (pss_cons (ps_set (i := 4) sc_Desk_take_event.nd rfl (Or.inr rfl) (pe_comp (NY := ["span", "name"]) (js := [none, some 1]) rfl rfl (by with_unfolding_all rfl) (by repeat first | exact ClIn.nil | refine ClIn.cons rfl ?_) (.own (.out rfl rfl (.inl rfl) .nil)) (pi_list (pcallF F_spans_at (hr.mono (by decide)) rfl (pc (pe_fld (pv 0) rfl) (pc (pv 2) pa_nil)))) (fun _ _ _ _ _ => ⟨(pg_name (i := 0) (show (["span", "name"] : List Str).Nodup from by decide +kernel) rfl (Or.inl rfl)), pif_nil, (pe_op (opK_catT (K := K) rfl) (pe_tup (pc (pv 1) pa_nil)) (pv 0))⟩)) (by with_unfolding_all rfl))
   (pss_cons (pset (i := 5) sc_Desk_take_event.nd rfl (Or.inl rfl) (pe_lst pa_nil))
   (pss_consJ (ps_if (pt_cmpR op_eq (pcallF F_kind_of (hr.mono (by decide)) rfl (pc (pe_fld (pv 0) rfl) pa_nil)) (pe_globC G_PAUSES M rfl) (nomark _)) (pss_cons (pset (i := 5) sc_Desk_take_event.nd rfl (Or.inl rfl) (pe_methB (pv 0) CL_Desk.cl F_Desk_keys_met_by pass0 (hr.mono (by decide)) (pc (pe_ix ix_list (pv 4) pe_int (fun _ _ => rfl)) pa_nil)))
   (pss_cons (pset (i := 4) sc_Desk_take_event.nd rfl (Or.inr rfl) (pe_lst (pc (pcallF F_joined (hr.mono (by decide)) rfl (pc (pe_op op_cat (pv 5) (pv 4)) pa_nil)) pa_nil)))
   (pss_one (pexpr (pe_methB (pv 0) CL_Desk.cl F_Desk_move_tallies pass0 (hr.mono (by decide)) (pc (pv 5) (pc (pe_ix ix_list (pv 4) pe_int (fun _ _ => rfl)) pa_nil))))))) pss_nil)
   (pss_cons (ps_for PassesOwn.never rfl (pi_list (pv 4)) (pg_name (i := 6) sc_Desk_take_event.nd rfl (Or.inl rfl))
   (pss_one (pexpr (pe_methB (pv 0) CL_Desk.cl F_Desk_add_tally pass0 (hr.mono (by decide)) (pc (pv 6) (pc (pe_tup (pc pe_int (pc (pv 3) pa_nil))) pa_nil))))))
   (pss_cons (ps_setC (k := 7) (NY := ["key", "keys", "self"]) (js := [none, some 4, some 0]) rfl sc_Desk_take_event.nd rfl rfl rfl (by with_unfolding_all rfl) (by repeat first | exact ClIn.nil | refine ClIn.cons rfl ?_) (.own (.out rfl rfl (.inl rfl) (.out rfl rfl (.inl rfl) .nil))) (pi_list (pv 5)) (fun _ _ _ _ _ => ⟨(pg_name (i := 0) (show (["key", "keys", "self"] : List Str).Nodup from by decide +kernel) rfl (Or.inl rfl)), (pif_one (PW.pt (pw_and (pt_cmpR (opK_notInD (K := K) rfl hu) (pv 0) (pv 1) (by with_unfolding_all rfl)) (pw_and1 (pt_val (pe_methB (pv 2) CL_Desk.cl F_Desk_is_closed pass0 (hr.mono (by decide)) (pc (pe_ix (ixK_tup (K := K) rfl) (pv 0) pe_int (fun _ _ => rfl)) pa_nil))))))), (pe_op (opK_catT (K := K) rfl) (pe_tup (pc pe_str pa_nil)) (pv 0))⟩))
   (pss_cons (ps_setC (k := 8) (NY := ["key", "self"]) (js := [none, some 0]) rfl sc_Desk_take_event.nd rfl rfl rfl (by with_unfolding_all rfl) (by repeat first | exact ClIn.nil | refine ClIn.cons rfl ?_) (.own (.out rfl rfl (.inl rfl) .nil)) (pi_list (pv 4)) (fun _ _ _ _ _ => ⟨(pg_name (i := 0) (show (["key", "self"] : List Str).Nodup from by decide +kernel) rfl (Or.inl rfl)), (pif_one (pt_val (pe_methB (pv 1) CL_Desk.cl F_Desk_is_closed pass0 (hr.mono (by decide)) (pc (pe_ix (ixK_tup (K := K) rfl) (pv 0) pe_int (fun _ _ => rfl)) pa_nil)))), (pe_op (opK_catT (K := K) rfl) (pe_op (opK_catT (K := K) rfl) (pe_tup (pc pe_str pa_nil)) (pv 0)) (pe_dget hu1 (pe_fldK (K := K) rfl (pv 1)) (pv 0) (fun _ _ => rfl)))⟩))
   (pss_one (ps_ret (pe_op op_cat (pv 7) (pv 8))))))))))), ?_⟩
  refine seq_abs fun Bq hBq => ?_
  refine ⟨_, rfl, x, dx, _, rfl, hx, fNo p d m _ (by decide +kernel) (by decide +kernel) (by decide +kernel) (by decide +kernel), _, rfl, x, dx, p, d, m, mk, pl, t, rfl, hx, hp, _, rfl, ?_⟩
  refine ite2 (fun hlt => ?_) (fun hlt => ?_)
  ·-- too late
   refine ⟨_, rfl, x, C, dx, _, _, rfl, hx, T.cl.cl, T.nS, fS p d m _, .inl ⟨rfl, _, SqL.of hm⟩, _, rfl, _, rfl, _, rfl, (by show 3 ≤ sizeLine; decide), fun q hq => ?_⟩
   have s1 := Same.new (o := .tup [.str n, .int t, .int a]) hq
   refine ⟨m, mx, .ref q, rfl, rfl, s1 _ _ hm, (by have := sizeLine_eq; have := hmx.len; lia), ?_⟩
   have kp1 : Kept H (upd (upd H q (.tup [.str n, .int t, .int a])) m (.lst (mx ++ [.ref q]))) m := fun b o e nb => by rw [upd_ne nb]; exact s1 _ _ e
   have nqm : q ≠ m := fun z => by rw [z, hm] at hq; cases hq
   have hq1 : upd (upd H q (.tup [.str n, .int t, .int a])) m (.lst (mx ++ [.ref q])) q = some (.tup [.str n, .int t, .int a]) := by rw [upd_ne nqm, upd_same]
   have hm1 : upd (upd H q (.tup [.str n, .int t, .int a])) m (.lst (mx ++ [.ref q])) m = some (.lst (mx ++ [.ref q])) := upd_same
   generalize upd (upd H q (.tup [.str n, .int t, .int a])) m (.lst (mx ++ [.ref q])) = H1 at *
   refine ⟨_, rfl, _, rfl, _, rfl, (by show 4 ≤ sizeLine; decide), fun r hr' => ⟨(by show 1 ≤ sizeLine; decide), fun l hl => ?_⟩⟩
   have s2 := (Same.new (o := .tup [.str "missed", .str n, .int t, .int a]) hr').trans (Same.new (o := .lst [.ref r]) hl)
   have nlm : l ≠ m := fun z => by rw [z, (Same.new hr') _ _ hm1] at hl; cases hl
   have kp2 : Kept H (upd (upd H1 r (.tup [.str "missed", .str n, .int t, .int a])) l (.lst [.ref r])) m := fun b o e nb => s2 _ _ (kp1 b o e nb)
   have tp := kp2.tup hm (fun r z => nomatch z)
   have nrl : r ≠ l := fun z => by rw [z, ← z, upd_same] at hl; cases hl
   refine kL hlt l [.ref r] _ kp2 (kp1.free nlm ((Same.new hr').free hl)) upd_same (.cons ⟨r, rfl, by rw [upd_ne nrl, upd_same]; rfl⟩ .nil) ⟨⟨dx, kp2 _ _ hx nxm⟩, kp2.seqT hm (fun r z => nomatch z) (fun o u z => nomatch z) hp, ⟨kvs, kp2 _ _ hd nmd.symm, hw.keep tp⟩, ⟨_, s2 _ _ hm1, (hmx.keep tp).snoc (s2 _ _ hq1)⟩, DA.nd⟩
  ·have hlt' : late mk (grace pl) t = false := Bool.eq_false_iff.mpr hlt
   subst hBq
   dsimp only [tNext]
   refine seq_abs fun Bq hBq => ?_
   refine ⟨_, rfl, x, C, dx, _, _, rfl, hx, T.cl.cl, T.nP, fP p d m _, _, rfl, p, pl, t, rfl, hp, ok, ht, fun lsp xsp H1 s1 hsp0 hsp T1 => ⟨lsp, rfl, ⟨_, SqL.of hsp⟩, fun kl hkl => ?_⟩⟩
   have T1' : ListAt id H1 xsp (wins pl t) := T1
   have lsx := T1'.len
   have lsp1 := spI_len ok t
   rw [wins_spI, List.length_map] at lsx
   refine comp_lR (K := K) (a := lsp) (xs := xsp) (fun i ys H' => Same H1 H' ∧ H' kl = some (.lst ys) ∧ KeysAt H' ys ((evKeys pl n t).take i)) ⟨Same.new hkl, upd_same, .nil⟩ (fun i ys H' h => h.2.1) (fun i ys H' _ h => h.1.seq (SqL.of hsp)) ?_ ?_
   ·rintro i y ys H2 hi ⟨s2, hk2, K2⟩
    obtain ⟨row, b, er, rfl, hb⟩ := T1'.get hi
    rw [wins_spI, List.getElem?_map] at er
    obtain ⟨q, eq, rfl⟩ := Option.map_eq_some_iff.mp er
    have etk : (evKeys pl n t).take (i + 1) = (evKeys pl n t).take i ++ [⟨n, q.1, q.2⟩] := by
     rw [List.take_add_one]
     have : (evKeys pl n t)[i]? = some ⟨n, q.1, q.2⟩ := by unfold evKeys; rw [List.getElem?_map, eq]; rfl
     rw [this]; rfl
    refine ⟨weak_set rfl, ?_⟩
    refine ⟨_, rfl, (by show 1 ≤ sizeLine; decide), fun c hc => ?_⟩
    have s3 := Same.new (o := .tup [.str n]) hc
    refine ⟨_, rfl, c, b, _, _, rfl, rfl, SqT.of upd_same, SqT.of (s3 _ _ (s2 _ _ hb)), (by intro z; cases z), (by show 3 ≤ sizeLine; decide), (fun z => nomatch z), fun _ r hr' => ?_⟩
    have s4 := s3.trans (Same.new (o := .tup ([.str n] ++ [.int q.1, .int q.2])) hr')
    have nrk : r ≠ kl := fun z => by rw [z, s3 _ _ hk2] at hr'; cases hr'
    refine ⟨ys, s4 _ _ hk2, ?_, ?_⟩
    ·rw [K2.len, List.length_take]
     have : (evKeys pl n t).length ≤ 100 := by unfold evKeys; rw [List.length_map]; exact lsp1
     have := sizeLine_eq
     lia
    ·refine ⟨fun b o e => ?_, upd_same, ?_⟩
     ·rw [upd_ne (ne_of_none e hkl)]
      exact s4 _ _ (s2 _ _ e)
     ·rw [etk]
      refine KeysAt.snoc (K2.keep fun a row e => ?_) ?_
      ·rw [upd_ne (ne_of e hk2 (by intro z; cases z))]
       exact s4 _ _ e
      ·rw [upd_ne nrk, upd_same]; rfl
   ·rintro xk H2 ⟨s2, hk2, K2⟩
    have elen : (evKeys pl n t).length = xsp.length := by unfold evKeys; rw [List.length_map]; exact lsx.symm
    rw [← elen, List.take_length] at K2
    have s12 := s1.trans s2
    subst hBq
    dsimp only [gName]
    refine seq_abs fun Bq hBq => ?_
    refine ⟨(by show 0 ≤ sizeLine; decide), fun ml hml0 => ?_⟩
    have s3 := s12.trans (Same.new (o := .lst []) hml0)
    have hk3 : upd H2 ml (.lst []) kl = some (.lst xk) := (Same.new hml0) _ _ hk2
    have K3 : KeysAt (upd H2 ml (.lst [])) xk (evKeys pl n t) := K2.keep fun a row e => (Same.new hml0) _ _ e
    have hml3 : upd H2 ml (.lst []) ml = some (.lst []) := upd_same
    generalize upd H2 ml (.lst []) = H3 at *
    subst hBq
    dsimp only [gName]
    refine ⟨fun σ' H' => ∃ (kl2 ml2 : Addr) (xk xm : List V) (ks mt : List Ky) (kvs2 : List (List Key × V)) (ws2 : List Wn), σ' = [some (.ref x), some (.str n), some (.int t), some (.int a), some (.ref kl2), some (.ref ml2), none, none, none] ∧ Kept H H' d ∧ H' kl2 = some (.lst xk) ∧ KeysAt H' xk ks ∧ H' ml2 = some (.lst xm) ∧ KeysAt H' xm mt ∧
     H' d = some (.dT kvs2) ∧ WinsP H' kvs2 ws2 ∧ ws2.length + 200 < 1000000 ∧ (ws2.map Wn.k).Nodup ∧ Mid pl n t ws mt ks ws2 ∧ ks.length ≤ 100 ∧ mt.length ≤ ws.length, ?_, ?_⟩
    ·have hx3 := s3 _ _ hx
     have hd3 := s3 _ _ hd
     have hw3 : WinsP H3 kvs ws := hw.keep fun a row e => s3 _ _ e
     refine ⟨_, rfl, x, C, dx, _, _, rfl, hx3, T.cl.cl, T.nP, fP p d m _, p, pl, rfl, s3.seqT hp, rfl, _, rfl, ?_⟩
     refine ite2 (fun hk => ?_) (fun hk => ?_)
     ·have hk' : pl.kind = ("pauses" : Str) := V.str.inj (of_decide_eq_true hk)
      obtain ⟨L, g, rfl⟩ : ∃ L g, pl = .pauses L g := by
       cases pl with
       | fixed l g => exact absurd hk' (show ¬ ("fixed" : Str) = "pauses" by decide +kernel)
       | sliding l s g => exact absurd hk' (show ¬ ("sliding" : Str) = "pauses" by decide +kernel)
       | pauses l g => exact ⟨l, g, rfl⟩
      rw [evKeys_pauses] at K3
      obtain ⟨ka, rfl, hka⟩ : ∃ ka, xk = [.ref ka] ∧ H3 ka = some (.tup (Ky.v ⟨n, t, t + L⟩)) := by
       cases K3 with
       | cons r t =>
        obtain ⟨ka, rfl, hka⟩ := r
        cases t
        exact ⟨ka, rfl, hka⟩
      refine ⟨_, rfl, x, dx, _, rfl, hx3, fNo p d m _ (by decide +kernel) (by decide +kernel) (by decide +kernel) (by decide +kernel), _, rfl, kl, _, 0, _, rfl, rfl, SqL.of hk3, rfl, x, dx, p, d, m, ka, mkV mk, ⟨n, t, t + L⟩, kvs, ws, rfl, hx3, hka, hd3, hw3, ⟨by lia, hfx⟩, fun l1 zs ks1 H4 s4 hl0 hl1 K4 pm pw => ?_⟩
      have pmn : ∀ k ∈ ks1, k.n = n ∧ k ∈ ws.map Wn.k := fun k hk => by
       obtain ⟨w, hw, rfl⟩ := List.mem_map.mp (pm.mem_iff.mp hk)
       obtain ⟨h1, h2⟩ := List.mem_filter.mp hw
       unfold meet at h2
       simp only [Bool.and_eq_true, decide_eq_true_eq] at h2
       exact ⟨h2.1, List.mem_map.mpr ⟨w, h1, rfl⟩⟩
      have pml : ks1.length ≤ ws.length := by
       rw [pm.length_eq, List.length_map]
       exact List.length_filter_le _ _
      have pnd : ks1.Nodup := pm.nodup_iff.mpr (DA.nd.sublist ((List.filter_sublist).map _))
      have hk4 := s4 _ _ hk3
      refine ⟨_, rfl, _, rfl, l1, kl, zs, [.ref ka], rfl, rfl, hl1, hk4, ?_, fun c hc => ?_⟩
      ·have := K4.len
       have := sizeLine_eq
       simp only [List.length_singleton]
       lia
      have s5 := Same.new (o := .lst (zs ++ [.ref ka])) hc
      have hc5 : upd H4 c (.lst (zs ++ [.ref ka])) c = some (.lst (zs ++ [.ref ka])) := upd_same
      have K5 : KeysAt (upd H4 c (.lst (zs ++ [.ref ka]))) (zs ++ [.ref ka]) (ks1 ++ [⟨n, t, t + L⟩]) := (K4.keep fun a row e => s5 _ _ e).snoc (s5 _ _ (s4 _ _ hka))
      generalize upd H4 c (.lst (zs ++ [.ref ka])) = H5 at *
      have hall : ∀ k ∈ ks1 ++ [(⟨n, t, t + L⟩ : Ky)], k.n = n := fun k hk => by
       rcases List.mem_append.mp hk with h | h
       ·exact (pmn k h).1
       ·rw [List.mem_singleton.mp h]
      obtain ⟨k0, ek0⟩ : ∃ k0, (ks1 ++ [(⟨n, t, t + L⟩ : Ky)])[0]? = some k0 := ⟨(ks1 ++ [(⟨n, t, t + L⟩ : Ky)])[0]'(by simp), by simp⟩
      have ek0n : k0.n = n := hall k0 (List.mem_of_getElem? ek0)
      refine ⟨c, _, _, k0, rfl, SqL.of hc5, K5, ek0, (by simp; lia), fun r sM eM H6 s6 hr0 hs1 hs2 he1 he2 hr6 => ⟨(by show 1 ≤ sizeLine; decide), fun q hq => ?_⟩⟩
      rw [ek0n] at hr6
      have s36 := (s4.trans s5).trans s6
      have s7 := Same.new (o := .lst [.ref r]) hq
      have s37 := s36.trans s7
      have hq7 : upd H6 q (.lst [.ref r]) q = some (.lst [.ref r]) := upd_same
      have hr7 : upd H6 q (.lst [.ref r]) r = some (.tup (Ky.v ⟨n, sM, eM⟩)) := s7 _ _ hr6
      have hl7 : upd H6 q (.lst [.ref r]) l1 = some (.lst zs) := s7 _ _ (s6 _ _ (s5 _ _ hl1))
      have K7 : KeysAt (upd H6 q (.lst [.ref r])) zs ks1 := K4.keep fun a row e => s7 _ _ (s6 _ _ (s5 _ _ e))
      have hql : q ≠ d := fun z => by rw [z, s36 _ _ hd3] at hq; cases hq
      have hll : l1 ≠ d := fun z => by rw [z, hd3] at hl0; cases hl0
      generalize upd H6 q (.lst [.ref r]) = H7 at *
      refine ⟨_, rfl, x, dx, _, rfl, s37 _ _ hx3, fNo p d m _ (by decide +kernel) (by decide +kernel) (by decide +kernel) (by decide +kernel), _, rfl, _, rfl, q, [.ref r], 0, _, rfl, rfl, SqL.of hq7, rfl, x, dx, p, d, m, l1, r, mkV mk, ⟨n, sM, eM⟩, zs, ks1, kvs, ws, rfl, s37 _ _ hx3, hr7, hl7, K7, s37 _ _ hd3, hw3.keep (fun a row e => s37 _ _ e), by lia, pnd, fun k hk => (pmn k hk).2, fun H8 kvs8 kp8 hd8 hw8 => ?_⟩
      have tp8 := kp8.tups (s37 _ _ hd3)
      have lM := moveW_len (g := ⟨n, sM, eM⟩) (ks := ks1) (ws := ws)
      refine ⟨q, l1, [.ref r], zs, [⟨n, sM, eM⟩], ks1, kvs8, moveW ws ks1 ⟨n, sM, eM⟩, rfl, (Same.kept (s3.trans s37)).trans kp8, kp8 _ _ hq7 hql, .cons ⟨r, rfl, tp8 _ _ hr7⟩ .nil, kp8 _ _ hl7 hll, K7.keep tp8, hd8, hw8, by lia, moveW_nodup DA.nd, .inr ⟨rfl, pm, pw, sM, eM, ?_, hs2 ⟨n, t, t + L⟩ (by simp), fun k hk => hs2 k (by simp [hk]), ?_, he2 ⟨n, t, t + L⟩ (by simp), fun k hk => he2 k (by simp [hk]), rfl, rfl⟩, (by simp), pml⟩
      ·obtain ⟨k, hk, e⟩ := hs1
       rcases List.mem_append.mp hk with h | h
       ·exact .inr ⟨k, h, e⟩
       ·rw [List.mem_singleton.mp h] at e
        exact .inl e.symm
      ·obtain ⟨k, hk, e⟩ := he1
       rcases List.mem_append.mp hk with h | h
       ·exact .inr ⟨k, h, e⟩
       ·rw [List.mem_singleton.mp h] at e
        exact .inl e.symm
     ·have hk' : isP pl = false := by
       cases pl with
       | fixed l g => rfl
       | sliding l s g => rfl
       | pauses l g => exact absurd (decide_eq_true rfl) hk
      refine ⟨kl, ml, xk, [], evKeys pl n t, [], kvs, ws, rfl, Same.kept s3, hk3, K3, hml3, .nil, hd3, hw3, by lia, DA.nd, .inl ⟨hk', rfl, rfl, rfl⟩, ?_, Nat.zero_le _⟩
      unfold evKeys
      rw [List.length_map]
      exact lsp1
    ·rintro σ' H4 ⟨kl2, ml2, xk2, xm, ks, mt, kvs2, ws2, rfl, kp4, hkl4, K4, hml4, M4, hd4, hw4, hws4, nd4, mid, lks, lmt⟩
     have hx4 := kp4 _ _ hx nxd
     have nkd : kl2 ≠ d := ne_of hkl4 hd4 (by intro z; cases z)
     have nmd' : ml2 ≠ d := ne_of hml4 hd4 (by intro z; cases z)
     refine seq_abs fun Bq hBq => ?_
     refine ⟨_, rfl, kl2, rfl, ⟨_, SqL.of hkl4⟩, ?_⟩
     refine for_list (K := K) (a := kl2) (xs := xk2) (fun i σ H' => ∃ (v : Option V) (kvs5 : List (List Key × V)), σ = [some (.ref x), some (.str n), some (.int t), some (.int a), some (.ref kl2), some (.ref ml2), v, none, none] ∧ Kept H4 H' d ∧ H' d = some (.dT kvs5) ∧ WinsP H' kvs5 (addAll a ws2 (ks.take i)))
      ⟨none, kvs2, rfl, Kept.refl _ _, hd4, hw4⟩ (fun i σ H' _ ⟨_, _, _, kp, _⟩ => SqL.of (kp _ _ hkl4 nkd)) ?_ ?_
     ·rintro i y σ H5 hi ⟨v, kvs5, rfl, kp5, hd5, hw5⟩
      obtain ⟨kk, b, ek, rfl, hb⟩ := K4.get hi
      have hx5 := kp5 _ _ hx4 nxd
      refine ⟨_, rfl, x, dx, _, rfl, hx5, fNo p d m _ (by decide +kernel) (by decide +kernel) (by decide +kernel) (by decide +kernel), _, rfl, _, rfl, (by show 2 ≤ sizeLine; decide), fun q hq => ?_⟩
      have s6 := Same.new (o := .tup [.int 1, .int a]) hq
      have hl5 := addAll_len (a := a) (ks := ks.take i) (ws := ws2)
      refine ⟨x, dx, p, d, m, b, q, mkV mk, kk.n, kk.s, kk.e, 1, a, kvs5, _, rfl, s6 _ _ hx5, s6 _ _ (kp5.tups hd4 _ _ hb), upd_same, s6 _ _ hd5, hw5.keep (fun a row e => s6 _ _ e), ?_, fun H6 kvs6 kp6 hd6 hw6 => ?_⟩
      ·rw [hw5.len]
       have := List.length_take_le' i ks
       have := sizeLine_eq
       lia
      ·refine ⟨_, kvs6, rfl, (kp5.trans (Same.kept s6)).trans kp6, hd6, ?_⟩
       rw [List.take_add_one, ek]
       show WinsP H6 kvs6 (addAll a ws2 (ks.take i ++ [kk]))
       rw [addAll_snoc]
       exact hw6
     ·rintro σ H5 ⟨v, kvs5, rfl, kp5, hd5, hw5⟩
      rw [K4.len, List.take_length] at hw5
      have hx5 := kp5 _ _ hx4 nxd
      have tp5 := kp5.tups hd4
      have hkl5 := kp5 _ _ hkl4 nkd
      have hml5 := kp5 _ _ hml4 nmd'
      have K5 := K4.keep tp5
      have M5 := M4.keep tp5
      subst hBq
      try dsimp only [gName]
      refine seq_abs fun Bq hBq => ?_
      refine ⟨_, rfl, ml2, rfl, ⟨_, SqL.of hml5⟩, fun gl hgl => ?_⟩
      refine comp_lR (K := K) (a := ml2) (xs := xm) (fun i ys H' => Same H5 H' ∧ H' gl = some (.lst ys) ∧ ListAt Say.v H' ys (gones mk (mt.take i) ks)) ⟨Same.new hgl, upd_same, .nil⟩ (fun i ys H' h => h.2.1) (fun i ys H' _ h => h.1.seq (SqL.of hml5)) ?_ ?_
      ·rintro i y ys H6 hi ⟨s6, hg6, G6⟩
       obtain ⟨kk, b, ek, rfl, hb⟩ := M5.get hi
       refine ⟨weak_set rfl, ?_⟩
       refine ⟨_, rfl, _, rfl, kl2, xk2, kk.d, ks.map Ky.d, rfl, s6.seq (SqL.of hkl5), key_dn (s6 _ _ hb), (K5.keep fun a row e => s6 _ _ e).dns, ?_, fun bq hbq => ⟨_, rfl, ?_⟩⟩
       ·intro e he
        obtain ⟨k', _, rfl⟩ := List.mem_map.mp he
        exact ⟨rfl, Nat.le_of_ble_eq_true rfl⟩
       have etk : ∀ zs, gones mk (mt.take i) ks = zs → gones mk (mt.take (i + 1)) ks = zs ++ gones mk [kk] ks := fun zs hz => by
        rw [← hz, List.take_add_one, ek]
        exact gones_app ..
       have hin : bq = true ↔ kk ∈ ks := by
        rw [hbq]
        constructor
        ·intro h
         obtain ⟨k', h1, h2⟩ := List.mem_map.mp h
         rw [← kyD_inj h2]
         exact h1
        ·exact fun h => List.mem_map.mpr ⟨kk, h, rfl⟩
       refine ite2 (fun h1 => ?_) (fun h1 => ?_)
       ·have hnin : kk ∉ ks := fun z => by
         rw [hin.mpr z] at h1
         cases h1
        refine ⟨_, rfl, x, dx, _, rfl, s6 _ _ hx5, fNo p d m _ (by decide +kernel) (by decide +kernel) (by decide +kernel) (by decide +kernel), _, rfl, b, _, 2, _, rfl, rfl, SqT.of (s6 _ _ hb), rfl, x, dx, p, d, m, mk, kk.e, rfl, s6 _ _ hx5, _, rfl, ?_⟩
        refine ite2 (fun h2 => ?_) (fun h2 => ?_)
        ·refine ⟨(by show 1 ≤ sizeLine; decide), fun c hc => ?_⟩
         have s7 := Same.new (o := .tup [.str "gone"]) hc
         refine ⟨_, rfl, c, b, _, _, rfl, rfl, SqT.of upd_same, SqT.of (s7 _ _ (s6 _ _ hb)), (by intro z; cases z), (by show 4 ≤ sizeLine; decide), (fun z => nomatch z), fun _ r hr' => ?_⟩
         have s8 := s7.trans (Same.new (o := .tup ([.str "gone"] ++ kk.v)) hr')
         have nrg : r ≠ gl := fun z => by rw [z, s7 _ _ hg6] at hr'; cases hr'
         refine ⟨ys, s8 _ _ hg6, ?_, fun b o e => ?_, upd_same, ?_⟩
         ·rw [G6.len]
          have := gones_len mk (mt.take i) ks
          have := List.length_take_le' i mt
          have := sizeLine_eq
          lia
         ·rw [upd_ne (ne_of_none e hgl)]
          exact s8 _ _ (s6 _ _ e)
         ·rw [etk _ rfl, gones_one_t hnin h2]
          refine ListAt.snoc (G6.keep fun a row e => ?_) ?_
          ·rw [upd_ne (ne_of e hg6 (by intro z; cases z))]
           exact s8 _ _ e
          ·rw [upd_ne nrg, upd_same]; rfl
        ·refine ⟨ys, s6, hg6, ?_⟩
         rw [etk _ rfl, gones_one_f (fun z => h2 z.2), List.append_nil]
         exact G6
       ·have hiq : kk ∈ ks := by
         refine hin.mp ?_
         cases bq with
         | true => rfl
         | false => exact absurd rfl h1
        refine ⟨ys, s6, hg6, ?_⟩
        rw [etk _ rfl, gones_one_f (fun z => z.1 hiq), List.append_nil]
        exact G6
      ·rintro yg H6 ⟨s6, hg6, G6⟩
       rw [M5.len, List.take_length] at G6
       have hx6 := s6 _ _ hx5
       have K6 := K5.keep fun a row e => s6 _ _ e
       have hkl6 := s6 _ _ hkl5
       have hd6 := s6 _ _ hd5
       have hw6 : WinsP H6 kvs5 (addAll a ws2 ks) := hw5.keep fun a row e => s6 _ _ e
       subst hBq
       try dsimp only [gName]
       refine seq_abs fun Bq hBq => ?_
       refine ⟨_, rfl, kl2, rfl, ⟨_, SqL.of hkl6⟩, fun tl htl => ?_⟩
       refine comp_lR (K := K) (a := kl2) (xs := xk2) (fun i ys H' => Same H6 H' ∧ H' tl = some (.lst ys) ∧ ListAt Say.v H' ys (tolds mk (addAll a ws2 ks) (ks.take i))) ⟨Same.new htl, upd_same, .nil⟩ (fun i ys H' h => h.2.1) (fun i ys H' _ h => h.1.seq (SqL.of hkl6)) ?_ ?_
       ·rintro i y ys H7 hi ⟨s7, hg7, G7⟩
        obtain ⟨kk, b, ek, rfl, hb⟩ := K6.get hi
        have etk : tolds mk (addAll a ws2 ks) (ks.take (i + 1)) = tolds mk (addAll a ws2 ks) (ks.take i) ++ tolds mk (addAll a ws2 ks) [kk] := by
         rw [List.take_add_one, ek]
         exact tolds_app ..
        refine ⟨weak_set rfl, ?_⟩
        refine ⟨_, rfl, x, dx, _, rfl, s7 _ _ hx6, fNo p d m _ (by decide +kernel) (by decide +kernel) (by decide +kernel) (by decide +kernel), _, rfl, b, _, 2, _, rfl, rfl, SqT.of (s7 _ _ hb), rfl, x, dx, p, d, m, mk, kk.e, rfl, s7 _ _ hx6, _, rfl, ?_⟩
        refine ite2 (fun h2 => ?_) (fun h2 => ?_)
        ·refine ⟨(by show 1 ≤ sizeLine; decide), fun c hc => ?_⟩
         have s8 := Same.new (o := .tup [.str "told"]) hc
         refine ⟨_, rfl, c, b, _, _, rfl, rfl, SqT.of upd_same, SqT.of (s8 _ _ (s7 _ _ hb)), (by intro z; cases z), (by show 4 ≤ sizeLine; decide), (fun z => nomatch z), fun _ r hr' => ?_⟩
         have s9 := (Same.new (o := .tup [.str "told"]) hc).trans (Same.new (o := .tup ([.str "told"] ++ kk.v)) hr')
         have hr9 : upd (upd H7 c (.tup [.str "told"])) r (.tup ([.str "told"] ++ kk.v)) r = some (.tup ([.str "told"] ++ kk.v)) := upd_same
         generalize upd (upd H7 c (.tup [.str "told"])) r (.tup ([.str "told"] ++ kk.v)) = H9 at *
         have s79 := s7.trans s9
         have hmem : kk ∈ (addAll a ws2 ks).map Wn.k := addAll_has (.inl (List.mem_of_getElem? ek))
         rcases hw6.get kk.l with ⟨_, h4⟩ | ⟨vv, ww, h3, h4, h5, va, rfl, h6⟩
         ·obtain ⟨w, hw, ew⟩ := List.mem_map.mp hmem
          have := List.find?_eq_none.mp h4 w hw
          exact absurd (decide_eq_true (show w.ky = kk.l by rw [Wn.ky_k, ew])) this
         refine ⟨_, rfl, x, C, dx, _, _, rfl, s79 _ _ hx6, T.cl.cl, T.nW, fW p d m _, _, rfl, d, .ref va, rfl, ?_, ?_⟩
         ·rw [← h3]
          exact DGet.t (k := kk.l) (s79 _ _ hd6) (s79 _ _ hb)
         refine ⟨r, va, _, _, rfl, rfl, SqT.of hr9, SqT.of (s79 _ _ h6), (by intro z; cases z), (by show 6 ≤ sizeLine; decide), (fun z => nomatch z), fun _ r2 hr2 => ?_⟩
         have s10 := s9.trans (Same.new (o := .tup (([.str "told"] ++ kk.v) ++ [.int ww.c, .int ww.t])) hr2)
         have nrg : r2 ≠ tl := fun z => by rw [z, s9 _ _ hg7] at hr2; cases hr2
         refine ⟨ys, s10 _ _ hg7, ?_, fun b o e => ?_, upd_same, ?_⟩
         ·rw [G7.len]
          have := tolds_len mk (addAll a ws2 ks) (ks.take i)
          have := List.length_take_le' i ks
          have := sizeLine_eq
          lia
         ·rw [upd_ne (ne_of_none e htl)]
          exact s10 _ _ (s7 _ _ e)
         ·rw [etk, tolds_one_t h2 h4]
          refine ListAt.snoc (G7.keep fun a row e => ?_) ?_
          ·rw [upd_ne (ne_of e hg7 (by intro z; cases z))]
           exact s10 _ _ e
          ·rw [upd_ne nrg, upd_same]
           have : kk = ww.k := (ky_inj (a := ww.k) (b := kk) h5).symm
           rw [this]
           rfl
        ·refine ⟨ys, s7, hg7, ?_⟩
         rw [etk, tolds_one_f h2, List.append_nil]
         exact G7
       ·rintro yt H7 ⟨s7, ht7, G7⟩
        subst hBq
        try dsimp only [gName]
        rw [K6.len, List.take_length] at G7
        have hg7 := s7 _ _ hg6
        have lg := gones_len mk mt ks
        have lt := tolds_len mk (addAll a ws2 ks) ks
        have s57 := s6.trans s7
        refine ⟨_, rfl, _, rfl, gl, tl, yg, yt, rfl, rfl, hg7, ht7, ?_, fun l hl => ?_⟩
        ·rw [G6.len, G7.len]
         have := sizeLine_eq
         lia
        have s8 := Same.new (o := .lst (yg ++ yt)) hl
        have s58 := s57.trans s8
        have kp : Kept H (upd H7 l (.lst (yg ++ yt))) d := (kp4.trans kp5).trans (Same.kept s58)
        have tpA := kp.tups hd
        have nld : l ≠ d := fun z => by rw [z, s57 _ _ hd5] at hl; cases hl
        refine kN hlt' l _ _ mt ks _ mid.rel kp ((kp4.trans kp5).free nld (s57.free hl)) upd_same (((G6.keep fun a row e => s8 _ _ (s7 _ _ e))).app (G7.keep fun a row e => s8 _ _ e)) ⟨⟨dx, kp _ _ hx nxd⟩, kp.seqT hd (fun r z => nomatch z) (fun o u z => nomatch z) hp, ⟨kvs5, s58 _ _ hd5, hw5.keep fun a row e => s58 _ _ e⟩, ⟨mx, kp _ _ hm nmd, hmx.keep tpA⟩, addAll_nodup nd4⟩
end
end K2
namespace K2
open PySem PySem.Spec PyProof.Rows L2 K1
noncomputable def stale (mk : Option Int) (t : Int) : Bool := match mk with
 | none => false
 | some m => decide (t ≤ m)
noncomputable def fresh (mk : Option Int) (t : Int) (w : Wn) : Bool := decide (w.e ≤ t) && !closed mk w.e
noncomputable def Wn.ed (w : Wn) : Dv := .tup [.int w.e, .int w.s, .str w.n]
noncomputable def shE : Sh := .tup [.int, .int, .str]
noncomputable def toldV (w : Wn) : List V := [.str "told", .str w.n, .int w.s, .int w.e, .int w.c, .int w.t]
noncomputable def lamPos (s : Stmt) : Pos := match (defBody s).getLast? with
 | some (.Return (some (.Call _ _ [⟨_, .Lambda _ _ _ p, _⟩] _)) _) => p
 | _ => ⟨0, 0, 0, 0⟩
noncomputable abbrev lp : Pos := lamPos st_Desk_take_mark
noncomputable abbrev lq : Str := (envOfC "Desk.take_mark" (defScope st_Desk_take_mark) 0 0 .none).qual ++ "<lambda>"
inductive spMarkI (K : PySem.W.Frag) (mg : Str → Option Value) (C : Addr) (Pt : Addr) (vs : List V) (H : Hp) (Q : VK) : Prop
 | mk (x p d m : Addr) (pl : Pl) (mk : Option Int) (ws : List Wn) (ms : List (Str × Int × Int)) (t : Int) : (vs = [.ref x, .int t]) → (DeskAt K C H x p d m pl mk ws ms) → ((ws.length + 200 < 1000000 ∧ ws.length < TS.MX)) → (lamTab H Pt lp lq) → (bltAt K mg H) → ((stale mk t = true → ∀ (l : Addr) (H' : Hp), Same H H' → H l = none → H' l = some (.lst []) → Q (.ref l) H')) → ((stale mk t = false → ∀ (l : Addr) (zs : List V) (rs : List Wn) (H' : Hp), rs.Perm (ws.filter (fresh mk t)) → (rs.map Wn.ed).Pairwise (fun d e => dcmp d e ≠ .gt) → (∀ b o, H b = some o → b ≠ x → b ≠ Pt → H' b = some o) → H l = none → H' l = some (.lst zs) → ListAt toldV H' zs rs → DeskAt K C H' x p d m pl (some t) ws ms → lamTab H' Pt lp lq → Q (.ref l) H')) → spMarkI K mg C Pt vs H Q
noncomputable def spMark (K : PySem.W.Frag) (mg : Str → Option Value) (C Pt : Addr) : Sp := fun vs H Q d_ => spMarkI K mg C Pt vs H Q
theorem stale_if {K : PySem.W.Frag} {C x dx p d m : Addr} {mk : Option Int} {t : Int} {H : Hp} {σ : L2.St} (T : DeskIn K C) (hx : H x = some (.ins C dx (flds p (mkV mk) d m))) (e0 : σ[0]? = some (some (.ref x))) (e1 : σ[1]? = some (some (.int t))) {G : Bool → Hp → Prop} (h : G (stale mk t) H) :
  tAnd (tTest (tOp (fun x y H Q => y = V.non ∧ Q (V.bl !decide (x = V.non)) H) (tFld K (tVar 0) "mark") (tC V.non))) (tTest (tOp zLe (tVar 1) (tFld K (tVar 0) "mark"))) σ H G := by
 refine ⟨_, e0, x, C, dx, _, _, rfl, hx, T.cl.cl, T.nM, fM p d m _, rfl, _, rfl, ?_⟩
 cases mk with
 | none => exact iteF h
 | some mm => exact iteT ⟨_, e1, _, e0, x, C, dx, _, _, rfl, hx, T.cl.cl, T.nM, fM p d m _, _, _, rfl, rfl, _, rfl, h⟩
theorem sqT_keep {K : PySem.W.Frag} {H H' : Hp} {p : Addr} {row : List V} (k1 : ∀ a row, H a = some (.tup row) → H' a = some (.tup row)) (k2 : ∀ a o u, H a = some (.frz o u) → H' a = some (.frz o u)) (h : SqT K H p row) : SqT K H' p row := by
 rcases h with (h | ⟨o, h⟩) | h
 ·exact .inl (.inl (k1 _ _ h))
 ·exact .inl (.inr ⟨o, k2 _ _ _ h⟩)
 ·exact .inr h
theorem lamTab_keep {H H' : Hp} {Pt : Addr} {q : Pos} {z : Str} (h : lamTab H Pt q z) (k1 : ∀ ps, H Pt = some (.tbl ps) → H' Pt = some (.tbl ps)) (k2 : ∀ a o u, H a = some (.frz o u) → H' a = some (.frz o u)) : lamTab H' Pt q z := by
 rcases h with h | ⟨c', oc, vs, t, h1, h2, h3⟩
 ·exact .inl (k1 _ h)
 ·exact .inr ⟨c', oc, vs, t, k1 _ h1, k2 _ _ _ h2, h3⟩
theorem bltAt_keep {K : PySem.W.Frag} {mg : Str → Option Value} {H H' : Hp} (h : bltAt K mg H) (k2 : ∀ a o u, H a = some (.frz o u) → H' a = some (.frz o u)) : bltAt K mg H' := by
 obtain ⟨bm, ob, b1, b2, b3, b4⟩ := h
 exact ⟨bm, ob, b1, b2, b3.elim .inl fun z => .inr (k2 _ _ _ z), b4⟩
theorem lamTab_tbl {H : Hp} {Pt : Addr} {q : Pos} {z : Str} (h : lamTab H Pt q z) : ∃ ps, H Pt = some (.tbl ps) := by
 rcases h with h | ⟨c', oc, vs, t, h1, h2, h3⟩
 ·exact ⟨_, h⟩
 ·exact ⟨_, h1⟩
theorem told_perm {H : Hp} {ys : List V} {ws : List Wn} {ps : List (V × Dv)} (h : ListAt toldV H ys ws) (p : ps.Perm (ys.zip (ws.map Wn.ed))) : ∃ rs, rs.Perm ws ∧ ListAt toldV H (ps.map (·.1)) rs ∧ ps.map (·.2) = rs.map Wn.ed := by
 have h1 : Paired (fun (q : V × Dv) w => q.2 = w.ed ∧ ∃ a, q.1 = .ref a ∧ H a = some (.tup (toldV w))) (ys.zip (ws.map Wn.ed)) ws := by
  clear p
  induction h with
  | nil => exact .nil
  | cons r t ih => exact .cons ⟨rfl, r⟩ ih
 obtain ⟨rs, p1, p2⟩ := paired_perm p.symm h1
 refine ⟨rs, p1, ?_, ?_⟩
 ·clear p h1 p1
  induction p2 with
  | nil => exact .nil
  | cons r t ih => exact .cons r.2 ih
 ·clear p h1 p1
  induction p2 with
  | nil => rfl
  | cons r t ih => rw [List.map_cons, List.map_cons, ih, r.1]
section
variable {P : Program} {w : World} {K : PySem.W.Frag} {mg : Str → Option Value} {C Pt : Addr}
theorem f_mark (D : MethInT K C "take_mark" "Desk.take_mark" st_Desk_take_mark Pt) (M : MG K mg) (B : Bi K) (T : DeskIn K C) (F_Desk_is_closed : MethB P w K mg CX0 C "is_closed" ["self", "end"] 1 (spClosed C)) : MethB P w K mg CX0 C "take_mark" ["self", "time"] 4 (spMark K mg C Pt) := by
 refine D.fn sc_Desk_take_mark bd_Desk_take_mark (fun vs H Q E h => ?_) (fun f c base A outer s H vs Q E hcd hr h => ?_)
 ·obtain ⟨x, p, d, m, pl, mk, ws, ms, t, rfl, _⟩ := h
  rfl
 ·obtain ⟨x, p, d, m, pl, mk, ws, ms, t, rfl, DA, ⟨hwl, hfx⟩, hT, hB, kS, kN⟩ := h
  have CL_Desk := T.cl
  have hu1 := hu_of hr
  have hu : (A.deeper (envOfC "Desk.take_mark" (defScope st_Desk_take_mark) s.heap.objs.size f (.ref c))).units + 64 < cLine := hr.units
  have hu70 : (A.deeper (envOfC "Desk.take_mark" (defScope st_Desk_take_mark) s.heap.objs.size f (.ref c))).units + 70 < cLine := by have := hr.un; lia
  refine ⟨_, (pss_cons (ps_if (PW.pt (pw_and (pt_cmpR op_notN (pe_fld (pv 0) rfl) pe_non (nomark _)) (pw_and1 (pt_cmpR oLe (pv 1) (pe_fld (pv 0) rfl) (nomark _))))) (pss_one (ps_ret (pe_lst pa_nil))) pss_nil)
   (pss_cons (ps_thaw (ps_setC (k := 2) (NY := ["key", "tally", "time", "self"]) (js := [none, none, some 1, some 0]) rfl sc_Desk_take_mark.nd rfl rfl rfl (by with_unfolding_all rfl) (by repeat first | exact ClIn.nil | refine ClIn.cons rfl ?_) (.own (.own (.out rfl rfl (.inl rfl) (.out rfl rfl (.inl rfl) .nil)))) (pi_ditems (pe_bm0 PySem.F.plainAttrs_dict PySem.F.slot_dict_items PySem.F.type_dict_items mt_items (pe_fld (pv 0) rfl))) (fun _ _ _ _ _ => ⟨(pg_tupK (n := 2) (K := K) rfl rfl (pgs_cons (pg_name (i := 0) (show (["key", "tally", "time", "self"] : List Str).Nodup from by decide +kernel) rfl (Or.inl rfl)) (pgs_cons (pg_name (i := 1) (show (["key", "tally", "time", "self"] : List Str).Nodup from by decide +kernel) rfl (Or.inl rfl)) pgs_nil))), (pif_one (PW.pt (pw_and (pt_cmpR oLe (pe_ix (ixK_tup (K := K) rfl) (pv 0) pe_int (fun _ _ => rfl)) (pv 2) (nomark _)) (pw_and1 (pt_not (pt_val (pe_methB (pv 3) CL_Desk.cl F_Desk_is_closed pass0 (hr.mono (by decide)) (pc (pe_ix (ixK_tup (K := K) rfl) (pv 0) pe_int (fun _ _ => rfl)) pa_nil)))))))), (pe_op (opK_catT (K := K) rfl) (pe_op (opK_catT (K := K) rfl) (pe_tup (pc pe_str pa_nil)) (pv 0)) (pv 1))⟩)))
   (pss_cons (ps_fld (pv 0) (pv 1) rfl)
   (pss_one (ps_ret (pe_sortedLam hu70 (hr.mono (by decide)) rfl (M.no _ B.b_sorted) (pv 2) (by with_unfolding_all rfl) (by rfl) (by rfl) hcd (by rfl) (by intros; rfl) (by exact ⟨rfl, rfl, rfl, by decide +kernel, rfl, by decide +kernel, by decide +kernel⟩) (fun _ _ _ _ _ _ => (pe_tup (pc (pe_ix (ixK_tup (K := K) rfl) (pv 0) pe_int (fun _ _ => rfl)) (pc (pe_ix (ixK_tup (K := K) rfl) (pv 0) pe_int (fun _ _ => rfl)) (pc (pe_ix (ixK_tup (K := K) rfl) (pv 0) pe_int (fun _ _ => rfl)) pa_nil))))))))))), ?_⟩
  obtain ⟨dx, hx⟩ := DA.ob
  obtain ⟨kvs, hd, hw⟩ := DA.wd
  obtain ⟨mx, hm, hmx⟩ := DA.ml
  have hp := DA.pl
  refine stale_if T hx rfl rfl ?_
  refine ite2 (fun hs => ?_) (fun hs => ?_)
  ·exact ⟨(by show 0 ≤ sizeLine; decide), fun l hl => kS hs l _ (Same.new hl) hl upd_same⟩
  ·have hs' : stale mk t = false := Bool.eq_false_iff.mpr hs
   refine ⟨d, .dT kvs, hd, True.intro, _, rfl, x, C, dx, _, _, rfl, hx, T.cl.cl, T.nW, fW p d m _, .inr (.inr (.inl ⟨rfl, .inr ⟨kvs, hd⟩⟩)), d, kvs, rfl, rfl, hd, fun v hv => ⟨v, d, kvs, rfl, upd_same, (by rw [upd_ne (ne_of_none hd hv)]; exact hd), fun o => ?_⟩⟩
   intro l hl
   have ndv : d ≠ v := ne_of_none hd hv
   have ndl : d ≠ l := ne_of_none upd_same hl
   have hl0 : H l = none := by
    rw [upd_ne ndl.symm] at hl
    exact (Same.new hv).free hl
   have hlen := hw.len
   have nxd : x ≠ d := ne_of hx hd (by intro z; cases z)
   refine comp_it (n := kvs.length) (fun i ys H' => (∀ c z, H c = some z → c ≠ d → H' c = some z) ∧ H' d = some (.frz o (.dT kvs)) ∧ H' l = some (.lst ys) ∧ ListAt toldV H' ys ((ws.take i).filter (fresh mk t))) ⟨fun c z e n => ?_, ?_, upd_same, .nil⟩ ?_ ?_ ?_ ?_ ?_
   ·rw [upd_ne (ne_of_none e hl0), upd_ne n, upd_ne (ne_of_none e hv)]
    exact e
   ·rw [upd_ne ndl, upd_same]
   ·rintro i ys H' ⟨_, _, h, _⟩
    exact h
   ·rintro i ys H' hi ⟨_, h, _⟩
    exact ⟨kvs, h, hi⟩
   ·rintro ys H' ⟨_, h, _⟩
    exact ⟨kvs, h, Nat.le_refl _⟩
   ·rintro i y ys H1 H2 hi ⟨kp, hfd, hll, hk⟩ yl
    obtain ⟨kk, v2, b, tq, ek, rfl, ht, hb, rfl⟩ := yl kvs hfd
    obtain ⟨w, ew, rfl, a0, rfl, ha0⟩ := hw.at ek
    have st := Same.new (o := .tup [.ref b, .ref a0]) ht
    have htk : (ws.take (i + 1)).filter (fresh mk t) = (ws.take i).filter (fresh mk t) ++ [w].filter (fresh mk t) := by rw [List.take_add_one, ew, ← List.filter_append]; rfl
    have ha1 : H1 a0 = some (.tup [.int w.c, .int w.t]) := kp _ _ ha0 (ne_of ha0 hd (by intro z; cases z))
    have hx1 := kp _ _ hx nxd
    refine ⟨tq, [.ref b, .ref a0], rfl, SqT.of upd_same, rfl, _, _, rfl, _, _, rfl, rfl, ⟨rfl, fun i v e => ?_⟩, ?_⟩
    ·rcases i with _ | _ | _ | _ | i <;> simp [subSt] at e ⊢ <;> first | exact e | skip
    refine ⟨_, rfl, b, _, 2, _, rfl, rfl, SqT.of (st _ _ hb), rfl, _, rfl, _, _, rfl, rfl, _, rfl, ?_⟩
    refine ite2 (fun h1 => ?_) (fun h1 => ?_)
    ·have h1' : w.e ≤ t := of_decide_eq_true h1
     refine ⟨_, rfl, x, dx, _, rfl, st _ _ hx1, fNo p d m _ (by decide +kernel) (by decide +kernel) (by decide +kernel) (by decide +kernel), _, rfl, b, _, 2, _, rfl, rfl, SqT.of (st _ _ hb), rfl, x, dx, p, d, m, mk, w.e, rfl, st _ _ hx1, _, rfl, ?_⟩
     refine ite2 (fun h2 => ?_) (fun h2 => ?_)
     ·have hf : [w].filter (fresh mk t) = [w] := by
       have : fresh mk t w = true := by unfold fresh; rw [h2, decide_eq_true h1']; rfl
       simp [this]
      refine ⟨(by show 1 ≤ sizeLine; decide), fun c hc => ?_⟩
      have s8 := st.trans (Same.new (o := .tup [.str "told"]) hc)
      refine ⟨_, rfl, c, b, _, _, rfl, rfl, SqT.of upd_same, SqT.of (s8 _ _ hb), (by intro z; cases z), (by show 4 ≤ sizeLine; decide), (fun z => nomatch z), fun _ r hr' => ?_⟩
      have s9 := s8.trans (Same.new (o := .tup ([.str "told"] ++ w.ky.map kV)) hr')
      have hr9 : upd (upd (upd H1 tq (.tup [.ref b, .ref a0])) c (.tup [.str "told"])) r (.tup ([.str "told"] ++ w.ky.map kV)) r = some (.tup ([.str "told"] ++ w.ky.map kV)) := upd_same
      generalize upd (upd (upd H1 tq (.tup [.ref b, .ref a0])) c (.tup [.str "told"])) r (.tup ([.str "told"] ++ w.ky.map kV)) = H9 at *
      refine ⟨_, rfl, r, a0, _, _, rfl, rfl, SqT.of hr9, SqT.of (s9 _ _ ha1), (by intro z; cases z), (by show 6 ≤ sizeLine; decide), (fun z => nomatch z), fun _ r2 hr2 => ?_⟩
      have s10 := s9.trans (Same.new (o := .tup (([.str "told"] ++ w.ky.map kV) ++ [.int w.c, .int w.t])) hr2)
      have nrg : r2 ≠ l := fun z => by rw [z, s9 _ _ hll] at hr2; cases hr2
      refine ⟨ys, s10 _ _ hll, ?_, fun c z e n => ?_, ?_, upd_same, ?_⟩
      ·rw [hk.len]
       have := List.length_filter_le (fresh mk t) (ws.take i)
       have := List.length_take_le' i ws
       have := sizeLine_eq
       lia
      ·rw [upd_ne (ne_of_none e hl0)]
       exact s10 _ _ (kp c z e n)
      ·rw [upd_ne ndl]; exact s10 _ _ hfd
      ·rw [htk, hf]
       refine ListAt.snoc (hk.keep fun a row e => ?_) ?_
       ·rw [upd_ne (ne_of e hll (by intro z; cases z))]
        exact s10 _ _ e
       ·rw [upd_ne nrg, upd_same]; rfl
     ·have hf : [w].filter (fresh mk t) = [] := by
       have : ¬ fresh mk t w = true := fun z => by unfold fresh at z; exact h2 ((Bool.and_eq_true _ _).mp z).2
       simp [this]
      refine ⟨ys, fun c z e n => st _ _ (kp c z e n), st _ _ hfd, st _ _ hll, ?_⟩
      rw [htk, hf, List.append_nil]
      exact hk.keep fun a row e => st _ _ e
    ·have hf : [w].filter (fresh mk t) = [] := by
      have : ¬ fresh mk t w = true := fun z => by unfold fresh at z; exact h1 ((Bool.and_eq_true _ _).mp z).1
      simp [this]
     refine ⟨ys, fun c z e n => st _ _ (kp c z e n), st _ _ hfd, st _ _ hll, ?_⟩
     rw [htk, hf, List.append_nil]
     exact hk.keep fun a row e => st _ _ e
   ·rintro ys H1 ⟨kp, hfd, hll, hk⟩
    rw [hlen, List.take_length] at hk
    have hx1 := kp _ _ hx nxd
    have nxl : x ≠ l := ne_of_none hx hl0
    obtain ⟨pst, hPt⟩ := lamTab_tbl hT
    have nPx : Pt ≠ x := ne_of hPt hx (by intro z; cases z)
    have nPd : Pt ≠ d := ne_of hPt hd (by intro z; cases z)
    refine ⟨o, hfd, ?_⟩
    refine ⟨_, rfl, _, rfl, x, C, dx, _, rfl, (by rw [upd_ne nxd]; exact hx1), T.cl.cl, T.nM, (by show 4 < 1000; decide), ?_⟩
    rw [putM]
    have k2 : ∀ b z, H b = some z → b ≠ x → upd (upd H1 d (.dT kvs)) x (.ins C dx (flds p (.int t) d m)) b = some z := fun b z e n => by
     rw [upd_ne n]
     by_cases hbd : b = d
     ·subst hbd; rw [upd_same]; rw [hd] at e; exact e
     ·rw [upd_ne hbd]; exact kp b z e hbd
    have hx2 : upd (upd H1 d (.dT kvs)) x (.ins C dx (flds p (.int t) d m)) x = some (.ins C dx (flds p (.int t) d m)) := upd_same
    have hl2 : upd (upd H1 d (.dT kvs)) x (.ins C dx (flds p (.int t) d m)) l = some (.lst ys) := by rw [upd_ne nxl.symm, upd_ne ndl.symm]; exact hll
    have hk2 : ListAt toldV (upd (upd H1 d (.dT kvs)) x (.ins C dx (flds p (.int t) d m))) ys (ws.filter (fresh mk t)) := hk.keep fun a row e => by
     rw [upd_ne (ne_of e hx1 (by intro z; cases z)), upd_ne (ne_of e hfd (by intro z; cases z))]; exact e
    have free2 : ∀ {b}, upd (upd H1 d (.dT kvs)) x (.ins C dx (flds p (.int t) d m)) b = none → H b = none := fun {b} e => by
     cases q : H b with
     | none => rfl
     | some z =>
      by_cases hbx : b = x
      ·rw [hbx, upd_same] at e; cases e
      ·rw [k2 b z q hbx] at e; cases e
    generalize upd (upd H1 d (.dT kvs)) x (.ins C dx (flds p (.int t) d m)) = H2 at *
    have tp2 : ∀ a row, H a = some (.tup row) → H2 a = some (.tup row) := fun a row e => k2 a _ e (ne_of e hx (by intro z; cases z))
    have fz2 : ∀ a o u, H a = some (.frz o u) → H2 a = some (.frz o u) := fun a o u e => k2 a _ e (ne_of e hx (by intro z; cases z))
    have hPt2 := k2 _ _ hPt nPx
    have hlk := hk2.len
    refine ⟨_, rfl, l, ys, (ws.filter (fresh mk t)).map Wn.ed, shE, rfl, SqL.of hl2, lamTab_keep hT (fun ps e => k2 _ _ e nPx) fz2, bltAt_keep hB fz2, ?_, (by rw [List.length_map, hlk]), ?_, rfl, (by decide), ?_, ?_⟩
    ·rw [hlk]
     have := List.length_filter_le (fresh mk t) ws
     exact ⟨by lia, by lia⟩
    ·intro e he
     obtain ⟨q, _, rfl⟩ := List.mem_map.mp he
     rfl
    ·intro i y dd H3 hy hdd k3
     obtain ⟨w, a, ew, rfl, ha⟩ := hk2.get hy
     rw [List.getElem?_map, ew] at hdd
     cases hdd
     have ha3 : H3 a = some (.tup (toldV w)) := k3 _ _ ha (ne_of ha hPt2 (by intro z; cases z))
     exact ⟨_, rfl, a, _, 3, _, rfl, rfl, SqT.of ha3, rfl, _, rfl, a, _, 2, _, rfl, rfl, SqT.of ha3, rfl, _, rfl, a, _, 1, _, rfl, rfl, SqT.of ha3, rfl, (by show 3 ≤ sizeLine; decide), fun q hq => ⟨Same.new hq, .tup (SqT.of upd_same) (.cons (.int _) (.cons (.int _) (.cons (.str _) .nil)))⟩⟩
    ·intro L ps H3 k3 lt3 hL hL3 pm pw
     obtain ⟨rs, a1, a2, a3⟩ := told_perm hk2 pm
     have tp3 : ∀ a row, H2 a = some (.tup row) → H3 a = some (.tup row) := fun a row e => k3 a _ e (ne_of e hPt2 (by intro z; cases z))
     have fz3 : ∀ a o u, H2 a = some (.frz o u) → H3 a = some (.frz o u) := fun a o u e => k3 a _ e (ne_of e hPt2 (by intro z; cases z))
     have hd2 := k2 _ _ hd nxd.symm
     have nmx : m ≠ x := ne_of hm hx (by intro z; cases z)
     refine kN hs' L _ rs H3 a1 (by rw [← a3]; exact pw) (fun b z e n1 n2 => k3 b z (k2 b z e n1) n2) (free2 hL) hL3 (a2.keep tp3) ⟨⟨dx, k3 _ _ hx2 nPx.symm⟩, sqT_keep tp3 fz3 (sqT_keep tp2 fz2 hp), ⟨kvs, k3 _ _ hd2 nPd.symm, hw.keep fun a row e => tp3 _ _ (tp2 _ _ e)⟩, ⟨mx, k3 _ _ (k2 _ _ hm nmx) (ne_of hm hPt (by intro z; cases z)), hmx.keep fun a row e => tp3 _ _ (tp2 _ _ e)⟩, DA.nd⟩ lt3
end
end K2
namespace K2
open PySem PySem.Spec PyProof.Rows L2 K1
structure Sta where
 make ::
 mk : Option Int
 ws : List Wn
 ms : List (Str × Int × Int)
inductive Deed where
 | ev (n : Str) (t a : Int) | mk (t : Int)
noncomputable def Deed.v : Deed → List V
 | .ev n t a => [.str "event", .str n, .int t, .int a]
 | .mk t => [.str "mark", .int t]
noncomputable def Deed.ok : Deed → Prop
 | .ev _ t _ => -(10 ^ 45) < t ∧ t < 10 ^ 45
 | .mk _ => True
noncomputable def DoRel (pl : Pl) (st : Sta) : Deed → List Say → Sta → Prop
 | .ev n t a, out, st' => (late st.mk (grace pl) t = true ∧ out = [.missed n t a] ∧ st' = ⟨st.mk, st.ws, st.ms ++ [(n, t, a)]⟩) ∨
   (late st.mk (grace pl) t = false ∧ ∃ mt ks ws', EvRel pl n t a st.ws mt ks ws' ∧ out = gones st.mk mt ks ++ tolds st.mk ws' ks ∧ st' = ⟨st.mk, ws', st.ms⟩)
 | .mk t, out, st' => (stale st.mk t = true ∧ out = [] ∧ st' = st) ∨
   (stale st.mk t = false ∧ ∃ rs : List Wn, rs.Perm (st.ws.filter (fresh st.mk t)) ∧ (rs.map Wn.ed).Pairwise (fun d e => dcmp d e ≠ .gt) ∧ out = rs.map Say.told ∧ st' = ⟨some t, st.ws, st.ms⟩)
inductive Runs (pl : Pl) : Sta → List Deed → List (List Say) → Sta → Prop
 | nil (st : Sta) : Runs pl st [] [] st
 | snoc {st st1 st2 : Sta} {dds : List Deed} {outs : List (List Say)} {dd : Deed} {out : List Say} : Runs pl st dds outs st1 → DoRel pl st1 dd out st2 → Runs pl st (dds ++ [dd]) (outs ++ [out]) st2
theorem EvRel.len {pl : Pl} {n : Str} {t a : Int} {ws ws' : List Wn} {mt ks : List Ky} (ok : pl.ok) (h : EvRel pl n t a ws mt ks ws') : ws'.length ≤ ws.length + 100 := by
 rcases h with ⟨_, _, rfl, rfl⟩ | ⟨_, _, _, s, e, _, _, _, _, _, _, _, rfl⟩
 ·have h1 := addAll_len (a := a) (ks := evKeys pl n t) (ws := ws)
  have h2 : (evKeys pl n t).length ≤ 100 := by unfold evKeys; rw [List.length_map]; exact spI_len ok t
  show (addAll a ws (evKeys pl n t)).length ≤ _
  lia
 ·have h1 := addW_len (moveW ws mt ⟨n, s, e⟩) n s e 1 a
  have h2 := moveW_len (g := ⟨n, s, e⟩) (ks := mt) (ws := ws)
  lia
theorem DoRel.len {pl : Pl} {st st' : Sta} {dd : Deed} {out : List Say} (ok : pl.ok) (h : DoRel pl st dd out st') : st'.ws.length ≤ st.ws.length + 100 ∧ st'.ms.length ≤ st.ms.length + 1 := by
 cases dd with
 | ev n t a =>
  rcases h with ⟨_, _, rfl⟩ | ⟨_, mt, ks, ws', h, _, rfl⟩
  ·exact ⟨by show st.ws.length ≤ _; lia, by show (st.ms ++ [_]).length ≤ _; simp⟩
  ·exact ⟨h.len ok, by show st.ms.length ≤ _; lia⟩
 | mk t =>
  rcases h with ⟨_, _, rfl⟩ | ⟨_, rs, _, _, _, rfl⟩
  ·exact ⟨by lia, by lia⟩
  ·exact ⟨by show st.ws.length ≤ _; lia, by show st.ms.length ≤ _; lia⟩
theorem Runs.len {pl : Pl} {st st' : Sta} {dds : List Deed} {outs : List (List Say)} (ok : pl.ok) (h : Runs pl st dds outs st') : st'.ws.length ≤ st.ws.length + 100 * dds.length ∧ st'.ms.length ≤ st.ms.length + dds.length ∧ outs.length = dds.length := by
 induction h with
 | nil => exact ⟨by simp, by simp, rfl⟩
 | snoc r d ih =>
  obtain ⟨h1, h2, h3⟩ := ih
  obtain ⟨h4, h5⟩ := d.len ok
  simp only [List.length_append, List.length_singleton]
  lia
noncomputable def KeptD (H H' : Hp) (x d m Pt : Addr) : Prop := ∀ b o, H b = some o → b ≠ x → b ≠ d → b ≠ m → b ≠ Pt → H' b = some o
inductive spDoI (K : PySem.W.Frag) (mg : Str → Option Value) (C : Addr) (Pt : Addr) (vs : List V) (H : Hp) (Q : VK) : Prop
 | mk (x p d m b : Addr) (pl : Pl) (st : Sta) (dd : Deed) : (vs = [.ref x, .ref b]) → (DeskAt K C H x p d m pl st.mk st.ws st.ms) → (SqT K H b dd.v) → (pl.ok) → (dd.ok) → ((st.ws.length + 200 < 1000000 ∧ st.ws.length < TS.MX)) → (st.ms.length < 1000000) → (lamTab H Pt lp lq) → (bltAt K mg H) → (∀ (l : Addr) (zs : List V) (out : List Say) (st' : Sta) (H' : Hp), DoRel pl st dd out st' → KeptD H H' x d m Pt → H l = none → H' l = some (.lst zs) → ListAt Say.v H' zs out → DeskAt K C H' x p d m pl st'.mk st'.ws st'.ms → lamTab H' Pt lp lq → Q (.ref l) H') → spDoI K mg C Pt vs H Q
noncomputable def spDo (K : PySem.W.Frag) (mg : Str → Option Value) (C Pt : Addr) : Sp := fun vs H Q d_ => spDoI K mg C Pt vs H Q
theorem told_at {H : Hp} {zs : List V} {rs : List Wn} (h : ListAt toldV H zs rs) : ListAt Say.v H zs (rs.map Say.told) := by
 induction h with
 | nil => exact .nil
 | cons r _ ih => exact .cons r ih
section
variable {P : Program} {w : World} {K : PySem.W.Frag} {mg : Str → Option Value} {C Pt : Addr}
theorem f_do (D : MethIn K C "do" "Desk.do" st_Desk_do) (M : MG K mg) (T : DeskIn K C) (G_MARK : GlobIs K "MARK" (.str "mark")) (F_Desk_take_mark : MethB P w K mg CX0 C "take_mark" ["self", "time"] 4 (spMark K mg C Pt)) (F_Desk_take_event : MethB P w K mg CX0 C "take_event" ["self", "name", "time", "amount"] 4 (spEvent K C)) :
  MethB P w K mg CX0 C "do" ["self", "deed"] 5 (spDo K mg C Pt) := by
 have CL_Desk := T.cl
 refine D.fn sc_Desk_do bd_Desk_do (fun vs H Q E h => ?_) (fun f base cdv A outer s H vs Q E hr h => ?_)
 ·obtain ⟨x, p, d, m, b, pl, st, dd, rfl, _⟩ := h
  rfl
 ·obtain ⟨x, p, d, m, b, pl, st, dd, rfl, DA, hb, ok, dok, hwl, hml, hT, hB, k⟩ := h
  obtain ⟨dx, hx⟩ := DA.ob
  obtain ⟨kvs, hd, hw⟩ := DA.wd
  obtain ⟨mx, hm, hmx⟩ := DA.ml
  obtain ⟨pst, hPt⟩ := lamTab_tbl hT
  have no : ∀ {k : Str}, ¬ k = "plan" → ¬ k = "mark" → ¬ k = "windows" → ¬ k = "missed" → (flds p (mkV st.mk) d m).lookup k = none := fun h1 h2 h3 h4 => fNo p d m _ h1 h2 h3 h4
  refine ⟨_, (pss_cons (ps_if (pt_cmpR op_eq (pe_ix ix_tup (pv 1) pe_int (fun _ _ => rfl)) (pe_globC G_MARK M rfl) (nomark _)) (pss_one (ps_ret (pe_methB (pv 0) CL_Desk.cl F_Desk_take_mark pass0 (hr.mono (by decide)) (pc (pe_ix ix_tup (pv 1) pe_int (fun _ _ => rfl)) pa_nil)))) pss_nil)
   (pss_one (ps_ret (pe_methB (pv 0) CL_Desk.cl F_Desk_take_event pass0 (hr.mono (by decide)) (pc (pe_ix ix_tup (pv 1) pe_int (fun _ _ => rfl)) (pc (pe_ix ix_tup (pv 1) pe_int (fun _ _ => rfl)) (pc (pe_ix ix_tup (pv 1) pe_int (fun _ _ => rfl)) pa_nil))))))), ?_⟩
  cases dd with
  | mk t =>
   refine ⟨_, rfl, b, _, 0, _, rfl, rfl, hb, rfl, rfl, _, rfl, ?_⟩
   refine ite2 (fun _ => ?_) (fun z => absurd (decide_eq_true rfl) z)
   refine ⟨_, rfl, x, dx, _, rfl, hx, no (by decide +kernel) (by decide +kernel) (by decide +kernel) (by decide +kernel), _, rfl, b, _, 1, _, rfl, rfl, hb, rfl, x, p, d, m, pl, st.mk, st.ws, st.ms, t, rfl, DA, hwl, hT, hB, fun hs l H' sm hl hl' => ?_, fun hs l zs rs H' r1 r2 kp hl hl' la da lt => ?_⟩
   ·have tp : ∀ a row, H a = some (.tup row) → H' a = some (.tup row) := fun a row e => sm _ _ e
    exact k l _ [] st H' (.inl ⟨hs, rfl, rfl⟩) (fun b o e _ _ _ _ => sm b o e) hl hl' .nil ⟨⟨dx, sm _ _ hx⟩, sm.seqT DA.pl, ⟨kvs, sm _ _ hd, hw.keep tp⟩, ⟨mx, sm _ _ hm, hmx.keep tp⟩, DA.nd⟩ (lamTab_keep hT (fun ps e => sm _ _ e) fun a o u e => sm _ _ e)
   ·exact k l zs _ ⟨some t, st.ws, st.ms⟩ H' (.inr ⟨hs, rs, r1, r2, rfl, rfl⟩) (fun b o e n1 _ _ n4 => kp b o e n1 n4) hl hl' (told_at la) da lt
  | ev n t a =>
   refine ⟨_, rfl, b, _, 0, _, rfl, rfl, hb, rfl, rfl, _, rfl, ?_⟩
   refine ite2 (fun z => ?_) (fun _ => ?_)
   ·have := V.str.inj (of_decide_eq_true z)
    exact absurd this (by decide +kernel)
   refine ⟨_, rfl, x, dx, _, rfl, hx, no (by decide +kernel) (by decide +kernel) (by decide +kernel) (by decide +kernel), _, rfl, b, _, 1, _, rfl, rfl, hb, rfl, _, rfl, b, _, 2, _, rfl, rfl, hb, rfl, _, rfl, b, _, 3, _, rfl, rfl, hb, rfl, x, p, d, m, pl, st.mk, st.ws, st.ms, n, t, a, rfl, DA, ok, dok, hwl, hml, fun hs l zs H' kp hl hl' la da => ?_, fun hs l zs H' mt ks ws' er kp hl hl' la da => ?_⟩
   ·refine k l zs _ ⟨st.mk, st.ws, st.ms ++ [(n, t, a)]⟩ H' (.inl ⟨hs, rfl, rfl⟩) (fun b o e _ _ n3 _ => kp b o e n3) hl hl' la da (lamTab_keep hT (fun ps e => kp _ _ e (ne_of e hm (by intro z; cases z))) fun a o u e => kp _ _ e (ne_of e hm (by intro z; cases z)))
   ·refine k l zs _ ⟨st.mk, ws', st.ms⟩ H' (.inr ⟨hs, mt, ks, ws', er, rfl, rfl⟩) (fun b o e _ n2 _ _ => kp b o e n2) hl hl' la da (lamTab_keep hT (fun ps e => kp _ _ e (ne_of e hd (by intro z; cases z))) fun a o u e => kp _ _ e (ne_of e hd (by intro z; cases z)))
end
end K2
namespace K2
open PySem PySem.Spec PyProof.Rows L2 K1
noncomputable def DeedsAt (K : PySem.W.Frag) (H : Hp) : List V → List Deed → Prop := Paired fun x dd => ∃ b, x = .ref b ∧ SqT K H b dd.v
noncomputable def SaysAt (H : Hp) : List V → List (List Say) → Prop := Paired fun x out => ∃ l zs, x = .ref l ∧ H l = some (.lst zs) ∧ ListAt Say.v H zs out
noncomputable def SaysIn (H : Hp) (m r : Addr) : List V → List (List Say) → Prop := Paired fun x out => ∃ l zs, x = .ref l ∧ l ≠ m ∧ l ≠ r ∧ H l = some (.lst zs) ∧ ListAt Say.v H zs out
theorem DeedsAt.get {K : PySem.W.Frag} {H : Hp} {xs : List V} {ds : List Deed} {i : Nat} {x : V} (h : DeedsAt K H xs ds) (e : xs[i]? = some x) : ∃ d b, ds[i]? = some d ∧ x = .ref b ∧ SqT K H b d.v := by
 obtain ⟨k, ek, a, r⟩ := Paired.getL h e
 exact ⟨k, a, ek, r⟩
theorem DeedsAt.len {K : PySem.W.Frag} {H : Hp} {xs : List V} {ds : List Deed} (h : DeedsAt K H xs ds) : xs.length = ds.length := Paired.length h
inductive spAnsI (K : PySem.W.Frag) (mg : Str → Option Value) (Pt : Addr) (vs : List V) (H : Hp) (Q : VK) : Prop
 | mk (p dl : Addr) (pl : Pl) (xs : List V) (dds : List Deed) : (vs = [.ref p, .ref dl]) → (SqT K H p pl.row) → (bad pl = false) → (pl.ok) → (SqL K H dl xs) → (DeedsAt K H xs dds) → ((∀ dd ∈ dds, dd.ok)) → (dds.length ≤ 1000) → ((∀ i outs st, Runs pl ⟨none, [], []⟩ (dds.take i) outs st → st.ws.length < TS.MX)) → (lamTab H Pt lp lq) → (bltAt K mg H) → (∀ (l : Addr) (ys : List V) (outs : List (List Say)) (st : Sta) (H' : Hp), Runs pl ⟨none, [], []⟩ dds outs st → KeptP H H' Pt → H l = none → H' l = some (.lst ys) → SaysAt H' ys outs → lamTab H' Pt lp lq → Q (.ref l) H') → spAnsI K mg Pt vs H Q
noncomputable def spAns (K : PySem.W.Frag) (mg : Str → Option Value) (Pt : Addr) : Sp := fun vs H Q d_ => spAnsI K mg Pt vs H Q
theorem KeptD.tup {H H' : Hp} {C x dx p d m Pt : Addr} {mk : V} {kvs : List (List Key × V)} {mx : List V} {ps : Array Value} (k : KeptD H H' x d m Pt) (hx : H x = some (.ins C dx (flds p mk d m))) (hd : H d = some (.dT kvs)) (hm : H m = some (.lst mx)) (hP : H Pt = some (.tbl ps)) : ∀ a row, H a = some (.tup row) → H' a = some (.tup row) :=
 fun a row e => k a _ e (ne_of e hx (by intro z; cases z)) (ne_of e hd (by intro z; cases z)) (ne_of e hm (by intro z; cases z)) (ne_of e hP (by intro z; cases z))
theorem KeptD.frz {H H' : Hp} {C x dx p d m Pt : Addr} {mk : V} {kvs : List (List Key × V)} {mx : List V} {ps : Array Value} (k : KeptD H H' x d m Pt) (hx : H x = some (.ins C dx (flds p mk d m))) (hd : H d = some (.dT kvs)) (hm : H m = some (.lst mx)) (hP : H Pt = some (.tbl ps)) : ∀ a o u, H a = some (.frz o u) → H' a = some (.frz o u) :=
 fun a o u e => k a _ e (ne_of e hx (by intro z; cases z)) (ne_of e hd (by intro z; cases z)) (ne_of e hm (by intro z; cases z)) (ne_of e hP (by intro z; cases z))
theorem DeskAt.keep {K : PySem.W.Frag} {C : Addr} {H H' : Hp} {x p d m : Addr} {pl : Pl} {mk : Option Int} {ws : List Wn} {ms : List (Str × Int × Int)} (DA : DeskAt K C H x p d m pl mk ws ms) (kx : ∀ o, H x = some o → H' x = some o) (kd : ∀ o, H d = some o → H' d = some o) (km : ∀ o, H m = some o → H' m = some o)
  (tp : ∀ a row, H a = some (.tup row) → H' a = some (.tup row)) (fz : ∀ a o u, H a = some (.frz o u) → H' a = some (.frz o u)) : DeskAt K C H' x p d m pl mk ws ms := by
 obtain ⟨⟨dx, hx⟩, hp, ⟨kvs, hd, hw⟩, ⟨mx, hm, hmx⟩, nd⟩ := DA
 exact ⟨⟨dx, kx _ hx⟩, sqT_keep tp fz hp, ⟨kvs, kd _ hd, hw.keep tp⟩, ⟨mx, km _ hm, hmx.keep tp⟩, nd⟩
theorem SaysIn.keep {H H' : Hp} {m r : Addr} {ys : List V} {outs : List (List Say)} (h : SaysIn H m r ys outs) (kl : ∀ l zs, l ≠ m → l ≠ r → H l = some (.lst zs) → H' l = some (.lst zs)) (tp : ∀ a row, H a = some (.tup row) → H' a = some (.tup row)) : SaysIn H' m r ys outs :=
 Paired.imp' (fun _ _ ⟨l, zs, e, n1, n2, h1, h2⟩ => ⟨l, zs, e, n1, n2, kl l zs n1 n2 h1, h2.keep tp⟩) h
theorem SaysIn.out {H : Hp} {m r : Addr} {ys : List V} {outs : List (List Say)} (h : SaysIn H m r ys outs) : SaysAt H ys outs := Paired.imp' (fun _ _ ⟨l, zs, e, _, _, h1, h2⟩ => ⟨l, zs, e, h1, h2⟩) h
theorem same_newD {H : Hp} {x dx : Addr} {o u : HO} (nx : H x = none) (ndx : H dx = none) : Same H (upd (upd H dx u) x o) := fun b z e => by rw [upd_ne (ne_of_none e nx), upd_ne (ne_of_none e ndx)]; exact e
section
variable {P : Program} {w : World} {K : PySem.W.Frag} {mg : Str → Option Value} {C Pt : Addr}
theorem f_ans (D : DefIn K "answers" st_answers) (M : MG K mg) (T : DeskIn K C) (F_Desk___init__ : MethB P w K mg CX0 C "__init__" ["self", "plan"] 4 (spInit K C)) (F_Desk_do : MethB P w K mg CX0 C "do" ["self", "deed"] 5 (spDo K mg C Pt)) : FnB P w K mg "answers" ["plan", "deeds"] 6 (spAns K mg Pt) := by
 have CL_Desk := T.cl
 refine D.fn M sc_answers bd_answers (fun vs H Q E h => ?_) (fun f base cdv A outer s H vs Q E hr h => ?_)
 ·obtain ⟨p, dl, pl, xs, dds, rfl, _⟩ := h
  rfl
 ·obtain ⟨p, dl, pl, xs, dds, rfl, hp, hb, ok, hl, hds, hok, hlen, hfx, hT, hB, k⟩ := h
  refine ⟨_, (pss_cons (pset (i := 2) sc_answers.nd rfl (Or.inr rfl) (pe_makeB CL_Desk M F_Desk___init__ pass0 (hr.mono (by decide)) rfl (pc (pv 0) pa_nil)))
   (pss_one (ps_ret (pe_comp (NY := ["deed", "desk"]) (js := [none, some 2]) rfl rfl (by with_unfolding_all rfl) (by repeat first | exact ClIn.nil | refine ClIn.cons rfl ?_) (.own (.out rfl rfl (.inl rfl) .nil)) (pi_list (pv 1)) (fun _ _ _ _ _ => ⟨(pg_name (i := 0) (show (["deed", "desk"] : List Str).Nodup from by decide +kernel) rfl (Or.inl rfl)), pif_nil, (pe_methB (pv 1) CL_Desk.cl F_Desk_do pass0 (hr.mono (by decide)) (pc (pv 0) pa_nil))⟩))))), ?_⟩
  refine ⟨_, rfl, fun x dx nx ndx nex => ?_⟩
  have s0 := same_newD (o := .ins C dx []) (u := .own x) nx ndx
  refine ⟨x, dx, p, pl, rfl, upd_same, s0.seqT hp, hb, fun d m H1 hd hm h1 h2 h3 kp => ⟨rfl, ?_⟩⟩
  have s1 : Same H H1 := fun b o e => kp b o (s0 b o e) (ne_of_none e nx)
  refine ⟨_, rfl, dl, rfl, ⟨_, s1.seq hl⟩, fun r hr' => ?_⟩
  obtain ⟨pst, hPt⟩ := lamTab_tbl hT
  have hPt1 := s1 _ _ hPt
  have hT1 : lamTab H1 Pt lp lq := lamTab_keep hT (fun ps e => s1 _ _ e) fun a o u e => s1 _ _ e
  have hB1 : bltAt K mg H1 := bltAt_keep hB fun a o u e => s1 _ _ e
  have lxs := hds.len
  have nrx : r ≠ x := fun z => by rw [z, h1] at hr'; cases hr'
  have nrd : r ≠ d := fun z => by rw [z, h2] at hr'; cases hr'
  have nrm : r ≠ m := fun z => by rw [z, h3] at hr'; cases hr'
  have nrP : r ≠ Pt := fun z => by rw [z, hPt1] at hr'; cases hr'
  have ndm : d ≠ m := ne_of h2 h3 (by intro z; cases z)
  refine comp_lR (K := K) (a := dl) (xs := xs) (fun i ys H' => ∃ (st : Sta) (outs : List (List Say)), Runs pl ⟨none, [], []⟩ (dds.take i) outs st ∧ KeptD H1 H' x d m Pt ∧ H' r = some (.lst ys) ∧ SaysIn H' m r ys outs ∧ DeskAt K C H' x p d m pl st.mk st.ws st.ms ∧ lamTab H' Pt lp lq ∧ bltAt K mg H')
   ⟨⟨none, [], []⟩, [], .nil _, fun b o e _ _ _ _ => (Same.new hr') b o e, upd_same, .nil, ?_, ?_, ?_⟩ (fun i ys H' ⟨_, _, _, _, h, _⟩ => h) (fun i ys H' _ ⟨_, _, _, kd, _⟩ => ?_) ?_ ?_
  ·have s2 := Same.new (o := .lst []) hr'
   exact ⟨⟨dx, s2 _ _ h1⟩, s2.seqT (s1.seqT hp), ⟨[], s2 _ _ h2, .nil⟩, ⟨[], s2 _ _ h3, .nil⟩, .nil⟩
  ·exact lamTab_keep hT1 (fun ps e => (Same.new hr') _ _ e) fun a o u e => (Same.new hr') _ _ e
  ·exact bltAt_keep hB1 fun a o u e => (Same.new hr') _ _ e
  ·have fz := kd.frz h1 h2 h3 hPt1
   rcases hl with (h | ⟨o, h⟩) | h
   ·refine .inl (.inl (kd _ _ (s1 _ _ h) (ne_of_none h nx) (ne_of_none h (s0.free hd)) (ne_of_none h (s0.free hm)) (ne_of h hPt (by intro z; cases z))))
   ·exact .inl (.inr ⟨o, fz _ _ _ (s1 _ _ h)⟩)
   ·exact .inr h
  ·rintro i y ys H2 hi ⟨st, outs, rn, kd, hr2, si, DA, lt2, hB2⟩
   obtain ⟨dd, b, ed, rfl, hb1⟩ := hds.get hi
   have tp := kd.tup h1 h2 h3 hPt1
   have fz := kd.frz h1 h2 h3 hPt1
   have hb2 : SqT K H2 b dd.v := sqT_keep tp fz (s1.seqT hb1)
   obtain ⟨dx2, hx2⟩ := DA.ob
   obtain ⟨kvs2, hd2, hw2⟩ := DA.wd
   obtain ⟨mx2, hm2, hmx2⟩ := DA.ml
   obtain ⟨ps2, hP2⟩ := lamTab_tbl lt2
   have rl := rn.len ok
   have hil := (List.getElem?_eq_some_iff.mp ed).1
   have l1 : (dds.take i).length = i := by rw [List.length_take]; lia
   rw [l1] at rl
   simp only [List.length_nil, Nat.zero_add] at rl
   refine ⟨weak_set rfl, ?_⟩
   refine ⟨_, rfl, x, dx2, _, rfl, hx2, fNo p d m _ (by decide +kernel) (by decide +kernel) (by decide +kernel) (by decide +kernel), _, rfl, x, p, d, m, b, pl, st, dd, rfl, DA, hb2, ok, hok dd (List.mem_of_getElem? ed), ⟨by lia, hfx i outs st rn⟩, by lia, lt2, hB2, fun l zs out st' H3 dr k3 hl0 hl3 la3 DA3 lt3 => ?_⟩
   have tp3 := k3.tup hx2 hd2 hm2 hP2
   have fz3 := k3.frz hx2 hd2 hm2 hP2
   have nlm : l ≠ m := fun z => by rw [z, hm2] at hl0; cases hl0
   have nlr : l ≠ r := fun z => by rw [z, hr2] at hl0; cases hl0
   have hr3 := k3 _ _ hr2 nrx nrd nrm nrP
   refine ⟨ys, hr3, ?_, st', outs ++ [out], ?_, fun b o e n1 n2 n3 n4 => ?_, upd_same, ?_, DA3.keep ?_ ?_ ?_ ?_ ?_, ?_, ?_⟩
   ·have := Paired.length si
    have := sizeLine_eq
    lia
   ·rw [List.take_add_one, ed]
    exact .snoc rn dr
   ·rw [upd_ne (ne_of_none e hr')]
    exact k3 b o (kd b o e n1 n2 n3 n4) n1 n2 n3 n4
   ·have up : ∀ {a : Addr} {z : HO}, H3 a = some z → a ≠ r → upd H3 r (.lst (ys ++ [.ref l])) a = some z := fun e n => by rw [upd_ne n]; exact e
    have tpu : ∀ a row, H3 a = some (.tup row) → upd H3 r (.lst (ys ++ [.ref l])) a = some (.tup row) := fun a row e => up e (ne_of e hr3 (by intro z; cases z))
    refine Paired.snoc ((si.keep (fun l' zs' n1 n2 e => k3 _ _ e (ne_of e hx2 (by intro z; cases z)) (ne_of e hd2 (by intro z; cases z)) n1 (ne_of e hP2 (by intro z; cases z))) tp3).keep (fun l' zs' n1 n2 e => up e n2) tpu) ⟨l, zs, rfl, nlm, nlr, up hl3 nlr, la3.keep tpu⟩
   ·exact fun o e => by rw [upd_ne nrx.symm]; exact e
   ·exact fun o e => by rw [upd_ne nrd.symm]; exact e
   ·exact fun o e => by rw [upd_ne nrm.symm]; exact e
   ·exact fun a row e => by rw [upd_ne (ne_of e hr3 (by intro z; cases z))]; exact e
   ·exact fun a o u e => by rw [upd_ne (ne_of e hr3 (by intro z; cases z))]; exact e
   ·exact lamTab_keep lt3 (fun ps e => by rw [upd_ne nrP.symm]; exact e) fun a o u e => by rw [upd_ne (ne_of e hr3 (by intro z; cases z))]; exact e
   ·exact bltAt_keep (bltAt_keep hB2 fz3) fun a o u e => by rw [upd_ne (ne_of e hr3 (by intro z; cases z))]; exact e
  ·rintro ys H2 ⟨st, outs, rn, kd, hr2, si, DA, lt2, hB2⟩
   rw [lxs, List.take_length] at rn
   refine k r ys outs st H2 rn (fun b o e n => ?_) (s1.free hr') hr2 si.out lt2
   have hxn : H x = none := nx
   have hdn : b ≠ d := fun z => by
    have := s0.free (l := d) hd
    rw [z, this] at e; cases e
   have hmn : b ≠ m := fun z => by
    have := s0.free (l := m) hm
    rw [z, this] at e; cases e
   exact kd b o (s1 b o e) (ne_of_none e nx) hdn hmn n
end
end K2
namespace K3
open PySem PySem.Spec PyProof.Rows L2 K1 K2
noncomputable def Gm (ws : List Wn) (k : Ky) : Option (Int × Int) := (getW ws k.l).map fun w => (w.c, w.t)
noncomputable def pls (o : Option (Int × Int)) (c t : Int) : Int × Int := match o with
 | some p => (p.1 + c, p.2 + t)
 | none => (0 + c, 0 + t)
theorem getW_key {ws : List Wn} {k : Ky} {w : Wn} (h : getW ws k.l = some w) : w ∈ ws ∧ w.k = k := by
 have h1 := List.find?_some h
 exact ⟨List.mem_of_find?_eq_some h, ky_inj (of_decide_eq_true h1)⟩
theorem Gm_has {ws : List Wn} {k : Ky} : k ∈ ws.map Wn.k ↔ ∃ p, Gm ws k = some p := by
 constructor
 ·intro h
  obtain ⟨w, hw, _⟩ := getW_some h
  exact ⟨(w.c, w.t), by unfold Gm; rw [hw]; rfl⟩
 ·rintro ⟨p, h⟩
  unfold Gm at h
  obtain ⟨w, hw, _⟩ := Option.map_eq_some_iff.mp h
  obtain ⟨h1, h2⟩ := getW_key hw
  exact h2 ▸ List.mem_map_of_mem h1
theorem Gm_of {ws : List Wn} {k : Ky} {w : Wn} (h : getW ws k.l = some w) : Gm ws k = some (w.c, w.t) := by unfold Gm; rw [h]; rfl
theorem Gm_get {ws : List Wn} {k : Ky} {p : Int × Int} (h : Gm ws k = some p) : ∃ w, getW ws k.l = some w ∧ w.k = k ∧ p = (w.c, w.t) := by
 unfold Gm at h
 obtain ⟨w, hw, e⟩ := Option.map_eq_some_iff.mp h
 exact ⟨w, hw, (getW_key hw).2, e.symm⟩
theorem Gm_none {ws : List Wn} {k : Ky} : k ∉ ws.map Wn.k ↔ Gm ws k = none := by
 rw [Gm_has]
 cases Gm ws k <;> simp
theorem getW_nd {w : Wn} : ∀ {ws : List Wn}, (ws.map Wn.k).Nodup → w ∈ ws → getW ws w.k.l = some w := by
 intro ws
 induction ws with
 | nil => intro _ h; cases h
 | cons x xs ih =>
  intro nd h
  obtain ⟨h1, h2⟩ := List.nodup_cons.mp nd
  by_cases e : x.ky = w.k.l
  ·have e' : x.k = w.k := ky_inj e
   rcases List.mem_cons.mp h with rfl | h
   ·exact List.find?_cons_of_pos (decide_eq_true e)
   ·exact absurd (e' ▸ List.mem_map_of_mem h) h1
  ·rcases List.mem_cons.mp h with rfl | h
   ·exact absurd rfl e
   ·have : getW (x :: xs) w.k.l = getW xs w.k.l := List.find?_cons_of_neg (fun z => e (of_decide_eq_true z))
    rw [this]
    exact ih h2 h
theorem Gm_mem {ws : List Wn} {w : Wn} (nd : (ws.map Wn.k).Nodup) (h : w ∈ ws) : Gm ws w.k = some (w.c, w.t) := Gm_of (getW_nd nd h)
theorem ky_ne {k : Ky} {n : Str} {s e : Int} (h : k ≠ ⟨n, s, e⟩) : k.l ≠ kyL n s e := fun z => h (ky_inj (a := k) (b := ⟨n, s, e⟩) z)
theorem getW_app (a b : List Wn) (k : Ky) : getW (a ++ b) k.l = (getW a k.l).or (getW b k.l) := List.find?_append
theorem getW_map (ws : List Wn) (f : Wn → Wn) (hf : ∀ w, (f w).ky = w.ky) (k : Ky) : getW (ws.map f) k.l = (getW ws k.l).map f := by
 unfold getW
 rw [List.find?_map]
 have : ((fun w : Wn => decide (w.ky = k.l)) ∘ f) = fun w => decide (w.ky = k.l) := by
  funext w
  show decide ((f w).ky = k.l) = _
  rw [hf]
 rw [this]
theorem Gm_set_same (ws : List Wn) (n : Str) (s e c t : Int) : Gm (setW ws n s e c t) ⟨n, s, e⟩ = some (c, t) := by
 unfold Gm setW
 by_cases h : (ws.any fun w => decide (w.ky = kyL n s e)) = true
 ·rw [if_pos h, getW_map _ _ fun w => by split <;> rfl]
  obtain ⟨w, hw, hk⟩ := List.any_eq_true.mp h
  have hm : (⟨n, s, e⟩ : Ky) ∈ ws.map Wn.k := by
   have : w.k = ⟨n, s, e⟩ := ky_inj (of_decide_eq_true hk)
   exact this ▸ List.mem_map_of_mem hw
  obtain ⟨v, hv, hk2⟩ := getW_some hm
  rw [hv]
  have : v.ky = kyL n s e := by
   have : v.k.l = (⟨n, s, e⟩ : Ky).l := by rw [hk2]
   exact this
  simp only [Option.map_some, if_pos this]
 ·rw [if_neg h, getW_app, getW_none]
  ·show Option.map _ (getW [⟨n, s, e, c, t⟩] _) = _
   have : getW [⟨n, s, e, c, t⟩] (⟨n, s, e⟩ : Ky).l = some ⟨n, s, e, c, t⟩ := List.find?_cons_of_pos (decide_eq_true rfl)
   rw [this]
   rfl
  ·intro hm
   obtain ⟨w, hw, hk⟩ := List.mem_map.mp hm
   exact h (List.any_eq_true.mpr ⟨w, hw, decide_eq_true (show w.k.l = _ by rw [hk]; rfl)⟩)
theorem Gm_set_ne {ws : List Wn} {n : Str} {s e c t : Int} {k : Ky} (hk : k ≠ ⟨n, s, e⟩) : Gm (setW ws n s e c t) k = Gm ws k := by
 unfold Gm setW
 by_cases h : (ws.any fun w => decide (w.ky = kyL n s e)) = true
 ·rw [if_pos h, getW_map _ _ fun w => by split <;> rfl]
  cases hg : getW ws k.l with
  | none => rfl
  | some v =>
   have hv := (getW_key hg).2
   have : ¬ v.ky = kyL n s e := fun z => ky_ne hk (by rw [← hv]; exact z)
   show some ((if v.ky = kyL n s e then _ else v : Wn).c, (if v.ky = kyL n s e then _ else v : Wn).t) = _
   rw [if_neg this]
   rfl
 ·rw [if_neg h, getW_app]
  have : getW [⟨n, s, e, c, t⟩] k.l = none := List.find?_cons_of_neg (fun z => ky_ne hk (of_decide_eq_true z).symm)
  rw [this, Option.or_none]
theorem Gm_add_same (ws : List Wn) (n : Str) (s e c t : Int) : Gm (addW ws n s e c t) ⟨n, s, e⟩ = some (pls (Gm ws ⟨n, s, e⟩) c t) := by
 unfold addW
 have e1 : Gm ws ⟨n, s, e⟩ = (getW ws (kyL n s e)).map fun w => (w.c, w.t) := rfl
 cases hg : getW ws (kyL n s e) with
 | none => rw [e1, hg]; exact Gm_set_same ..
 | some w => rw [e1, hg]; exact Gm_set_same ..
theorem Gm_add_ne {ws : List Wn} {n : Str} {s e c t : Int} {k : Ky} (hk : k ≠ ⟨n, s, e⟩) : Gm (addW ws n s e c t) k = Gm ws k := by
 unfold addW
 cases hg : getW ws (kyL n s e) with
 | none => exact Gm_set_ne hk
 | some w => exact Gm_set_ne hk
theorem Gm_drop_same (ws : List Wn) (g : Ky) : Gm (dropW ws g.l) g = none := by
 rw [← Gm_none]
 intro h
 obtain ⟨w, hw, hk⟩ := List.mem_map.mp h
 have := of_decide_eq_true (List.mem_filter.mp hw).2
 exact this (show w.k.l = _ by rw [hk])
theorem getW_drop {g k : Ky} (hk : k ≠ g) : ∀ ws : List Wn, getW (dropW ws g.l) k.l = getW ws k.l := by
 intro ws
 induction ws with
 | nil => rfl
 | cons w ws ih =>
  by_cases hw : w.ky = g.l
  ·have e1 : dropW (w :: ws) g.l = dropW ws g.l := List.filter_cons_of_neg (fun z => (of_decide_eq_true z) hw)
   have e2 : getW (w :: ws) k.l = getW ws k.l := List.find?_cons_of_neg (fun z => hk (ky_inj ((of_decide_eq_true z).symm.trans hw)))
   rw [e1, e2, ih]
  ·have e1 : dropW (w :: ws) g.l = w :: dropW ws g.l := List.filter_cons_of_pos (decide_eq_true hw)
   rw [e1]
   unfold getW at ih ⊢
   rw [List.find?_cons, List.find?_cons, ih]
theorem Gm_drop_ne {ws : List Wn} {g k : Ky} (hk : k ≠ g) : Gm (dropW ws g.l) k = Gm ws k := by unfold Gm; rw [getW_drop hk]
theorem Gm_all {a : Int} {k : Ky} : ∀ {ks : List Ky} {ws : List Wn}, ks.Nodup → (k ∈ ks → Gm (addAll a ws ks) k = some (pls (Gm ws k) 1 a)) ∧ (k ∉ ks → Gm (addAll a ws ks) k = Gm ws k) := by
 intro ks
 induction ks with
 | nil => exact fun _ => ⟨fun h => (nomatch h), fun _ => rfl⟩
 | cons q ks ih =>
  intro ws nd
  obtain ⟨h1, h2⟩ := List.nodup_cons.mp nd
  obtain ⟨i1, i2⟩ := ih (ws := addW ws q.n q.s q.e 1 a) h2
  have e : addAll a ws (q :: ks) = addAll a (addW ws q.n q.s q.e 1 a) ks := rfl
  rw [e]
  refine ⟨fun h => ?_, fun h => ?_⟩
  ·by_cases hq : k = q
   ·subst hq
    rw [i2 h1]
    exact Gm_add_same ..
   ·rw [i1 ((List.mem_cons.mp h).resolve_left hq), Gm_add_ne hq]
  ·rw [i2 fun z => h (.tail _ z)]
   exact Gm_add_ne fun z => h (z ▸ .head _)
theorem Gm_move {g k : Ky} (hk : k ≠ g) : ∀ {mt : List Ky} {ws : List Wn}, (k ∈ mt → Gm (moveW ws mt g) k = none) ∧ (k ∉ mt → Gm (moveW ws mt g) k = Gm ws k) := by
 intro mt
 induction mt with
 | nil => exact ⟨fun h => (nomatch h), fun _ => rfl⟩
 | cons q mt ih =>
  intro ws
  cases hg : getW ws q.l with
  | none =>
   have e : moveW ws (q :: mt) g = moveW ws mt g := by
    show moveW (match getW ws q.l with | some w => _ | none => ws) mt g = _
    rw [hg]
   rw [e]
   obtain ⟨i1, i2⟩ := ih (ws := ws)
   refine ⟨fun h => ?_, fun h => i2 fun z => h (.tail _ z)⟩
   by_cases hm : k ∈ mt
   ·exact i1 hm
   ·rw [i2 hm]
    have : k = q := (List.mem_cons.mp h).resolve_right hm
    unfold Gm
    rw [this, hg]
    rfl
  | some w =>
   have e : moveW ws (q :: mt) g = moveW (addW (dropW ws q.l) g.n g.s g.e w.c w.t) mt g := by
    show moveW (match getW ws q.l with | some w => addW (dropW ws q.l) g.n g.s g.e w.c w.t | none => ws) mt g = _
    rw [hg]
   rw [e]
   obtain ⟨i1, i2⟩ := ih (ws := addW (dropW ws q.l) g.n g.s g.e w.c w.t)
   refine ⟨fun h => ?_, fun h => ?_⟩
   ·by_cases hm : k ∈ mt
    ·exact i1 hm
    ·have : k = q := (List.mem_cons.mp h).resolve_right hm
     subst this
     rw [i2 hm, Gm_add_ne hk, Gm_drop_same]
   ·rw [i2 fun z => h (.tail _ z), Gm_add_ne hk, Gm_drop_ne (fun z => h (by rw [z]; exact .head _))]
theorem Gm_move1 {g : Ky} {ws : List Wn} {p : Int × Int} (h : Gm ws g = some p) : Gm (moveW ws [g] g) g = some p := by
 obtain ⟨w, hw, _, rfl⟩ := Gm_get h
 have e : moveW ws [g] g = addW (dropW ws g.l) g.n g.s g.e w.c w.t := by
  show (match getW ws g.l with | some w => addW (dropW ws g.l) g.n g.s g.e w.c w.t | none => ws) = _
  rw [hw]
 rw [e, show Gm (addW (dropW ws g.l) g.n g.s g.e w.c w.t) g = some (pls (Gm (dropW ws g.l) g) w.c w.t) from Gm_add_same .., Gm_drop_same]
 simp [pls]
noncomputable def Apart (ks : List Ky) : Prop := ∀ k ∈ ks, k.s < k.e ∧ ∀ q ∈ ks, k.n = q.n → k ≠ q → k.e ≤ q.s ∨ q.e ≤ k.s
noncomputable def Say.k : Say → Ky
 | .told w => w.k
 | .gone k => k
 | .missed n t a => ⟨n, t, a⟩
noncomputable def upS (sd : List Wn) : Say → List Wn
 | .told w => setW sd w.n w.s w.e w.c w.t
 | .gone k => dropW sd k.l
 | .missed _ _ _ => sd
theorem hear_ne {k : Ky} : ∀ {out : List Say} {sd : List Wn}, k ∉ out.map Say.k → Gm (out.foldl upS sd) k = Gm sd k := by
 intro out
 induction out with
 | nil => exact fun _ => rfl
 | cons z out ih =>
  intro sd h
  have h1 : k ≠ Say.k z := fun e => h (e ▸ .head _)
  have h2 : k ∉ out.map Say.k := fun e => h (.tail _ e)
  rw [List.foldl_cons, ih h2]
  cases z with
  | told w => exact Gm_set_ne h1
  | gone q => exact Gm_drop_ne h1
  | missed n t a => rfl
theorem hear_told {w : Wn} : ∀ {out : List Say} {sd : List Wn}, (out.map Say.k).Nodup → Say.told w ∈ out → Gm (out.foldl upS sd) w.k = some (w.c, w.t) := by
 intro out
 induction out with
 | nil => intro _ _ h; cases h
 | cons z out ih =>
  intro sd nd h
  obtain ⟨h1, h2⟩ := List.nodup_cons.mp nd
  rw [List.foldl_cons]
  rcases List.mem_cons.mp h with rfl | h
  ·rw [show Gm (List.foldl upS (upS sd (Say.told w)) out) w.k = _ from hear_ne h1]
   exact Gm_set_same ..
  ·exact ih h2 h
theorem hear_gone {k : Ky} : ∀ {out : List Say} {sd : List Wn}, (out.map Say.k).Nodup → Say.gone k ∈ out → Gm (out.foldl upS sd) k = none := by
 intro out
 induction out with
 | nil => intro _ _ h; cases h
 | cons z out ih =>
  intro sd nd h
  obtain ⟨h1, h2⟩ := List.nodup_cons.mp nd
  rw [List.foldl_cons]
  rcases List.mem_cons.mp h with rfl | h
  ·rw [show Gm (List.foldl upS (upS sd (Say.gone k)) out) k = _ from hear_ne h1]
   exact Gm_drop_same ..
  ·exact ih h2 h
noncomputable def okE (sd : List Wn) (n : Str) (t a m : Int) : Say → Prop
 | .told w => w.n = n ∧ w.e ≤ m ∧ w.s ≤ t ∧ t < w.e ∧ ∀ v, getW sd w.k.l = some v → v.c + 1 = w.c ∧ v.t + a = w.t
 | .gone k => k.n = n ∧ k.e ≤ m ∧ ∃ v, getW sd k.l = some v
 | .missed _ _ _ => False
noncomputable def EvOk (sd : List Wn) (mk : Option Int) (n : Str) (t a : Int) (out : List Say) : Prop := (out.map Say.k).Nodup ∧ ∀ z ∈ out, ∃ m, mk = some m ∧ okE sd n t a m z
noncomputable def MkOk (sd : List Wn) (mk : Option Int) (t : Int) (out : List Say) : Prop := ∃ rs : List Wn, out = rs.map Say.told ∧ (∀ w ∈ rs, getW sd w.k.l = none ∧ w.e ≤ t ∧ closed mk w.e = false) ∧ (rs.map Wn.ed).Pairwise (fun d e => dcmp d e = .lt) ∧ (stale mk t = true → rs = [])
structure Stands (pl : Pl) (st : Sta) (sd : List Wn) : Prop where
 nd : (st.ws.map Wn.k).Nodup
 dj : isP pl = true → Apart (st.ws.map Wn.k)
 sd : ∀ k, Gm sd k = if closed st.mk k.e = true then Gm st.ws k else none
theorem closed_some {mk : Option Int} {e : Int} (h : closed mk e = true) : ∃ m, mk = some m ∧ e ≤ m := by
 cases mk with
 | none => cases h
 | some m => exact ⟨m, rfl, of_decide_eq_true h⟩
theorem tolds_sub {mk : Option Int} {ws : List Wn} : ∀ ks : List Ky, ((tolds mk ws ks).map Say.k).Sublist ks := by
 intro ks
 induction ks with
 | nil => exact .slnil
 | cons k ks ih =>
  unfold tolds at ih ⊢
  by_cases hc : closed mk k.e = true
  ·rw [List.filter_cons_of_pos (p := fun k : Ky => closed mk k.e) hc]
   cases hg : getW ws k.l with
   | none => rw [List.filterMap_cons_none (by rw [hg]; rfl)]; exact .cons _ ih
   | some w =>
    rw [List.filterMap_cons_some (b := .told w) (by rw [hg]; rfl), List.map_cons]
    have : Say.k (.told w) = k := (getW_key hg).2
    rw [this]
    exact .cons_cons _ ih
  ·rw [List.filter_cons_of_neg (p := fun k : Ky => closed mk k.e) hc]
   exact .cons _ ih
theorem mem_tolds {mk : Option Int} {ws : List Wn} {ks : List Ky} {z : Say} : z ∈ tolds mk ws ks ↔ ∃ k w, k ∈ ks ∧ closed mk k.e = true ∧ getW ws k.l = some w ∧ z = .told w := by
 unfold tolds
 constructor
 ·intro h
  obtain ⟨k, hk, e⟩ := List.mem_filterMap.mp h
  obtain ⟨w, hw, rfl⟩ := Option.map_eq_some_iff.mp e
  exact ⟨k, w, (List.mem_filter.mp hk).1, (List.mem_filter.mp hk).2, hw, rfl⟩
 ·rintro ⟨k, w, hk, hc, hw, rfl⟩
  exact List.mem_filterMap.mpr ⟨k, List.mem_filter.mpr ⟨hk, hc⟩, by rw [hw]; rfl⟩
open Classical in
theorem mem_gones {mk : Option Int} {ms ks : List Ky} {z : Say} : z ∈ gones mk ms ks ↔ ∃ k, k ∈ ms ∧ k ∉ ks ∧ closed mk k.e = true ∧ z = .gone k := by
 unfold gones
 constructor
 ·intro h
  obtain ⟨k, hk, rfl⟩ := List.mem_map.mp h
  obtain ⟨h1, h2⟩ := List.mem_filter.mp hk
  have h2 := (Bool.and_eq_true _ _).mp h2
  exact ⟨k, h1, of_decide_eq_true h2.1, h2.2, rfl⟩
 ·rintro ⟨k, h1, h2, h3, rfl⟩
  exact List.mem_map_of_mem (List.mem_filter.mpr ⟨h1, (Bool.and_eq_true _ _).mpr ⟨decide_eq_true h2, h3⟩⟩)
theorem gones_sub (mk : Option Int) (ms ks : List Ky) : ((gones mk ms ks).map Say.k).Sublist ms := by
 unfold gones
 rw [List.map_map]
 have : (Say.k ∘ Say.gone) = id := rfl
 rw [this, List.map_id]
 exact List.filter_sublist
theorem ev_step {mk : Option Int} {n : Str} {t a : Int} {ws ws' sd : List Wn} {mt ks : List Ky} (S : ∀ k, Gm sd k = if closed mk k.e = true then Gm ws k else none) (m1 : mt.Nodup) (m2 : ∀ k ∈ mt, k.n = n ∧ k ∈ ws.map Wn.k) (k1 : ks.Nodup) (k2 : ∀ k ∈ ks, k.n = n ∧ k.s ≤ t ∧ t < k.e)
  (h1 : ∀ k ∈ mt, k ∉ ks → Gm ws' k = none) (h2 : ∀ k, k ∉ mt → k ∉ ks → Gm ws' k = Gm ws k) (h3 : ∀ k ∈ ks, ∃ p, Gm ws' k = some p ∧ ∀ q, Gm ws k = some q → p = (q.1 + 1, q.2 + a)) :
  EvOk sd mk n t a (gones mk mt ks ++ tolds mk ws' ks) ∧ ∀ k, Gm ((gones mk mt ks ++ tolds mk ws' ks).foldl upS sd) k = if closed mk k.e = true then Gm ws' k else none := by
 have nd : ((gones mk mt ks ++ tolds mk ws' ks).map Say.k).Nodup := by
  rw [List.map_append]
  refine List.nodup_append.mpr ⟨m1.sublist (gones_sub ..), k1.sublist (tolds_sub _), fun x hx y hy e => ?_⟩
  subst e
  obtain ⟨z, hz, rfl⟩ := List.mem_map.mp hx
  obtain ⟨k, _, h, _, rfl⟩ := mem_gones.mp hz
  exact h ((tolds_sub ks).mem hy)
 refine ⟨⟨nd, fun z hz => ?_⟩, fun k => ?_⟩
 ·rcases List.mem_append.mp hz with hz | hz
  ·obtain ⟨k, hk, _, hc, rfl⟩ := mem_gones.mp hz
   obtain ⟨m, rfl, hm⟩ := closed_some hc
   refine ⟨m, rfl, (m2 k hk).1, hm, ?_⟩
   obtain ⟨p, hp⟩ := Gm_has.mp (m2 k hk).2
   have := S k
   rw [if_pos hc, hp] at this
   obtain ⟨w, hw, _⟩ := Gm_get this
   exact ⟨w, hw⟩
  ·obtain ⟨k, w, hk, hc, hw, rfl⟩ := mem_tolds.mp hz
   have e := (getW_key hw).2
   obtain ⟨m, rfl, hm⟩ := closed_some hc
   obtain ⟨n1, s1, e1⟩ := k2 k hk
   refine ⟨m, rfl, ?_⟩
   subst e
   refine ⟨n1, hm, s1, e1, fun v hv => ?_⟩
   obtain ⟨p, hp, hq⟩ := h3 _ hk
   have g1 := Gm_of hv
   rw [S, if_pos hc] at g1
   have := hq _ g1
   rw [this, Gm_of hw] at hp
   injection hp with hp
   injection hp with p1 p2
   exact ⟨p1.symm, p2.symm⟩
 ·by_cases hc : closed mk k.e = true
  ·rw [if_pos hc]
   by_cases hk : k ∈ ks
   ·obtain ⟨p, hp, _⟩ := h3 k hk
    obtain ⟨w, hw, e, rfl⟩ := Gm_get hp
    have := hear_told (sd := sd) nd (List.mem_append_right _ (mem_tolds.mpr ⟨k, w, hk, hc, hw, rfl⟩))
    rw [e] at this
    rw [this, hp]
   ·by_cases hm : k ∈ mt
    ·rw [h1 k hm hk]
     exact hear_gone nd (List.mem_append_left _ (mem_gones.mpr ⟨k, hm, hk, hc, rfl⟩))
    ·rw [h2 k hm hk, hear_ne, S, if_pos hc]
     intro h
     rw [List.map_append] at h
     rcases List.mem_append.mp h with h | h
     ·exact hm ((gones_sub ..).mem h)
     ·exact hk ((tolds_sub _).mem h)
  ·rw [if_neg hc, hear_ne, S, if_neg hc]
   intro h
   obtain ⟨z, hz, rfl⟩ := List.mem_map.mp h
   rcases List.mem_append.mp hz with hz | hz
   ·obtain ⟨k, _, _, h', rfl⟩ := mem_gones.mp hz
    exact hc h'
   ·obtain ⟨k, w, _, h', hw, rfl⟩ := mem_tolds.mp hz
    have e := (getW_key hw).2
    exact hc (by show closed mk w.k.e = true; rw [e]; exact h')
theorem spI_in {pl : Pl} (ok : pl.ok) (np : isP pl = false) {t : Int} {q : Int × Int} (h : q ∈ spI pl t) : q.1 ≤ t ∧ t < q.2 := by
 obtain ⟨l1, _, s1, _, _⟩ := ok
 have key : ∀ i : Nat, i < cnt pl t → fst1 pl t + (i : Int) * pl.stp ≤ t ∧ t < fst1 pl t + (i : Int) * pl.stp + pl.len := by
  intro i hi
  unfold K1.cnt rngN at hi
  have hi : i < (rsz (fst1 pl t) (t + 1) pl.stp).toNat := hi
  unfold rsz at hi
  rw [if_pos (by lia)] at hi
  by_cases hl : fst1 pl t < t + 1
  ·rw [if_pos hl] at hi
   have h1 : (i : Int) ≤ (t + 1 - fst1 pl t - 1) / pl.stp := by
    have : 0 ≤ (t + 1 - fst1 pl t - 1) / pl.stp := Int.ediv_nonneg (by lia) (by lia)
    lia
   have h2 : (i : Int) * pl.stp ≤ t + 1 - fst1 pl t - 1 := by
    have := Int.mul_le_of_le_ediv (by lia : (0:Int) < pl.stp) h1
    exact this
   have h3 : t - pl.len < fst1 pl t := by
    unfold fst1
    have := Int.lt_ediv_add_one_mul_self (t - pl.len) (show 0 < pl.stp by lia)
    exact this
   have h4 : 0 ≤ (i : Int) * pl.stp := Int.mul_nonneg (by lia) (by lia)
   lia
  ·rw [if_neg hl] at hi
   exact absurd hi (by simp)
 have go : q ∈ (List.range (cnt pl t)).map (fun (i : Nat) => (fst1 pl t + (i : Int) * pl.stp, fst1 pl t + (i : Int) * pl.stp + pl.len)) → q.1 ≤ t ∧ t < q.2 := by
  intro h
  obtain ⟨i, hi, rfl⟩ := List.mem_map.mp h
  exact key i (List.mem_range.mp hi)
 cases pl with
 | fixed l g => exact go h
 | sliding l s g => exact go h
 | pauses l g => cases np
theorem evKeys_nd {pl : Pl} (ok : pl.ok) (n : Str) (t : Int) : (evKeys pl n t).Nodup := by
 have go : ((List.range (cnt pl t)).map (fun (i : Nat) => (⟨n, fst1 pl t + (i : Int) * pl.stp, fst1 pl t + (i : Int) * pl.stp + pl.len⟩ : Ky))).Nodup := by
  refine List.Pairwise.map _ (fun i j (h : i ≠ j) e => ?_) List.nodup_range
  injection e with _ e _
  have e : (i : Int) * pl.stp = (j : Int) * pl.stp := by lia
  have := Int.eq_of_mul_eq_mul_right (by have := ok.s1; lia) e
  exact h (by lia)
 cases pl with
 | fixed l g => unfold evKeys spI; rw [List.map_map]; exact go
 | sliding l s g => unfold evKeys spI; rw [List.map_map]; exact go
 | pauses l g => exact List.nodup_cons.mpr ⟨fun h => (nomatch h), List.Pairwise.nil⟩
theorem shE_is (w : Wn) : Dv.isA shE w.ed = true := rfl
theorem pairs_lt : ∀ {rs : List Wn}, (rs.map Wn.k).Nodup → (rs.map Wn.ed).Pairwise (fun d e => dcmp d e ≠ .gt) → (rs.map Wn.ed).Pairwise (fun d e => dcmp d e = .lt) := by
 intro rs
 induction rs with
 | nil => exact fun _ _ => .nil
 | cons w rs ih =>
  intro nd h
  obtain ⟨n1, n2⟩ := List.nodup_cons.mp nd
  obtain ⟨h1, h2⟩ := List.pairwise_cons.mp h
  refine List.pairwise_cons.mpr ⟨fun d hd => ?_, ih n2 h2⟩
  obtain ⟨v, hv, rfl⟩ := List.mem_map.mp hd
  have g := h1 _ hd
  cases hc : dcmp w.ed v.ed with
  | lt => rfl
  | gt => exact absurd hc g
  | eq =>
   have := (cmp_eq (shE_is w) (shE_is v)).mp hc
   have e : w.k = v.k := by
    unfold Wn.ed at this
    injection this with e
    injection e with e1 e
    injection e with e2 e
    injection e with e3 _
    injection e1 with e1
    injection e2 with e2
    injection e3 with e3
    unfold Wn.k
    rw [e1, e2, e3]
   exact absurd (e ▸ List.mem_map_of_mem hv) n1
theorem mk_step {mk : Option Int} {t : Int} {ws sd rs : List Wn} (nd : (ws.map Wn.k).Nodup) (S : ∀ k, Gm sd k = if closed mk k.e = true then Gm ws k else none) (hs : stale mk t = false) (p : rs.Perm (ws.filter (fresh mk t))) (o : (rs.map Wn.ed).Pairwise (fun d e => dcmp d e ≠ .gt)) :
  MkOk sd mk t (rs.map Say.told) ∧ ∀ k, Gm ((rs.map Say.told).foldl upS sd) k = if closed (some t) k.e = true then Gm ws k else none := by
 have hm : ∀ w, w ∈ rs ↔ w ∈ ws ∧ w.e ≤ t ∧ closed mk w.e = false := fun w => by
  rw [p.mem_iff, List.mem_filter]
  unfold K2.fresh
  constructor
  ·rintro ⟨h1, h2⟩
   have h2 := (Bool.and_eq_true _ _).mp h2
   exact ⟨h1, of_decide_eq_true h2.1, by simpa using h2.2⟩
  ·rintro ⟨h1, h2, h3⟩
   exact ⟨h1, by rw [decide_eq_true h2, h3]; rfl⟩
 have nr : (rs.map Wn.k).Nodup := ((p.map Wn.k).nodup_iff).mpr (nd.sublist (List.filter_sublist.map _))
 have nr2 : ((rs.map Say.told).map Say.k).Nodup := by rw [List.map_map]; exact nr
 refine ⟨⟨rs, rfl, fun w hw => ?_, pairs_lt nr o, fun h => by rw [hs] at h; cases h⟩, fun k => ?_⟩
 ·obtain ⟨h1, h2, h3⟩ := (hm w).mp hw
  refine ⟨?_, h2, h3⟩
  have := S w.k
  rw [if_neg (by rw [show w.k.e = w.e from rfl, h3]; exact Bool.false_ne_true)] at this
  unfold Gm at this
  exact Option.map_eq_none_iff.mp this
 ·have cl : closed mk k.e = true → closed (some t) k.e = true := fun h => by
   obtain ⟨m, rfl, h⟩ := closed_some h
   have : ¬ t ≤ m := of_decide_eq_false hs
   exact decide_eq_true (by lia)
  by_cases hk : k ∈ rs.map Wn.k
  ·obtain ⟨w, hw, rfl⟩ := List.mem_map.mp hk
   obtain ⟨h1, h2, _⟩ := (hm w).mp hw
   rw [hear_told nr2 (List.mem_map_of_mem hw), if_pos (show closed (some t) w.k.e = true from decide_eq_true h2), Gm_mem nd h1]
  ·rw [hear_ne (by rw [List.map_map]; exact hk), S]
   by_cases hc : closed mk k.e = true
   ·rw [if_pos hc, if_pos (cl hc)]
   ·rw [if_neg hc]
    by_cases ht : closed (some t) k.e = true
    ·rw [if_pos ht]
     refine (Gm_none.mp fun h => ?_).symm
     obtain ⟨w, hw, rfl⟩ := List.mem_map.mp h
     exact hk (List.mem_map_of_mem ((hm w).mpr ⟨hw, of_decide_eq_true ht, by cases h : closed mk w.e with | false => rfl | true => exact absurd h hc⟩))
    ·rw [if_neg ht]
theorem Apart.one {ws : List Wn} {mt : List Ky} {n : Str} {t L s e : Int} (A : Apart (ws.map Wn.k)) (p : mt.Perm ((ws.filter (meet ⟨n, t, t + L⟩)).map Wn.k)) (hL : 1 ≤ L) (h1 : s ≤ t) (h2 : ∀ k ∈ mt, s ≤ k.s) (h3 : t + L ≤ e) (h4 : ∀ k ∈ mt, k.e ≤ e) (nd : mt.Nodup) (hj : (⟨n, s, e⟩ : Ky) ∈ ws.map Wn.k) : mt = [⟨n, s, e⟩] := by
 have hm : ∀ k, k ∈ mt → k ∈ ws.map Wn.k ∧ k.n = n := fun k hk => by
  obtain ⟨w, hw, rfl⟩ := List.mem_map.mp (p.mem_iff.mp hk)
  obtain ⟨w1, w2⟩ := List.mem_filter.mp hw
  exact ⟨List.mem_map_of_mem w1, of_decide_eq_true ((Bool.and_eq_true _ _).mp w2).1⟩
 have jm : (⟨n, s, e⟩ : Ky) ∈ mt := by
  obtain ⟨w, hw, hk⟩ := List.mem_map.mp hj
  have e1 : w.n = n := congrArg Ky.n hk
  have e2 : w.s = s := congrArg Ky.s hk
  have e3 : w.e = e := congrArg Ky.e hk
  refine p.mem_iff.mpr (List.mem_map.mpr ⟨w, List.mem_filter.mpr ⟨hw, ?_⟩, hk⟩)
  unfold meet
  rw [decide_eq_true e1, decide_eq_true (show w.s < t + L by lia), decide_eq_true (show t < w.e by lia)]
  rfl
 have all : ∀ k ∈ mt, k = ⟨n, s, e⟩ := fun k hk => Classical.byContradiction fun hn => by
  obtain ⟨k1, k2⟩ := hm k hk
  obtain ⟨a1, a2⟩ := A k k1
  have a3 := h2 k hk
  have a4 := h4 k hk
  rcases a2 _ hj k2 hn with z | z
  ·have z : k.e ≤ s := z
   lia
  ·have z : e ≤ k.s := z
   lia
 cases mt with
 | nil => cases jm
 | cons x xs =>
  have ex := all x (.head _)
  cases xs with
  | nil => rw [ex]
  | cons y ys =>
   have ey := all y (.tail _ (.head _))
   exact absurd (by rw [ex, ey]; exact .head _) (List.nodup_cons.mp nd).1
theorem Apart.join {ws ws' : List Wn} {mt : List Ky} {n : Str} {t L s e : Int} (A : Apart (ws.map Wn.k)) (p : mt.Perm ((ws.filter (meet ⟨n, t, t + L⟩)).map Wn.k)) (hL : 1 ≤ L) (g1 : s = t ∨ ∃ k ∈ mt, k.s = s) (h1 : s ≤ t) (g2 : e = t + L ∨ ∃ k ∈ mt, k.e = e) (h3 : t + L ≤ e)
  (hk : ∀ k, k ∈ ws'.map Wn.k → k = ⟨n, s, e⟩ ∨ (k ∈ ws.map Wn.k ∧ k ∉ mt)) : Apart (ws'.map Wn.k) := by
 have hm : ∀ k, k ∈ mt → k ∈ ws.map Wn.k ∧ k.n = n ∧ k.s < t + L ∧ t < k.e := fun k hk => by
  obtain ⟨w, hw, rfl⟩ := List.mem_map.mp (p.mem_iff.mp hk)
  obtain ⟨w1, w2⟩ := List.mem_filter.mp hw
  have w3 := (Bool.and_eq_true _ _).mp w2
  have w4 := (Bool.and_eq_true _ _).mp w3.2
  exact ⟨List.mem_map_of_mem w1, of_decide_eq_true w3.1, of_decide_eq_true w4.1, of_decide_eq_true w4.2⟩
 have un : ∀ k, k ∈ ws.map Wn.k → k ∉ mt → k.n = n → t + L ≤ k.s ∨ k.e ≤ t := fun k h1 h2 h3 => Classical.byContradiction fun hn => by
  obtain ⟨w, hw, rfl⟩ := List.mem_map.mp h1
  refine h2 (p.mem_iff.mpr (List.mem_map.mpr ⟨w, List.mem_filter.mpr ⟨hw, ?_⟩, rfl⟩))
  have n1 : w.s < t + L := by
   have : ¬ t + L ≤ w.k.s := fun z => hn (.inl z)
   exact Int.not_le.mp this
  have n2 : t < w.e := by
   have : ¬ w.k.e ≤ t := fun z => hn (.inr z)
   exact Int.not_le.mp this
  unfold meet
  rw [decide_eq_true (show w.n = n from h3), decide_eq_true n1, decide_eq_true n2]
  rfl
 have ap : ∀ k, k ∈ ws.map Wn.k → k ∉ mt → k.n = n → e ≤ k.s ∨ k.e ≤ s := fun k u1 u2 u3 => by
  obtain ⟨a1, a2⟩ := A k u1
  rcases un k u1 u2 u3 with z | z
  ·left
   rcases g2 with rfl | ⟨q, hq, rfl⟩
   ·exact z
   ·obtain ⟨q1, q2, q3, q4⟩ := hm q hq
    rcases a2 q q1 (u3.trans q2.symm) (fun x => u2 (x ▸ hq)) with y | y
    ·lia
    ·exact y
  ·right
   rcases g1 with rfl | ⟨q, hq, rfl⟩
   ·exact z
   ·obtain ⟨q1, q2, q3, q4⟩ := hm q hq
    rcases a2 q q1 (u3.trans q2.symm) (fun x => u2 (x ▸ hq)) with y | y
    ·exact y
    ·lia
 intro k hk1
 rcases hk k hk1 with rfl | ⟨k1, k2⟩
 ·refine ⟨by show s < e; lia, fun q hq hn he => ?_⟩
  rcases hk q hq with rfl | ⟨q1, q2⟩
  ·exact absurd rfl he
  ·exact ap q q1 q2 hn.symm
 ·refine ⟨(A k k1).1, fun q hq hn he => ?_⟩
  rcases hk q hq with rfl | ⟨q1, q2⟩
  ·exact (ap k k1 k2 hn).symm
  ·exact (A k k1).2 q q1 hn he
noncomputable def DdOk (sd : List Wn) (mk : Option Int) (out : List Say) : Deed → Prop
 | .ev n t a => out = [.missed n t a] ∨ EvOk sd mk n t a out
 | .mk t => MkOk sd mk t out
theorem stands_step {pl : Pl} {st st' : Sta} {sd : List Wn} {dd : Deed} {out : List Say} (ok : pl.ok) (I : Stands pl st sd) (d : DoRel pl st dd out st') : DdOk sd st.mk out dd ∧ Stands pl st' (out.foldl upS sd) := by
 obtain ⟨nd, dj, S⟩ := I
 cases dd with
 | ev n t a =>
  rcases d with ⟨_, rfl, rfl⟩ | ⟨_, mt, ks, ws', er, rfl, rfl⟩
  ·exact ⟨.inl rfl, nd, dj, S⟩
  ·rcases er with ⟨np, rfl, rfl, rfl⟩ | ⟨hp, pm, _, s, e, g1, h1, h2, g2, h3, h4, rfl, rfl⟩
   ·have kn := evKeys_nd ok n t
    have hin : ∀ k ∈ evKeys pl n t, k.n = n ∧ k.s ≤ t ∧ t < k.e := fun k hk => by
     obtain ⟨q, hq, rfl⟩ := List.mem_map.mp hk
     exact ⟨rfl, spI_in ok np hq⟩
    obtain ⟨r1, r2⟩ := ev_step (a := a) (ws' := addAll a st.ws (evKeys pl n t)) (mt := []) (n := n) (t := t) S .nil (fun _ h => nomatch h) kn hin (fun _ h => nomatch h) (fun k _ hk => (Gm_all kn).2 hk) (fun k hk => ⟨_, (Gm_all kn).1 hk, fun q hq => by rw [hq]; rfl⟩)
    exact ⟨.inr r1, addAll_nodup nd, fun h => (by rw [np] at h; cases h), r2⟩
   ·have mn : mt.Nodup := pm.nodup_iff.mpr (nd.sublist (List.filter_sublist.map _))
    have hm : ∀ k ∈ mt, k.n = n ∧ k ∈ st.ws.map Wn.k := fun k hk => by
     obtain ⟨w, hw, rfl⟩ := List.mem_map.mp (pm.mem_iff.mp hk)
     obtain ⟨w1, w2⟩ := List.mem_filter.mp hw
     exact ⟨of_decide_eq_true ((Bool.and_eq_true _ _).mp w2).1, List.mem_map_of_mem w1⟩
    have l1 := ok.l1
    have f1 : ∀ k ∈ mt, k ∉ [(⟨n, s, e⟩ : Ky)] → Gm (addW (moveW st.ws mt ⟨n, s, e⟩) n s e 1 a) k = none := fun k hk hn => by
     have hn : k ≠ ⟨n, s, e⟩ := fun z => hn (by rw [z]; exact .head _)
     rw [Gm_add_ne hn, (Gm_move hn).1 hk]
    have f2 : ∀ k, k ∉ mt → k ∉ [(⟨n, s, e⟩ : Ky)] → Gm (addW (moveW st.ws mt ⟨n, s, e⟩) n s e 1 a) k = Gm st.ws k := fun k hk hn => by
     have hn : k ≠ ⟨n, s, e⟩ := fun z => hn (by rw [z]; exact .head _)
     rw [Gm_add_ne hn, (Gm_move hn).2 hk]
    obtain ⟨r1, r2⟩ := ev_step (a := a) (ws' := addW (moveW st.ws mt ⟨n, s, e⟩) n s e 1 a) (mt := mt) (ks := [⟨n, s, e⟩]) (n := n) (t := t) S mn hm (List.nodup_cons.mpr ⟨fun h => (nomatch h), List.Pairwise.nil⟩) (fun k hk => by
      have : k = ⟨n, s, e⟩ := by simpa using hk
      subst this
      exact ⟨rfl, h1, by show t < e; lia⟩) f1 f2 (fun k hk => by
      have : k = ⟨n, s, e⟩ := by simpa using hk
      subst this
      refine ⟨_, Gm_add_same .., fun q hq => ?_⟩
      have := (dj hp).one pm l1 h1 h2 h3 h4 mn (Gm_has.mpr ⟨q, hq⟩)
      rw [this, Gm_move1 hq]
      rfl)
    refine ⟨.inr r1, addW_nodup (moveW_nodup nd), fun _ => (dj hp).join pm l1 g1 h1 g2 h3 fun k hk => ?_, r2⟩
    by_cases hj : k = ⟨n, s, e⟩
    ·exact .inl hj
    ·right
     have hj' : k ∉ [(⟨n, s, e⟩ : Ky)] := fun z => hj (by simpa using z)
     by_cases hkm : k ∈ mt
     ·exact absurd hk (Gm_none.mpr (f1 k hkm hj'))
     ·obtain ⟨p, hp'⟩ := Gm_has.mp hk
      have hp' : Gm (addW (moveW st.ws mt ⟨n, s, e⟩) n s e 1 a) k = some p := hp'
      rw [f2 k hkm hj'] at hp'
      exact ⟨Gm_has.mpr ⟨p, hp'⟩, hkm⟩
 | mk t =>
  rcases d with ⟨hs, rfl, rfl⟩ | ⟨hs, rs, p, o, rfl, rfl⟩
  ·exact ⟨⟨[], rfl, fun _ h => (nomatch h), List.Pairwise.nil, fun _ => rfl⟩, nd, dj, S⟩
  ·obtain ⟨r1, r2⟩ := mk_step nd S hs p o
   exact ⟨r1, nd, dj, r2⟩
end K3
namespace K3
open PySem PySem.Spec PyProof.Rows L2 K1 K2
inductive spWholeI (vs : List V) (H : Hp) (Q : VK) : Prop
 | mk (i : Int) : (vs = [.int i]) → (Q (.bl true) H) → spWholeI vs H Q
noncomputable def spWhole : Sp := fun vs H Q d_ => spWholeI vs H Q
inductive spSaidI (vs : List V) (H : Hp) (Q : VK) : Prop
 | mk (a : Addr) (z : Say) : (vs = [.ref a]) → (H a = some (.tup z.v)) → (∀ H', Same H H' → Q (.bl true) H') → spSaidI vs H Q
noncomputable def spSaid (K : PySem.W.Frag) : Sp := fun vs H Q d_ => spSaidI vs H Q
inductive spAreI (vs : List V) (H : Hp) (Q : VK) : Prop
 | mk (l : Addr) (zs : List V) (out : List Say) : (vs = [.ref l]) → (H l = some (.lst zs)) → (ListAt Say.v H zs out) → (∀ H', Same H H' → Q (.bl true) H') → spAreI vs H Q
noncomputable def spAre (K : PySem.W.Frag) : Sp := fun vs H Q d_ => spAreI vs H Q
theorem at0 {x : V} {l : List V} : atI (x :: l) 0 = some x := atI_nat (show (x :: l)[0]? = some x from rfl)
theorem at1 {x y : V} {l : List V} : atI (x :: y :: l) 1 = some y := atI_nat (show (x :: y :: l)[1]? = some y from rfl)
theorem decT {a b : V} (h : a = b) : V.bl (decide (a = b)) = .bl true := by rw [decide_eq_true h]
theorem say_v (z : Say) : ∃ (tg nm : Str) (ns : List Int), z.v = .str tg :: .str nm :: ns.map V.int ∧ 2 ≤ ns.length ∧ ((tg = "told" ∧ ns.length = 4) ∨ (tg ≠ "told" ∧ (tg = "gone" ∨ tg = "missed") ∧ ns.length = 2)) := by
 cases z with
 | told w => exact ⟨"told", w.n, [w.s, w.e, w.c, w.t], rfl, by simp, .inl ⟨rfl, rfl⟩⟩
 | gone k => exact ⟨"gone", k.n, [k.s, k.e], rfl, by simp, .inr ⟨by decide +kernel, .inl rfl, rfl⟩⟩
 | missed n t a => exact ⟨"missed", n, [t, a], rfl, by simp, .inr ⟨by decide +kernel, .inr rfl, rfl⟩⟩
section
variable {P : Program} {w : World} {K : PySem.W.Frag} {mg : Str → Option Value}
theorem kit_ib : PySem.W.kitOne K (.type "int") (.type "bool") = some false := by with_unfolding_all rfl
theorem f_whole (D : DefIn K "_law_whole" st__law_whole) (M : MG K mg) (B : Bi K) : FnB P w K mg "_law_whole" ["_law_found"] 1 spWhole := by
 refine D.fn M sc__law_whole bd__law_whole (fun vs H Q E h => ?_) (fun f base cdv A outer s H vs Q E hr h => ?_)
 ·obtain ⟨i, rfl, _⟩ := h
  rfl
 ·obtain ⟨i, rfl, k⟩ := h
  refine ⟨_, (pss_one (ps_ret (pe_and (pcallB call_isinst rfl (M.no _ B.b_isinstance) bt_isinstance (pc (pv 0) (pc (pe_bltn (v := .ty "int") rfl (M.no _ B.b_int) bt_int rfl) pa_nil))) (pe_one (pe_not (pcallB call_isinst rfl (M.no _ B.b_isinstance) bt_isinstance (pc (pv 0) (pc (pe_bltn (v := .ty "bool") rfl (M.no _ B.b_bool) bt_bool rfl) pa_nil)))))))), ?_⟩
  exact ⟨_, rfl, _, _, _, true, rfl, .int i, rfl, true, rfl, ite2 (fun _ => ⟨_, rfl, _, _, _, false, rfl, .int i, kit_ib, false, rfl, k⟩) (fun h => absurd rfl h)⟩
theorem f_said (D : DefIn K "_law_is_said" st__law_is_said) (M : MG K mg) (B : Bi K) (F__law_whole : FnB P w K mg "_law_whole" ["_law_found"] 1 spWhole) : FnB P w K mg "_law_is_said" ["_law_found"] 2 (spSaid K) := by
 refine D.fn M sc__law_is_said bd__law_is_said (fun vs H Q E h => ?_) (fun f base cdv A outer s H vs Q E hr h => ?_)
 ·obtain ⟨a, z, rfl, _⟩ := h
  rfl
 ·obtain ⟨a, z, rfl, ha, k⟩ := h
  refine ⟨_, (pss_cons (ps_if (PW.pt (pw_or (pt_not (pt_val (pcallB call_isinst rfl (M.no _ B.b_isinstance) bt_isinstance (pc (pv 0) (pc (pe_bltn (v := .ty "tuple") rfl (M.no _ B.b_tuple) bt_tuple rfl) pa_nil))))) (pw_or1 (pt_cmpR oLt (pcallB call_len_seq rfl (M.no _ B.b_len) bt_len (pc (pv 0) pa_nil)) pe_int (nomark _))))) (pss_one (ps_ret pe_bl)) pss_nil)
   (pss_cons (ps_if (PW.pt (pw_or (pt_not (pt_val (pcallB call_isinst rfl (M.no _ B.b_isinstance) bt_isinstance (pc (pe_ix ix_tup (pv 0) pe_int (fun _ _ => rfl)) (pc (pe_bltn (v := .ty "str") rfl (M.no _ B.b_str) bt_str rfl) pa_nil))))) (pw_or1 (pt_not (pt_val (pcallB call_isinst rfl (M.no _ B.b_isinstance) bt_isinstance (pc (pe_ix ix_tup (pv 0) pe_int (fun _ _ => rfl)) (pc (pe_bltn (v := .ty "str") rfl (M.no _ B.b_str) bt_str rfl) pa_nil)))))))) (pss_one (ps_ret pe_bl)) pss_nil)
   (pss_cons (ps_for PassesOwn.never rfl (pi_tup (pe_slice sl_tup (pv 0) (po_some pe_int) po_none)) (pg_name (i := 1) sc__law_is_said.nd rfl (Or.inl rfl))
   (pss_one (ps_if (pt_not (pt_val (pcallF F__law_whole (hr.mono (by decide)) rfl (pc (pv 1) pa_nil)))) (pss_one (ps_ret pe_bl)) pss_nil)))
   (pss_cons (ps_if (pt_cmpR op_eq (pe_ix ix_tup (pv 0) pe_int (fun _ _ => rfl)) pe_str (nomark _)) (pss_one (ps_ret (pe_cmpR op_eq (pcallB call_len_seq rfl (M.no _ B.b_len) bt_len (pc (pv 0) pa_nil)) pe_int (nomark _)))) pss_nil)
   (pss_one (ps_ret (pe_and (pe_or (pe_cmpR op_eq (pe_ix ix_tup (pv 0) pe_int (fun _ _ => rfl)) pe_str (nomark _)) (pe_one (pe_cmpR op_eq (pe_ix ix_tup (pv 0) pe_int (fun _ _ => rfl)) pe_str (nomark _)))) (pe_one (pe_cmpR op_eq (pcallB call_len_seq rfl (M.no _ B.b_len) bt_len (pc (pv 0) pa_nil)) pe_int (nomark _)))))))))), ?_⟩
  obtain ⟨tg, nm, ns, hv, hlen, hlen'⟩ := say_v z
  rw [hv] at ha
  have no : ∀ {A : Prop}, (!true) = true → A := fun h => nomatch h
  refine ⟨_, rfl, _, _, _, true, rfl, .tup ha, rfl, true, rfl, ite2 no fun _ => ?_⟩
  refine ⟨_, rfl, a, _, rfl, .inr (SqT.of ha), _, _, rfl, rfl, _, rfl, ite2 (fun h => ?_) fun _ => ?_⟩
  ·have h' : ((V.str tg :: V.str nm :: ns.map V.int).length : Int) < 4 := of_decide_eq_true h
   simp at h'
   lia
  refine ⟨_, rfl, a, _, 0, _, rfl, rfl, SqT.of ha, at0, _, _, _, true, rfl, .str _, rfl, true, rfl, ite2 no fun _ => ?_⟩
  refine ⟨_, rfl, a, _, 1, _, rfl, rfl, SqT.of ha, at1, _, _, _, true, rfl, .str _, rfl, true, rfl, ite2 no fun _ => ?_⟩
  have hc : cutV (V.str tg :: V.str nm :: ns.map V.int) (some 2) none = ns.map V.int := by
   unfold cutV
   rw [show HT.sIx (V.str tg :: V.str nm :: ns.map V.int).length 0 (some 2) = 2 from (HT.sIx_nat _ 0 2).trans (by simp), HT.sIx_none]
   show (ns.map V.int).take ((V.str tg :: V.str nm :: ns.map V.int).length - 2) = _
   exact List.take_of_length_le (by simp)
  refine ⟨_, rfl, _, rfl, a, _, rfl, SqT.of ha, ?_, fun p hp => ?_⟩
  ·rw [show HT.sIx (V.str tg :: V.str nm :: ns.map V.int).length 0 (some 2) = 2 from (HT.sIx_nat _ 0 2).trans (by simp)]
   intro h
   cases h.1
  have s1 := Same.new (o := .tup (cutV (V.str tg :: V.str nm :: ns.map V.int) (some 2) none)) hp
  have hp1 : upd H p (.tup (cutV (V.str tg :: V.str nm :: ns.map V.int) (some 2) none)) p = some (.tup (ns.map V.int)) := by rw [hc]; exact upd_same
  have ha1 := s1 _ _ ha
  generalize upd H p (.tup (cutV (V.str tg :: V.str nm :: ns.map V.int) (some 2) none)) = H1 at *
  refine ⟨p, rfl, ⟨_, SqT.of hp1⟩, ?_⟩
  refine for_tup (K := K) (a := p) (xs := ns.map V.int) (fun i σ H' => (∃ v, σ = [some (.ref a), v]) ∧ H' = H1) ⟨⟨none, rfl⟩, rfl⟩ (fun i σ H' _ ⟨_, e⟩ => by rw [e]; exact SqT.of hp1) ?_ ?_
  ·rintro i y σ H' hi ⟨⟨v, rfl⟩, rfl⟩
   rw [List.getElem?_map] at hi
   obtain ⟨n, _, rfl⟩ := Option.map_eq_some_iff.mp hi
   exact ⟨_, rfl, n, rfl, _, rfl, ite2 no fun _ => ⟨⟨_, rfl⟩, rfl⟩⟩
  ·rintro σ H' ⟨⟨v, rfl⟩, rfl⟩
   refine ⟨_, rfl, a, _, 0, _, rfl, rfl, SqT.of ha1, at0, rfl, _, rfl, ite2 (fun h => ?_) fun h => ?_⟩
   ·have h' : tg = ("told" : Str) := V.str.inj (of_decide_eq_true h)
    rcases hlen' with ⟨_, hl⟩ | ⟨hn, _⟩
    ·refine ⟨_, rfl, a, _, rfl, .inr (SqT.of ha1), rfl, ?_⟩
     have e : decide (V.int ((V.str tg :: V.str nm :: ns.map V.int).length : Int) = V.int 6) = true := decide_eq_true (by simp [hl])
     rw [e]
     exact k _ s1
    ·exact absurd h' hn
   ·rcases hlen' with ⟨ht, _⟩ | ⟨_, ho, hl⟩
    ·exact absurd (decide_eq_true (by rw [ht])) h
    ·have e : decide (V.int ((V.str tg :: V.str nm :: ns.map V.int).length : Int) = V.int 4) = true := decide_eq_true (by simp [hl])
     have last : ∀ {G : V → Hp → Prop}, G (.bl true) H' → G (.bl (decide (V.int ((V.str tg :: V.str nm :: ns.map V.int).length : Int) = V.int 4))) H' := fun h => by rw [e]; exact h
     refine ⟨_, rfl, a, _, 0, _, rfl, rfl, SqT.of ha1, at0, rfl, _, rfl, ite2 (fun _ => ?_) fun hg => ?_⟩
     ·exact ⟨true, rfl, ite2 (fun _ => ⟨_, rfl, a, _, rfl, .inr (SqT.of ha1), rfl, last (k _ s1)⟩) fun z => absurd rfl z⟩
     ·rcases ho with rfl | rfl
      ·exact absurd (decide_eq_true rfl) hg
      ·exact ⟨_, rfl, a, _, 0, _, rfl, rfl, SqT.of ha1, at0, rfl, true, decT rfl, ite2 (fun _ => ⟨_, rfl, a, _, rfl, .inr (SqT.of ha1), rfl, last (k _ s1)⟩) fun z => absurd rfl z⟩
theorem f_are (D : DefIn K "_law_are_said" st__law_are_said) (M : MG K mg) (B : Bi K) (F__law_is_said : FnB P w K mg "_law_is_said" ["_law_found"] 2 (spSaid K)) : FnB P w K mg "_law_are_said" ["_law_found"] 3 (spAre K) := by
 refine D.fn M sc__law_are_said bd__law_are_said (fun vs H Q E h => ?_) (fun f base cdv A outer s H vs Q E hr h => ?_)
 ·obtain ⟨l, zs, out, rfl, _⟩ := h
  rfl
 ·obtain ⟨l, zs, out, rfl, hl, la, k⟩ := h
  refine ⟨_, (pss_cons (ps_if (pt_not (pt_val (pcallB call_isinst rfl (M.no _ B.b_isinstance) bt_isinstance (pc (pv 0) (pc (pe_bltn (v := .ty "list") rfl (M.no _ B.b_list) bt_list rfl) pa_nil))))) (pss_one (ps_ret pe_bl)) pss_nil)
   (pss_cons (ps_for PassesOwn.never rfl (pi_list (pv 0)) (pg_name (i := 1) sc__law_are_said.nd rfl (Or.inl rfl))
   (pss_one (ps_if (pt_not (pt_val (pcallF F__law_is_said (hr.mono (by decide)) rfl (pc (pv 1) pa_nil)))) (pss_one (ps_ret pe_bl)) pss_nil)))
   (pss_one (ps_ret pe_bl)))), ?_⟩
  have no : ∀ {A : Prop}, (!true) = true → A := fun h => nomatch h
  refine ⟨_, rfl, _, _, _, true, rfl, .lst hl, rfl, true, rfl, ite2 no fun _ => ?_⟩
  refine ⟨_, rfl, l, rfl, ⟨_, SqL.of hl⟩, ?_⟩
  refine for_list (K := K) (a := l) (xs := zs) (fun i σ H' => (∃ v, σ = [some (.ref l), v]) ∧ Same H H') ⟨⟨none, rfl⟩, Same.refl _⟩ (fun i σ H' _ ⟨_, sm⟩ => SqL.of (sm _ _ hl)) ?_ ?_
  ·rintro i y σ H' hi ⟨⟨v, rfl⟩, sm⟩
   obtain ⟨z, b, _, rfl, hb⟩ := la.get hi
   exact ⟨_, rfl, b, z, rfl, sm _ _ hb, fun H2 s2 => ⟨_, rfl, ite2 no fun _ => ⟨⟨_, rfl⟩, sm.trans s2⟩⟩⟩
  ·rintro σ H' ⟨⟨v, rfl⟩, sm⟩
   exact k _ sm
end
end K3
namespace K3
open PySem PySem.Spec PyProof.Rows L2 K1 K2
theorem via {G : Prop} {α : Sort _} {P : α → Prop} (R : α) (h1 : P R → G) (h2 : P R) : G := h1 h2
theorem at_mem {xs : List V} {i : Int} (h0 : 0 ≤ i) (h1 : i < xs.length) : ∃ x, atI xs i = some x ∧ x ∈ xs := by
 have hl : i.toNat < xs.length := by lia
 refine ⟨xs[i.toNat], ?_, List.getElem_mem hl⟩
 have := atI_nat (xs := xs) (j := i.toNat) (v := xs[i.toNat]) (List.getElem?_eq_getElem hl)
 rwa [Int.toNat_of_nonneg h0] at this
theorem mod2 (a b c : Int) (h : 0 < c) : 0 ≤ a % b % c ∧ a % b % c < c := ⟨Int.emod_nonneg _ (by lia), Int.emod_lt_of_pos _ h⟩
noncomputable def lens (w : Int) : List Int := [1, 2, 5, 10, 12, 7, 1000000, 4 * 1000000000000000000000000, w]
noncomputable def stp0 (w : Int) : List Int := [1, 5, 2, 5, 4, 3, 300000, 1000000000000000000000000] ++ [1 + w / 3]
noncomputable def stp1 (w : Int) : List Int := [1, 1, 5, 3, 6, 8, 1000000, 5 * 1000000000000000000000000] ++ [2 * w]
theorem nine (j : Nat) (h : j < 9) : j = 0 ∨ j = 1 ∨ j = 2 ∨ j = 3 ∨ j = 4 ∨ j = 5 ∨ j = 6 ∨ j = 7 ∨ j = 8 := by lia
theorem len_ok {w : Int} (h1 : 1 ≤ w) (h2 : w ≤ 10 ^ 30) {j : Nat} (h : j < 9) : 1 ≤ (lens w).getD j 0 ∧ (lens w).getD j 0 ≤ 10 ^ 30 := by
 rcases nine j h with rfl | rfl | rfl | rfl | rfl | rfl | rfl | rfl | rfl <;> simp [lens] <;> lia
theorem stp0_ok {w : Int} (h1 : 1 ≤ w) (h2 : w ≤ 10 ^ 30) {j : Nat} (h : j < 9) : 1 ≤ (stp0 w).getD j 0 ∧ (stp0 w).getD j 0 ≤ 10 ^ 31 ∧ (lens w).getD j 0 ≤ 100 * (stp0 w).getD j 0 := by
 rcases nine j h with rfl | rfl | rfl | rfl | rfl | rfl | rfl | rfl | rfl <;> simp [lens, stp0] <;> lia
theorem stp1_ok {w : Int} (h1 : 1 ≤ w) (h2 : w ≤ 10 ^ 30) {j : Nat} (h : j < 9) : 1 ≤ (stp1 w).getD j 0 ∧ (stp1 w).getD j 0 ≤ 10 ^ 31 ∧ (lens w).getD j 0 ≤ 100 * (stp1 w).getD j 0 := by
 rcases nine j h with rfl | rfl | rfl | rfl | rfl | rfl | rfl | rfl | rfl <;> simp [lens, stp1] <;> lia
theorem gr_ok {w : Int} (h1 : 0 ≤ w) {j : Nat} (h : j < 7) : 0 ≤ ([0, 1, 3, 10, 1000, 6, w] : List Int).getD j 0 := by
 rcases nine j (by lia) with rfl | rfl | rfl | rfl | rfl | rfl | rfl | rfl | rfl <;> simp <;> lia
theorem bad_not {pl : Pl} (ok : pl.ok) (h : 0 ≤ grace pl) : bad pl = false := by
 obtain ⟨l1, _, s1, _, ls⟩ := ok
 unfold bad
 rw [decide_eq_false (by lia), decide_eq_false (by lia), decide_eq_false (by lia), decide_eq_false (by lia)]
 rfl
inductive spPlanGI (vs : List V) (H : Hp) (Q : VK) : Prop
 | mk (a b : Int) : (vs = [.int a, .int b]) → (∀ (p : Addr) (pl : Pl) (H' : Hp), Same H H' → H p = none → H' p = some (.tup pl.row) → pl.ok → bad pl = false → Q (.ref p) H') → spPlanGI vs H Q
noncomputable def spPlanG : Sp := fun vs H Q d_ => spPlanGI vs H Q
inductive spLongI (vs : List V) (H : Hp) (Q : VK) : Prop
 | mk (z : Str) (b : Int) : (vs = [.str z, .int b]) → (z.length ≤ 1000) → (∀ z' : Str, Q (.str z') H) → spLongI vs H Q
noncomputable def spLong : Sp := fun vs H Q d_ => spLongI vs H Q
inductive spBaseI (vs : List V) (H : Hp) (Q : VK) : Prop
 | mk (c : Int) : (vs = [.int c]) → (∀ (b : Int) (H' : Hp), Same H H' → -(10 ^ 40) ≤ b → b ≤ 10 ^ 40 → Q (.int b) H') → spBaseI vs H Q
noncomputable def spBase : Sp := fun vs H Q d_ => spBaseI vs H Q
inductive spEvOfI (vs : List V) (H : Hp) (Q : VK) : Prop
 | mk (c : Int) (i : Nat) (b : Int) : (vs = [.int c, .int i, .int b]) → (i ≤ 1000) → (-(10 ^ 40) ≤ b) → (b ≤ 10 ^ 40) → (∀ (p : Addr) (n : Str) (t a : Int) (H' : Hp), Same H H' → H' p = some (.tup (Deed.ev n t a).v) → (Deed.ev n t a).ok → Q (.ref p) H') → spEvOfI vs H Q
noncomputable def spEvOf : Sp := fun vs H Q d_ => spEvOfI vs H Q
inductive spDrawnI (K : PySem.W.Frag) (vs : List V) (H : Hp) (Q : VK) : Prop
 | mk (l : Addr) (ns : List Int) (b : Int) : (vs = [.ref l, .int b]) → (SqL K H l (ns.map V.int)) → (ns.length ≤ 1000) → (-(10 ^ 40) ≤ b) → (b ≤ 10 ^ 40) → (∀ (r : Addr) (ys : List V) (dds : List Deed) (H' : Hp), Same H H' → H r = none → H' r = some (.lst ys) → ListAt Deed.v H' ys dds → dds.length = ns.length → (∀ dd ∈ dds, dd.ok) → Q (.ref r) H') → spDrawnI K vs H Q
noncomputable def spDrawn (K : PySem.W.Frag) : Sp := fun vs H Q d_ => spDrawnI K vs H Q
theorem dd_v0 (dd : Deed) : ∃ (tg : Str) (l : List V), dd.v = .str tg :: l := by cases dd <;> exact ⟨_, _, rfl⟩
theorem e40 : (10 : Int) ^ 40 = 10000000000000000000000000000000000000000 := by decide
theorem e45 : (10 : Int) ^ 45 = 1000000000000000000000000000000000000000000000 := by decide
section
variable {P : Program} {w : World} {K : PySem.W.Frag} {mg : Str → Option Value}
theorem f_planG (D : DefIn K "_law_plan_of" st__law_plan_of) (M : MG K mg) : FnB P w K mg "_law_plan_of" ["_law_one", "_law_two"] 1 spPlanG := by
 refine D.fn M sc__law_plan_of bd__law_plan_of (fun vs H Q E h => ?_) (fun f base cdv A outer s H vs Q E hr h => ?_)
 ·obtain ⟨a, b, rfl, _⟩ := h
  rfl
 ·obtain ⟨a, b, rfl, k⟩ := h
  refine ⟨_, (pss_cons (pset (i := 2) sc__law_plan_of.nd rfl (Or.inl rfl) (pe_op oMod (pe_op oMod (pe_op oMul (pv 0) pe_int) pe_int) pe_int))
   (pss_cons (pset (i := 3) sc__law_plan_of.nd rfl (Or.inl rfl) pe_int)
   (pss_cons (pset (i := 4) sc__law_plan_of.nd rfl (Or.inl rfl) (pe_op oAdd pe_int (pe_op oMod (pv 0) (pe_op oMul pe_int (pv 3)))))
   (pss_cons (pset (i := 5) sc__law_plan_of.nd rfl (Or.inl rfl) (pe_ix ix_list (pe_lst (pc pe_int (pc pe_int (pc pe_int (pc pe_int (pc pe_int (pc pe_int (pc pe_int (pc (pe_op oMul pe_int (pv 3)) (pc (pv 4) pa_nil)))))))))) (pv 2) (fun _ _ => rfl)))
   (pss_cons (pset (i := 6) sc__law_plan_of.nd rfl (Or.inl rfl) (pe_ix ix_list (pe_lst (pc pe_int (pc pe_int (pc pe_int (pc pe_int (pc pe_int (pc pe_int (pc (pe_op oMod (pv 1) (pe_op oMul pe_int (pv 3))) pa_nil)))))))) (pe_op oMod (pe_op oMod (pe_op oMul (pv 1) pe_int) pe_int) pe_int) (fun _ _ => rfl)))
   (pss_cons (ps_if (pt_cmpR op_eq (pe_op oMod (pe_op oMod (pe_op oMul (pv 0) pe_int) pe_int) pe_int) pe_int (nomark _)) (pss_one (ps_ret (pe_tup (pc pe_str (pc (pv 5) (pc (pv 6) pa_nil)))))) pss_nil)
   (pss_cons (ps_if (pt_cmpR op_eq (pe_op oMod (pe_op oMod (pe_op oMul (pv 0) pe_int) pe_int) pe_int) pe_int (nomark _)) (pss_cons (pset (i := 7) sc__law_plan_of.nd rfl (Or.inl rfl) (pe_lst (pc (pe_lst (pc pe_int (pc pe_int (pc pe_int (pc pe_int (pc pe_int (pc pe_int (pc pe_int (pc (pv 3) pa_nil))))))))) (pc (pe_lst (pc pe_int (pc pe_int (pc pe_int (pc pe_int (pc pe_int (pc pe_int (pc pe_int (pc (pe_op oMul pe_int (pv 3)) pa_nil))))))))) pa_nil))))
   (pss_cons (pset (i := 7) sc__law_plan_of.nd rfl (Or.inl rfl) (pe_lst (pc (pe_op op_cat (pe_ix ix_list (pv 7) pe_int (fun _ _ => rfl)) (pe_lst (pc (pe_op oAdd pe_int (pe_op oFdiv (pv 4) pe_int)) pa_nil))) (pc (pe_op op_cat (pe_ix ix_list (pv 7) pe_int (fun _ _ => rfl)) (pe_lst (pc (pe_op oMul pe_int (pv 4)) pa_nil))) pa_nil))))
   (pss_one (ps_ret (pe_tup (pc pe_str (pc (pv 5) (pc (pe_ix ix_list (pe_ix ix_list (pv 7) (pe_op oMod (pe_op oMod (pe_op oMul (pv 1) pe_int) pe_int) pe_int) (fun _ _ => rfl)) (pv 2) (fun _ _ => rfl)) (pc (pv 6) pa_nil))))))))) pss_nil)
   (pss_one (ps_ret (pe_tup (pc pe_str (pc (pv 5) (pc (pv 6) pa_nil))))))))))))), ?_⟩
  refine ⟨_, rfl, _, _, rfl, rfl, .inr ⟨by decide, by decide⟩, _, _, rfl, rfl, (by show (0 : Int) < _; decide), _, _, rfl, rfl, (by show (0 : Int) < _; decide), ?_⟩
  refine ⟨_, rfl, _, rfl, _, _, rfl, rfl, .inl ⟨by decide, by decide⟩, _, _, rfl, rfl, (by show (0 : Int) < _; decide), _, _, rfl, rfl, ?_⟩
  generalize hsp : a * 48271 % 1009 % 9 = sp
  have sp1 := mod_in (a * 48271 % 1009) 9 (by decide)
  rw [hsp] at sp1
  have hsl : sp.toNat < 9 := by lia
  have w0 := mod_in a (1000000 * 1000000000000000000000000) (by decide)
  generalize hw : 1 + a % (1000000 * 1000000000000000000000000) = wd
  have w1 : 1 ≤ wd := by lia
  have w2 : wd ≤ 10 ^ 30 := by lia
  clear hw w0 hsp
  refine ⟨_, rfl, _, _, rfl, rfl, .inl ⟨by decide, by decide⟩, _, rfl, (by show 9 ≤ sizeLine; decide), fun l1 e1 => ?_⟩
  refine ⟨_, rfl, l1, (lens wd).map V.int, sp, _, rfl, rfl, SqL.of upd_same, at_int (lens wd) sp1.1 (by show sp < 9; lia), ?_⟩
  have hL := len_ok w1 w2 hsl
  generalize hlen : (lens wd).getD sp.toNat 0 = L at *
  have s1 := Same.new (o := .lst ((lens wd).map V.int)) e1
  refine ⟨_, rfl, _, rfl, _, _, rfl, rfl, .inl ⟨by decide, by decide⟩, _, _, rfl, rfl, (by show (0 : Int) < _; decide), (by show 7 ≤ sizeLine; decide), fun l2 e2 => ?_⟩
  refine ⟨_, rfl, _, _, rfl, rfl, .inr ⟨by decide, by decide⟩, _, _, rfl, rfl, (by show (0 : Int) < _; decide), _, _, rfl, rfl, (by show (0 : Int) < _; decide), ?_⟩
  have g1 := mod_in (b * 48271 % 1013) 7 (by decide)
  refine ⟨l2, [0, 1, 3, 10, 1000, 6, b % (1000000 * 1000000000000000000000000)].map V.int, _, _, rfl, rfl, SqL.of upd_same, at_int _ g1.1 (by show _ < 7; lia), ?_⟩
  have hg : 0 ≤ ([0, 1, 3, 10, 1000, 6, b % (1000000 * 1000000000000000000000000)] : List Int).getD (b * 48271 % 1013 % 7).toNat 0 := gr_ok (mod_in b _ (by decide)).1 (by lia)
  generalize ([0, 1, 3, 10, 1000, 6, b % (1000000 * 1000000000000000000000000)] : List Int).getD (b * 48271 % 1013 % 7).toNat 0 = g at *
  have s2 := Same.new (o := .lst (([0, 1, 3, 10, 1000, 6, b % (1000000 * 1000000000000000000000000)] : List Int).map V.int)) e2
  have s02 := s1.trans s2
  have fin : ∀ (p : Addr) (pl : Pl) (H' : Hp), Same H H' → H p = none → H' p = some (.tup pl.row) → pl.len = L → grace pl = g → 1 ≤ pl.stp → pl.stp ≤ 10 ^ 31 → L ≤ 100 * pl.stp → Q (.ref p) H' := fun p pl H' q1 q2 q3 q4 q5 q6 q7 q8 => by
   have ok : pl.ok := ⟨by lia, by lia, q6, by lia, by lia⟩
   exact k p pl H' q1 q2 q3 ok (bad_not ok (by lia))
  refine ⟨_, rfl, _, _, rfl, rfl, .inr ⟨by decide, by decide⟩, _, _, rfl, rfl, (by show (0 : Int) < _; decide), _, _, rfl, rfl, (by show (0 : Int) < _; decide), rfl, _, rfl, ?_⟩
  refine ite2 (fun _ => ?_) (fun _ => ?_)
  ·refine ⟨_, rfl, _, rfl, (by show 3 ≤ sizeLine; decide), fun p hp => ?_⟩
   exact fin p (.fixed L g) _ (s02.trans (Same.new hp)) (s02.free hp) upd_same rfl rfl hL.1 (by show L ≤ _; lia) (by show L ≤ 100 * L; lia)
  refine ⟨_, rfl, _, _, rfl, rfl, .inr ⟨by decide, by decide⟩, _, _, rfl, rfl, (by show (0 : Int) < _; decide), _, _, rfl, rfl, (by show (0 : Int) < _; decide), rfl, _, rfl, ?_⟩
  refine ite2 (fun _ => ?_) (fun _ => ?_)
  ·refine ⟨_, rfl, (by show 8 ≤ sizeLine; decide), fun l3 e3 => ?_⟩
   have s3 := Same.new (o := .lst (([1, 5, 2, 5, 4, 3, 300000, 1000000000000000000000000] : List Int).map V.int)) e3
   refine ⟨_, rfl, _, _, rfl, rfl, .inl ⟨by decide, by decide⟩, (by show 8 ≤ sizeLine; decide), fun l4 e4 => ?_⟩
   have s4 := Same.new (o := .lst (([1, 1, 5, 3, 6, 8, 1000000, 5 * 1000000000000000000000000] : List Int).map V.int)) e4
   refine ⟨(by show 2 ≤ sizeLine; decide), fun l5 e5 => ?_⟩
   have s5 := Same.new (o := .lst [.ref l3, .ref l4]) e5
   have a3 := s5 _ _ (s4 _ _ (upd_same (o := .lst (([1, 5, 2, 5, 4, 3, 300000, 1000000000000000000000000] : List Int).map V.int))))
   have a4 := s5 _ _ (upd_same (o := .lst (([1, 1, 5, 3, 6, 8, 1000000, 5 * 1000000000000000000000000] : List Int).map V.int)))
   have s05 := s02.trans (s3.trans (s4.trans s5))
   refine ⟨_, rfl, l5, _, 0, _, rfl, rfl, SqL.of upd_same, rfl, _, rfl, _, _, rfl, rfl, ⟨by decide, by decide, by decide⟩, _, _, rfl, rfl, (by show 1 ≤ sizeLine; decide), fun l6 e6 => ?_⟩
   have s6 := Same.new (o := .lst (([1 + wd / 3] : List Int).map V.int)) e6
   refine ⟨l3, l6, _, ([1 + wd / 3] : List Int).map V.int, rfl, rfl, s6 _ _ a3, upd_same, (by show 9 ≤ sizeLine; decide), fun l7 e7 => ?_⟩
   have s7 := Same.new (o := .lst ((stp0 wd).map V.int)) e7
   refine ⟨_, rfl, l5, _, 1, _, rfl, rfl, SqL.of (s7 _ _ (s6 _ _ upd_same)), rfl, _, rfl, _, _, rfl, rfl, .inl ⟨by decide, by decide⟩, (by show 1 ≤ sizeLine; decide), fun l8 e8 => ?_⟩
   have s8 := Same.new (o := .lst (([2 * wd] : List Int).map V.int)) e8
   refine ⟨l4, l8, _, ([2 * wd] : List Int).map V.int, rfl, rfl, s8 _ _ (s7 _ _ (s6 _ _ a4)), upd_same, (by show 9 ≤ sizeLine; decide), fun l9 e9 => ?_⟩
   have s9 := Same.new (o := .lst ((stp1 wd).map V.int)) e9
   refine ⟨(by show 2 ≤ sizeLine; decide), fun l10 e10 => ?_⟩
   have s10 := Same.new (o := .lst [.ref l7, .ref l9]) e10
   have a7 := s10 _ _ (s9 _ _ (s8 _ _ (upd_same (a := l7) (o := .lst ((stp0 wd).map V.int)))))
   have a9 := s10 _ _ (upd_same (a := l9) (o := .lst ((stp1 wd).map V.int)))
   have s010 := s05.trans (s6.trans (s7.trans (s8.trans (s9.trans s10))))
   have c1 := mod_in (b * 48271 % 1021) 2 (by decide)
   refine ⟨_, rfl, _, rfl, _, rfl, _, _, rfl, rfl, .inr ⟨by decide, by decide⟩, _, _, rfl, rfl, (by show (0 : Int) < _; decide), _, _, rfl, rfl, (by show (0 : Int) < _; decide), ?_⟩
   have two : b * 48271 % 1021 % 2 = 0 ∨ b * 48271 % 1021 % 2 = 1 := by lia
   rcases two with e | e
   ·refine ⟨l10, [.ref l7, .ref l9], _, .ref l7, rfl, rfl, SqL.of upd_same, by rw [e]; rfl, _, rfl, l7, _, sp, _, rfl, rfl, SqL.of a7, at_int (stp0 wd) sp1.1 (by show sp < 9; lia), _, rfl, (by show 4 ≤ sizeLine; decide), fun p hp => ?_⟩
    have hs := stp0_ok w1 w2 hsl
    rw [hlen] at hs
    exact fin p (.sliding L ((stp0 wd).getD sp.toNat 0) g) _ (s010.trans (Same.new hp)) (s010.free hp) upd_same rfl rfl hs.1 hs.2.1 hs.2.2
   ·refine ⟨l10, [.ref l7, .ref l9], _, .ref l9, rfl, rfl, SqL.of upd_same, by rw [e]; rfl, _, rfl, l9, _, sp, _, rfl, rfl, SqL.of a9, at_int (stp1 wd) sp1.1 (by show sp < 9; lia), _, rfl, (by show 4 ≤ sizeLine; decide), fun p hp => ?_⟩
    have hs := stp1_ok w1 w2 hsl
    rw [hlen] at hs
    exact fin p (.sliding L ((stp1 wd).getD sp.toNat 0) g) _ (s010.trans (Same.new hp)) (s010.free hp) upd_same rfl rfl hs.1 hs.2.1 hs.2.2
  ·refine ⟨_, rfl, _, rfl, (by show 3 ≤ sizeLine; decide), fun p hp => ?_⟩
   exact fin p (.pauses L g) _ (s02.trans (Same.new hp)) (s02.free hp) upd_same rfl rfl hL.1 (by show L ≤ _; lia) (by show L ≤ 100 * L; lia)
theorem f_long (D : DefIn K "_law_long" st__law_long) (M : MG K mg) : FnB P w K mg "_law_long" ["_law_sign", "_law_base"] 1 spLong := by
 refine D.fn M sc__law_long bd__law_long (fun vs H Q E h => ?_) (fun f base cdv A outer s H vs Q E hr h => ?_)
 ·obtain ⟨z, b, rfl, _⟩ := h
  rfl
 ·obtain ⟨z, b, rfl, hz, k⟩ := h
  refine ⟨_, (pss_one (ps_ret (pe_op op_add_str (pe_op op_add_str (pe_op op_repN pe_str (pe_op oMod (pv 1) pe_int)) (pv 0)) (pe_op op_repN pe_str (pe_op oSub pe_int (pe_op oMod (pv 1) pe_int)))))), ?_⟩
  have m1 := mod_in b 41 (by decide)
  have sl := sizeLine_eq
  refine ⟨_, rfl, _, _, rfl, rfl, (by show (0 : Int) < _; decide), "b", _, rfl, rfl, m1.1, by lia, (by decide +kernel), (by decide +kernel), fun z1 h1 => ?_⟩
  refine ⟨_, rfl, z1, z, rfl, rfl, by lia, _, rfl, _, _, rfl, rfl, (by show (0 : Int) < _; decide), _, _, rfl, rfl, "b", _, rfl, rfl, by lia, by lia, (by decide +kernel), (by decide +kernel), fun z2 h2 => ?_⟩
  have e : (z1 ++ z).length = z1.length + z.length := Array.size_append ..
  exact ⟨z1 ++ z, z2, rfl, rfl, by lia, k _⟩
theorem f_base (D : DefIn K "_law_base_of" st__law_base_of) (M : MG K mg) : FnB P w K mg "_law_base_of" ["_law_cell"] 1 spBase := by
 refine D.fn M sc__law_base_of bd__law_base_of (fun vs H Q E h => ?_) (fun f base cdv A outer s H vs Q E hr h => ?_)
 ·obtain ⟨c, rfl, _⟩ := h
  rfl
 ·obtain ⟨c, rfl, k⟩ := h
  refine ⟨_, (pss_cons (pset (i := 1) sc__law_base_of.nd rfl (Or.inl rfl) pe_int)
   (pss_one (ps_ret (pe_ix ix_list (pe_lst (pc pe_int (pc (pe_un uNeg pe_int) (pc pe_int (pc (pe_un uNeg pe_int) (pc (pv 1) (pc (pe_op oSub pe_int (pv 1)) pa_nil))))))) (pe_op oMod (pe_op oMod (pe_op oMul (pv 0) pe_int) pe_int) pe_int) (fun _ _ => rfl))))), ?_⟩
  refine ⟨7, rfl, 1000000, rfl, _, rfl, _, rfl, _, _, rfl, rfl, (by show 6 ≤ sizeLine; decide), fun p hp => ⟨_, rfl, _, _, rfl, rfl, .inr ⟨by decide, by decide⟩, _, _, rfl, rfl, (by show (0 : Int) < _; decide), _, _, rfl, rfl, (by show (0 : Int) < _; decide), ?_⟩⟩
  have m1 := mod2 (c * 48271) 1087 6 (by decide)
  obtain ⟨bv, ab, mb⟩ := at_mem (xs := [V.int 0, V.int (-7), V.int 1000000000000, V.int (-1000000), V.int 10000000000000000000000000000000000000000, V.int (0 - 10000000000000000000000000000000000000000)]) (i := c * 48271 % 1087 % 6) m1.1 m1.2
  obtain ⟨b, rfl, hb1, hb2⟩ : ∃ b : Int, bv = .int b ∧ -(10 ^ 40) ≤ b ∧ b ≤ 10 ^ 40 := by
   simp only [List.mem_cons, List.not_mem_nil, or_false] at mb
   rcases mb with rfl | rfl | rfl | rfl | rfl | rfl <;> exact ⟨_, rfl, by decide, by decide⟩
  exact ⟨p, _, _, _, rfl, rfl, SqL.of upd_same, ab, k b _ (Same.new hp) hb1 hb2⟩
theorem f_evof (D : DefIn K "_law_event_of" st__law_event_of) (M : MG K mg) (F__law_long : FnB P w K mg "_law_long" ["_law_sign", "_law_base"] 1 spLong) : FnB P w K mg "_law_event_of" ["_law_cell", "_law_k", "_law_base"] 2 spEvOf := by
 refine D.fn M sc__law_event_of bd__law_event_of (fun vs H Q E h => ?_) (fun f base cdv A outer s H vs Q E hr h => ?_)
 ·obtain ⟨c, i, b, rfl, _⟩ := h
  rfl
 ·obtain ⟨c, i, b, rfl, hi, hb1, hb2, k⟩ := h
  refine ⟨_, (pss_cons (pset (i := 3) sc__law_event_of.nd rfl (Or.inl rfl) (pe_ix ix_list (pe_lst (pc pe_str (pc pe_str pa_nil))) (pe_op oMod (pe_op oMod (pe_op oMul (pv 0) pe_int) pe_int) pe_int) (fun _ _ => rfl)))
   (pss_consJ (ps_if (pt_cmpR op_eq (pe_op oMod (pe_op oMod (pe_op oMul (pv 0) pe_int) pe_int) pe_int) pe_int (nomark _)) (pss_one (pset (i := 3) sc__law_event_of.nd rfl (Or.inl rfl) (pe_ix ix_list (pe_lst (pc (pcallF F__law_long (hr.mono (by decide)) rfl (pc pe_str (pc (pv 2) pa_nil))) (pc pe_str (pc pe_str (pc (pcallF F__law_long (hr.mono (by decide)) rfl (pc pe_str (pc (pv 2) pa_nil))) pa_nil))))) (pe_op oMod (pe_op oMod (pe_op oMul (pv 0) pe_int) pe_int) pe_int) (fun _ _ => rfl)))) pss_nil)
   (pss_cons (pset (i := 4) sc__law_event_of.nd rfl (Or.inl rfl) (pe_op oSub (pe_op oAdd (pe_op oAdd (pv 2) (pe_op oMul pe_int (pv 1))) (pe_op oMod (pe_op oMod (pe_op oMul (pv 0) pe_int) pe_int) pe_int)) pe_int))
   (pss_consJ (ps_if (pt_cmpR op_eq (pe_op oMod (pe_op oMod (pe_op oMul (pv 0) pe_int) pe_int) pe_int) pe_int (nomark _)) (pss_one (pset (i := 4) sc__law_event_of.nd rfl (Or.inl rfl) (pe_op oAdd (pv 4) (pe_op oMod (pv 0) pe_int)))) pss_nil)
   (pss_cons (pset (i := 5) sc__law_event_of.nd rfl (Or.inl rfl) (pe_op oSub (pe_op oMod (pe_op oMod (pe_op oMul (pv 0) pe_int) pe_int) pe_int) pe_int))
   (pss_consJ (ps_if (pt_cmpR op_eq (pe_op oMod (pe_op oMod (pe_op oMul (pv 0) pe_int) pe_int) pe_int) pe_int (nomark _)) (pss_one (pset (i := 5) sc__law_event_of.nd rfl (Or.inl rfl) (pe_op oMul (pv 5) pe_int))) pss_nil)
   (pss_one (ps_ret (pe_tup (pc pe_str (pc (pv 3) (pc (pv 4) (pc (pv 5) pa_nil))))))))))))), ?_⟩
  rw [e40] at hb1 hb2
  refine ⟨(by show 2 ≤ sizeLine; decide), fun p1 hp1 => ⟨_, rfl, _, _, rfl, rfl, .inr ⟨by decide, by decide⟩, _, _, rfl, rfl, (by show (0 : Int) < _; decide), _, _, rfl, rfl, (by show (0 : Int) < _; decide), ?_⟩⟩
  have m1 := mod2 (c * 48271) 1031 2 (by decide)
  obtain ⟨nv, an, mn⟩ := at_mem (xs := [V.str "a", V.str "ab"]) (i := c * 48271 % 1031 % 2) m1.1 m1.2
  obtain ⟨n0, rfl⟩ : ∃ n : Str, nv = .str n := by
   simp only [List.mem_cons, List.not_mem_nil, or_false] at mn
   rcases mn with rfl | rfl <;> exact ⟨_, rfl⟩
  refine ⟨p1, _, _, _, rfl, rfl, SqL.of upd_same, an, ?_⟩
  have s1 := Same.new (o := .lst [V.str "a", V.str "ab"]) hp1
  generalize upd H p1 (.lst [V.str "a", V.str "ab"]) = H1 at *
  refine ⟨fun σ' H' => ∃ n : Str, σ' = [some (.int c), some (.int i), some (.int b), some (.str n), none, none] ∧ Same H H', ⟨_, rfl, _, _, rfl, rfl, .inr ⟨by decide, by decide⟩, _, _, rfl, rfl, (by show (0 : Int) < _; decide), _, _, rfl, rfl, (by show (0 : Int) < _; decide), rfl, _, rfl, ite2 (fun _ => ?_) (fun _ => ⟨n0, rfl, s1⟩)⟩, ?_⟩
  ·refine ⟨_, rfl, "a", b, rfl, (by decide +kernel), fun z1 => ⟨_, rfl, "c", b, rfl, (by decide +kernel), fun z2 => ⟨(by show 4 ≤ sizeLine; decide), fun p2 hp2 => ⟨_, rfl, _, _, rfl, rfl, .inr ⟨by decide, by decide⟩, _, _, rfl, rfl, (by show (0 : Int) < _; decide), _, _, rfl, rfl, (by show (0 : Int) < _; decide), ?_⟩⟩⟩⟩
   have m2 := mod2 (c * 48271) 1097 4 (by decide)
   obtain ⟨nv, an, mn⟩ := at_mem (xs := [V.str z1, V.str "", V.str "A b", V.str z2]) (i := c * 48271 % 1097 % 4) m2.1 m2.2
   obtain ⟨n1, rfl⟩ : ∃ n : Str, nv = .str n := by
    simp only [List.mem_cons, List.not_mem_nil, or_false] at mn
    rcases mn with rfl | rfl | rfl | rfl <;> exact ⟨_, rfl⟩
   exact ⟨p2, _, _, _, rfl, rfl, SqL.of upd_same, an, n1, rfl, s1.trans (Same.new hp2)⟩
  rintro σ' H2 ⟨n, rfl, s2⟩
  refine ⟨_, rfl, _, rfl, _, _, rfl, rfl, .inl ⟨by decide, by decide⟩, _, _, rfl, rfl, _, rfl, _, _, rfl, rfl, .inr ⟨by decide, by decide⟩, _, _, rfl, rfl, (by show (0 : Int) < _; decide), _, _, rfl, rfl, (by show (0 : Int) < _; decide), _, _, rfl, rfl, _, _, rfl, rfl, ?_⟩
  have m3 := mod2 (c * 48271) 1051 25 (by decide)
  obtain ⟨t0, et, b1, b2⟩ : ∃ t0, b + 2 * (i : Int) + c * 48271 % 1051 % 25 - 12 = t0 ∧ -100000000000000000000000000000000000000000 ≤ t0 ∧ t0 ≤ 100000000000000000000000000000000000000000 := ⟨_, rfl, by lia, by lia⟩
  rw [et]
  clear et m3 hb1 hb2
  refine ⟨fun σ' H' => ∃ t : Int, σ' = [some (.int c), some (.int i), some (.int b), some (.str n), some (.int t), none] ∧ Same H H' ∧ -(10 ^ 45) < t ∧ t < 10 ^ 45, ⟨_, rfl, _, _, rfl, rfl, .inr ⟨by decide, by decide⟩, _, _, rfl, rfl, (by show (0 : Int) < _; decide), _, _, rfl, rfl, (by show (0 : Int) < _; decide), rfl, _, rfl, ite2 (fun _ => ?_) (fun _ => ⟨t0, rfl, s2, by rw [e45]; lia, by rw [e45]; lia⟩)⟩, ?_⟩
  ·refine ⟨_, rfl, _, rfl, _, _, rfl, rfl, (by show (0 : Int) < _; decide), _, _, rfl, rfl, t0 + c % 1000000000000000000000000000000, rfl, s2, ?_, ?_⟩
   ·have := mod_in c 1000000000000000000000000000000 (by decide)
    rw [e45]; lia
   ·have := mod_in c 1000000000000000000000000000000 (by decide)
    rw [e45]; lia
  rintro σ' H3 ⟨t, rfl, s3, ht1, ht2⟩
  refine ⟨_, rfl, _, _, rfl, rfl, .inr ⟨by decide, by decide⟩, _, _, rfl, rfl, (by show (0 : Int) < _; decide), _, _, rfl, rfl, (by show (0 : Int) < _; decide), _, _, rfl, rfl, ?_⟩
  have m4 := mod2 (c * 48271) 1039 41 (by decide)
  obtain ⟨a0, ea, b3, b4⟩ : ∃ a0, c * 48271 % 1039 % 41 - 20 = a0 ∧ -20 ≤ a0 ∧ a0 ≤ 20 := ⟨_, rfl, by lia, by lia⟩
  rw [ea]
  clear ea m4
  refine ⟨fun σ' H' => ∃ a : Int, σ' = [some (.int c), some (.int i), some (.int b), some (.str n), some (.int t), some (.int a)] ∧ Same H H', ⟨_, rfl, _, _, rfl, rfl, .inr ⟨by decide, by decide⟩, _, _, rfl, rfl, (by show (0 : Int) < _; decide), _, _, rfl, rfl, (by show (0 : Int) < _; decide), rfl, _, rfl, ite2 (fun _ => ?_) (fun _ => ⟨a0, rfl, s3⟩)⟩, ?_⟩
  ·exact ⟨_, rfl, _, _, rfl, rfl, .inl ⟨by lia, by lia⟩, _, rfl, s3⟩
  rintro σ' H4 ⟨a, rfl, s4⟩
  refine ⟨_, rfl, _, rfl, _, rfl, (by show 4 ≤ sizeLine; decide), fun p hp => ?_⟩
  exact k p n t a _ (s4.trans (Same.new hp)) upd_same ⟨ht1, ht2⟩
theorem f_drawn (D : DefIn K "_law_drawn" st__law_drawn) (M : MG K mg) (B : Bi K) (F__law_event_of : FnB P w K mg "_law_event_of" ["_law_cell", "_law_k", "_law_base"] 2 spEvOf) : FnB P w K mg "_law_drawn" ["_law_cells", "_law_base"] 3 (spDrawn K) := by
 refine D.fn M sc__law_drawn bd__law_drawn (fun vs H Q E h => ?_) (fun f base cdv A outer s H vs Q E hr h => ?_)
 ·obtain ⟨l, ns, b, rfl, _⟩ := h
  rfl
 ·obtain ⟨l, ns, b, rfl, hl, hn, hb1, hb2, k⟩ := h
  refine ⟨_, (pss_cons (pset (i := 2) sc__law_drawn.nd rfl (Or.inl rfl) (pe_lst pa_nil))
   (pss_cons (ps_for PassesOwn.never rfl (pi_range1 rfl (M.no _ B.b_range) (pc (pcallB call_len_seq rfl (M.no _ B.b_len) bt_len (pc (pv 0) pa_nil)) pa_nil)) (pg_name (i := 3) sc__law_drawn.nd rfl (Or.inl rfl))
   (pss_cons (pset (i := 4) sc__law_drawn.nd rfl (Or.inl rfl) (pe_op oAdd (pe_ix ix_list (pv 0) (pv 3) (fun _ _ => rfl)) (pe_op oMul pe_int (pv 3))))
   (pss_one (ps_if (PW.pt (pw_or (pt_cmpR op_eq (pe_op oMod (pe_op oMod (pe_op oMul (pv 4) pe_int) pe_int) pe_int) pe_int (nomark _)) (pw_or1 (pt_cmpR op_eq (pe_op oMod (pe_op oMod (pe_op oMul (pv 4) pe_int) pe_int) pe_int) pe_int (nomark _))))) (pss_one (pexpr (pe_bm PySem.F.plainAttrs_list PySem.F.slot_list_append PySem.F.type_list_append mt_append (pv 2) (pc (pe_tup (pc pe_str (pc (pe_op oSub (pe_op oAdd (pe_op oAdd (pv 1) (pe_op oMul pe_int (pv 3))) (pe_op oMod (pe_op oMod (pe_op oMul (pv 4) pe_int) pe_int) pe_int)) pe_int) pa_nil))) pa_nil)))) (pss_one (ps_if (PW.pt (pw_and (pt_cmpR op_eq (pe_op oMod (pe_op oMod (pe_op oMul (pv 4) pe_int) pe_int) pe_int) pe_int (nomark _)) (pw_and (pt_cmpR oGt (pcallB call_len_seq rfl (M.no _ B.b_len) bt_len (pc (pv 2) pa_nil)) pe_int (nomark _)) (pw_and1 (pt_cmpR op_eq (pe_ix ix_tup (pe_ix ix_list (pv 2) (pe_un uNeg pe_int) (fun _ _ => rfl)) pe_int (fun _ _ => rfl)) pe_str (nomark _)))))) (pss_one (pexpr (pe_bm PySem.F.plainAttrs_list PySem.F.slot_list_append PySem.F.type_list_append mt_append (pv 2) (pc (pe_ix ix_list (pv 2) (pe_un uNeg pe_int) (fun _ _ => rfl)) pa_nil)))) (pss_one (pexpr (pe_bm PySem.F.plainAttrs_list PySem.F.slot_list_append PySem.F.type_list_append mt_append (pv 2) (pc (pcallF F__law_event_of (hr.mono (by decide)) rfl (pc (pv 4) (pc (pv 3) (pc (pv 1) pa_nil)))) pa_nil))))))))))
   (pss_one (ps_ret (pv 2))))), ?_⟩
  have sl := sizeLine_eq
  refine ⟨(by show 0 ≤ sizeLine; decide), fun r hr0 => ?_⟩
  have s1 := Same.new (o := .lst []) hr0
  have hr1 : upd H r (.lst []) r = some (.lst []) := upd_same
  generalize upd H r (.lst []) = H1 at *
  refine ⟨_, rfl, l, _, rfl, .inl (s1.seq hl), _, rfl, (by rw [List.length_map]; lia), (by rw [List.length_map]; lia), ?_⟩
  rw [Int.toNat_natCast, List.length_map]
  refine for_range (lo := 0) (n := ns.length) (fun i σ H' => ∃ (v u : Option V) (ys : List V) (dds : List Deed), σ = [some (.ref l), some (.int b), some (.ref r), v, u] ∧ Same H H' ∧ H' r = some (.lst ys) ∧ ListAt Deed.v H' ys dds ∧ dds.length = i ∧ ∀ dd ∈ dds, dd.ok) ⟨none, none, [], [], rfl, s1, hr1, .nil, rfl, fun _ h => nomatch h⟩ ?_ ?_
  ·rintro i σ H' hi ⟨v, u, ys, dds, rfl, sm, hr', la, ld, od⟩
   rw [Int.zero_add]
   have ly := la.len
   refine ⟨_, rfl, _, rfl, l, _, _, _, rfl, rfl, sm.seq hl, at_int ns (by lia) (by lia), _, rfl, _, _, rfl, rfl, .inl ⟨by decide, by decide⟩, _, _, rfl, rfl, ?_⟩
   generalize ns.getD ((i : Int)).toNat 0 + 11 * (i : Int) = c
   have put : ∀ (H2 : Hp) (q : Addr) (dd : Deed), Same H' H2 → H2 q = some (.tup dd.v) → dd.ok → ∃ (v u : Option V) (ys' : List V) (dds : List Deed), ([some (.ref l), some (.int b), some (.ref r), some (.int (i : Int)), some (.int c)] : L2.St) = [some (.ref l), some (.int b), some (.ref r), v, u] ∧ Same H (upd H2 r (.lst (ys ++ [.ref q]))) ∧ upd H2 r (.lst (ys ++ [.ref q])) r = some (.lst ys') ∧ ListAt Deed.v (upd H2 r (.lst (ys ++ [.ref q]))) ys' dds ∧ dds.length = i + 1 ∧ ∀ dd ∈ dds, dd.ok := fun H2 q dd sm2 hq ok => by
    have up : ∀ a row, H2 a = some (.tup row) → upd H2 r (.lst (ys ++ [.ref q])) a = some (.tup row) := fun a row e => by rw [upd_ne (ne_of e (sm2 _ _ hr') (by intro z; cases z))]; exact e
    refine ⟨_, _, ys ++ [.ref q], dds ++ [dd], rfl, fun a o e => ?_, upd_same, ((la.keep fun a row e => sm2 _ _ e).keep up).snoc (up _ _ hq), ?_, ?_⟩
    ·rw [upd_ne (ne_of_none e hr0)]
     exact sm2 _ _ (sm _ _ e)
    ·rw [List.length_append, ld]; rfl
    ·intro x hx
     rcases List.mem_append.mp hx with hx | hx
     ·exact od x hx
     ·rw [List.mem_singleton.mp hx]; exact ok
   refine' via (P := fun R : Prop => R) _ (fun mark => ?main) ?mark
   case main =>
    refine ⟨_, rfl, _, _, rfl, rfl, .inr ⟨by decide, by decide⟩, _, _, rfl, rfl, (by show (0 : Int) < _; decide), _, _, rfl, rfl, (by show (0 : Int) < _; decide), rfl, _, rfl, ite2 (fun _ => ?_) (fun _ => ⟨_, rfl, _, _, rfl, rfl, .inr ⟨by decide, by decide⟩, _, _, rfl, rfl, (by show (0 : Int) < _; decide), _, _, rfl, rfl, (by show (0 : Int) < _; decide), rfl, _, rfl, ite2 (fun _ => ?_) (fun _ => ?_)⟩)⟩
    exact mark
    exact mark
    refine' via (P := fun R : Prop => R) _ (fun evt => ?main) ?evt
    case main =>
     refine ⟨_, rfl, _, _, rfl, rfl, .inr ⟨by decide, by decide⟩, _, _, rfl, rfl, (by show (0 : Int) < _; decide), _, _, rfl, rfl, (by show (0 : Int) < _; decide), rfl, _, rfl, ite2 (fun _ => ?_) (fun _ => ?_)⟩
     rotate_left
     ·exact evt
     refine ⟨_, rfl, r, _, rfl, .inl (SqL.of hr'), _, _, rfl, rfl, _, rfl, ite2 (fun hg => ?_) (fun _ => evt)⟩
     have hg' : (0 : Int) < (ys.length : Int) := of_decide_eq_true hg
     obtain ⟨ys1, y, rfl⟩ : ∃ ys1 y, ys = ys1 ++ [y] := by
      rcases List.eq_nil_or_concat ys with rfl | ⟨a, b, e⟩
      ·exact absurd hg' (by decide)
      ·exact ⟨a, b, by rw [e, List.concat_eq_append]⟩
     obtain ⟨dd, q, ed, rfl, hq⟩ := la.get (i := ys1.length) (x := y) (by simp)
     obtain ⟨tg, tl, ev⟩ := dd_v0 dd
     refine ⟨_, rfl, 1, rfl, r, _, -1, .ref q, rfl, rfl, SqL.of hr', atI_last _ _, q, _, 0, .str tg, rfl, rfl, SqT.of hq, by rw [ev]; exact at0, rfl, _, rfl, ite2 (fun _ => ?_) (fun _ => evt)⟩
     exact ⟨_, rfl, .inl ⟨rfl, _, SqL.of hr'⟩, _, rfl, 1, rfl, r, _, -1, .ref q, rfl, rfl, SqL.of hr', atI_last _ _, r, _, .ref q, rfl, rfl, hr', by lia, put H' q dd (Same.refl _) hq (od dd (List.mem_of_getElem? ed))⟩
    case evt =>
     exact ⟨_, rfl, .inl ⟨rfl, _, SqL.of hr'⟩, _, rfl, _, rfl, _, rfl, c, i, b, rfl, by lia, hb1, hb2, fun p n t a H2 sm2 hp ok => ⟨r, _, .ref p, rfl, rfl, sm2 _ _ hr', by lia, put H2 p (.ev n t a) sm2 hp ok⟩⟩
   case mark =>
    refine ⟨_, rfl, .inl ⟨rfl, _, SqL.of hr'⟩, _, rfl, _, rfl, _, _, rfl, rfl, .inl ⟨by decide, by decide⟩, _, _, rfl, rfl, _, rfl, _, _, rfl, rfl, .inr ⟨by decide, by decide⟩, _, _, rfl, rfl, (by show (0 : Int) < _; decide), _, _, rfl, rfl, (by show (0 : Int) < _; decide), _, _, rfl, rfl, _, _, rfl, rfl, (by show 2 ≤ sizeLine; decide), fun q hq => ?_⟩
    exact ⟨r, _, .ref q, rfl, rfl, (Same.new hq) _ _ hr', by lia, put _ q (.mk _) (Same.new hq) upd_same trivial⟩
  ·rintro σ H' ⟨v, u, ys, dds, rfl, sm, hr', la, ld, od⟩
   exact ⟨_, rfl, k r ys dds H' sm hr0 hr' la ld od⟩
end
end K3
namespace K3
open PySem PySem.Spec PyProof.Rows L2 K1 K2
inductive spRoomI (K : PySem.W.Frag) (vs : List V) (H : Hp) (Q : VK) : Prop
 | mk (a : Addr) (ns : List Int) (m n : Int) : (vs = [.ref a, .int m, .int n]) → (SqL K H a (ns.map V.int)) → (ns.length ≤ 63) → (Q (.int m) H) → spRoomI K vs H Q
noncomputable def spRoom (K : PySem.W.Frag) : Sp := fun vs H Q d_ => spRoomI K vs H Q
inductive spEndsI (K : PySem.W.Frag) (vs : List V) (H : Hp) (Q : VK) : Prop
 | mk (c : Int) (p : Addr) (pl : Pl) : (vs = [.int c, .ref p]) → (SqT K H p pl.row) → (∀ (r : Addr) (ys : List V) (dds : List Deed) (H' : Hp), Same H H' → H' r = some (.lst ys) → ListAt Deed.v H' ys dds → dds.length ≤ 4 → (∀ dd ∈ dds, dd.ok) → Q (.ref r) H') → spEndsI K vs H Q
noncomputable def spEnds (K : PySem.W.Frag) : Sp := fun vs H Q d_ => spEndsI K vs H Q
inductive spByEI (K : PySem.W.Frag) (vs : List V) (H : Hp) (Q : VK) : Prop
 | mk (l d b : Addr) (mk : Option Int) (zs : List V) (out : List Say) (kvs : List (List Key × V)) (sd : List Wn) (n : Str) (t a : Int) : (vs = [.ref l, .ref d, .ref b, mkV mk]) → (H l = some (.lst zs)) → (ListAt Say.v H zs out) → (H d = some (.dT kvs)) → (WinsP H kvs sd) → (SqT K H b (Deed.ev n t a).v) → (out.length ≤ 1000000) → ((out = [.missed n t a] ∨ EvOk sd mk n t a out)) → (∀ H', Same H H' → Q (.bl true) H') → spByEI K vs H Q
noncomputable def spByE (K : PySem.W.Frag) : Sp := fun vs H Q d_ => spByEI K vs H Q
inductive spByMI (K : PySem.W.Frag) (vs : List V) (H : Hp) (Q : VK) : Prop
 | mk (l d b : Addr) (mk : Option Int) (zs : List V) (out : List Say) (kvs : List (List Key × V)) (sd : List Wn) (t : Int) : (vs = [.ref l, .ref d, .ref b, mkV mk]) → (H l = some (.lst zs)) → (ListAt Say.v H zs out) → (H d = some (.dT kvs)) → (WinsP H kvs sd) → (SqT K H b (Deed.mk t).v) → (MkOk sd mk t out) → (∀ H', Same H H' → Q (.bl true) H') → spByMI K vs H Q
noncomputable def spByM (K : PySem.W.Frag) : Sp := fun vs H Q d_ => spByMI K vs H Q
noncomputable def sayD : Say → Dv
 | .told w => .tup [.str "told", .str w.n, .int w.s, .int w.e, .int w.c, .int w.t]
 | .gone k => .tup [.str "gone", .str k.n, .int k.s, .int k.e]
 | .missed n t a => .tup [.str "missed", .str n, .int t, .int a]
theorem say_dn {K : PySem.W.Frag} {H : Hp} {a : Addr} {z : Say} (h : H a = some (.tup z.v)) : Dn K H (.ref a) (sayD z) := by
 cases z with
 | told w => exact .tup (SqT.of h) (.cons (.str _) (.cons (.str _) (.cons (.int _) (.cons (.int _) (.cons (.int _) (.cons (.int _) .nil))))))
 | gone k => exact .tup (SqT.of h) (.cons (.str _) (.cons (.str _) (.cons (.int _) (.cons (.int _) .nil))))
 | missed n t a => exact .tup (SqT.of h) (.cons (.str _) (.cons (.str _) (.cons (.int _) (.cons (.int _) .nil))))
theorem says_dn {K : PySem.W.Frag} {H : Hp} {l : Addr} {zs : List V} {o : List Say} (h : H l = some (.lst zs)) (la : ListAt Say.v H zs o) : Dn K H (.ref l) (.lst (o.map sayD)) := .lst (SqL.of h) (la.dns fun _ _ h => say_dn h)
theorem say_dep (z : Say) : (sayD z).dep ≤ 1 := by cases z <;> exact Nat.le_of_ble_eq_true rfl
theorem says_dep (o : List Say) : (Dv.lst (o.map sayD)).dep ≤ 30 := by
 have h : Dv.deps (o.map sayD) ≤ 1 := by
  induction o with
  | nil => exact Nat.zero_le _
  | cons z o ih => exact Nat.max_le.mpr ⟨say_dep z, ih⟩
 show Dv.deps (o.map sayD) + 1 ≤ 30
 lia
theorem cut_key (z : Say) : cutV z.v (some 1) (some 4) = (Say.k z).v := by cases z <;> rfl
theorem cut_ne (z : Say) : ¬ (HT.sIx z.v.length 0 (some 1) = 0 ∧ HT.sIx z.v.length z.v.length (some 4) = z.v.length) := by cases z <;> exact fun h => absurd h.1 (show ¬ (1 : Nat) = 0 by decide)
theorem upd_keep {H : Hp} {p : Addr} {o : HO} (hp : H p = none) : ∀ {a : Addr} {u : HO}, H a = some u → upd H p o a = some u := fun e => (Same.new hp) _ _ e
section
variable {P : Program} {w : World} {K : PySem.W.Frag} {mg : Str → Option Value}
theorem f_room (D : DefIn K "_law_room" st__law_room) (M : MG K mg) (B : Bi K) : FnB P w K mg "_law_room" ["_law_script", "_law_most", "_law_bound"] 1 (spRoom K) := by
 refine D.fn M sc__law_room bd__law_room (fun vs H Q E h => ?_) (fun f base cdv A outer s H vs Q E hr h => ?_)
 ·obtain ⟨a, ns, m, n, rfl, _⟩ := h
  rfl
 ·obtain ⟨a, ns, m, n, rfl, ha, hl, k⟩ := h
  refine ⟨_, (pss_cons (ps_if (pt_cmpR oGt (pcallB call_len_seq rfl (M.no _ B.b_len) bt_len (pc (pv 0) pa_nil)) pe_int (nomark _)) (pss_one (ps_ret (pv 2))) pss_nil)
   (pss_one (ps_ret (pv 1)))), ?_⟩
  refine ⟨_, rfl, a, _, rfl, .inl ha, _, _, rfl, rfl, _, rfl, ite2 (fun h => ?_) (fun _ => ⟨_, rfl, k⟩)⟩
  have h' := of_decide_eq_true h
  rw [List.length_map] at h'
  lia
theorem f_ends (D : DefIn K "_law_ends_alike" st__law_ends_alike) (M : MG K mg) (F__law_base_of : FnB P w K mg "_law_base_of" ["_law_cell"] 1 spBase) : FnB P w K mg "_law_ends_alike" ["_law_cell", "_law_plan"] 2 (spEnds K) := by
 refine D.fn M sc__law_ends_alike bd__law_ends_alike (fun vs H Q E h => ?_) (fun f base cdv A outer s H vs Q E hr h => ?_)
 ·obtain ⟨c, p, pl, rfl, _⟩ := h
  rfl
 ·obtain ⟨c, p, pl, rfl, hp, k⟩ := h
  refine ⟨_, (pss_cons (pset (i := 2) sc__law_ends_alike.nd rfl (Or.inl rfl) (pe_op oSub (pcallF F__law_base_of (hr.mono (by decide)) rfl (pc (pv 0) pa_nil)) pe_int))
   (pss_cons (ps_if (pt_cmpR op_eq (pe_op oMod (pe_op oMod (pe_op oMul (pv 0) pe_int) pe_int) pe_int) pe_int (nomark _)) (pss_one (ps_ret (pe_lst pa_nil))) pss_nil)
   (pss_cons (ps_asg (pe_ix ix_list (pe_lst (pc (pe_tup (pc pe_str (pc pe_str pa_nil))) (pc (pe_tup (pc pe_str (pc pe_str pa_nil))) pa_nil))) (pe_op oSub (pe_op oMod (pe_op oMod (pe_op oMul (pv 0) pe_int) pe_int) pe_int) pe_int) (fun _ _ => rfl)) (pg_tup rfl (pgs_cons (pg_name (i := 3) sc__law_ends_alike.nd rfl (Or.inl rfl)) (pgs_cons (pg_name (i := 4) sc__law_ends_alike.nd rfl (Or.inl rfl)) pgs_nil))))
   (pss_cons (pset (i := 5) sc__law_ends_alike.nd rfl (Or.inl rfl) (pe_lst (pc (pe_tup (pc pe_str (pc (pv 3) (pc (pv 2) (pc pe_int pa_nil))))) (pc (pe_tup (pc pe_str (pc (pv 4) (pc (pe_op oAdd (pv 2) pe_int) (pc pe_int pa_nil))))) pa_nil))))
   (pss_cons (pexpr (pe_bm PySem.F.plainAttrs_list PySem.F.slot_list_append PySem.F.type_list_append mt_append (pv 5) (pc (pe_tup (pc pe_str (pc (pv 3) (pc (pe_op oAdd (pv 2) pe_int) (pc pe_int pa_nil))))) pa_nil)))
   (pss_one (ps_ret (pe_op op_cat (pv 5) (pe_lst (pc (pe_tup (pc pe_str (pc (pe_op oAdd (pe_op oAdd (pv 2) (pe_ix ix_tup (pv 1) pe_int (fun _ _ => rfl))) (pe_op oMod (pe_op oMod (pe_op oMul (pv 0) pe_int) pe_int) pe_int)) pa_nil))) pa_nil)))))))))), ?_⟩
  refine ⟨_, rfl, c, rfl, fun b H1 s1 b1 b2 => ⟨_, _, rfl, rfl, ?_⟩⟩
  rw [e40] at b1 b2
  refine ⟨_, rfl, _, _, rfl, rfl, .inr ⟨by decide, by decide⟩, _, _, rfl, rfl, (by show (0 : Int) < _; decide), _, _, rfl, rfl, (by show (0 : Int) < _; decide), rfl, _, rfl, ite2 (fun _ => ⟨(by show 0 ≤ sizeLine; decide), fun r hr0 => k r [] [] _ (s1.trans (Same.new hr0)) upd_same .nil (by decide) (fun _ h => nomatch h)⟩) (fun hne => ?_)⟩
  have m1 := mod2 (c * 48271) 1091 3 (by decide)
  have m2 : c * 48271 % 1091 % 3 ≠ 0 := fun z => hne (decide_eq_true (by rw [z]))
  refine ⟨(by show 2 ≤ sizeLine; decide), fun q1 hq1 => ⟨(by show 2 ≤ sizeLine; decide), fun q2 hq2 => ⟨(by show 2 ≤ sizeLine; decide), fun r0 hr0 => ⟨_, rfl, _, _, rfl, rfl, .inr ⟨by decide, by decide⟩, _, _, rfl, rfl, (by show (0 : Int) < _; decide), _, _, rfl, rfl, (by show (0 : Int) < _; decide), _, _, rfl, rfl, ?_⟩⟩⟩⟩
  have g1 : upd (upd (upd H1 q1 (.tup [.str "a", .str "ab"])) q2 (.tup [.str "ab", .str "a"])) r0 (.lst [.ref q1, .ref q2]) q1 = some (.tup [.str "a", .str "ab"]) := upd_keep hr0 (upd_keep hq2 upd_same)
  have g2 : upd (upd (upd H1 q1 (.tup [.str "a", .str "ab"])) q2 (.tup [.str "ab", .str "a"])) r0 (.lst [.ref q1, .ref q2]) q2 = some (.tup [.str "ab", .str "a"]) := upd_keep hr0 upd_same
  have g3 : upd (upd (upd H1 q1 (.tup [.str "a", .str "ab"])) q2 (.tup [.str "ab", .str "a"])) r0 (.lst [.ref q1, .ref q2]) r0 = some (.lst [.ref q1, .ref q2]) := upd_same
  have s2 := s1.trans ((Same.new (o := .tup [.str "a", .str "ab"]) hq1).trans ((Same.new (o := .tup [.str "ab", .str "a"]) hq2).trans (Same.new (o := .lst [.ref q1, .ref q2]) hr0)))
  generalize upd (upd (upd H1 q1 (.tup [.str "a", .str "ab"])) q2 (.tup [.str "ab", .str "a"])) r0 (.lst [.ref q1, .ref q2]) = H2 at *
  obtain ⟨q, n1, n2, aq, hq⟩ : ∃ (q : Addr) (n1 n2 : Str), atI [V.ref q1, V.ref q2] (c * 48271 % 1091 % 3 - 1) = some (.ref q) ∧ H2 q = some (.tup [.str n1, .str n2]) := by
   rcases (show c * 48271 % 1091 % 3 = 1 ∨ c * 48271 % 1091 % 3 = 2 by lia) with e | e
   ·rw [e]; exact ⟨q1, _, _, rfl, g1⟩
   ·rw [e]; exact ⟨q2, _, _, rfl, g2⟩
  refine ⟨r0, _, _, _, rfl, rfl, SqL.of g3, aq, q, _, rfl, SqT.of hq, rfl, _, _, rfl, _, _, rfl, rfl, ?_⟩
  clear g1 g2 g3 aq hq hr0 hq1 hq2 m1 m2 hne
  refine ⟨_, rfl, _, rfl, (by show 4 ≤ sizeLine; decide), fun q3 hq3 => ⟨_, rfl, _, rfl, _, _, rfl, rfl, (by show 4 ≤ sizeLine; decide), fun q4 hq4 => ⟨(by show 2 ≤ sizeLine; decide), fun r hr' => ?_⟩⟩⟩
  refine ⟨_, rfl, .inl ⟨rfl, _, SqL.of upd_same⟩, _, rfl, _, rfl, _, _, rfl, rfl, (by show 4 ≤ sizeLine; decide), fun q5 hq5 => ⟨r, _, .ref q5, rfl, rfl, upd_keep hq5 upd_same, (by show 2 < sizeLine; decide), ?_⟩⟩
  have n5 : q5 ≠ r := fun z => by rw [z, upd_same] at hq5; cases hq5
  have n4 : q4 ≠ r := fun z => by rw [z, upd_same] at hr'; cases hr'
  have n3 : q3 ≠ r := fun z => by
   subst z
   rw [(Same.new hq4) _ _ upd_same] at hr'
   cases hr'
  obtain ⟨H3, eH3⟩ : ∃ H3, H3 = upd (upd (upd (upd (upd H2 q3 (.tup [.str "event", .str n1, .int (b - 30), .int 1])) q4 (.tup [.str "event", .str n2, .int (b - 30 + 1), .int 2])) r (.lst [.ref q3, .ref q4])) q5 (.tup [.str "event", .str n1, .int (b - 30 + 1), .int 3])) r (.lst ([.ref q3, .ref q4] ++ [.ref q5])) := ⟨_, rfl⟩
  have t3 : H3 q3 = some (.tup (Deed.ev n1 (b - 30) 1).v) := by rw [eH3, upd_ne n3]; exact upd_keep hq5 (upd_keep hr' (upd_keep hq4 upd_same))
  have t4 : H3 q4 = some (.tup (Deed.ev n2 (b - 30 + 1) 2).v) := by rw [eH3, upd_ne n4]; exact upd_keep hq5 (upd_keep hr' upd_same)
  have t5 : H3 q5 = some (.tup (Deed.ev n1 (b - 30 + 1) 3).v) := by rw [eH3, upd_ne n5]; exact upd_same
  have tr : H3 r = some (.lst [.ref q3, .ref q4, .ref q5]) := by rw [eH3]; exact upd_same
  have fr : H r = none := (s2.trans ((Same.new hq3).trans (Same.new hq4))).free hr'
  have s3 : Same H H3 := fun a o e => by
   rw [eH3, upd_ne (ne_of_none e fr)]
   exact upd_keep hq5 (upd_keep hr' (upd_keep hq4 (upd_keep hq3 (s2 _ _ e))))
  rw [← eH3]
  clear eH3
  refine ⟨_, rfl, _, rfl, _, rfl, p, _, 1, _, rfl, rfl, s3.seqT hp, row_1 pl, _, _, rfl, rfl, _, rfl, _, _, rfl, rfl, .inr ⟨by decide, by decide⟩, _, _, rfl, rfl, (by show (0 : Int) < _; decide), _, _, rfl, rfl, (by show (0 : Int) < _; decide), _, _, rfl, rfl, (by show 2 ≤ sizeLine; decide), fun q6 hq6 => ⟨(by show 1 ≤ sizeLine; decide), fun r2 hr2 => ⟨r, r2, _, _, rfl, rfl, upd_keep hr2 (upd_keep hq6 tr), upd_same, (by show 4 ≤ sizeLine; decide), fun r3 hr3 => ?_⟩⟩⟩
  have s4 := (Same.new (o := .tup [.str "mark", .int (b - 30 + pl.len + c * 48271 % 1093 % 3)]) hq6).trans ((Same.new (o := .lst [.ref q6]) hr2).trans (Same.new (o := .lst ([.ref q3, .ref q4, .ref q5] ++ [.ref q6])) hr3))
  refine k r3 _ [.ev n1 (b - 30) 1, .ev n2 (b - 30 + 1) 2, .ev n1 (b - 30 + 1) 3, .mk (b - 30 + pl.len + c * 48271 % 1093 % 3)] _ (s3.trans s4) upd_same (.cons ⟨_, rfl, s4 _ _ t3⟩ (.cons ⟨_, rfl, s4 _ _ t4⟩ (.cons ⟨_, rfl, s4 _ _ t5⟩ (.cons ⟨_, rfl, upd_keep hr3 (upd_keep hr2 upd_same)⟩ .nil)))) (Nat.le_refl 4) fun dd hdd => ?_
  simp only [List.mem_cons, List.not_mem_nil, or_false] at hdd
  rcases hdd with rfl | rfl | rfl | rfl
  ·exact ⟨by rw [e45]; lia, by rw [e45]; lia⟩
  ·exact ⟨by rw [e45]; lia, by rw [e45]; lia⟩
  ·exact ⟨by rw [e45]; lia, by rw [e45]; lia⟩
  ·exact trivial
end
end K3
namespace K3
open PySem PySem.Spec PyProof.Rows L2 K1 K2
theorem WinsP.look {H : Hp} {kvs : List (List Key × V)} {sd : List Wn} (h : WinsP H kvs sd) (k : Ky) : ((valV kvs k.l).isSome = true ↔ ∃ v, getW sd k.l = some v) ∧ ∀ v, getW sd k.l = some v → ∃ x, valV kvs k.l = some x ∧ ValAt H x v := by
 rcases h.get k.l with ⟨h1, h2⟩ | ⟨v, w, h1, h2, _, h3⟩
 ·rw [h1, h2]
  exact ⟨⟨fun z => (nomatch z), fun ⟨_, z⟩ => (nomatch z)⟩, fun _ z => (nomatch z)⟩
 ·rw [h1, h2]
  refine ⟨⟨fun _ => ⟨w, rfl⟩, fun _ => rfl⟩, fun u e => ?_⟩
  cases e
  exact ⟨v, rfl, h3⟩
theorem nodup_take {α : Type} {l : List α} {i : Nat} {x : α} (nd : l.Nodup) (e : l[i]? = some x) : x ∉ l.take i := fun h => by
 obtain ⟨j, hj, ej⟩ := List.mem_take_iff_getElem.mp h
 obtain ⟨hi, ei⟩ := List.getElem?_eq_some_iff.mp e
 exact (List.pairwise_iff_getElem.mp nd) j i (by lia) hi (by lia) (ej.trans ei.symm)
theorem at3 {a b c d : V} {l : List V} : atI (a :: b :: c :: d :: l) 3 = some d := atI_nat (show (a :: b :: c :: d :: l)[3]? = some d from rfl)
theorem at2 {a b c : V} {l : List V} : atI (a :: b :: c :: l) 2 = some c := atI_nat (show (a :: b :: c :: l)[2]? = some c from rfl)
theorem at4 {a b c d e : V} {l : List V} : atI (a :: b :: c :: d :: e :: l) 4 = some e := atI_nat (show (a :: b :: c :: d :: e :: l)[4]? = some e from rfl)
theorem at5 {a b c d e f : V} {l : List V} : atI (a :: b :: c :: d :: e :: f :: l) 5 = some f := atI_nat (show (a :: b :: c :: d :: e :: f :: l)[5]? = some f from rfl)
theorem str_ne {a b : Str} (h : a ≠ b) : ¬ decide (V.str a = V.str b) = true := fun z => h (V.str.inj (of_decide_eq_true z))
theorem int_ne {i j : Int} (h : i = j) {A : Prop} : (!decide (V.int i = V.int j)) = true → A := fun z => by rw [decide_eq_true (by rw [h])] at z; cases z
theorem strs_ne {i j : Str} (h : i = j) {A : Prop} : (!decide (V.str i = V.str j)) = true → A := fun z => by rw [decide_eq_true (by rw [h])] at z; cases z
theorem s_gm : ("gone" : Str) ≠ "missed" := by decide +kernel
theorem s_tm : ("told" : Str) ≠ "missed" := by decide +kernel
theorem s_tg : ("told" : Str) ≠ "gone" := by decide +kernel
theorem s_gt : ("gone" : Str) ≠ "told" := by decide +kernel
section
variable {P : Program} {w : World} {K : PySem.W.Frag} {mg : Str → Option Value}
theorem f_byE (D : DefIn K "_law_by_event" st__law_by_event) (M : MG K mg) : FnB P w K mg "_law_by_event" ["_law_said", "_law_stand", "_law_deed", "_law_mark"] 1 (spByE K) := by
 refine D.fn M sc__law_by_event bd__law_by_event (fun vs H Q E h => ?_) (fun f base cdv A outer s H vs Q E hr h => ?_)
 ·obtain ⟨l, d, b, mk, zs, out, kvs, sd, n, t, a, rfl, _⟩ := h
  rfl
 ·obtain ⟨l, d, b, mk, zs, out, kvs, sd, n, t, a, rfl, hl, la, hd, hw, hb, hlen, ho, k⟩ := h
  have hu1 := hu_of hr
  have hu : (A.deeper (envOfC "_law_by_event" (defScope st__law_by_event) s.heap.objs.size f cdv)).units + 64 < cLine := hr.units
  refine ⟨_, (pss_cons (pset (i := 4) sc__law_by_event.nd rfl (Or.inl rfl) (pe_lst pa_nil))
   (pss_cons (ps_for PassesOwn.never rfl (pi_list (pv 0)) (pg_name (i := 5) sc__law_by_event.nd rfl (Or.inl rfl))
   (pss_cons (pset (i := 6) sc__law_by_event.nd rfl (Or.inl rfl) (pe_slice sl_tup (pv 5) (po_some pe_int) (po_some pe_int)))
   (pss_cons (ps_if (pt_cmpR op_eq (pe_ix ix_tup (pv 5) pe_int (fun _ _ => rfl)) pe_str (nomark _)) (pss_one (ps_ret (pe_cmpR (op_eqD hu) (pv 0) (pe_lst (pc (pe_op op_catT (pe_tup (pc pe_str pa_nil)) (pe_slice sl_tup (pv 2) (po_some pe_int) po_none)) pa_nil)) (nomark _)))) pss_nil)
   (pss_cons (ps_if (PW.pt (pw_or (pt_cmpR (op_inD hu) (pv 6) (pv 4) (by with_unfolding_all rfl)) (pw_or (pt_cmpR op_ne (pe_ix ix_tup (pv 5) pe_int (fun _ _ => rfl)) (pe_ix ix_tup (pv 2) pe_int (fun _ _ => rfl)) (nomark _)) (pw_or (pt_cmpR op_isN (pv 3) pe_non (nomark _)) (pw_or1 (pt_cmpR oGt (pe_ix ix_tup (pv 5) pe_int (fun _ _ => rfl)) (pv 3) (nomark _))))))) (pss_one (ps_ret pe_bl)) pss_nil)
   (pss_cons (pexpr (pe_bm PySem.F.plainAttrs_list PySem.F.slot_list_append PySem.F.type_list_append mt_append (pv 4) (pc (pv 6) pa_nil)))
   (pss_cons (ps_if (PW.pt (pw_and (pt_cmpR op_eq (pe_ix ix_tup (pv 5) pe_int (fun _ _ => rfl)) pe_str (nomark _)) (pw_and1 (pt_cmpR (op_notInM hu1) (pv 6) (pv 1) (by with_unfolding_all rfl))))) (pss_one (ps_ret pe_bl)) pss_nil)
   (pss_one (ps_if (pt_cmpR op_eq (pe_ix ix_tup (pv 5) pe_int (fun _ _ => rfl)) pe_str (nomark _)) (pss_cons (ps_if (PW.pt (pw_or (pt_cmpR oGt (pe_ix ix_tup (pv 5) pe_int (fun _ _ => rfl)) (pe_ix ix_tup (pv 2) pe_int (fun _ _ => rfl)) (nomark _)) (pw_or1 (pt_cmpR oGe (pe_ix ix_tup (pv 2) pe_int (fun _ _ => rfl)) (pe_ix ix_tup (pv 5) pe_int (fun _ _ => rfl)) (nomark _))))) (pss_one (ps_ret pe_bl)) pss_nil)
   (pss_cons (ps_if (PW.pt (pw_and (pt_cmpR (op_inM hu1) (pv 6) (pv 1) (by with_unfolding_all rfl)) (pw_and1 (pt_cmpR op_ne (pe_op oAdd (pe_ix ix_tup (pe_dget hu1 (pv 1) (pv 6) (fun _ _ => rfl)) pe_int (fun _ _ => rfl)) pe_int) (pe_ix ix_tup (pv 5) pe_int (fun _ _ => rfl)) (nomark _))))) (pss_one (ps_ret pe_bl)) pss_nil)
   (pss_one (ps_if (PW.pt (pw_and (pt_cmpR (op_inM hu1) (pv 6) (pv 1) (by with_unfolding_all rfl)) (pw_and1 (pt_cmpR op_ne (pe_op oAdd (pe_ix ix_tup (pe_dget hu1 (pv 1) (pv 6) (fun _ _ => rfl)) pe_int (fun _ _ => rfl)) (pe_ix ix_tup (pv 2) pe_int (fun _ _ => rfl))) (pe_ix ix_tup (pv 5) pe_int (fun _ _ => rfl)) (nomark _))))) (pss_one (ps_ret pe_bl)) pss_nil)))) pss_nil))))))))
   (pss_one (ps_ret pe_bl)))), ?_⟩
  clear hu1 hu
  refine ⟨(by show 0 ≤ sizeLine; decide), fun kl hkl => ?_⟩
  have s1 := Same.new (o := .lst []) hkl
  have hk1 : upd H kl (.lst []) kl = some (.lst []) := upd_same
  generalize upd H kl (.lst []) = H1 at *
  have hb' : SqT K H b [.str "event", .str n, .int t, .int a] := hb
  refine ⟨_, rfl, l, rfl, ⟨_, SqL.of (s1 _ _ hl)⟩, ?_⟩
  rcases ho with rfl | ⟨nd, hall⟩
  ·-- missed
   refine for_list (K := K) (a := l) (xs := zs) (fun i σ H' => i = 0 ∧ (∃ v5 v6, σ = [some (.ref l), some (.ref d), some (.ref b), some (mkV mk), some (.ref kl), v5, v6]) ∧ Same H H') ⟨rfl, ⟨none, none, rfl⟩, s1⟩ (fun i σ H' _ ⟨_, _, sm⟩ => SqL.of (sm _ _ hl)) ?_ ?_
   ·rintro i y σ H' hi ⟨rfl, ⟨v5, v6, rfl⟩, sm⟩
    obtain ⟨z, q, ez, rfl, hq⟩ := la.get hi
    cases ez
    refine ⟨_, rfl, _, rfl, _, rfl, q, _, rfl, SqT.of (sm _ _ hq), cut_ne (.missed n t a), fun p hp => ?_⟩
    have sp := sm.trans (Same.new (o := .tup (cutV (Say.missed n t a).v (some 1) (some 4))) hp)
    generalize upd H' p (.tup (cutV (Say.missed n t a).v (some 1) (some 4))) = H2 at *
    refine ⟨_, rfl, q, _, 0, _, rfl, rfl, SqT.of (sp _ _ hq), at0, rfl, _, rfl, ite2 (fun _ => ?_) (fun z => absurd (decide_eq_true rfl) z)⟩
    refine ⟨_, rfl, (by show 1 ≤ sizeLine; decide), fun c1 hc1 => ?_⟩
    have t1 := Same.new (o := .tup [.str "missed"]) hc1
    have e1 : upd H2 c1 (.tup [.str "missed"]) c1 = some (.tup [.str "missed"]) := upd_same
    generalize upd H2 c1 (.tup [.str "missed"]) = H3 at *
    refine ⟨_, rfl, _, rfl, b, _, rfl, (sp.trans t1).seqT hb', (fun h => absurd h.1 (show ¬ (1 : Nat) = 0 by decide)), fun c2 hc2 => ?_⟩
    have t2 := Same.new (o := .tup [.str n, .int t, .int a]) hc2
    refine ⟨c1, c2, _, [.str n, .int t, .int a], rfl, rfl, SqT.of (t2 _ _ e1), SqT.of upd_same, (by intro z; cases z), (by show 4 ≤ sizeLine; decide), (fun z => nomatch z), fun _ c3 hc3 => ⟨(by show 1 ≤ sizeLine; decide), fun c4 hc4 => ?_⟩⟩
    have t3 := t2.trans ((Same.new (o := .tup ([.str "missed"] ++ [.str n, .int t, .int a])) hc3).trans (Same.new (o := .lst [.ref c3]) hc4))
    have st := sp.trans (t1.trans t3)
    refine ⟨.lst ([Say.missed n t a].map sayD), .lst ([Say.missed n t a].map sayD), says_dn (st _ _ hl) (la.keep fun a row e => st _ _ e), says_dn upd_same (.cons ⟨c3, rfl, upd_keep hc4 upd_same⟩ .nil), .inr ⟨_, _, rfl, rfl⟩, rfl, says_dep _, fun bq hbq => ?_⟩
    have : bq = true := hbq.mpr rfl
    subst this
    exact k _ st
   ·rintro σ H' ⟨h0, _, _⟩
    have := la.len
    rw [h0] at this
    cases this
  ·-- not missed
   refine for_list (K := K) (a := l) (xs := zs) (fun i σ H' => ∃ v5 v6 ks, σ = [some (.ref l), some (.ref d), some (.ref b), some (mkV mk), some (.ref kl), v5, v6] ∧ Same H H' ∧ H' kl = some (.lst ks) ∧ KeysAt H' ks ((out.take i).map Say.k)) ⟨none, none, [], rfl, s1, hk1, .nil⟩ (fun i σ H' _ ⟨_, _, _, _, sm, _⟩ => SqL.of (sm _ _ hl)) ?_ ?_
   ·rintro i y σ H' hi ⟨v5, v6, ks, rfl, sm, hk, ka⟩
    obtain ⟨z, q, ez, rfl, hq⟩ := la.get hi
    obtain ⟨m, rfl, okz⟩ := hall z (List.mem_of_getElem? ez)
    have hil := (List.getElem?_eq_some_iff.mp ez).1
    have nk : Say.k z ∉ (out.take i).map Say.k := by
     rw [List.map_take]
     exact nodup_take nd (by rw [List.getElem?_map, ez]; rfl)
    have lk := ka.len
    rw [List.length_map, List.length_take] at lk
    have tk : (out.take (i + 1)).map Say.k = (out.take i).map Say.k ++ [Say.k z] := by rw [List.take_add_one, ez, List.map_append]; rfl
    refine ⟨_, rfl, _, rfl, _, rfl, q, _, rfl, SqT.of (sm _ _ hq), cut_ne z, fun p hp => ?_⟩
    rw [cut_key]
    have tp := Same.new (o := .tup (Say.k z).v) hp
    have hp2 : upd H' p (.tup (Say.k z).v) p = some (.tup (Say.k z).v) := upd_same
    have sp := sm.trans tp
    have hk2 := tp _ _ hk
    have ka2 := ka.keep fun a row e => tp _ _ e
    generalize upd H' p (.tup (Say.k z).v) = H2 at *
    have hq2 := sp _ _ hq
    have hb2 := sp.seqT hb'
    have fl : kl ≠ l := fun z => by rw [z, hl] at hkl; cases hkl
    have s3 : Same H (upd H2 kl (.lst (ks ++ [.ref p]))) := fun a o e => by rw [upd_ne (ne_of_none e hkl)]; exact sp _ _ e
    have tu : ∀ a row, H2 a = some (.tup row) → upd H2 kl (.lst (ks ++ [.ref p])) a = some (.tup row) := fun a row e => by rw [upd_ne (ne_of e hk2 (by intro z; cases z))]; exact e
    have ka3 : KeysAt (upd H2 kl (.lst (ks ++ [.ref p]))) (ks ++ [.ref p]) ((out.take (i + 1)).map Say.k) := by rw [tk]; exact (ka2.keep tu).snoc (tu _ _ hp2)
    have hp3 := tu _ _ hp2
    have hk3 : upd H2 kl (.lst (ks ++ [.ref p])) kl = some (.lst (ks ++ [.ref p])) := upd_same
    have sl := sizeLine_eq
    have nin : ∀ {G : Prop} (bb : Bool), (bb = true ↔ (Say.k z).d ∈ ((out.take i).map Say.k).map Ky.d) → bb = true → G := fun bb hbb e => by
     obtain ⟨k', hk', ek⟩ := List.mem_map.mp (hbb.mp e)
     exact absurd (kyD_inj ek ▸ hk') nk
    have nm : ∀ e ∈ ((out.take i).map Say.k).map Ky.d, nomix e (Say.k z).d = true ∧ e.dep ≤ 30 := fun e he => by
     obtain ⟨k', _, rfl⟩ := List.mem_map.mp he
     exact ⟨rfl, by show 1 ≤ 30; decide⟩
    cases z with
    | missed n t a => exact okz.elim
    | gone g =>
     obtain ⟨en, em, hv⟩ := okz
     refine ⟨_, rfl, q, _, 0, _, rfl, rfl, SqT.of hq2, at0, rfl, _, rfl, ite2 (fun z => absurd z (str_ne s_gm)) (fun _ => ?_)⟩
     refine ⟨_, rfl, _, rfl, kl, ks, _, _, rfl, SqL.of hk2, key_dn hp2, ka2.dns, nm, fun bb hbb => ⟨_, rfl, ite2 (nin bb hbb) (fun _ => ?_)⟩⟩
     refine ⟨_, rfl, q, _, 1, _, rfl, rfl, SqT.of hq2, at1, _, rfl, b, _, 1, _, rfl, rfl, hb2, at1, rfl, _, rfl, ite2 (strs_ne en) (fun _ => ?_)⟩
     refine ⟨_, rfl, rfl, _, rfl, ite2 (fun z => nomatch of_decide_eq_true z) (fun _ => ?_)⟩
     refine ⟨_, rfl, q, _, 3, _, rfl, rfl, SqT.of hq2, at3, _, rfl, _, _, rfl, rfl, _, rfl, ite2 (fun z => absurd (of_decide_eq_true z) (by lia)) (fun _ => ?_)⟩
     refine ⟨_, rfl, .inl ⟨rfl, _, SqL.of hk2⟩, _, rfl, kl, ks, .ref p, rfl, rfl, hk2, by lia, ?_⟩
     generalize upd H2 kl (.lst (ks ++ [.ref p])) = H3 at *
     have hw3 := hw.keep fun a row e => s3 _ _ e
     refine ⟨_, rfl, q, _, 0, _, rfl, rfl, SqT.of (tu _ _ hq2), at0, rfl, _, rfl, ite2 (fun _ => ?_) (fun z => absurd (decide_eq_true rfl) z)⟩
     refine ⟨_, rfl, _, rfl, d, _, rfl, DGet.t (k := g.l) (s3 _ _ hd) hp3, _, rfl, ite2 (fun z => ?_) (fun _ => ?_)⟩
     ·have := ((WinsP.look hw3 g).1).mpr hv
      rw [this] at z; cases z
     refine ⟨_, rfl, q, _, 0, _, rfl, rfl, SqT.of (tu _ _ hq2), at0, rfl, _, rfl, ite2 (fun z => absurd z (str_ne s_gt)) (fun _ => ?_)⟩
     exact ⟨_, _, _, rfl, s3, hk3, ka3⟩
    | told x =>
     obtain ⟨en, em, h1, h2, hv⟩ := okz
     refine ⟨_, rfl, q, _, 0, _, rfl, rfl, SqT.of hq2, at0, rfl, _, rfl, ite2 (fun z => absurd z (str_ne s_tm)) (fun _ => ?_)⟩
     refine ⟨_, rfl, _, rfl, kl, ks, _, _, rfl, SqL.of hk2, key_dn hp2, ka2.dns, nm, fun bb hbb => ⟨_, rfl, ite2 (nin bb hbb) (fun _ => ?_)⟩⟩
     refine ⟨_, rfl, q, _, 1, _, rfl, rfl, SqT.of hq2, at1, _, rfl, b, _, 1, _, rfl, rfl, hb2, at1, rfl, _, rfl, ite2 (strs_ne en) (fun _ => ?_)⟩
     refine ⟨_, rfl, rfl, _, rfl, ite2 (fun z => nomatch of_decide_eq_true z) (fun _ => ?_)⟩
     refine ⟨_, rfl, q, _, 3, _, rfl, rfl, SqT.of hq2, at3, _, rfl, _, _, rfl, rfl, _, rfl, ite2 (fun z => absurd (of_decide_eq_true z) (by lia)) (fun _ => ?_)⟩
     refine ⟨_, rfl, .inl ⟨rfl, _, SqL.of hk2⟩, _, rfl, kl, ks, .ref p, rfl, rfl, hk2, by lia, ?_⟩
     have hq3 := tu _ _ hq2
     generalize upd H2 kl (.lst (ks ++ [.ref p])) = H3 at *
     have hb3 := s3.seqT hb'
     have hd3 := s3 _ _ hd
     have hw3 := hw.keep fun a row e => s3 _ _ e
     have gt := DGet.t (k := x.k.l) hd3 hp3
     clear lk hlen sl
     refine ⟨_, rfl, q, _, 0, _, rfl, rfl, SqT.of hq3, at0, rfl, _, rfl, ite2 (fun z => absurd z (str_ne s_tg)) (fun _ => ?_)⟩
     refine ⟨_, rfl, q, _, 0, _, rfl, rfl, SqT.of hq3, at0, rfl, _, rfl, ite2 (fun _ => ?_) (fun z => absurd (decide_eq_true rfl) z)⟩
     refine ⟨_, rfl, q, _, 2, _, rfl, rfl, SqT.of hq3, at2, _, rfl, b, _, 2, _, rfl, rfl, hb3, at2, _, _, rfl, rfl, _, rfl, ite2 (fun z => absurd (of_decide_eq_true z) (by lia)) (fun _ => ?_)⟩
     refine ⟨_, rfl, b, _, 2, _, rfl, rfl, hb3, at2, _, rfl, q, _, 3, _, rfl, rfl, SqT.of hq3, at3, _, _, rfl, rfl, _, rfl, ite2 (fun z => absurd (of_decide_eq_true z) (by lia)) (fun _ => ?_)⟩
     have fin : ∃ v5 v6 ks', ([some (.ref l), some (.ref d), some (.ref b), some (mkV (some m)), some (.ref kl), some (.ref q), some (.ref p)] : L2.St) = [some (.ref l), some (.ref d), some (.ref b), some (mkV (some m)), some (.ref kl), v5, v6] ∧ Same H H3 ∧ H3 kl = some (.lst ks') ∧ KeysAt H3 ks' ((out.take (i + 1)).map Say.k) := ⟨_, _, _, rfl, s3, hk3, ka3⟩
     rcases hw3.get x.k.l with ⟨e1, e2⟩ | ⟨v, wn, e1, e2, _, va⟩
     ·rw [e1] at gt
      refine ⟨_, rfl, _, rfl, d, _, rfl, gt, _, rfl, ite2 (fun z => nomatch z) (fun _ => ?_)⟩
      refine ⟨_, rfl, _, rfl, d, _, rfl, gt, _, rfl, ite2 (fun z => nomatch z) (fun _ => fin)⟩
     ·rw [e1] at gt
      obtain ⟨ea, hea, hva⟩ := va
      subst hea
      obtain ⟨c1, c2⟩ := hv wn e2
      refine ⟨_, rfl, _, rfl, d, _, rfl, gt, _, rfl, ite2 (fun _ => ?_) (fun z => absurd rfl z)⟩
      refine ⟨_, rfl, _, rfl, d, _, rfl, gt, ea, _, 0, _, rfl, rfl, SqT.of hva, at0, _, _, rfl, rfl, _, rfl, q, _, 4, _, rfl, rfl, SqT.of hq3, at4, rfl, _, rfl, ite2 (int_ne c1) (fun _ => ?_)⟩
      refine ⟨_, rfl, _, rfl, d, _, rfl, gt, _, rfl, ite2 (fun _ => ?_) (fun z => absurd rfl z)⟩
      refine ⟨_, rfl, _, rfl, d, _, rfl, gt, ea, _, 1, _, rfl, rfl, SqT.of hva, at1, _, rfl, b, _, 3, _, rfl, rfl, hb3, at3, _, _, rfl, rfl, _, rfl, q, _, 5, _, rfl, rfl, SqT.of hq3, at5, rfl, _, rfl, ite2 (int_ne c2) (fun _ => fin)⟩
   ·rintro σ H' ⟨v5, v6, ks, rfl, sm, hk, ka⟩
    exact k _ sm
noncomputable def edV (w : Wn) : List V := [.int w.e, .int w.s, .str w.n]
theorem ed_dn {H : Hp} {a : Addr} {w : Wn} (h : H a = some (.tup (edV w))) : Dn K H (.ref a) w.ed := .tup (SqT.of h) (.cons (.int _) (.cons (.int _) (.cons (.str _) .nil)))
theorem ed_gt {rs : List Wn} (o : (rs.map Wn.ed).Pairwise (fun d e => dcmp d e = .lt)) {i : Nat} {x y : Wn} (hx : rs[i]? = some x) (hy : rs[i + 1]? = some y) : isLe (dcmp y.ed x.ed) = false := by
 obtain ⟨l1, e1⟩ := List.getElem?_eq_some_iff.mp hx
 obtain ⟨l2, e2⟩ := List.getElem?_eq_some_iff.mp hy
 have := (List.pairwise_iff_getElem.mp o) i (i + 1) (by simpa using l1) (by simpa using l2) (Nat.lt_succ_self _)
 rw [List.getElem_map, List.getElem_map, e1, e2] at this
 rw [cmp_swap (sh := shE) (d := x.ed) (e := y.ed) rfl rfl, this]
 rfl
theorem f_byM (D : DefIn K "_law_by_mark" st__law_by_mark) (M : MG K mg) : FnB P w K mg "_law_by_mark" ["_law_said", "_law_stand", "_law_deed", "_law_mark"] 1 (spByM K) := by
 refine D.fn M sc__law_by_mark bd__law_by_mark (fun vs H Q E h => ?_) (fun f base cdv A outer s H vs Q E hr h => ?_)
 ·obtain ⟨l, d, b, mk, zs, out, kvs, sd, t, rfl, _⟩ := h
  rfl
 ·obtain ⟨l, d, b, mk, zs, out, kvs, sd, t, rfl, hl, la, hd, hw, hb, ⟨rs, rfl, hall, ord, hst⟩, k⟩ := h
  have hu1 := hu_of hr
  have hu : (A.deeper (envOfC "_law_by_mark" (defScope st__law_by_mark) s.heap.objs.size f cdv)).units + 64 < cLine := hr.units
  refine ⟨_, (pss_cons (pset (i := 4) sc__law_by_mark.nd rfl (Or.inl rfl) pe_non)
   (pss_cons (ps_for PassesOwn.never rfl (pi_list (pv 0)) (pg_name (i := 5) sc__law_by_mark.nd rfl (Or.inl rfl))
   (pss_cons (ps_if (PW.pt (pw_or (pt_cmpR op_ne (pe_ix ix_tup (pv 5) pe_int (fun _ _ => rfl)) pe_str (nomark _)) (pw_or (pt_cmpR (op_inM hu1) (pe_slice sl_tup (pv 5) (po_some pe_int) (po_some pe_int)) (pv 1) (by with_unfolding_all rfl)) (pw_or1 (pt_cmpR oGt (pe_ix ix_tup (pv 5) pe_int (fun _ _ => rfl)) (pe_ix ix_tup (pv 2) pe_int (fun _ _ => rfl)) (nomark _)))))) (pss_one (ps_ret pe_bl)) pss_nil)
   (pss_cons (ps_if (PW.pt (pw_and (pt_cmpR op_notN (pv 3) pe_non (nomark _)) (pw_and1 (pt_cmpR oLe (pe_ix ix_tup (pv 5) pe_int (fun _ _ => rfl)) (pv 3) (nomark _))))) (pss_one (ps_ret pe_bl)) pss_nil)
   (pss_cons (pset (i := 6) sc__law_by_mark.nd rfl (Or.inl rfl) (pe_tup (pc (pe_ix ix_tup (pv 5) pe_int (fun _ _ => rfl)) (pc (pe_ix ix_tup (pv 5) pe_int (fun _ _ => rfl)) (pc (pe_ix ix_tup (pv 5) pe_int (fun _ _ => rfl)) pa_nil)))))
   (pss_cons (ps_if (PW.pt (pw_and (pt_cmpR op_notN (pv 4) pe_non (nomark _)) (pw_and1 (pt_cmpR (op_leD hu) (pv 6) (pv 4) (nomark _))))) (pss_one (ps_ret pe_bl)) pss_nil)
   (pss_one (pset (i := 4) sc__law_by_mark.nd rfl (Or.inl rfl) (pv 6))))))))
   (pss_one (ps_ret (pe_or (pe_cmpR op_isN (pv 3) pe_non (nomark _)) (pe_or (pe_cmpR oGt (pe_ix ix_tup (pv 2) pe_int (fun _ _ => rfl)) (pv 3) (nomark _)) (pe_one (pe_cmpR (op_eqD hu) (pv 0) (pe_lst pa_nil) (nomark _))))))))), ?_⟩
  clear hu1 hu
  have hb' : SqT K H b [.str "mark", .int t] := hb
  refine ⟨_, rfl, l, rfl, ⟨_, SqL.of hl⟩, ?_⟩
  refine for_list (K := K) (a := l) (xs := zs) (fun i σ H' => ∃ v5 v6 lv, σ = [some (.ref l), some (.ref d), some (.ref b), some (mkV mk), some lv, v5, v6] ∧ Same H H' ∧ ((i = 0 ∧ lv = .non) ∨ ∃ j c x, i = j + 1 ∧ rs[j]? = some x ∧ lv = .ref c ∧ H' c = some (.tup (edV x)))) ⟨none, none, .non, rfl, Same.refl _, .inl ⟨rfl, rfl⟩⟩ (fun i σ H' _ ⟨_, _, _, _, sm, _⟩ => SqL.of (sm _ _ hl)) ?_ ?_
  ·rintro i y σ H' hi ⟨v5, v6, lv, rfl, sm, hlv⟩
   obtain ⟨z, q, ez, rfl, hq⟩ := la.get hi
   rw [List.getElem?_map] at ez
   obtain ⟨x, ex, rfl⟩ := Option.map_eq_some_iff.mp ez
   obtain ⟨g1, g2, g3⟩ := hall x (List.mem_of_getElem? ex)
   have hq1 := sm _ _ hq
   refine ⟨_, rfl, q, _, 0, _, rfl, rfl, SqT.of hq1, at0, rfl, _, rfl, ite2 (strs_ne rfl) (fun _ => ?_)⟩
   refine ⟨_, rfl, _, rfl, _, rfl, q, _, rfl, SqT.of hq1, cut_ne (.told x), fun p hp => ?_⟩
   rw [cut_key]
   have tp := Same.new (o := .tup (Say.k (.told x)).v) hp
   have hp2 : upd H' p (.tup (Say.k (.told x)).v) p = some (.tup (x.k.l.map kV)) := upd_same
   have sp := sm.trans tp
   have hlv2 : (i = 0 ∧ lv = .non) ∨ ∃ j c y, i = j + 1 ∧ rs[j]? = some y ∧ lv = .ref c ∧ upd H' p (.tup (Say.k (.told x)).v) c = some (.tup (edV y)) := by
    rcases hlv with h | ⟨j, c, y, h1, h2, h3, h4⟩
    ·exact .inl h
    ·exact .inr ⟨j, c, y, h1, h2, h3, tp _ _ h4⟩
   generalize upd H' p (.tup (Say.k (.told x)).v) = H2 at *
   have hq2 := sp _ _ hq
   have hb2 := sp.seqT hb'
   have hw2 := hw.keep fun a row e => sp _ _ e
   refine ⟨_, rfl, d, _, rfl, DGet.t (k := x.k.l) (sp _ _ hd) hp2, _, rfl, ite2 (fun z => ?_) (fun _ => ?_)⟩
   ·obtain ⟨v, hv⟩ := ((WinsP.look hw2 x.k).1).mp z
    rw [g1] at hv; cases hv
   refine ⟨_, rfl, q, _, 3, _, rfl, rfl, SqT.of hq2, at3, _, rfl, b, _, 1, _, rfl, rfl, hb2, at1, _, _, rfl, rfl, _, rfl, ite2 (fun z => absurd (of_decide_eq_true z) (by lia)) (fun _ => ?_)⟩
   refine' via (P := fun R : Prop => R) _ (fun rest => ?main) ?rest
   case main =>
    refine ⟨_, rfl, rfl, _, rfl, ite2 (fun z => ?_) (fun _ => ?_)⟩
    rotate_left
    ·exact rest
    obtain ⟨m, hm⟩ : ∃ m, mk = some m := by
     cases mk with
     | none => cases z
     | some m => exact ⟨m, rfl⟩
    refine ⟨_, rfl, q, _, 3, _, rfl, rfl, SqT.of hq2, at3, _, rfl, _, m, rfl, (by rw [hm]; rfl), _, rfl, ite2 (fun z => ?_) (fun _ => ?_)⟩
    ·rw [hm] at g3
     have : ¬ x.e ≤ m := of_decide_eq_false g3
     exact absurd (of_decide_eq_true z) this
    ·exact rest
   case rest =>
    refine ⟨_, rfl, q, _, 3, _, rfl, rfl, SqT.of hq2, at3, _, rfl, q, _, 2, _, rfl, rfl, SqT.of hq2, at2, _, rfl, q, _, 1, _, rfl, rfl, SqT.of hq2, at1, (by show 3 ≤ sizeLine; decide), fun c hc => ?_⟩
    have tc := Same.new (o := .tup (edV x)) hc
    have hc3 : upd H2 c (.tup (edV x)) c = some (.tup (edV x)) := upd_same
    have s3 := sp.trans tc
    refine' via (P := fun R : Prop => R) _ (fun rest => ?main2) ?rest2
    case main2 =>
     refine ⟨_, rfl, rfl, _, rfl, ite2 (fun z => ?_) (fun _ => ?_)⟩
     rotate_left
     ·exact rest
     rcases hlv2 with ⟨_, e⟩ | ⟨j, cj, y, e0, ey, e, hy⟩
     ·rw [e] at z; cases z
     refine ⟨_, rfl, _, rfl, [.int, .int, .str], _, _, ed_dn (w := x) hc3, (by rw [e]; exact ed_dn (w := y) (tc _ _ hy)), rfl, rfl, (fun sh h => ?_), _, rfl, ite2 (fun z => ?_) (fun _ => ?_)⟩
     ·simp only [List.mem_cons, List.not_mem_nil, or_false] at h
      rcases h with rfl | rfl | rfl
      ·exact .inl rfl
      ·exact .inl rfl
      ·exact .inr rfl
     ·rw [e0] at ex
      have g := ed_gt ord ey ex
      unfold Wn.ed at g
      simp only [dcmp] at g
      rw [g] at z; cases z
     ·exact rest
    case rest2 =>
     exact ⟨_, rfl, _, _, _, rfl, s3, .inr ⟨i, c, x, rfl, ex, rfl, hc3⟩⟩
  ·rintro σ H' ⟨v5, v6, lv, rfl, sm, _⟩
   have hb2 := sm.seqT hb'
   cases mk with
   | none =>
    refine ⟨_, rfl, rfl, true, decT rfl, ite2 (fun _ => ?_) (fun z => absurd rfl z)⟩
    exact k _ sm
   | some m =>
    refine ⟨_, rfl, rfl, _, rfl, ite2 (fun z => nomatch of_decide_eq_true z) (fun _ => ?_)⟩
    refine ⟨_, rfl, b, _, 1, _, rfl, rfl, hb2, at1, _, rfl, _, _, rfl, rfl, _, rfl, ite2 (fun z => ?_) (fun z => ?_)⟩
    ·exact k _ sm
    ·have e : rs = [] := hst (decide_eq_true (by
      have : ¬ m < t := fun y => z (decide_eq_true y)
      lia))
     subst e
     refine ⟨_, rfl, (by show 0 ≤ sizeLine; decide), fun c hc => ?_⟩
     have s2 := sm.trans (Same.new (o := .lst []) hc)
     refine ⟨.lst [], .lst [], says_dn (o := []) (s2 _ _ hl) (la.keep fun a row e => s2 _ _ e), .lst (SqL.of upd_same) .nil, .inr ⟨_, _, rfl, rfl⟩, rfl, (by show 1 ≤ 30; decide), fun bq hbq => ?_⟩
     have : bq = true := hbq.mpr rfl
     subst this
     exact k _ s2
end
end K3
namespace K3
open PySem PySem.Spec PyProof.Rows L2 K1 K2
inductive spLawI (Pt : Addr) (K : PySem.W.Frag) (mg : Str → Option Value) (vs : List V) (H : Hp) (Q : VK) : Prop
 | mk (a : Addr) (ns : List Int) : (vs = [.ref a]) → (SqL K H a (ns.map V.int)) → (ns.length ≤ 63) → (lamTab H Pt lp lq) → (bltAt K mg H) → (∀ H', Q (.bl true) H') → spLawI Pt K mg vs H Q
noncomputable def spLaw (Pt : Addr) (K : PySem.W.Frag) (mg : Str → Option Value) : Sp := fun vs H Q d_ => spLawI Pt K mg vs H Q
theorem runs_path {pl : Pl} {st0 st : Sta} {dds : List Deed} {outs : List (List Say)} (h : Runs pl st0 dds outs st) : ∃ S : Nat → Sta, S 0 = st0 ∧ S dds.length = st ∧ outs.length = dds.length ∧ ∀ i dd out, dds[i]? = some dd → outs[i]? = some out → DoRel pl (S i) dd out (S (i + 1)) := by
 induction h with
 | nil => exact ⟨fun _ => st0, rfl, rfl, rfl, fun i dd out h => by simp at h⟩
 | @snoc st1 st2 dds outs dd out r d ih =>
  obtain ⟨S, h0, h1, h2, h3⟩ := ih
  refine ⟨fun i => if i ≤ dds.length then S i else st2, ?_, ?_, ?_, ?_⟩
  ·simp only [Nat.zero_le, if_true, h0]
  ·rw [List.length_append, List.length_singleton]
   exact if_neg (by lia)
  ·rw [List.length_append, List.length_append, h2]; rfl
  ·intro i d' o' e1 e2
   have hi := (List.getElem?_eq_some_iff.mp e1).1
   rw [List.length_append, List.length_singleton] at hi
   by_cases hlt : i < dds.length
   ·rw [List.getElem?_append_left hlt] at e1
    rw [List.getElem?_append_left (by lia)] at e2
    show DoRel pl (if i ≤ dds.length then S i else st2) d' o' (if i + 1 ≤ dds.length then S (i + 1) else st2)
    rw [if_pos (by lia), if_pos (by lia)]
    exact h3 i d' o' e1 e2
   ·have e : i = dds.length := by lia
    subst e
    rw [List.getElem?_append_right (Nat.le_refl _), Nat.sub_self] at e1
    rw [List.getElem?_append_right (by lia), h2, Nat.sub_self] at e2
    cases e1; cases e2
    show DoRel pl (if dds.length ≤ dds.length then S dds.length else st2) dd out (if dds.length + 1 ≤ dds.length then S (dds.length + 1) else st2)
    rw [if_pos (Nat.le_refl _), if_neg (by lia), h1]
    exact d
theorem do_out {pl : Pl} {st st' : Sta} {dd : Deed} {out : List Say} (ok : pl.ok) (h : DoRel pl st dd out st') : out.length ≤ st.ws.length + 100 := by
 cases dd with
 | ev n t a =>
  rcases h with ⟨_, rfl, _⟩ | ⟨_, mt, ks, ws', er, rfl, _⟩
  ·exact Nat.le_trans (by decide : 1 ≤ 100) (Nat.le_add_left _ _)
  ·have h1 := gones_len st.mk mt ks
   have h2 := tolds_len st.mk ws' ks
   have h3 : mt.length ≤ st.ws.length ∧ ks.length ≤ 100 := by
    rcases er with ⟨_, rfl, rfl, _⟩ | ⟨_, pm, _, s, e, _, _, _, _, _, _, rfl, _⟩
    ·refine ⟨Nat.zero_le _, ?_⟩
     unfold evKeys
     rw [List.length_map]
     exact spI_len ok t
    ·refine ⟨?_, show 1 ≤ 100 by decide⟩
     rw [pm.length_eq, List.length_map]
     exact List.length_filter_le _ _
   rw [List.length_append]
   lia
 | mk t =>
  rcases h with ⟨_, rfl, _⟩ | ⟨_, rs, p, _, rfl, _⟩
  ·exact Nat.zero_le _
  ·rw [List.length_map, p.length_eq]
   exact Nat.le_trans (List.length_filter_le _ _) (Nat.le_add_right _ _)
theorem hear_len : ∀ (out : List Say) (sd : List Wn), (out.foldl upS sd).length ≤ sd.length + out.length := by
 intro out
 induction out with
 | nil => intro sd; exact Nat.le_refl _
 | cons z out ih =>
  intro sd
  have h1 := ih (upS sd z)
  have h2 : (upS sd z).length ≤ sd.length + 1 := by
   cases z with
   | told w => exact setW_len ..
   | gone k => exact Nat.le_trans (List.length_filter_le _ _) (Nat.le_succ _)
   | missed n t a => exact Nat.le_succ _
  rw [List.foldl_cons, List.length_cons]
  lia
theorem path_len {pl : Pl} {S : Nat → Sta} {dds : List Deed} {outs : List (List Say)} (ok : pl.ok) (h0 : (S 0).ws = []) (hl : outs.length = dds.length) (h : ∀ i dd out, dds[i]? = some dd → outs[i]? = some out → DoRel pl (S i) dd out (S (i + 1))) : ∀ i, i ≤ dds.length → (S i).ws.length ≤ 100 * i := by
 intro i
 induction i with
 | zero => intro _; rw [h0]; exact Nat.le_refl _
 | succ i ih =>
  intro hi
  have h1 := ih (by lia)
  have h2 := (h i dds[i] (outs[i]'(by lia)) (List.getElem?_eq_getElem (by lia)) (List.getElem?_eq_getElem (by lia))).len ok
  lia
noncomputable def ddD : Deed → Dv
 | .ev n t a => .tup [.str "event", .str n, .int t, .int a]
 | .mk t => .tup [.str "mark", .int t]
theorem dd_dn {K : PySem.W.Frag} {H : Hp} {a : Addr} {d : Deed} (h : H a = some (.tup d.v)) : Dn K H (.ref a) (ddD d) := by
 cases d with
 | ev n t a => exact .tup (SqT.of h) (.cons (.str _) (.cons (.str _) (.cons (.int _) (.cons (.int _) .nil))))
 | mk t => exact .tup (SqT.of h) (.cons (.str _) (.cons (.int _) .nil))
theorem dds_dn {K : PySem.W.Frag} {H : Hp} {l : Addr} {zs : List V} {o : List Deed} (h : H l = some (.lst zs)) (la : ListAt Deed.v H zs o) : Dn K H (.ref l) (.lst (o.map ddD)) := .lst (SqL.of h) (la.dns fun _ _ h => dd_dn h)
theorem dd_dep (d : Deed) : (ddD d).dep ≤ 1 ∧ nomix (ddD d) (ddD d) = true := by cases d <;> exact ⟨Nat.le_of_ble_eq_true rfl, rfl⟩
theorem dds_dep (o : List Deed) : (Dv.lst (o.map ddD)).dep ≤ 30 ∧ nomix (.lst (o.map ddD)) (.lst (o.map ddD)) = true := by
 have h : Dv.deps (o.map ddD) ≤ 1 ∧ nomixs (o.map ddD) (o.map ddD) = true := by
  induction o with
  | nil => exact ⟨Nat.zero_le _, rfl⟩
  | cons z o ih => exact ⟨Nat.max_le.mpr ⟨(dd_dep z).1, ih.1⟩, (Bool.and_eq_true _ _).mpr ⟨(dd_dep z).2, ih.2⟩⟩
 refine ⟨?_, h.2⟩
 show Dv.deps (o.map ddD) + 1 ≤ 30
 lia
theorem says_get {H : Hp} {xs : List V} {os : List (List Say)} {i : Nat} {x : V} (h : SaysAt H xs os) (e : xs[i]? = some x) : ∃ l zs o, x = .ref l ∧ H l = some (.lst zs) ∧ os[i]? = some o ∧ ListAt Say.v H zs o := by
 obtain ⟨o, eo, l, zs, e1, h1, h2⟩ := Paired.getL h e
 exact ⟨l, zs, o, e1, h1, eo, h2⟩
theorem stands0 (pl : Pl) : Stands pl ⟨none, [], []⟩ [] := ⟨List.Pairwise.nil, fun _ _ h => (nomatch h), fun _ => rfl⟩
theorem gone_in {sd : List Wn} {mk : Option Int} {dd : Deed} {out : List Say} {j : Nat} {g : Ky} (h : DdOk sd mk out dd) (e : out[j]? = some (.gone g)) : ∃ v, getW ((out.take j).foldl upS sd) g.l = some v := by
 cases dd with
 | ev n t a =>
  rcases h with rfl | ⟨nd, hall⟩
  ·cases j with
   | zero => cases e
   | succ j => simp at e
  ·obtain ⟨m, _, _, _, v, hv⟩ := hall _ (List.mem_of_getElem? e)
   have nk : g ∉ (out.take j).map Say.k := by
    rw [List.map_take]
    exact nodup_take nd (by rw [List.getElem?_map, e]; rfl)
   have := hear_ne (sd := sd) nk
   rw [Gm_of hv] at this
   obtain ⟨w, hw, _⟩ := Gm_get this
   exact ⟨w, hw⟩
 | mk t =>
  obtain ⟨rs, rfl, _⟩ := h
  rw [List.getElem?_map] at e
  obtain ⟨w, _, z⟩ := Option.map_eq_some_iff.mp e
  cases z
theorem s_mg : ("missed" : Str) ≠ "gone" := by decide +kernel
theorem s_mt : ("missed" : Str) ≠ "told" := by decide +kernel
theorem s_em : ("event" : Str) ≠ "mark" := by decide +kernel
theorem s_me : ("mark" : Str) ≠ "event" := by decide +kernel
theorem cut_val (w : Wn) : cutV (Say.told w).v (some 4) none = [.int w.c, .int w.t] := rfl
theorem cut_ne4 (w : Wn) : ¬ (HT.sIx (Say.told w).v.length 0 (some 4) = 0 ∧ HT.sIx (Say.told w).v.length (Say.told w).v.length none = (Say.told w).v.length) := fun h => absurd h.1 (show ¬ (4 : Nat) = 0 by decide)
section
variable {P : Program} {w : World} {K : PySem.W.Frag} {mg : Str → Option Value} {Pt : Addr}
theorem f_law (D : DefIn K "law" st_law) (M : MG K mg) (B : Bi K) (F__law_at : FnB P w K mg "_law_at" ["_law_script", "_law_k"] 1 (spAt2 K)) (F__law_plan_of : FnB P w K mg "_law_plan_of" ["_law_one", "_law_two"] 1 spPlanG) (F__law_ends_alike : FnB P w K mg "_law_ends_alike" ["_law_cell", "_law_plan"] 2 (spEnds K))
  (F__law_room : FnB P w K mg "_law_room" ["_law_script", "_law_most", "_law_bound"] 1 (spRoom K)) (F__law_drawn : FnB P w K mg "_law_drawn" ["_law_cells", "_law_base"] 3 (spDrawn K)) (F__law_base_of : FnB P w K mg "_law_base_of" ["_law_cell"] 1 spBase)
  (F_answers : FnB P w K mg "answers" ["plan", "deeds"] 6 (spAns K mg Pt)) (F__law_are_said : FnB P w K mg "_law_are_said" ["_law_found"] 3 (spAre K)) (F__law_by_event : FnB P w K mg "_law_by_event" ["_law_said", "_law_stand", "_law_deed", "_law_mark"] 1 (spByE K)) (F__law_by_mark : FnB P w K mg "_law_by_mark" ["_law_said", "_law_stand", "_law_deed", "_law_mark"] 1 (spByM K)) :
  FnB P w K mg "law" ["_law_script"] 8 (spLaw Pt K mg) := by
 refine D.fn M sc_law bd_law (fun vs H Q E h => ?_) (fun f base cdv A outer s H vs Q E hr h => ?_)
 ·obtain ⟨a, ns, rfl, _⟩ := h
  rfl
 ·obtain ⟨a, ns, rfl, ha, hlen, hT, hB, k⟩ := h
  have hu1 := hu_of hr
  have hu : (A.deeper (envOfC "law" (defScope st_law) s.heap.objs.size f cdv)).units + 64 < cLine := hr.units
  refine ⟨_, (pss_cons (pset (i := 1) sc_law.nd rfl (Or.inl rfl) (pcallF F__law_plan_of (hr.mono (by decide)) rfl (pc (pcallF F__law_at (hr.mono (by decide)) rfl (pc (pv 0) (pc pe_int pa_nil))) (pc (pcallF F__law_at (hr.mono (by decide)) rfl (pc (pv 0) (pc pe_int pa_nil))) pa_nil))))
   (pss_cons (pset (i := 2) sc_law.nd rfl (Or.inl rfl) (pcallF F__law_ends_alike (hr.mono (by decide)) rfl (pc (pcallF F__law_at (hr.mono (by decide)) rfl (pc (pv 0) (pc pe_int pa_nil))) (pc (pv 1) pa_nil))))
   (pss_cons (pset (i := 3) sc_law.nd rfl (Or.inl rfl) (pe_slice sl_list (pv 0) (po_some pe_int) (po_some (pe_op oAdd pe_int (pcallF F__law_room (hr.mono (by decide)) rfl (pc (pv 0) (pc pe_int (pc pe_int pa_nil))))))))
   (pss_cons (pset (i := 2) sc_law.nd rfl (Or.inl rfl) (pe_op op_cat (pv 2) (pcallF F__law_drawn (hr.mono (by decide)) rfl (pc (pv 3) (pc (pcallF F__law_base_of (hr.mono (by decide)) rfl (pc (pcallF F__law_at (hr.mono (by decide)) rfl (pc (pv 0) (pc pe_int pa_nil))) pa_nil)) pa_nil)))))
   (pss_cons (pset (i := 4) sc_law.nd rfl (Or.inl rfl) (pcallTy call_list_of rfl (M.no _ B.b_list) bt_list (pc (pv 2) pa_nil)))
   (pss_cons (pset (i := 5) sc_law.nd rfl (Or.inl rfl) (pcallF F_answers (hr.mono (by decide)) rfl (pc (pv 1) (pc (pv 4) pa_nil))))
   (pss_cons (ps_if (PW.pt (pw_or (pt_not (pt_val (pcallB call_isinst rfl (M.no _ B.b_isinstance) bt_isinstance (pc (pv 5) (pc (pe_bltn (v := .ty "list") rfl (M.no _ B.b_list) bt_list rfl) pa_nil))))) (pw_or (pt_cmpR op_ne (pcallB call_len_seq rfl (M.no _ B.b_len) bt_len (pc (pv 5) pa_nil)) (pcallB call_len_seq rfl (M.no _ B.b_len) bt_len (pc (pv 2) pa_nil)) (nomark _)) (pw_or1 (pt_cmpR (op_neD hu) (pv 4) (pv 2) (nomark _)))))) (pss_one (ps_ret pe_bl)) pss_nil)
   (pss_cons (pset (i := 6) sc_law.nd rfl (Or.inl rfl) pe_dnewT)
   (pss_cons (pset (i := 7) sc_law.nd rfl (Or.inl rfl) pe_non)
   (pss_cons (ps_for PassesOwn.never rfl (pi_range1 rfl (M.no _ B.b_range) (pc (pcallB call_len_seq rfl (M.no _ B.b_len) bt_len (pc (pv 2) pa_nil)) pa_nil)) (pg_name (i := 8) sc_law.nd rfl (Or.inl rfl))
   (pss_cons (pset (i := 9) sc_law.nd rfl (Or.inl rfl) (pe_ix ix_list (pv 2) (pv 8) (fun _ _ => rfl)))
   (pss_cons (ps_if (pt_not (pt_val (pcallF F__law_are_said (hr.mono (by decide)) rfl (pc (pe_ix ix_list (pv 5) (pv 8) (fun _ _ => rfl)) pa_nil)))) (pss_one (ps_ret pe_bl)) pss_nil)
   (pss_cons (ps_if (PW.pt (pw_and (pt_cmpR op_eq (pe_ix ix_tup (pv 9) pe_int (fun _ _ => rfl)) pe_str (nomark _)) (pw_and1 (pt_not (pt_val (pcallF F__law_by_event (hr.mono (by decide)) rfl (pc (pe_ix ix_list (pv 5) (pv 8) (fun _ _ => rfl)) (pc (pv 6) (pc (pv 9) (pc (pv 7) pa_nil)))))))))) (pss_one (ps_ret pe_bl)) pss_nil)
   (pss_cons (ps_if (PW.pt (pw_and (pt_cmpR op_eq (pe_ix ix_tup (pv 9) pe_int (fun _ _ => rfl)) pe_str (nomark _)) (pw_and1 (pt_not (pt_val (pcallF F__law_by_mark (hr.mono (by decide)) rfl (pc (pe_ix ix_list (pv 5) (pv 8) (fun _ _ => rfl)) (pc (pv 6) (pc (pv 9) (pc (pv 7) pa_nil)))))))))) (pss_one (ps_ret pe_bl)) pss_nil)
   (pss_consJ (ps_if (PW.pt (pw_and (pt_cmpR op_eq (pe_ix ix_tup (pv 9) pe_int (fun _ _ => rfl)) pe_str (nomark _)) (pw_and1 (PW.pt (pw_or (pt_cmpR op_isN (pv 7) pe_non (nomark _)) (pw_or1 (pt_cmpR oGt (pe_ix ix_tup (pv 9) pe_int (fun _ _ => rfl)) (pv 7) (nomark _)))))))) (pss_one (pset (i := 7) sc_law.nd rfl (Or.inl rfl) (pe_ix ix_tup (pv 9) pe_int (fun _ _ => rfl)))) pss_nil)
   (pss_one (ps_for PassesOwn.never rfl (pi_list (pe_ix ix_list (pv 5) (pv 8) (fun _ _ => rfl))) (pg_name (i := 10) sc_law.nd rfl (Or.inl rfl))
   (pss_consJ (ps_if (pt_cmpR op_eq (pe_ix ix_tup (pv 10) pe_int (fun _ _ => rfl)) pe_str (nomark _)) (pss_one (pexpr (pe_dpopT hu1 (pv 6) (pe_slice sl_tup (pv 10) (po_some pe_int) (po_some pe_int)) ⟨rfl, rfl, rfl, rfl⟩))) pss_nil)
   (pss_one (ps_if (pt_cmpR op_eq (pe_ix ix_tup (pv 10) pe_int (fun _ _ => rfl)) pe_str (nomark _)) (pss_one (ps_dput hu1 (pv 6) (pe_slice sl_tup (pv 10) (po_some pe_int) (po_some pe_int)) (pe_slice sl_tup (pv 10) (po_some pe_int) po_none) rfl)) pss_nil)))))))))))
   (pss_one (ps_ret pe_bl)))))))))))), ?_⟩
  clear hu1 hu
  have no : ∀ {A : Prop}, (!true) = true → A := fun h => nomatch h
  refine seq_abs fun Bq hBq => ?_
  refine ⟨_, rfl, a, ns, 0, rfl, ha, (by decide), fun v0 => ⟨_, rfl, a, ns, 1, rfl, ha, (by decide), fun v1 => ⟨v0, v1, rfl, fun p pl H1 s1 hp0 hp ok bd => ?_⟩⟩⟩
  subst hBq
  try dsimp only [gName]
  refine seq_abs fun Bq hBq => ?_
  refine ⟨_, rfl, a, ns, 2, rfl, s1.seq ha, (by decide), fun v2 => ⟨_, rfl, v2, p, pl, rfl, SqT.of hp, fun e1 ye de H2 s2 he le lde oe => ?_⟩⟩
  have s12 := s1.trans s2
  have hp2 := s2 _ _ hp
  clear hp hp0
  subst hBq
  try dsimp only [gName]
  refine seq_abs fun Bq hBq => ?_
  refine ⟨_, rfl, _, rfl, _, rfl, a, ns, 40, 90, rfl, s12.seq ha, hlen, _, _, rfl, rfl, _, rfl, a, _, rfl, s12.seq ha, fun cl hcl => ?_⟩
  obtain ⟨cs, ecs, lcs⟩ : ∃ cs : List Int, cutV (ns.map V.int) (some 3) (some (3 + 40)) = cs.map V.int ∧ cs.length ≤ 63 := by
   refine ⟨(ns.drop (HT.sIx (ns.map V.int).length 0 (some 3))).take (HT.sIx (ns.map V.int).length (ns.map V.int).length (some (3 + 40)) - HT.sIx (ns.map V.int).length 0 (some 3)), ?_, ?_⟩
   ·unfold cutV
    rw [List.map_take, List.map_drop]
   ·rw [List.length_take, List.length_drop]
    lia
  rw [ecs]
  have t3 := Same.new (o := .lst (cs.map V.int)) hcl
  have hcl3 : upd H2 cl (.lst (cs.map V.int)) cl = some (.lst (cs.map V.int)) := upd_same
  have s3 := s12.trans t3
  have hp3 := t3 _ _ hp2
  have he3 := t3 _ _ he
  have le3 := le.keep fun a row e => t3 _ _ e
  clear ecs hp2 he le
  generalize upd H2 cl (.lst (cs.map V.int)) = H3 at *
  subst hBq
  try dsimp only [gName]
  refine seq_abs fun Bq hBq => ?_
  refine ⟨_, rfl, _, rfl, _, rfl, a, ns, 2, rfl, s3.seq ha, (by decide), fun v3 => ⟨v3, rfl, fun b H4 s4 b1 b2 => ⟨cl, cs, b, rfl, SqL.of (s4 _ _ hcl3), by lia, b1, b2, fun r ys dr H5 s5 hr0 hr5 lr ldr odr => ?_⟩⟩⟩
  have s45 := s4.trans s5
  have he5 := s45 _ _ he3
  have le5 := le3.keep fun a row e => s45 _ _ e
  have hp5 := s45 _ _ hp3
  have lye := le5.len
  have lys := lr.len
  have sl := sizeLine_eq
  refine ⟨e1, r, _, _, rfl, rfl, he5, hr5, by lia, fun dl hdl => ?_⟩
  have t6 := Same.new (o := .lst (ye ++ ys)) hdl
  have hdl6 : upd H5 dl (.lst (ye ++ ys)) dl = some (.lst (ye ++ ys)) := upd_same
  have ld6 : ListAt Deed.v (upd H5 dl (.lst (ye ++ ys))) (ye ++ ys) (de ++ dr) := (le5.keep fun a row e => t6 _ _ e).app (lr.keep fun a row e => t6 _ _ e)
  have hp6 := t6 _ _ hp5
  have s6 : Same H _ := s3.trans (s45.trans t6)
  have okd : ∀ dd ∈ de ++ dr, dd.ok := fun dd h => by
   rcases List.mem_append.mp h with h | h
   ·exact oe dd h
   ·exact odr dd h
  obtain ⟨n, ldd, hn⟩ : ∃ n, (de ++ dr).length = n ∧ n ≤ 67 := ⟨_, rfl, by rw [List.length_append]; lia⟩
  generalize de ++ dr = dds at *
  generalize ye ++ ys = xd at *
  generalize upd H5 dl (.lst xd) = H6 at *
  clear lye lys he5 le5 hp5 s45 he3 le3 hp3 hcl3 lcs t3 t6 hr5 lr ldr odr oe lde b1 b2 hlen
  subst hBq
  try dsimp only [gName]
  refine seq_abs fun Bq hBq => ?_
  refine ⟨_, rfl, dl, _, rfl, .inl (SqL.of hdl6), fun hl hhl => ?_⟩
  have t7 := Same.new (o := .lst xd) hhl
  have hhl7 : upd H6 hl (.lst xd) hl = some (.lst xd) := upd_same
  have hdl7 := t7 _ _ hdl6
  have ld7 := ld6.keep fun a row e => t7 _ _ e
  have hp7 := t7 _ _ hp6
  have s7 := s6.trans t7
  generalize upd H6 hl (.lst xd) = H7 at *
  clear hdl6 ld6 hp6 s6 t7
  have hT7 : lamTab H7 Pt lp lq := lamTab_keep hT (fun ps e => s7 _ _ e) fun a o u e => s7 _ _ e
  have hB7 : bltAt K mg H7 := bltAt_keep hB fun a o u e => s7 _ _ e
  obtain ⟨pst, hPt⟩ := lamTab_tbl hT7
  have lxd := ld7.len
  subst hBq
  try dsimp only [gName]
  refine seq_abs fun Bq hBq => ?_
  refine ⟨_, rfl, _, rfl, p, hl, pl, xd, dds, rfl, SqT.of hp7, bd, ok, SqL.of hhl7, Paired.imp' (fun _ _ ⟨b, e, h⟩ => ⟨b, e, SqT.of h⟩) ld7, okd, by lia, (fun i outs st rn => ?_), hT7, hB7, fun ol yo outs st H8 rn kp hol0 hol sa lt8 => ?_⟩
  ·have h1 := (rn.len ok).1
   have h2 : (dds.take i).length ≤ 67 := by rw [List.length_take]; lia
   show st.ws.length < 10000001
   simp only [List.length_nil] at h1
   lia
  have kt : ∀ {c : Addr} {o : HO}, H7 c = some o → (∀ ps, o ≠ .tbl ps) → H8 c = some o := fun e hno => kp _ _ e (ne_of e hPt (hno pst))
  have hdl8 := kt hdl7 (fun _ z => nomatch z)
  have hhl8 := kt hhl7 (fun _ z => nomatch z)
  have ld8 := ld7.keep fun a row e => kt e (fun _ z => nomatch z)
  obtain ⟨S, S0, _, lo, hS⟩ := runs_path rn
  have lyo : yo.length = outs.length := Paired.length sa
  clear hdl7 hhl7 ld7 hp7 hT7 hB7 hPt kt kp lt8 rn hT hB hol0
  subst hBq
  try dsimp only [gName]
  refine seq_abs fun Bq hBq => ?_
  refine ⟨_, rfl, _, _, _, true, rfl, .lst hol, rfl, true, rfl, ite2 no fun _ => ?_⟩
  refine ⟨_, rfl, ol, _, rfl, .inl (SqL.of hol), _, rfl, dl, _, rfl, .inl (SqL.of hdl8), rfl, _, rfl, ite2 (int_ne (by lia)) fun _ => ?_⟩
  refine ⟨_, rfl, _, rfl, .lst (dds.map ddD), .lst (dds.map ddD), dds_dn hhl8 ld8, dds_dn hdl8 ld8, .inr ⟨_, _, rfl, rfl⟩, (dds_dep _).2, (dds_dep _).1, fun bq hbq => ?_⟩
  have : bq = true := hbq.mpr rfl
  subst this
  refine ⟨_, rfl, ite2 no fun _ => ?_⟩
  clear hbq
  subst hBq
  try dsimp only [tNext]
  refine seq_abs fun Bq hBq => ?_
  refine fun sdl hsd0 => ?_
  have t9 := Same.new (o := .dT []) hsd0
  have hsd9 : upd H8 sdl (.dT []) sdl = some (.dT []) := upd_same
  have hol9 := t9 _ _ hol
  have hdl9 := t9 _ _ hdl8
  have ld9 := ld8.keep fun a row e => t9 _ _ e
  have sa9 : SaysAt (upd H8 sdl (.dT [])) yo outs := Paired.imp' (fun _ _ ⟨l, zs, e, h1, h2⟩ => ⟨l, zs, e, t9 _ _ h1, h2.keep fun a row e => t9 _ _ e⟩) sa
  clear hol hdl8 ld8 sa hhl8
  generalize upd H8 sdl (.dT []) = H9 at *
  subst hBq
  try dsimp only [gName]
  refine seq_abs fun Bq hBq => ?_
  change Bq _ _ _
  subst hBq
  try dsimp only [gName]
  refine seq_abs fun Bq hBq => ?_
  refine ⟨_, rfl, dl, _, rfl, .inl (SqL.of hdl9), _, rfl, (by lia), (by lia), ?_⟩
  rw [Int.toNat_natCast]
  have pw := path_len ok (by rw [S0]) lo hS
  refine for_range (lo := 0) (n := xd.length) (fun i σ H' => ∃ (v8 v9 v10 : Option V) (kvs : List (List Key × V)) (sd : List Wn), σ = [some (.ref a), some (.ref p), some (.ref dl), some (.ref cl), some (.ref hl), some (.ref ol), some (.ref sdl), some (mkV (S i).mk), v8, v9, v10] ∧ (∀ c o, H9 c = some o → c ≠ sdl → H' c = some o) ∧ H' sdl = some (.dT kvs) ∧ WinsP H' kvs sd ∧ Stands pl (S i) sd ∧ sd.length ≤ 7000 * i)
   ⟨none, none, none, [], [], by rw [S0]; rfl, fun c o e _ => e, hsd9, .nil, by rw [S0]; exact stands0 pl, Nat.le_refl _⟩ ?_ ?_
  ·rintro i σ H' hi ⟨v8, v9, v10, kvs, sd, rfl, kp, hsd, hw, I, lsd⟩
   rw [Int.zero_add]
   have hxi : xd[i]? = some (xd[i]'hi) := List.getElem?_eq_getElem hi
   have hyi : yo[i]? = some (yo[i]'(by lia)) := List.getElem?_eq_getElem (by lia)
   obtain ⟨dd, bq, edd, eb, hb⟩ := ld9.get hxi
   obtain ⟨l1, z1, out, el, hl1, eo, la⟩ := says_get sa9 hyi
   have hxi' := atI_nat hxi
   have hyi' := atI_nat hyi
   rw [eb] at hxi'
   rw [el] at hyi'
   have dr := hS i dd out edd eo
   obtain ⟨dok, I'⟩ := stands_step ok I dr
   have lout := do_out ok dr
   have pwi := pw i (by lia)
   have lhe := hear_len out sd
   have kp1 : ∀ {c : Addr} {o : HO}, H9 c = some o → (∀ kvs, o ≠ .dT kvs) → H' c = some o := fun e hno => kp _ _ e (ne_of e hsd9 (hno _))
   have hdl1 := kp1 hdl9 (fun _ z => nomatch z)
   have hol1 := kp1 hol9 (fun _ z => nomatch z)
   have hb1 := kp1 hb (fun _ z => nomatch z)
   have hl2 := kp1 hl1 (fun _ z => nomatch z)
   have la2 := la.keep fun a row e => kp1 e (fun _ z => nomatch z)
   clear eb el hxi hyi edd eo pw sa9 ld9 hS
   refine seq_abs fun Bq hBq => ?_
   refine ⟨_, rfl, _, rfl, dl, _, _, _, rfl, rfl, SqL.of hdl1, hxi', ?_⟩
   subst hBq
   try dsimp only [gName]
   refine seq_abs fun Bq hBq => ?_
   refine ⟨_, rfl, _, rfl, ol, _, _, _, rfl, rfl, SqL.of hol1, hyi', l1, z1, out, rfl, hl2, la2, fun H4 s4 => ?_⟩
   refine ⟨_, rfl, ite2 no fun _ => ?_⟩
   have ol4 := s4 _ _ hol1
   have hl4 := s4 _ _ hl2
   have la4 := la2.keep fun a row e => s4 _ _ e
   have hb4 := s4 _ _ hb1
   have hsd4 := s4 _ _ hsd
   have hw4 := hw.keep fun a row e => s4 _ _ e
   clear hdl1 hxi'
   subst hBq
   try dsimp only [tNext]
   refine' via (P := fun R : Hp → Prop => ∀ H5, Same H4 H5 → R H5) _ (fun rest => ?main) ?rest
   case main =>
    refine seq_abs fun Bq hBq => ?_
    cases dd with
    | ev n t am =>
     refine ⟨_, rfl, bq, _, 0, _, rfl, rfl, SqT.of hb4, at0, rfl, _, rfl, ite2 (fun _ => ?_) (fun z => absurd (decide_eq_true rfl) z)⟩
     refine ⟨_, rfl, _, rfl, ol, _, _, _, rfl, rfl, SqL.of ol4, hyi', _, rfl, _, rfl, _, rfl, l1, sdl, bq, (S i).mk, z1, out, kvs, sd, n, t, am, rfl, hl4, la4, hsd4, hw4, SqT.of hb4, by lia, dok, fun H5 s5 => ?_⟩
     refine ⟨_, rfl, ite2 no fun _ => ?_⟩
     subst hBq
     try dsimp only [tNext]
     refine seq_abs fun Bq hBq => ?_
     refine ⟨_, rfl, bq, _, 0, _, rfl, rfl, SqT.of (s5 _ _ hb4), at0, rfl, _, rfl, ite2 (fun z => absurd z (str_ne s_em)) (fun _ => ite2 (fun z => nomatch z) (fun _ => ?_))⟩
     subst hBq
     try dsimp only [tNext]
     exact rest H5 s5
    | mk t =>
     refine ⟨_, rfl, bq, _, 0, _, rfl, rfl, SqT.of hb4, at0, rfl, _, rfl, ite2 (fun z => absurd z (str_ne s_me)) (fun _ => ite2 (fun z => nomatch z) (fun _ => ?_))⟩
     subst hBq
     try dsimp only [tNext]
     refine seq_abs fun Bq hBq => ?_
     refine ⟨_, rfl, bq, _, 0, _, rfl, rfl, SqT.of hb4, at0, rfl, _, rfl, ite2 (fun _ => ?_) (fun z => absurd (decide_eq_true rfl) z)⟩
     refine ⟨_, rfl, _, rfl, ol, _, _, _, rfl, rfl, SqL.of ol4, hyi', _, rfl, _, rfl, _, rfl, l1, sdl, bq, (S i).mk, z1, out, kvs, sd, t, rfl, hl4, la4, hsd4, hw4, SqT.of hb4, dok, fun H5 s5 => ?_⟩
     refine ⟨_, rfl, ite2 no fun _ => ?_⟩
     subst hBq
     try dsimp only [tNext]
     exact rest H5 s5
   case rest =>
    intro H5 s5
    have ol5 := s5 _ _ ol4
    have hl5 := s5 _ _ hl4
    have la5 := la4.keep fun a row e => s5 _ _ e
    have hb5 := s5 _ _ hb4
    have hsd5 := s5 _ _ hsd4
    have hw5 := hw4.keep fun a row e => s5 _ _ e
    have s45 := s4.trans s5
    clear ol4 hl4 la4 hb4 hsd4 hw4
    refine ⟨fun σ' H' => σ' = [some (.ref a), some (.ref p), some (.ref dl), some (.ref cl), some (.ref hl), some (.ref ol), some (.ref sdl), some (mkV (S (i + 1)).mk), some (.int (i : Int)), some (.ref bq), v10] ∧ H' = H5, ?_, ?_⟩
    ·cases dd with
     | ev n t am =>
      have em : (S (i + 1)).mk = (S i).mk := by
       rcases dr with ⟨_, _, e⟩ | ⟨_, _, _, _, _, _, e⟩ <;> rw [e]
      exact ⟨_, rfl, bq, _, 0, _, rfl, rfl, SqT.of hb5, at0, rfl, _, rfl, ite2 (fun z => absurd z (str_ne s_em)) (fun _ => ⟨by rw [em]; rfl, rfl⟩)⟩
     | mk t =>
      refine ⟨_, rfl, bq, _, 0, _, rfl, rfl, SqT.of hb5, at0, rfl, _, rfl, ite2 (fun _ => ?_) (fun z => absurd (decide_eq_true rfl) z)⟩
      have set : stale (S i).mk t = false → (S (i + 1)).mk = some t := fun h => by
       rcases dr with ⟨z, _, _⟩ | ⟨_, _, _, _, _, e⟩
       ·rw [h] at z; cases z
       ·rw [e]
      have keep : stale (S i).mk t = true → (S (i + 1)).mk = (S i).mk := fun h => by
       rcases dr with ⟨_, _, e⟩ | ⟨z, _, _, _, _, e⟩
       ·rw [e]
       ·rw [h] at z; cases z
      clear dok I I' dr
      cases hmk : (S i).mk with
      | none =>
       rw [hmk] at set
       exact ⟨_, rfl, rfl, _, rfl, ite2 (fun _ => ⟨_, rfl, bq, _, 1, _, rfl, rfl, SqT.of hb5, at1, ⟨by rw [set rfl]; rfl, rfl⟩⟩) (fun z => absurd (decide_eq_true rfl) z)⟩
      | some m =>
       rw [hmk] at set keep
       refine ⟨_, rfl, rfl, _, rfl, ite2 (fun z => nomatch of_decide_eq_true z) (fun _ => ?_)⟩
       refine ⟨_, rfl, bq, _, 1, _, rfl, rfl, SqT.of hb5, at1, _, rfl, _, _, rfl, rfl, _, rfl, ite2 (fun z => ?_) (fun z => ?_)⟩
       ·have z' := of_decide_eq_true z
        exact ⟨_, rfl, bq, _, 1, _, rfl, rfl, SqT.of hb5, at1, ⟨by rw [set (decide_eq_false (by lia))]; rfl, rfl⟩⟩
       ·have z' : ¬ m < t := fun y => z (decide_eq_true y)
        exact ⟨by rw [keep (decide_eq_true (by lia))]; rfl, rfl⟩
    ·rintro σ' H6 ⟨rfl, rfl⟩
     refine ⟨_, rfl, _, rfl, ol, _, _, _, rfl, rfl, SqL.of ol5, hyi', l1, rfl, ⟨_, SqL.of hl5⟩, ?_⟩
     have nl : l1 ≠ sdl := ne_of hl5 hsd5 (by intro z; cases z)
     refine for_list (K := K) (a := l1) (xs := z1) (fun j σ H' => ∃ (v : Option V) (kv1 : List (List Key × V)), σ = [some (.ref a), some (.ref p), some (.ref dl), some (.ref cl), some (.ref hl), some (.ref ol), some (.ref sdl), some (mkV (S (i + 1)).mk), some (.int (i : Int)), some (.ref bq), v] ∧ (∀ c o, H6 c = some o → c ≠ sdl → H' c = some o) ∧ H' sdl = some (.dT kv1) ∧ WinsP H' kv1 ((out.take j).foldl upS sd)) ⟨_, kvs, rfl, fun c o e _ => e, hsd5, hw5⟩ (fun j σ H' _ ⟨_, _, _, kp, _⟩ => SqL.of (kp _ _ hl5 nl)) ?_ ?_
     ·rintro j y σ H' hj ⟨v, kv1, rfl, kpj, hsj, hwj⟩
      obtain ⟨z, q, ez, rfl, hq⟩ := la5.get hj
      have hqj := kpj _ _ hq (ne_of hq hsd5 (by intro z; cases z))
      have tk : (out.take (j + 1)).foldl upS sd = upS ((out.take j).foldl upS sd) z := by rw [List.take_add_one, ez, List.foldl_append]; rfl
      have lkv : kv1.length < sizeLine := by
       have h1 := hear_len (out.take j) sd
       rw [List.length_take] at h1
       rw [hwj.len]
       lia
      have tu : ∀ {u : HO} {a : Addr} {row : List V}, H' a = some (.tup row) → upd H' sdl u a = some (.tup row) := fun e => by rw [upd_ne (ne_of e hsj (by intro z; cases z))]; exact e
      clear lsd lout pwi lhe
      cases z with
      | missed n t am =>
       refine ⟨fun σ' H'' => σ' = [some (.ref a), some (.ref p), some (.ref dl), some (.ref cl), some (.ref hl), some (.ref ol), some (.ref sdl), some (mkV (S (i + 1)).mk), some (.int (i : Int)), some (.ref bq), some (.ref q)] ∧ H'' = H', ⟨_, rfl, q, _, 0, _, rfl, rfl, SqT.of hqj, at0, rfl, _, rfl, ite2 (fun z => absurd z (str_ne s_mg)) (fun _ => ⟨rfl, rfl⟩)⟩, ?_⟩
       rintro σ' H'' ⟨rfl, rfl⟩
       exact ⟨_, rfl, q, _, 0, _, rfl, rfl, SqT.of hqj, at0, rfl, _, rfl, ite2 (fun z => absurd z (str_ne s_mt)) (fun _ => ⟨_, kv1, rfl, kpj, hsj, by rw [tk]; exact hwj⟩)⟩
      | gone g =>
       obtain ⟨v', hv⟩ := gone_in dok ez
       rcases hwj.get g.l with ⟨_, e2⟩ | ⟨x, wn, e1, e2, _, va⟩
       ·rw [e2] at hv; cases hv
       refine ⟨fun σ' H'' => σ' = [some (.ref a), some (.ref p), some (.ref dl), some (.ref cl), some (.ref hl), some (.ref ol), some (.ref sdl), some (mkV (S (i + 1)).mk), some (.int (i : Int)), some (.ref bq), some (.ref q)] ∧ (∀ c o, H6 c = some o → c ≠ sdl → H'' c = some o) ∧ H'' sdl = some (.dT (dropK kv1 g.l)) ∧ WinsP H'' (dropK kv1 g.l) (dropW ((out.take j).foldl upS sd) g.l), ⟨_, rfl, q, _, 0, _, rfl, rfl, SqT.of hqj, at0, rfl, _, rfl, ite2 (fun _ => ?_) (fun z => absurd (decide_eq_true rfl) z)⟩, ?_⟩
       ·refine ⟨_, rfl, sdl, rfl, .inr ⟨_, .inl hsj⟩, _, rfl, _, rfl, _, rfl, q, _, rfl, SqT.of hqj, cut_ne (.gone g), fun c hc => ⟨kv1, g.l, c, x, upd_keep hc hsj, rfl, upd_same, e1, rfl, fun c' o e n => ?_, upd_same, (hwj.drop g.l).keep fun a row e => ?_⟩⟩
        ·rw [upd_ne n]; exact upd_keep hc (kpj _ _ e n)
        ·rw [upd_ne (ne_of e hsj (by intro z; cases z))]; exact upd_keep hc e
       rintro σ' H'' ⟨rfl, kp2, hs2, hw2⟩
       exact ⟨_, rfl, q, _, 0, _, rfl, rfl, SqT.of (kp2 _ _ hq (ne_of hq hsd5 (by intro z; cases z))), at0, rfl, _, rfl, ite2 (fun z => absurd z (str_ne s_gt)) (fun _ => ⟨_, _, rfl, kp2, hs2, by rw [tk]; exact hw2⟩)⟩
      | told x =>
       refine ⟨fun σ' H'' => σ' = [some (.ref a), some (.ref p), some (.ref dl), some (.ref cl), some (.ref hl), some (.ref ol), some (.ref sdl), some (mkV (S (i + 1)).mk), some (.int (i : Int)), some (.ref bq), some (.ref q)] ∧ H'' = H', ⟨_, rfl, q, _, 0, _, rfl, rfl, SqT.of hqj, at0, rfl, _, rfl, ite2 (fun z => absurd z (str_ne s_tg)) (fun _ => ⟨rfl, rfl⟩)⟩, ?_⟩
       rintro σ' H'' ⟨rfl, rfl⟩
       refine ⟨_, rfl, q, _, 0, _, rfl, rfl, SqT.of hqj, at0, rfl, _, rfl, ite2 (fun _ => ?_) (fun z => absurd (decide_eq_true rfl) z)⟩
       refine ⟨_, rfl, _, rfl, q, _, rfl, SqT.of hqj, cut_ne4 x, fun c hc => ?_⟩
       rw [cut_val]
       refine ⟨_, rfl, _, rfl, _, rfl, _, rfl, q, _, rfl, SqT.of (upd_keep hc hqj), cut_ne (.told x), fun c2 hc2 => ?_⟩
       refine ⟨sdl, _, rfl, DPut.t (k := x.k.l) (upd_keep hc2 (upd_keep hc hsj)) upd_same lkv, ?_⟩
       refine ⟨_, putK kv1 x.k.l (.ref c), rfl, fun c' o e n => ?_, upd_same, ?_⟩
       ·rw [upd_ne n]; exact upd_keep hc2 (upd_keep hc (kpj _ _ e n))
       ·rw [tk]
        have g1 : upd (upd H'' c (.tup [.int x.c, .int x.t])) c2 (.tup (cutV (Say.told x).v (some 1) (some 4))) c = some (.tup [.int x.c, .int x.t]) := upd_keep hc2 upd_same
        have g2 : WinsP (upd (upd H'' c (.tup [.int x.c, .int x.t])) c2 (.tup (cutV (Say.told x).v (some 1) (some 4)))) kv1 ((out.take j).foldl upS sd) := hwj.keep fun a row e => upd_keep hc2 (upd_keep hc e)
        refine WinsP.keep (WinsP.put g2 (n := x.n) (s := x.s) (e := x.e) g1) fun a row e => ?_
        rw [upd_ne (ne_of e (upd_keep hc2 (upd_keep hc hsj)) (by intro z; cases z))]
        exact e
     ·rintro σ' H' ⟨v, kv1, rfl, kpj, hsj, hwj⟩
      rw [la5.len, List.take_length] at hwj
      exact ⟨_, _, _, kv1, _, rfl, fun c o e n => kpj _ _ (s45 _ _ (kp _ _ e n)) n, hsj, hwj, I', by lia⟩
  ·rintro σ H' ⟨v8, v9, v10, kvs, sd, rfl, kp, hsd, hw, I, lsd⟩
   subst hBq
   exact k _
end
end K3
namespace K1
open PySem PySem.Spec PyProof.Rows L2
section
variable {P : Program} {w : World} {K : PySem.W.Frag} {mg : Str → Option Value}
theorem f_spans (D : DefIn K "spans_at" st_spans_at) (M : MG K mg) (B : Bi K) (G_PAUSES : GlobIs K "PAUSES" (.str "pauses")) (F_kind_of : FnB P w K mg "kind_of" ["plan"] 1 (spKind K)) (F_length_of : FnB P w K mg "length_of" ["plan"] 1 (spLen K))
  (F_step_of : FnB P w K mg "step_of" ["plan"] 2 (spStp K)) : FnB P w K mg "spans_at" ["plan", "time"] 3 (spSpans K) := by
 refine D.fn M sc_spans_at bd_spans_at (fun vs H Q E h => ?_) (fun f base cdv A outer s H vs Q E hr h => ?_)
 ·obtain ⟨p, pl, t, rfl, _⟩ := h
  rfl
 ·obtain ⟨p, pl, t, rfl, hp, ok, ⟨t1, t2⟩, k⟩ := h
  refine ⟨_, (pss_cons (pset (i := 2) sc_spans_at.nd rfl (Or.inr rfl) (pcallF F_length_of (hr.mono (by decide)) rfl (pc (pv 0) pa_nil)))
   (pss_cons (ps_if (pt_cmpR op_eq (pcallF F_kind_of (hr.mono (by decide)) rfl (pc (pv 0) pa_nil)) (pe_globC G_PAUSES M rfl) (nomark _)) (pss_one (ps_ret (pe_lst (pc (pe_tup (pc (pv 1) (pc (pe_op oAdd (pv 1) (pv 2)) pa_nil))) pa_nil)))) pss_nil)
   (pss_cons (pset (i := 3) sc_spans_at.nd rfl (Or.inl rfl) (pcallF F_step_of (hr.mono (by decide)) rfl (pc (pv 0) pa_nil)))
   (pss_cons (pset (i := 4) sc_spans_at.nd rfl (Or.inl rfl) (pe_op oMulB (pe_op oAdd (pe_op oFdiv (pe_op oSub (pv 1) (pv 2)) (pv 3)) pe_int) (pv 3)))
   (pss_one (ps_ret (pe_comp (NY := ["start", "length"]) (js := [none, some 2]) rfl rfl (by with_unfolding_all rfl) (by repeat first | exact ClIn.nil | refine ClIn.cons rfl ?_) (.own (.out rfl rfl (.inl rfl) .nil)) (pi_rangeB3 rfl (M.no _ B.b_range) (pc (pv 4) (pc (pe_op oAdd (pv 1) pe_int) (pc (pv 3) pa_nil)))) (fun _ _ _ _ _ => ⟨(pg_name (i := 0) (show (["start", "length"] : List Str).Nodup from by decide +kernel) rfl (Or.inl rfl)), pif_nil, (pe_tup (pc (pv 0) (pc (pe_op oAdd (pv 0) (pv 1)) pa_nil)))⟩)))))))), ?_⟩
  refine ⟨_, rfl, p, pl, rfl, hp, ?_⟩
  refine ⟨_, rfl, p, pl, rfl, hp, rfl, _, rfl, ?_⟩
  refine ite2 (fun h => ?_) (fun h => ?_)
  ·-- pauses: [(time, time + length)]
   have e := dstr h
   cases pl with
   | fixed l g => exact absurd e n_fp
   | sliding l s g => exact absurd e n_sp
   | pauses l g =>
    refine ⟨_, rfl, _, rfl, _, rfl, _, _, rfl, rfl, (by show 2 ≤ sizeLine; decide), fun a ha => ⟨(by show 1 ≤ sizeLine; decide), fun b hb => ?_⟩⟩
    have nb : a ≠ b := ne_of_none upd_same hb
    have hb0 : H b = none := by
     rw [upd_ne nb.symm] at hb
     exact hb
    refine k b [.ref a] _ ((Same.new ha).trans (Same.new hb)) hb0 upd_same (.cons ⟨a, rfl, ?_⟩ .nil)
    rw [upd_ne nb, upd_same]
    rfl
  ·have np : ∀ l g, pl ≠ .pauses l g := fun l g e => by
    subst e
    exact h (decide_eq_true rfl)
   have ew : wins pl t = (List.range (cnt pl t)).map (win pl t) := by
    cases pl with
    | fixed l g => rfl
    | sliding l s g => rfl
    | pauses l g => exact absurd rfl (np l g)
   have l1 := ok.l1
   have l2 := ok.l2
   have s1 := ok.s1
   have s2 := ok.s2
   have dq := div_in (a := t - pl.len) (b := 10 ^ 46) s1 (by lia) (by lia)
   refine ⟨_, rfl, p, pl, rfl, hp, ?_⟩
   refine ⟨_, rfl, _, rfl, _, _, rfl, rfl, _, rfl, _, _, rfl, rfl, ⟨by lia, ⟨by lia, by lia⟩⟩, _, _, rfl, rfl, _, rfl, _, _, rfl, rfl, ⟨⟨by lia, by lia⟩, ⟨by lia, by lia⟩⟩, ?_⟩
   refine ⟨_, rfl, _, rfl, _, _, rfl, rfl, _, rfl, _, _, _, rfl, ⟨by lia, ⟨by lia, by lia⟩⟩, ?_⟩
   intro D hD
   have hc := cnt_le (t := t) ok
   refine comp_rng (fun i ys Hc => Same H Hc ∧ Hc D = some (.lst ys) ∧ Tups Hc ys ((List.range i).map (win pl t))) ⟨Same.new hD, upd_same, .nil⟩ (fun i ys Hc h => h.2.1) ?_ ?_
   ·rintro i ys Hc hi ⟨s1', hDl, hT⟩
    refine ⟨weak_set rfl, ?_⟩
    refine ⟨_, rfl, _, rfl, _, rfl, _, _, rfl, rfl, (by show 2 ≤ sizeLine; decide), fun a ha => ?_⟩
    have nD : D ≠ a := ne_of_none hDl ha
    have hl := hT.len
    rw [List.length_map, List.length_range] at hl
    refine ⟨ys, (by rw [upd_ne nD]; exact hDl), small1000 (by have : i < cnt pl t := hi; lia), ?_⟩
    refine ⟨fun b o e => ?_, upd_same, ?_⟩
    ·have e1 := s1' b o e
     rw [upd_ne (ne_of_none e hD), upd_ne (ne_of_none e1 ha)]
     exact e1
    ·rw [List.range_succ, List.map_append]
     refine Tups.snoc (hT.keep fun b row e => ?_) ?_
     ·rw [upd_ne (ne_of e hDl (by intro z; cases z)), upd_ne (ne_of_none e ha)]
      exact e
     ·rw [upd_ne nD.symm, upd_same]
      rfl
   ·rintro ys Hc ⟨s1', hDl, hT⟩
    exact k D ys Hc s1' hD hDl (by rw [ew]; exact hT)
end
end K1
open PySem PySem.W PyProof.Rows
noncomputable def PySem.W.Fast.tw13644700872836984076 : Unit := ()
noncomputable def PySem.W.Fast.tw8993682483935697362 : Unit := ()
noncomputable def PySem.W.Fast.tw6638090218034844318 : Unit := ()
noncomputable def PySem.W.Fast.tw4136835051304569885 : Unit := ()
noncomputable def PySem.W.Fast.tw16760366395885451197 : Unit := ()
noncomputable def PySem.W.Fast.tw10497018246080589399 : Unit := ()
noncomputable def PySem.W.Fast.tw12280185986960663521 : Unit := ()
set_option maxRecDepth 100000 in
set_option maxHeartbeats 0 in
theorem PySem.Challenge.cw_weirgauge_k06_whole_told_just_once_holds : PySem.Challenge.rw_weirgauge_k06_whole_told_just_once.Holds := by
 w_on; o_law; k_head; (case hw => w_witness2)
 k_fill
 refine L2.walkT (l := PySem.Challenge.rw_weirgauge_k06_whole_told_just_once) (x := "_law_script") 8 _ ⟨rfl, by decide, by decide⟩ rfl rfl (fun w h Y => ⟨PySem.W.km_in_of Y, PySem.W.km_tabs_of Y _ (List.mem_cons_self ..)⟩) (K3.spLaw _) (fun K mg H a ns hl hS hP hB => ⟨a, ns, rfl, hS, hl, .inl hP, hB, fun _ => rfl⟩) ?F
 case F =>
  intro w mg M
  have D__wall : L2.DefIn (L2.KOfM M) "_wall" K1.st__wall := by
   dsimp only [L2.KOfM]
   refine' L2.DefIn.mk' ?a ?l ?c ?k
   (case a => k_is); (case l => k_is); (case c => k_is); (case k => k_is)
  have D_kind_of : L2.DefIn (L2.KOfM M) "kind_of" K1.st_kind_of := by
   dsimp only [L2.KOfM]
   refine' L2.DefIn.mk' ?a ?l ?c ?k
   (case a => k_is); (case l => k_is); (case c => k_is); (case k => k_is)
  have D_length_of : L2.DefIn (L2.KOfM M) "length_of" K1.st_length_of := by
   dsimp only [L2.KOfM]
   refine' L2.DefIn.mk' ?a ?l ?c ?k
   (case a => k_is); (case l => k_is); (case c => k_is); (case k => k_is)
  have D_step_of : L2.DefIn (L2.KOfM M) "step_of" K1.st_step_of := by
   dsimp only [L2.KOfM]
   refine' L2.DefIn.mk' ?a ?l ?c ?k
   (case a => k_is); (case l => k_is); (case c => k_is); (case k => k_is)
  have D_grace_of : L2.DefIn (L2.KOfM M) "grace_of" K1.st_grace_of := by
   dsimp only [L2.KOfM]
   refine' L2.DefIn.mk' ?a ?l ?c ?k
   (case a => k_is); (case l => k_is); (case c => k_is); (case k => k_is)
  have D_check_plan : L2.DefIn (L2.KOfM M) "check_plan" K1.st_check_plan := by
   dsimp only [L2.KOfM]
   refine' L2.DefIn.mk' ?a ?l ?c ?k
   (case a => k_is); (case l => k_is); (case c => k_is); (case k => k_is)
  have D_spans_at : L2.DefIn (L2.KOfM M) "spans_at" K1.st_spans_at := by
   dsimp only [L2.KOfM]
   refine' L2.DefIn.mk' ?a ?l ?c ?k
   (case a => k_is); (case l => k_is); (case c => k_is); (case k => k_is)
  have D_joined : L2.DefIn (L2.KOfM M) "joined" K1.st_joined := by
   dsimp only [L2.KOfM]
   refine' L2.DefIn.mk' ?a ?l ?c ?k
   (case a => k_is); (case l => k_is); (case c => k_is); (case k => k_is)
  have D_answers : L2.DefIn (L2.KOfM M) "answers" K1.st_answers := by
   dsimp only [L2.KOfM]
   refine' L2.DefIn.mk' ?a ?l ?c ?k
   (case a => k_is); (case l => k_is); (case c => k_is); (case k => k_is)
  have D__law_whole : L2.DefIn (L2.KOfM M) "_law_whole" K1.st__law_whole := by
   dsimp only [L2.KOfM]
   refine' L2.DefIn.mk' ?a ?l ?c ?k
   (case a => k_is); (case l => k_is); (case c => k_is); (case k => k_is)
  have D__law_at : L2.DefIn (L2.KOfM M) "_law_at" K1.st__law_at := by
   dsimp only [L2.KOfM]
   refine' L2.DefIn.mk' ?a ?l ?c ?k
   (case a => k_is); (case l => k_is); (case c => k_is); (case k => k_is)
  have D__law_plan_of : L2.DefIn (L2.KOfM M) "_law_plan_of" K1.st__law_plan_of := by
   dsimp only [L2.KOfM]
   refine' L2.DefIn.mk' ?a ?l ?c ?k
   (case a => k_is); (case l => k_is); (case c => k_is); (case k => k_is)
  have D__law_long : L2.DefIn (L2.KOfM M) "_law_long" K1.st__law_long := by
   dsimp only [L2.KOfM]
   refine' L2.DefIn.mk' ?a ?l ?c ?k
   (case a => k_is); (case l => k_is); (case c => k_is); (case k => k_is)
  have D__law_event_of : L2.DefIn (L2.KOfM M) "_law_event_of" K1.st__law_event_of := by
   dsimp only [L2.KOfM]
   refine' L2.DefIn.mk' ?a ?l ?c ?k
   (case a => k_is); (case l => k_is); (case c => k_is); (case k => k_is)
  have D__law_drawn : L2.DefIn (L2.KOfM M) "_law_drawn" K1.st__law_drawn := by
   dsimp only [L2.KOfM]
   refine' L2.DefIn.mk' ?a ?l ?c ?k
   (case a => k_is); (case l => k_is); (case c => k_is); (case k => k_is)
  have D__law_base_of : L2.DefIn (L2.KOfM M) "_law_base_of" K1.st__law_base_of := by
   dsimp only [L2.KOfM]
   refine' L2.DefIn.mk' ?a ?l ?c ?k
   (case a => k_is); (case l => k_is); (case c => k_is); (case k => k_is)
  have D__law_is_said : L2.DefIn (L2.KOfM M) "_law_is_said" K1.st__law_is_said := by
   dsimp only [L2.KOfM]
   refine' L2.DefIn.mk' ?a ?l ?c ?k
   (case a => k_is); (case l => k_is); (case c => k_is); (case k => k_is)
  have D__law_are_said : L2.DefIn (L2.KOfM M) "_law_are_said" K1.st__law_are_said := by
   dsimp only [L2.KOfM]
   refine' L2.DefIn.mk' ?a ?l ?c ?k
   (case a => k_is); (case l => k_is); (case c => k_is); (case k => k_is)
  have D__law_by_event : L2.DefIn (L2.KOfM M) "_law_by_event" K1.st__law_by_event := by
   dsimp only [L2.KOfM]
   refine' L2.DefIn.mk' ?a ?l ?c ?k
   (case a => k_is); (case l => k_is); (case c => k_is); (case k => k_is)
  have D__law_by_mark : L2.DefIn (L2.KOfM M) "_law_by_mark" K1.st__law_by_mark := by
   dsimp only [L2.KOfM]
   refine' L2.DefIn.mk' ?a ?l ?c ?k
   (case a => k_is); (case l => k_is); (case c => k_is); (case k => k_is)
  have D__law_ends_alike : L2.DefIn (L2.KOfM M) "_law_ends_alike" K1.st__law_ends_alike := by
   dsimp only [L2.KOfM]
   refine' L2.DefIn.mk' ?a ?l ?c ?k
   (case a => k_is); (case l => k_is); (case c => k_is); (case k => k_is)
  have D__law_room : L2.DefIn (L2.KOfM M) "_law_room" K1.st__law_room := by
   dsimp only [L2.KOfM]
   refine' L2.DefIn.mk' ?a ?l ?c ?k
   (case a => k_is); (case l => k_is); (case c => k_is); (case k => k_is)
  have D_law : L2.DefIn (L2.KOfM M) "law" K1.st_law := by
   dsimp only [L2.KOfM]
   refine' L2.DefIn.mk' ?a ?l ?c ?k
   (case a => k_is); (case l => k_is); (case c => k_is); (case k => k_is)
  have G_MARK : L2.GlobIs (L2.KOfM M) "MARK" (.str "mark") := by
   dsimp only [L2.KOfM]
   refine' L2.GlobIs.ofStr ?a
   (case a => k_is)
  have G_MOST_STEPS : L2.GlobIs (L2.KOfM M) "MOST_STEPS" (.int 100) := by
   dsimp only [L2.KOfM]
   refine' L2.GlobIs.ofInt ?a
   (case a => k_is)
  have G_PAUSES : L2.GlobIs (L2.KOfM M) "PAUSES" (.str "pauses") := by
   dsimp only [L2.KOfM]
   refine' L2.GlobIs.ofStr ?a
   (case a => k_is)
  have G_SLIDING : L2.GlobIs (L2.KOfM M) "SLIDING" (.str "sliding") := by
   dsimp only [L2.KOfM]
   refine' L2.GlobIs.ofStr ?a
   (case a => k_is)
  obtain ⟨C_Desk, CI_Desk, N_Desk_plan, N_Desk_mark, N_Desk_windows, N_Desk_missed, D_Desk___init__, D_Desk_rows, D_Desk_is_closed, D_Desk_is_kept, D_Desk_is_too_late, D_Desk_do, D_Desk_take_mark, D_Desk_take_event, D_Desk_keys_met_by, D_Desk_move_tallies, D_Desk_add_tally⟩ : ∃ C_Desk : PySem.Addr, L2.ClassIn (L2.KOfM M) "Desk" C_Desk ∧ L2.NoAttr (L2.KOfM M) C_Desk "plan" ∧ L2.NoAttr (L2.KOfM M) C_Desk "mark" ∧ L2.NoAttr (L2.KOfM M) C_Desk "windows" ∧ L2.NoAttr (L2.KOfM M) C_Desk "missed" ∧ L2.MethIn (L2.KOfM M) C_Desk "__init__" "Desk.__init__" K1.st_Desk___init__ ∧ L2.MethIn (L2.KOfM M) C_Desk "rows" "Desk.rows" K1.st_Desk_rows ∧ L2.MethIn (L2.KOfM M) C_Desk "is_closed" "Desk.is_closed" K1.st_Desk_is_closed ∧ L2.MethIn (L2.KOfM M) C_Desk "is_kept" "Desk.is_kept" K1.st_Desk_is_kept ∧ L2.MethIn (L2.KOfM M) C_Desk "is_too_late" "Desk.is_too_late" K1.st_Desk_is_too_late ∧ L2.MethIn (L2.KOfM M) C_Desk "do" "Desk.do" K1.st_Desk_do ∧ L2.MethInT (L2.KOfM M) C_Desk "take_mark" "Desk.take_mark" K1.st_Desk_take_mark 137 ∧ L2.MethIn (L2.KOfM M) C_Desk "take_event" "Desk.take_event" K1.st_Desk_take_event ∧ L2.MethIn (L2.KOfM M) C_Desk "keys_met_by" "Desk.keys_met_by" K1.st_Desk_keys_met_by ∧ L2.MethIn (L2.KOfM M) C_Desk "move_tallies" "Desk.move_tallies" K1.st_Desk_move_tallies ∧ L2.MethIn (L2.KOfM M) C_Desk "add_tally" "Desk.add_tally" K1.st_Desk_add_tally := by
   dsimp only [L2.KOfM, L2.NoAttr]
   refine' ⟨_, ⟨?aDesk, ⟨?pgDesk, ?hdDesk, ?poDesk, ?saDesk⟩, ?mkDesk, ?kpDesk⟩, ?nDeskplan, ?nDeskmark, ?nDeskwindows, ?nDeskmissed, L2.MethIn.mk' ?maDesk___init__ ?miDesk___init__ ?mlDesk___init__ ?mcDesk___init__ ?mkDesk___init__, L2.MethIn.mk' ?maDesk_rows ?miDesk_rows ?mlDesk_rows ?mcDesk_rows ?mkDesk_rows, L2.MethIn.mk' ?maDesk_is_closed ?miDesk_is_closed ?mlDesk_is_closed ?mcDesk_is_closed ?mkDesk_is_closed, L2.MethIn.mk' ?maDesk_is_kept ?miDesk_is_kept ?mlDesk_is_kept ?mcDesk_is_kept ?mkDesk_is_kept, L2.MethIn.mk' ?maDesk_is_too_late ?miDesk_is_too_late ?mlDesk_is_too_late ?mcDesk_is_too_late ?mkDesk_is_too_late, L2.MethIn.mk' ?maDesk_do ?miDesk_do ?mlDesk_do ?mcDesk_do ?mkDesk_do, L2.MethInT.mk' ?maDesk_take_mark ?miDesk_take_mark ?mlDesk_take_mark ?mcDesk_take_mark ?mkDesk_take_mark ?mtDesk_take_mark, L2.MethIn.mk' ?maDesk_take_event ?miDesk_take_event ?mlDesk_take_event ?mcDesk_take_event ?mkDesk_take_event, L2.MethIn.mk' ?maDesk_keys_met_by ?miDesk_keys_met_by ?mlDesk_keys_met_by ?mcDesk_keys_met_by ?mkDesk_keys_met_by, L2.MethIn.mk' ?maDesk_move_tallies ?miDesk_move_tallies ?mlDesk_move_tallies ?mcDesk_move_tallies ?mkDesk_move_tallies, L2.MethIn.mk' ?maDesk_add_tally ?miDesk_add_tally ?mlDesk_add_tally ?mcDesk_add_tally ?mkDesk_add_tally⟩
   (case aDesk => k_is)
   (case pgDesk => k_is)
   (case hdDesk => k_is)
   (case poDesk => k_is)
   (case saDesk => k_is)
   (case mkDesk => k_is)
   (case kpDesk => k_is)
   (case nDeskplan => k_is)
   (case nDeskmark => k_is)
   (case nDeskwindows => k_is)
   (case nDeskmissed => k_is)
   (case maDesk___init__ => k_is)
   (case miDesk___init__ => k_is)
   (case mlDesk___init__ => k_is)
   (case mcDesk___init__ => k_is)
   (case mkDesk___init__ => k_is)
   (case maDesk_rows => k_is)
   (case miDesk_rows => k_is)
   (case mlDesk_rows => k_is)
   (case mcDesk_rows => k_is)
   (case mkDesk_rows => k_is)
   (case maDesk_is_closed => k_is)
   (case miDesk_is_closed => k_is)
   (case mlDesk_is_closed => k_is)
   (case mcDesk_is_closed => k_is)
   (case mkDesk_is_closed => k_is)
   (case maDesk_is_kept => k_is)
   (case miDesk_is_kept => k_is)
   (case mlDesk_is_kept => k_is)
   (case mcDesk_is_kept => k_is)
   (case mkDesk_is_kept => k_is)
   (case maDesk_is_too_late => k_is)
   (case miDesk_is_too_late => k_is)
   (case mlDesk_is_too_late => k_is)
   (case mcDesk_is_too_late => k_is)
   (case mkDesk_is_too_late => k_is)
   (case maDesk_do => k_is)
   (case miDesk_do => k_is)
   (case mlDesk_do => k_is)
   (case mcDesk_do => k_is)
   (case mkDesk_do => k_is)
   (case maDesk_take_mark => k_is)
   (case miDesk_take_mark => k_is)
   (case mlDesk_take_mark => k_is)
   (case mcDesk_take_mark => k_is)
   (case mkDesk_take_mark => k_is)
   (case mtDesk_take_mark => kernel_rfl)
   (case maDesk_take_event => k_is)
   (case miDesk_take_event => k_is)
   (case mlDesk_take_event => k_is)
   (case mcDesk_take_event => k_is)
   (case mkDesk_take_event => k_is)
   (case maDesk_keys_met_by => k_is)
   (case miDesk_keys_met_by => k_is)
   (case mlDesk_keys_met_by => k_is)
   (case mcDesk_keys_met_by => k_is)
   (case mkDesk_keys_met_by => k_is)
   (case maDesk_move_tallies => k_is)
   (case miDesk_move_tallies => k_is)
   (case mlDesk_move_tallies => k_is)
   (case mcDesk_move_tallies => k_is)
   (case mkDesk_move_tallies => k_is)
   (case maDesk_add_tally => k_is)
   (case miDesk_add_tally => k_is)
   (case mlDesk_add_tally => k_is)
   (case mcDesk_add_tally => k_is)
   (case mkDesk_add_tally => k_is)
  have B : K1.Bi (L2.KOfM M) := by
   dsimp only [L2.KOfM]
   refine' ⟨?b0, ?b1, ?b2, ?b3, ?b4, ?b5, ?b6, ?b7, ?b8, ?b9, ?b10⟩
   (case b0 => k_is); (case b1 => k_is); (case b2 => k_is); (case b3 => k_is); (case b4 => k_is); (case b5 => k_is); (case b6 => k_is); (case b7 => k_is); (case b8 => k_is); (case b9 => k_is); (case b10 => k_is)
  have KT : (L2.KOfM M).lookup 137 = none := by dsimp only [L2.KOfM]; first | k_is | kernel_rfl
  have T : K2.DeskIn (L2.KOfM M) C_Desk := ⟨CI_Desk, N_Desk_plan, N_Desk_mark, N_Desk_windows, N_Desk_missed⟩
  have Fk := K1.f_kind (P := PySem.Challenge.rw_weirgauge_k06_whole_told_just_once.prog) (w := w) D_kind_of M
  have Fl := K1.f_len (P := PySem.Challenge.rw_weirgauge_k06_whole_told_just_once.prog) (w := w) D_length_of M
  have Fs := K1.f_stp D_step_of M G_SLIDING Fk Fl
  have Fg := K2.f_grace (P := PySem.Challenge.rw_weirgauge_k06_whole_told_just_once.prog) (w := w) D_grace_of M
  have Fc := K2.f_chk D_check_plan M G_MOST_STEPS Fl Fs Fg
  have Fi := K2.f_init D_Desk___init__ T Fc
  have Fsp := K1.f_spans D_spans_at M B G_PAUSES Fk Fl Fs
  have Fcl := K2.f_closed (P := PySem.Challenge.rw_weirgauge_k06_whole_told_just_once.prog) (w := w) (mg := mg) D_Desk_is_closed T
  have Flt := K2.f_late D_Desk_is_too_late M T Fg
  have Fme := K2.f_met (P := PySem.Challenge.rw_weirgauge_k06_whole_told_just_once.prog) (w := w) D_Desk_keys_met_by M B T
  have Fj := K2.f_join (P := PySem.Challenge.rw_weirgauge_k06_whole_told_just_once.prog) (w := w) D_joined M B
  have Fad := K2.f_add (P := PySem.Challenge.rw_weirgauge_k06_whole_told_just_once.prog) (w := w) (mg := mg) D_Desk_add_tally T
  have Fmv := K2.f_move D_Desk_move_tallies T Fad
  have Fev := K2.f_event D_Desk_take_event M T G_PAUSES Fk Fsp Flt Fcl Fme Fj Fmv Fad
  have Fmk := K2.f_mark D_Desk_take_mark M B T Fcl
  have Fdo := K2.f_do D_Desk_do M T G_MARK Fmk Fev
  have Fan := K2.f_ans D_answers M T Fi Fdo
  have Fw := K3.f_whole (P := PySem.Challenge.rw_weirgauge_k06_whole_told_just_once.prog) (w := w) D__law_whole M B
  have Fbs := K3.f_base (P := PySem.Challenge.rw_weirgauge_k06_whole_told_just_once.prog) (w := w) D__law_base_of M
  exact ⟨KT, D_Desk_take_mark.code, K3.f_law D_law M B (K1.f_at2 D__law_at M B) (K3.f_planG D__law_plan_of M) (K3.f_ends D__law_ends_alike M Fbs) (K3.f_room D__law_room M B) (K3.f_drawn D__law_drawn M B (K3.f_evof D__law_event_of M (K3.f_long D__law_long M))) Fbs Fan (K3.f_are D__law_are_said M B (K3.f_said D__law_is_said M B Fw)) (K3.f_byE D__law_by_event M) (K3.f_byM D__law_by_mark M)⟩
